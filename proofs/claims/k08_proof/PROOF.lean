import PyProof.Rows.All
import Wide.All
import OpenK.AllK
import Wide.FinOn
import HandS.ForMost
import HandS.ForExc
import HandS.ExcInit
import PyProof.ExcBaseAll.LookupError
import KE.KExcIs
import HandS.IsInst
import KE.GoesEnum
import PyProof.ReprRoads
import PySem.Challenge.RW_houseslessties_k08_whole_orbits_as_table
import HandS.TryMany
import HandS.Lambda
import HandS.Nested
import HandS.EndTab
import HandS.DictTup
import HandS.OwnEq
import HandS.Strs
import HandS.Conv
import HandS.TupAny
import HandS.TupMul
import HandS.SortInts
import HandS.Style
import HandS.MakeKw
import HandS.Defaults
import HandS.TupLe
import HandS.SetKeys
import HandS.SetFor
import HandS.RaiseMore
import KE.KDictDisplayH
import HandS.ExcField
import HandS.Iter
import KE.KDictWalk
import HandS.CallLocal
import HandS.Base
import HandS.Call
import HandS.Exc
import HandS.MakeKwOnly
import KE.KDictZip
import KE.GoesMore
import PyProof.TupleOfSeq
import PyProof.WalksS
import PyProof.CollectWalk
import HandS.Star
import HandS.EndBits
set_option Elab.async false
set_option linter.all false
set_option maxRecDepth 100000
set_option maxHeartbeats 4000000
/-! exceptions of own classes whose base may be ValueError or KeyError: what is asked of the chain of classes stands as premises -/
namespace K1
open PySem PySem.HandSPX Builtin Builtin.ObjectAttr
/-- what the chain of classes behind the own one must be -/
structure Mro (B : String) (bm : List Value) : Prop where
  b : bm.contains (.type B) = true
  a : bm.contains (.type "AttributeError") = false
  n : bm.contains (.type "NameError") = false
  o : bm.contains (.type "object") = true
  p : ∀ self : Value, refuseLoop self "__setattr__" bm = pure ()
section
variable {prog : Program} {w : World} {A : Around} {E : Value → Shared → Prop} {R : Result → Shared → Prop} {h : Heap} {g : Array GenState} {d : Drawn} {t : Nat} {os : OsState}
variable {nm q : Str} {C N : Addr} {bs bm bmB : List Value} {hdct : Bool} {sn : List Str} {sub : List Value} {ab : Bool} {col : Option Bool} {dd : Option Addr} {k0 k1 k2 k3 k5 : Option Value} {B newId initId : String}
theorem check_newG {M : Model} (F : ExcBaseFacts B newId initId bmB) (T : Mro B bm) {rest : List Value} {Q : Unit → Shared → Prop}
    (hC : h.get? C = some (excClassObj nm q C N bs bm hdct sn sub ab col dd k0 k1 k2 k3 k5 newId)) (hq : Q () ⟨h, g, d, t, os⟩) : wpAny M A (checkBuiltinCall newId ⟨.ref C :: rest, []⟩) Q E ⟨h, g, d, t, os⟩ := by
  have hcont : (Value.ref C :: bm).contains (.type B) = true := by rw [List.contains_cons, T.b, Bool.or_true]
  have hstar := F.noStar
  simp only [checkBuiltinCall, F.newKind, F.newSplit, F.newRow]
  repeat (first | refine wpAny_loadPart_at hC ?_ | (refine wpAny_isSubtype_exc hC ?_; rw [hcont]) | refine wpAny_staticBase_exc hC ?_ | refine wpAny_madeBy_exc hC ?_ | simp only [bne_self_eq_false, Bool.false_eq_true, if_false] | wp_step)
  exact hq
theorem newG (F : ExcBaseFacts B newId initId bmB) (T : Mro B bm) {rest : List Value}
    (hC : h.get? C = some (excClassObj nm q C N bs bm hdct sn sub ab col dd k0 k1 k2 k3 k5 newId))
    (hq : R (.ok (.ret (.ref (h.objs.size + 1)))) ⟨(h.push { cls := .type "tuple", data := .seq rest.toArray }).push
      { cls := .ref C, data := .fields #[.ref h.objs.size, .none, .none, .none, .bool false, .none] }, g, d, t, os⟩) (hrest : rest.length ≤ sizeLine) :
    codeAny (model prog w) A (.builtin newId ⟨.ref C :: rest, []⟩) R ⟨h, g, d, t, os⟩ := by
  have hends := F.ends
  have hcB : (Value.ref C :: bm).contains (.type B) = true := by rw [List.contains_cons, T.b, Bool.or_true]
  have hcA : (Value.ref C :: bm).contains (.type "AttributeError") = false := by rw [List.contains_cons, T.a]; rfl
  have hcN : (Value.ref C :: bm).contains (.type "NameError") = false := by rw [List.contains_cons, T.n]; rfl
  refine codeAny_builtinAt F.entry ?_
  unfold Builtin.«BaseException.__new__»
  refine wpAt_bind ?_
  show wpAt _ _ _ (stack >>= _) _ _ _
  refine wpAt_bind (wpAt_stack fun p below => wpAt_of_wpAny ?_)
  wp_walk
  refine wpAt_of_wpAny ?_
  rw [F.owner]
  repeat (first | with_reducible refine wpAny_madeHere_exc F.canon hC ?_ | with_reducible refine wpAny_loadPart_at hC ?_ | (with_reducible refine wpAny_isSubtype_exc hC ?_; first | rw [hcB] | rw [hcA] | rw [hcN]) | wp_step)
  show R _ _
  rw [Heap.size_push]
  exact hq
theorem type_callG (F : ExcBaseFacts B newId initId bmB) (T : Mro B bm) {rest : List Value} {fI : Addr} {Q : Fin → Shared → Prop}
    (hC : h.get? C = some (excClassObj nm q C N bs bm hdct sn sub ab col dd k0 k1 k2 k3 k5 newId))
    (hi : W.Looks (model prog w) h (typeLookup (.ref C) "__init__") (some (.ref fI))) (hb : ∀ self, W.Looks (model prog w) h (bindSpecial (.ref fI) self) (.ref fI, [self])) (hrest : rest.length ≤ sizeLine)
    (hq : codeAny (model prog w) A (.call (.ref fI) ⟨.ref (h.objs.size + 1) :: rest, []⟩)
      (fun r s' => match r with | .ok (.ret v) => v = .none ∧ Q (.done (.ret (.ref (h.objs.size + 1)))) s' | .ok _ => False | .error e => E e s')
      ⟨(h.push (W.kdv_tup rest)).push (excO C h.objs.size), g, d, t, os⟩) :
    wpAny (model prog w) A (Builtin.«type.__call__» ⟨.ref C :: rest, []⟩) Q E ⟨h, g, d, t, os⟩ := by
  repeat (first | with_reducible refine wpAny_loadPart_at hC ?_ | with_reducible refine wpAny_madeBy_exc hC ?_ | wp_step)
  refine codeAny_call_builtin_code (Code.quiet_builtin _ F.quiet) (check_newG F T hC ?_)
  refine newG F T hC ?_ hrest
  show wpAny _ _ _ _ _ _
  have k : ∀ b o, h.get? b = some o → ((h.push (W.kdv_tup rest)).push (excO C h.objs.size)).get? b = some o := fun b o e => Heap.get?_push_of_some _ (Heap.get?_push_of_some _ e)
  have hC₁ := k _ _ hC
  have hget : ((h.push (W.kdv_tup rest)).push (excO C h.objs.size)).get? (h.objs.size + 1) = some (excO C h.objs.size) := by heap_get
  have hcC : (Value.ref C :: bm).contains (.ref C) = true := by simp
  have i1 := hi.keeps k
  have b1 := (hb (.ref (h.objs.size + 1))).keeps k
  unfold isInstance
  repeat (first | with_reducible refine wpAny_loadPart_at hget ?_ | (with_reducible refine wpAny_isSubtype_exc hC₁ ?_; rw [hcC]) | wp_step)
  show wpAny _ _ (typeLookup (.ref C) _) _ _ _
  refine i1.at ?_
  refine wpAny_holding (wpAny_bind (b1.at ?_))
  refine wpAny_bind (wpAny_call (codeAny_mono hq fun r s' z => ?_))
  rcases r with e | (v | _ | _ | _) <;> first | exact z | exact z.elim | skip
  obtain ⟨rfl, z⟩ := z
  first
    | exact wpAny_pure (wpAny_pure z)
    | (wp_walk; exact z)
theorem call_ownG (F : ExcBaseFacts B newId initId bmB) (T : Mro B bm) {rest : List Value} {fI : Addr}
    (hC : h.get? C = some (excClassObj nm q C N bs bm hdct sn sub ab col dd k0 k1 k2 k3 k5 newId))
    (hi : W.Looks (model prog w) h (typeLookup (.ref C) "__init__") (some (.ref fI))) (hb : ∀ self, W.Looks (model prog w) h (bindSpecial (.ref fI) self) (.ref fI, [self])) (hrest : rest.length ≤ sizeLine)
    (hq : codeAny (model prog w) (A.under (.builtin "type.__call__" ⟨.ref C :: rest, []⟩)) (.call (.ref fI) ⟨.ref (h.objs.size + 1) :: rest, []⟩) (W.InitBack (h.objs.size + 1) R)
      ⟨(h.push (W.kdv_tup rest)).push (excO C h.objs.size), g, d, t, os⟩) :
    codeAny (model prog w) A (.call (.ref C) ⟨rest, []⟩) R ⟨h, g, d, t, os⟩ := by
  have f1 := tc_lookup
  have f2 := tc_bind (.ref C)
  have hTy : (⟨h, g, d, t, os⟩ : Shared).TypeIs (.ref C) "type" := ⟨_, hC, rfl⟩
  refine codeAny_of_tree ?_
  show wpAny _ _ (callAny (.ref C) _) _ _ _
  repeat (any_goals (first | assumption | with_reducible refine wpAny_loadPart_at hC ?_ | wp_step))
  refine ⟨rfl, ?_⟩
  refine codeAny_call_builtin_at (Code.quiet_builtin _ (by decide +kernel)) entry_typeCall (wpAny_check_type_call_sub hC (type_callG F T hC hi hb hrest ?_))
  refine codeAny_mono hq fun r s' z => ?_
  rcases r with e | (v | _ | _ | _) <;> exact z
end
section
variable {prog : Program} {w : World} {A : Around} {E : Value → Shared → Prop} {R : Result → Shared → Prop} {hp : Heap} {g : Array GenState} {d : Drawn} {t : Nat} {os : OsState}
theorem exc_osaG {K : W.Frag} {name : Str} {tk : Tok} {v : Value} {x C : Addr} {fv : Array Value} {cd : ClassData} {B : String} {bm : List Value}
    (X : K.In hp) (hx : hp.get? x = some { cls := .ref C, data := .fields fv }) (hcd : W.clsIn K C = some cd) (hm : cd.mro = .ref C :: bm) (T : Mro B bm) (hh : cd.hasDict = true) (ha : W.findIn K (.ref C) name = some none)
    (hq : ∀ h' tk' dx, (∀ b o, b ≠ x → hp.get? b = some o → h'.get? b = some o) → hp.objs.size ≤ dx → dx ≠ x → h'.get? x = some { cls := .ref C, dict := some dx, data := .fields fv } →
      h'.Ns1 dx (fun y => if y = name then some v else none) → R (.ok (.ret .none)) ⟨h', g, d, tk', os⟩) :
    codeAny (model prog w) A (.call (.builtin "object.__setattr__") ⟨[.ref x, .str name tk, v], []⟩) R ⟨hp, g, d, t, os⟩ := by
  have I : W.InstAt hp x { cls := .ref C, data := .fields fv } C none := ⟨hx, rfl, rfl, trivial⟩
  have SF := F.store_object
  have ne : cd.mro.isEmpty = false := by rw [hm]; rfl
  have hob : cd.mro.contains (.type "object") = true := by rw [hm, List.contains_cons, T.o, Bool.or_true]
  have hxs : x ≠ hp.objs.size := Nat.ne_of_lt (Heap.lt_size hx)
  have sub : W.Looks (model prog w) hp (isInstance (.ref x) (.type "object")) true := I.type.andThen (W.looks_mroIn X (by unfold W.mroIn; rw [hcd, Option.bind_some, if_neg (by rw [ne]; decide), hob]))
  refine codeAny_call_builtin SF.slot.plain SF.entry (@W.check_slot (model prog w) _ _ ⟨hp, g, d, t, os⟩ "object.__setattr__" "object" "__setattr__" (.ref x) [.str name tk, v] [] _ SF.kind SF.split sub (SF.args (.ref x) (.str name tk) v) ?_)
  have hmr : W.Looks (model prog w) hp (mroOf (.ref C)) cd.mro := (W.looks_clsIn X hcd).andThen .now
  have L3 : W.Looks (model prog w) hp (storeTaker? none) none := .now
  have hcls : W.Looks (model prog w) hp (classData C) cd := W.looks_clsIn X hcd
  rw [W.osa_eq, refuse_eq]
  refine wpAny_bind (wpAny_bind (I.type.at (wpAny_bind (hmr.at ?_))))
  rw [hm, refuseLoop_ref, T.p]
  refine wpAny_pure (wpAny_bind (I.type.at (wpAny_bind ((W.looks_findIn X ha).at (wpAny_bind (L3.at ?_))))))
  show wpAny _ _ (storeInOwnDict (.ref x) (.ref C) (.str name tk) name v false) _ _ _
  obtain ⟨nm, bs, mro, ns, qn, hd, sn, sb, ab, col, del⟩ := cd
  dsimp only at hh
  subst hh
  unfold storeInOwnDict ownDictForStores
  repeat (first | with_reducible refine store_in_new ?_ ?_ | with_reducible refine wpAny_loadPart_at hx ?_ | with_reducible refine hcls.at ?_ | wp_step)
  · exact ⟨_, #[], _, (Heap.get?_update_ne _ _ _ _ hxs.symm).trans (Heap.get?_push_at rfl rfl), rfl, fun e he => absurd he (by simp), fun _ => rfl⟩
  · intro h' tk' hn' hs
    have hx₁ : (hp.push { cls := .type "dict", data := .dict #[] }).get? x = some { cls := .ref C, data := .fields fv } := Heap.get?_push_of_some _ hx
    refine hq h' tk' hp.objs.size (fun b o hb ho => ?_) (Nat.le_refl _) hxs.symm ?_ hn'
    · exact (hs.2 b (Nat.ne_of_lt (Heap.lt_size ho))).trans ((Heap.get?_update_ne _ _ _ _ hb).trans (Heap.get?_push_of_some _ ho))
    · exact (hs.2 x hxs).trans (Heap.get?_update_self _ hx₁ rfl)
end
abbrev veT : List Value := [.type "ValueError", .type "Exception", .type "BaseException", .type "object"]
abbrev keT : List Value := [.type "KeyError", .type "LookupError", .type "Exception", .type "BaseException", .type "object"]
theorem mro_ve (c : Addr) : Mro "ValueError" (.ref c :: veT) := ⟨rfl, rfl, rfl, rfl, fun self => by rw [refuseLoop_ref]; exact F.store_ValueError.passes self⟩
theorem ke_pass (self : Value) : refuseLoop self "__setattr__" keT = pure () := by kernel_rfl
theorem mro_ke : Mro "LookupError" keT := ⟨by decide +kernel, by decide +kernel, by decide +kernel, by decide +kernel, ke_pass⟩
end K1
/-! own exception classes whose __init__ stores one field -/

namespace K1
open PySem PySem.W PySem.Calls PyProof.Rows PySem.HandSPX
theorem one_le (v : Value) : [v].length ≤ sizeLine := by
  rw [sizeLine_eq]
  exact (by decide : 1 ≤ 16777216)
theorem ldE {M : Model} {s : Shared} {name : Str} {scope : Scope} {L a : Addr} {cd : Value} {m : Str → Option Value} {x : Str} {pos : Pos} {v : Value} {Q : Value → Shared → Prop} {A : Around} {E : Value → Shared → Prop} (hn : s.heap.Ns L m) (hv : m x = some v) (h : Q v s)
    (hk : scope.kind = .function := by rfl) (hl : (envOfC name scope L a cd).kindOf x = some .local := by rfl) (hd : (x == ("__debug__" : Str)) = false := by decide) :
    wpAny M A (eval (.Name x pos) (envOfC name scope L a cd)) Q E s := wpAny_Name (wpAny_loadName_local hk hl hn hv h) hd
end K1
namespace K1
open PySem PySem.Spec PyProof.Rows L2
theorem relO_one {v : V} {v' : Value} {g : Str} (r : RelV v v') (f : Str) : RelO (List.lookup f [(g, v)]) (if f = g then some v' else none) := by
  by_cases hw : f = g
  · subst hw
    rw [if_pos rfl]
    have q : List.lookup f [(f, v)] = some v := by simp [List.lookup]
    rw [q]
    exact r
  · rw [if_neg hw]
    have qw : (f == g) = false := by simpa using hw
    have q2 : List.lookup f [(g, v)] = none := by simp [List.lookup, qw]
    rw [q2]
    trivial
/-- C(e), C's __init__ storing e as the field g -/
def tMkF (g : Str) (C : Addr) (ta : TA) : L2.St → Hp → XK → Prop := fun σ H Q => ta σ H fun vs H1 => ∃ v, vs = [v] ∧ ∀ d, H1 d = none → Q (.ref C) (some d) (upd H1 d (.xd [(g, v)]))
def tRaiseF (g : Str) (C : Addr) (W : WX) (ta : TA) : TS := fun _ σ H => tMkF g C ta σ H fun cls d H' => W cls d σ H'
def tByF (g : Str) (C : Addr) (a : Addr) (cls : Value) (d : Option Addr) (te : TE) : TE := fun σ H Q => te σ H fun x H1 => x = .ref a ∧ cls = .ref C ∧ ∃ (dd : Addr) (v : V), d = some dd ∧ H1 dd = some (.xd [(g, v)]) ∧ Q v H1
end K1

namespace K1
namespace LAt
open PySem PySem.W PySem.Calls PyProof.Rows PySem.HandSPX
/-- the text of __init__ -/
def iA (p1 p2 : Pos) : Arguments := { posonlyargs := [], args := [{ arg := "self", annotation := none, pos := p1 }, { arg := "at", annotation := none, pos := p2 }], vararg := none, kwonlyargs := [], kw_defaults := [], kwarg := none, defaults := [] }
def iB (q1 q2 q3 q4 : Pos) : List Stmt := [.Assign [.Attribute (.Name "self" q1) "at" q2] (.Name "at" q3) q4]
def iS : Scope := { kind := .function, names := [(PySem.Str.ofString "self", .local), (PySem.Str.ofString "at", .local)], isGenerator := false, isCoroutine := false, more := [] }
/-- what the written part says of the class at C (named cn), of its chain bm, and of its __init__, at fI -/
structure Txt (K : Frag) (mg : Str → Option Value) (cn ql : Str) (bm : List Value) (C fI : Addr) : Prop where
  gC : mg cn = some (.ref C)
  cls : ∃ nm q N bs sn sub ab col dd k0 k1 k2 k3 k5, K.lookup C = some (excClassObj nm q C N bs bm true sn sub ab col dd k0 k1 k2 k3 k5 "ValueError.__new__")
  mr : Mro "ValueError" bm
  sa : findIn K (.ref C) "__setattr__" = some (some (.builtin "object.__setattr__"))
  ga : findIn K (.ref C) "__getattribute__" = some (some (.builtin "BaseException.__getattribute__"))
  gg : findIn K (.ref C) "__getattr__" = some none
  noN : findIn K (.ref C) "at" = some none
  iC : findIn K (.ref C) "__init__" = some (some (.ref fI))
  tC : typeIn K (.ref fI) = some (.type "function")
  kC : keepIn K (.ref C) = true
  exC : subIn K (.ref C) (.type "BaseException") = some true
  tyC : typeIn K (.ref C) = some (.type "type")
  hdC : hasDictIn K C = true
  fn : ∃ (oc : Value) (od : Option Addr) (doc pm : Value) (an : Option Addr) (cdv ct : Value) (osl : Array (Option Value)) (p1 p2 q1 q2 q3 q4 : Pos),
    K.lookup fI = some ⟨oc, od, .func (fnOf "__init__" ql (iA p1 p2) (iB q1 q2 q3 q4) iS .none .none doc pm an cdv ct), osl⟩ ∧ codeIn K cdv ql = true
/-- what __init__ leaves of a fresh exception at x -/
structure InitEnd (h h' : Heap) (x C dx t1 : Addr) (v : Value) : Prop where
  keep : ∀ b o, b ≠ x → h.get? b = some o → h'.get? b = some o
  obj : h'.get? x = some { cls := .ref C, dict := some dx, data := .fields #[.ref t1, .none, .none, .none, .bool false, .none] }
  dbig : h.objs.size ≤ dx
  dne : dx ≠ x
  ns : h'.Ns1 dx (fun y => if y = "at" then some v else none)
structure OwnMade (h h' : Heap) (e C d : Addr) (v : Value) : Prop where
  keep : ∀ b o, h.get? b = some o → h'.get? b = some o
  new : h.objs.size ≤ e
  obj : ∃ oe vs, h'.get? e = some oe ∧ oe.cls = .ref C ∧ oe.dict = some d ∧ oe.data = .fields vs ∧ vs[1]? = some .none
  dbig : h.objs.size ≤ d
  dne : d ≠ e
  ns : h'.Ns1 d (fun y => if y = "at" then some v else none)
section
variable {prog : Program} {w : World} {A : Around} {E : Value → Shared → Prop} {R : Result → Shared → Prop} {s : Shared} {K : Frag} {mg : Str → Option Value} {cn ql : Str} {bm : List Value} {C fI : Addr}
theorem init (T : Txt K mg cn ql bm C fI) {x t0 : Addr} {v : Value} (X : K.In s.heap) (hlim : s.heap.NoLimit) (hx : s.heap.get? x = some (excO C t0)) (hnx : K.lookup x = none) (hroom : A.depth < recursionLimit)
    (hq : ∀ h' tk dx, InitEnd s.heap h' x C dx t0 v → R (.ok (.ret .none)) { s with heap := h', toks := tk }) :
    codeAny (model prog w) A (.call (.ref fI) ⟨[.ref x, v], []⟩) R s := by
  obtain ⟨oc, od, doc, pm, an, cdv, ct, osl, p1, p2, q1, q2, q3, q4, ho, hcd⟩ := T.fn
  obtain ⟨nm, q, N, bs, sn, sub, ab, col, dd, k0, k1, k2, k3, k5, hC⟩ := T.cls
  have hcl : clsIn K C = some { name := nm, bases := bs, mro := .ref C :: bm, ns := N, qualname := q, hasDict := true, slotNames := sn, subclasses := sub, abstract := ab, collection := col, hasDel := false } := by unfold clsIn; rw [hC] <;> rfl
  refine Att.call_fn (binds := [("self", .ref x), ("at", v)]) X hlim ho hcd hroom (BindsTo.of_eq (by first | rfl | with_unfolding_all rfl)) (by first | rfl | decide | with_unfolding_all rfl) (fun s₁ IC => ?_) rfl rfl rfl
  obtain ⟨h₁, tk₁, rfl⟩ := IC.toInCall.same
  have k : ∀ b o, s.heap.get? b = some o → h₁.get? b = some o := IC.toInCall.keep
  have hn := IC.toInCall.ns
  have X₁ : K.In h₁ := X.keeps k
  have hx₁ := k _ _ hx
  show wpAny _ _ (execs _ _) _ _ _
  refine wpAny_execs_cons (plainObj_wpAny_Assign_Attribute ?_)
  refine ldE (v := v) hn (by first | rfl | with_unfolding_all rfl | kernel_rfl) (ldE (v := .ref x) hn (by first | rfl | with_unfolding_all rfl | kernel_rfl) ?_)
  refine set_plain X₁ (ox := excO C t0) (od := none) ⟨hx₁, rfl, rfl, trivial⟩ T.sa ?_
  refine exc_osaG X₁ hx₁ hcl rfl T.mr rfl T.noN (fun h₃ tk₃ dx k₃ dn dne hx₃ hn₃ => ?_)
  show wpAny _ _ (execs _ _) _ _ _
  have z : s.heap.objs.size < h₁.objs.size := hn.lt
  exact wpAny_execs_nil (hq h₃ tk₃ dx ⟨fun b o hb e => k₃ b o hb (k b o e), hx₃, Nat.le_of_lt (Nat.lt_of_lt_of_le z dn), dne, hn₃⟩)
theorem made (T : Txt K mg cn ql bm C fI) {v : Value} (X : K.In s.heap) (hlim : s.heap.NoLimit) (hroom : A.depth + 1 < recursionLimit)
    (hq : ∀ h' tk e d, OwnMade s.heap h' e C d v → R (.ok (.ret (.ref e))) { s with heap := h', toks := tk }) :
    codeAny (model prog w) A (.call (.ref C) ⟨[v], []⟩) R s := by
  obtain ⟨nm, q, N, bs, sn, sub, ab, col, dd, k0, k1, k2, k3, k5, hC⟩ := T.cls
  obtain ⟨hp, g, dr, tk, os⟩ := s
  have k : ∀ b o, hp.get? b = some o → ((hp.push (kdv_tup [v])).push (excO C hp.objs.size)).get? b = some o := fun b o e => Heap.get?_push_of_some _ (Heap.get?_push_of_some _ e)
  have hget : ((hp.push (kdv_tup [v])).push (excO C hp.objs.size)).get? (hp.objs.size + 1) = some (excO C hp.objs.size) := by heap_get
  have hnx : K.lookup (hp.objs.size + 1) = none := by
    cases e : K.lookup (hp.objs.size + 1) with
    | none => rfl
    | some o =>
      have z : hp.get? (hp.objs.size + 1) = some o := X _ _ e
      exact absurd (Nat.lt_of_succ_lt (Heap.lt_size z)) (Nat.lt_irrefl _)
  refine call_ownG F.excBase_ValueError T.mr (X _ _ hC) (looks_findIn X T.iC) (fun self => bind_fn X self T.tC) (one_le v) ?_
  refine init (s := ⟨(hp.push (kdv_tup [v])).push (excO C hp.objs.size), g, dr, tk, os⟩) T (X.keeps k) (hlim.keeps k) hget hnx ?_ fun h' tk' dx ⟨k', hx, dn, dne, hns⟩ => ?_
  · show A.depth + 1 < recursionLimit
    exact hroom
  · have old : ∀ b o, hp.get? b = some o → h'.get? b = some o := fun b o e => k' b o (Nat.ne_of_lt (Nat.lt_succ_of_lt (Heap.lt_size e))) (k b o e)
    have z : hp.objs.size + 1 + 1 ≤ dx := by
      first
        | (simpa only [Heap.size_push] using dn)
        | exact dn
        | (have q := dn; rw [Heap.size_push, Heap.size_push] at q; exact q)
    exact ⟨rfl, hq h' tk' (hp.objs.size + 1) dx ⟨old, Nat.le_succ _, ⟨_, _, hx, rfl, rfl, rfl, rfl⟩, Nat.le_trans (Nat.le_trans (Nat.le_succ _) (Nat.le_succ _)) z, dne, hns⟩⟩
end
end LAt
end K1
namespace K1
open PySem PySem.Spec PyProof.Rows L2
section
variable {X : Cx} {cn ql : Str} {bm : List Value} {C fI : Addr}
theorem pmk_LAt {a : Expr} {ta : TA} {p pos : Pos} {k : Nat} (T : LAt.Txt X.K X.mg cn ql bm C fI) (hr : Room k X.A) (ha : PA X [a] ta) (hg : Gl X cn := by rfl)
    (he : starEach (a :: []) X.env = (false, eval a X.env) :: starEach [] X.env := by rfl) (hpl : (backTo pos (starEach [] X.env)).any (·.1) = false := by rfl) (hdb : (cn == ("__debug__" : Str)) = false := by decide) :
    PMk X (.Call (.Name cn p) [a] [] pos) (tMkF "at" C ta) := by
  intro pins s σ H Q I h
  refine wpAny_Call_Name_kw (ld_glob I hg T.gC ?_ hdb)
  refine PySem.W.callWith_K (h₀ := X.base) I.ok.mod.kin T.kC (thn (ha.run pos pins s σ H _ I h) fun us s1 hh => ?_) he hpl
  obtain ⟨vs, H1, I1, r1, v, ev, q1⟩ := hh
  subst ev
  refine ⟨I1.kIn, ?_⟩
  cases r1 with
  | cons rv rn =>
    rename_i v' us'
    cases rn
    show wpAny _ _ (call (.ref C) [v']) _ _ _
    have hlim := I1.nolimit
    obtain ⟨hp, g, dr, tk, os⟩ := s1
    refine wpAny_call (LAt.made T I1.kIn hlim (by have := hr.dp; omega) fun h' tk' e d M => ?_)
    show MkP X pins σ Q (.ref e) ⟨h', g, dr, tk', os⟩
    obtain ⟨oe, fv, hoe, hc, hd, hdat, h1⟩ := M.obj
    have hns := M.ns
    obtain ⟨G', g1, g2⟩ := restrict h' fun b => decide (b ≠ e)
    have gk : ∀ b, b ≠ e → G'.get? b = h'.get? b := fun b hb => g1 b (decide_eq_true hb)
    have ge : G'.get? e = none := g2 e (by simp)
    have old : ∀ b o, hp.get? b = some o → G'.get? b = some o := fun b o q => (gk b (Nat.ne_of_lt (Nat.lt_of_lt_of_le (Heap.lt_size q) M.new))).trans (M.keep b o q)
    have ob : ObjOk X.prog X.w (upd H1 d (.xd [(("at" : Str), v)])) G' d (.xd [(("at" : Str), v)]) :=
      ⟨_, hns.at (fun o q => (gk d M.dne).trans q), fun f => relO_one rv f⟩
    have J : Inv X pins σ (upd H1 d (.xd [(("at" : Str), v)])) ⟨G', g, dr, tk', os⟩ := I1.laid (t' := tk') old M.dbig ob
    refine ⟨e, oe, fv, ⟨G', g, dr, tk', os⟩, _, .ref C, some d, rfl, J, fun b o q => ?_, ge, hoe, ⟨hc, hd⟩, hdat, h1, ?_, rfl, I1.bare, raises_own T.exC T.tyC, q1 d (I1.hok.fresh M.dbig)⟩
    · by_cases hb : b = e
      · have q' : G'.get? b = some o := q
        rw [hb, ge] at q'; cases q'
      · exact (gk b hb).symm.trans q
    · rw [upd_ne (Ne.symm M.dne)]
      exact I1.hok.fresh M.new
theorem ps_raise_LAt {a : Expr} {ta : TA} {W : WX} {p pos pos2 : Pos} {k : Nat} (hc : X.calm = true) (T : LAt.Txt X.K X.mg cn ql bm C fI) (hr : Room k X.A) (tk : Takes X W) (ha : PA X [a] ta) (hg : Gl X cn := by rfl)
    (he : starEach (a :: []) X.env = (false, eval a X.env) :: starEach [] X.env := by rfl) (hpl : (backTo pos (starEach [] X.env)).any (·.1) = false := by rfl) (hdb : (cn == ("__debug__" : Str)) = false := by decide) :
    PS X (.Raise (some (.Call (.Name cn p) [a] [] pos)) none pos2) (tRaiseF "at" C W ta) := ps_raise hc tk (pmk_LAt T hr ha hg he hpl hdb)
theorem pe_by_LAt {a : Addr} {oe : Obj} {cls : Value} {d : Option Addr} {pn : List (Addr × Obj)} {e : Expr} {te : TE} {pos : Pos} (T : LAt.Txt X.K X.mg cn ql bm C fI) (hz : Zc cls d oe) (hf : ∃ vs, oe.data = .fields vs) (he : PE (X.suite a ((a, oe) :: pn)) e te)
    (hb : attributeBase e "at" X.env (eval e X.env) = eval e X.env := by rfl) :
    PE (X.suite a ((a, oe) :: pn)) (.Attribute e "at" pos) (tByF "at" C a cls d te) := by
  refine ⟨fun pins s σ H Q I h => ?_⟩
  refine attr_of hb (thn (he.run pins s σ H _ I h) fun u s1 hh => ?_)
  obtain ⟨x, H1, I1, rx, ex, ec, dd, v, ed, ea, q⟩ := hh
  subst ex
  obtain rfl : u = Value.ref a := rx
  subst ec
  subst ed
  obtain ⟨ha, _⟩ := I1.pin (a, oe) (List.mem_append_left _ List.mem_cons_self)
  obtain ⟨vs, hd⟩ := hf
  have hx : ObjOk X.prog X.w H1 s1.heap dd (.xd [(("at" : Str), v)]) := I1.hok dd _ ea
  obtain ⟨mA, hns, hr⟩ := hx
  obtain ⟨od, ho, hl⟩ := lookIn_ns hns
  have l : List.lookup ("at" : Str) [(("at" : Str), v)] = some v := by simp [List.lookup]
  obtain ⟨u, hu, ru⟩ := RelO.some_of (v := v) (o := mA "at") (by rw [← l]; exact hr "at")
  have J : PySem.W.InstAt s1.heap a oe C (some od) := ⟨ha, hz.1, by unfold PySem.W.notCls; rw [hd] <;> rfl, by rw [hz.2]; exact ho⟩
  exact HandSPX.exc_get I1.kIn J T.ga T.gg T.exC (PySem.W.findObj_own T.hdC T.noN rfl (by rw [hl, hu])) (handed_of ru) ⟨v, H1, I1.tok _, ru, q⟩
end
end K1

namespace K1
namespace LState
open PySem PySem.W PySem.Calls PyProof.Rows PySem.HandSPX
/-- the text of __init__ -/
def iA (p1 p2 : Pos) : Arguments := { posonlyargs := [], args := [{ arg := "self", annotation := none, pos := p1 }, { arg := "state", annotation := none, pos := p2 }], vararg := none, kwonlyargs := [], kw_defaults := [], kwarg := none, defaults := [] }
def iB (q1 q2 q3 q4 : Pos) : List Stmt := [.Assign [.Attribute (.Name "self" q1) "state" q2] (.Name "state" q3) q4]
def iS : Scope := { kind := .function, names := [(PySem.Str.ofString "self", .local), (PySem.Str.ofString "state", .local)], isGenerator := false, isCoroutine := false, more := [] }
/-- what the written part says of the class at C (named cn), of its chain bm, and of its __init__, at fI -/
structure Txt (K : Frag) (mg : Str → Option Value) (cn ql : Str) (bm : List Value) (C fI : Addr) : Prop where
  gC : mg cn = some (.ref C)
  cls : ∃ nm q N bs sn sub ab col dd k0 k1 k2 k3 k5, K.lookup C = some (excClassObj nm q C N bs bm true sn sub ab col dd k0 k1 k2 k3 k5 "LookupError.__new__")
  mr : Mro "LookupError" bm
  sa : findIn K (.ref C) "__setattr__" = some (some (.builtin "object.__setattr__"))
  ga : findIn K (.ref C) "__getattribute__" = some (some (.builtin "BaseException.__getattribute__"))
  gg : findIn K (.ref C) "__getattr__" = some none
  noN : findIn K (.ref C) "state" = some none
  iC : findIn K (.ref C) "__init__" = some (some (.ref fI))
  tC : typeIn K (.ref fI) = some (.type "function")
  kC : keepIn K (.ref C) = true
  exC : subIn K (.ref C) (.type "BaseException") = some true
  tyC : typeIn K (.ref C) = some (.type "type")
  hdC : hasDictIn K C = true
  fn : ∃ (oc : Value) (od : Option Addr) (doc pm : Value) (an : Option Addr) (cdv ct : Value) (osl : Array (Option Value)) (p1 p2 q1 q2 q3 q4 : Pos),
    K.lookup fI = some ⟨oc, od, .func (fnOf "__init__" ql (iA p1 p2) (iB q1 q2 q3 q4) iS .none .none doc pm an cdv ct), osl⟩ ∧ codeIn K cdv ql = true
/-- what __init__ leaves of a fresh exception at x -/
structure InitEnd (h h' : Heap) (x C dx t1 : Addr) (v : Value) : Prop where
  keep : ∀ b o, b ≠ x → h.get? b = some o → h'.get? b = some o
  obj : h'.get? x = some { cls := .ref C, dict := some dx, data := .fields #[.ref t1, .none, .none, .none, .bool false, .none] }
  dbig : h.objs.size ≤ dx
  dne : dx ≠ x
  ns : h'.Ns1 dx (fun y => if y = "state" then some v else none)
structure OwnMade (h h' : Heap) (e C d : Addr) (v : Value) : Prop where
  keep : ∀ b o, h.get? b = some o → h'.get? b = some o
  new : h.objs.size ≤ e
  obj : ∃ oe vs, h'.get? e = some oe ∧ oe.cls = .ref C ∧ oe.dict = some d ∧ oe.data = .fields vs ∧ vs[1]? = some .none
  dbig : h.objs.size ≤ d
  dne : d ≠ e
  ns : h'.Ns1 d (fun y => if y = "state" then some v else none)
section
variable {prog : Program} {w : World} {A : Around} {E : Value → Shared → Prop} {R : Result → Shared → Prop} {s : Shared} {K : Frag} {mg : Str → Option Value} {cn ql : Str} {bm : List Value} {C fI : Addr}
theorem init (T : Txt K mg cn ql bm C fI) {x t0 : Addr} {v : Value} (X : K.In s.heap) (hlim : s.heap.NoLimit) (hx : s.heap.get? x = some (excO C t0)) (hnx : K.lookup x = none) (hroom : A.depth < recursionLimit)
    (hq : ∀ h' tk dx, InitEnd s.heap h' x C dx t0 v → R (.ok (.ret .none)) { s with heap := h', toks := tk }) :
    codeAny (model prog w) A (.call (.ref fI) ⟨[.ref x, v], []⟩) R s := by
  obtain ⟨oc, od, doc, pm, an, cdv, ct, osl, p1, p2, q1, q2, q3, q4, ho, hcd⟩ := T.fn
  obtain ⟨nm, q, N, bs, sn, sub, ab, col, dd, k0, k1, k2, k3, k5, hC⟩ := T.cls
  have hcl : clsIn K C = some { name := nm, bases := bs, mro := .ref C :: bm, ns := N, qualname := q, hasDict := true, slotNames := sn, subclasses := sub, abstract := ab, collection := col, hasDel := false } := by unfold clsIn; rw [hC] <;> rfl
  refine Att.call_fn (binds := [("self", .ref x), ("state", v)]) X hlim ho hcd hroom (BindsTo.of_eq (by first | rfl | with_unfolding_all rfl)) (by first | rfl | decide | with_unfolding_all rfl) (fun s₁ IC => ?_) rfl rfl rfl
  obtain ⟨h₁, tk₁, rfl⟩ := IC.toInCall.same
  have k : ∀ b o, s.heap.get? b = some o → h₁.get? b = some o := IC.toInCall.keep
  have hn := IC.toInCall.ns
  have X₁ : K.In h₁ := X.keeps k
  have hx₁ := k _ _ hx
  show wpAny _ _ (execs _ _) _ _ _
  refine wpAny_execs_cons (plainObj_wpAny_Assign_Attribute ?_)
  refine ldE (v := v) hn (by first | rfl | with_unfolding_all rfl | kernel_rfl) (ldE (v := .ref x) hn (by first | rfl | with_unfolding_all rfl | kernel_rfl) ?_)
  refine set_plain X₁ (ox := excO C t0) (od := none) ⟨hx₁, rfl, rfl, trivial⟩ T.sa ?_
  refine exc_osaG X₁ hx₁ hcl rfl T.mr rfl T.noN (fun h₃ tk₃ dx k₃ dn dne hx₃ hn₃ => ?_)
  show wpAny _ _ (execs _ _) _ _ _
  have z : s.heap.objs.size < h₁.objs.size := hn.lt
  exact wpAny_execs_nil (hq h₃ tk₃ dx ⟨fun b o hb e => k₃ b o hb (k b o e), hx₃, Nat.le_of_lt (Nat.lt_of_lt_of_le z dn), dne, hn₃⟩)
theorem made (T : Txt K mg cn ql bm C fI) {v : Value} (X : K.In s.heap) (hlim : s.heap.NoLimit) (hroom : A.depth + 1 < recursionLimit)
    (hq : ∀ h' tk e d, OwnMade s.heap h' e C d v → R (.ok (.ret (.ref e))) { s with heap := h', toks := tk }) :
    codeAny (model prog w) A (.call (.ref C) ⟨[v], []⟩) R s := by
  obtain ⟨nm, q, N, bs, sn, sub, ab, col, dd, k0, k1, k2, k3, k5, hC⟩ := T.cls
  obtain ⟨hp, g, dr, tk, os⟩ := s
  have k : ∀ b o, hp.get? b = some o → ((hp.push (kdv_tup [v])).push (excO C hp.objs.size)).get? b = some o := fun b o e => Heap.get?_push_of_some _ (Heap.get?_push_of_some _ e)
  have hget : ((hp.push (kdv_tup [v])).push (excO C hp.objs.size)).get? (hp.objs.size + 1) = some (excO C hp.objs.size) := by heap_get
  have hnx : K.lookup (hp.objs.size + 1) = none := by
    cases e : K.lookup (hp.objs.size + 1) with
    | none => rfl
    | some o =>
      have z : hp.get? (hp.objs.size + 1) = some o := X _ _ e
      exact absurd (Nat.lt_of_succ_lt (Heap.lt_size z)) (Nat.lt_irrefl _)
  refine call_ownG F.excBase_LookupError T.mr (X _ _ hC) (looks_findIn X T.iC) (fun self => bind_fn X self T.tC) (one_le v) ?_
  refine init (s := ⟨(hp.push (kdv_tup [v])).push (excO C hp.objs.size), g, dr, tk, os⟩) T (X.keeps k) (hlim.keeps k) hget hnx ?_ fun h' tk' dx ⟨k', hx, dn, dne, hns⟩ => ?_
  · show A.depth + 1 < recursionLimit
    exact hroom
  · have old : ∀ b o, hp.get? b = some o → h'.get? b = some o := fun b o e => k' b o (Nat.ne_of_lt (Nat.lt_succ_of_lt (Heap.lt_size e))) (k b o e)
    have z : hp.objs.size + 1 + 1 ≤ dx := by
      first
        | (simpa only [Heap.size_push] using dn)
        | exact dn
        | (have q := dn; rw [Heap.size_push, Heap.size_push] at q; exact q)
    exact ⟨rfl, hq h' tk' (hp.objs.size + 1) dx ⟨old, Nat.le_succ _, ⟨_, _, hx, rfl, rfl, rfl, rfl⟩, Nat.le_trans (Nat.le_trans (Nat.le_succ _) (Nat.le_succ _)) z, dne, hns⟩⟩
end
end LState
end K1
namespace K1
open PySem PySem.Spec PyProof.Rows L2
section
variable {X : Cx} {cn ql : Str} {bm : List Value} {C fI : Addr}
theorem pmk_LState {a : Expr} {ta : TA} {p pos : Pos} {k : Nat} (T : LState.Txt X.K X.mg cn ql bm C fI) (hr : Room k X.A) (ha : PA X [a] ta) (hg : Gl X cn := by rfl)
    (he : starEach (a :: []) X.env = (false, eval a X.env) :: starEach [] X.env := by rfl) (hpl : (backTo pos (starEach [] X.env)).any (·.1) = false := by rfl) (hdb : (cn == ("__debug__" : Str)) = false := by decide) :
    PMk X (.Call (.Name cn p) [a] [] pos) (tMkF "state" C ta) := by
  intro pins s σ H Q I h
  refine wpAny_Call_Name_kw (ld_glob I hg T.gC ?_ hdb)
  refine PySem.W.callWith_K (h₀ := X.base) I.ok.mod.kin T.kC (thn (ha.run pos pins s σ H _ I h) fun us s1 hh => ?_) he hpl
  obtain ⟨vs, H1, I1, r1, v, ev, q1⟩ := hh
  subst ev
  refine ⟨I1.kIn, ?_⟩
  cases r1 with
  | cons rv rn =>
    rename_i v' us'
    cases rn
    show wpAny _ _ (call (.ref C) [v']) _ _ _
    have hlim := I1.nolimit
    obtain ⟨hp, g, dr, tk, os⟩ := s1
    refine wpAny_call (LState.made T I1.kIn hlim (by have := hr.dp; omega) fun h' tk' e d M => ?_)
    show MkP X pins σ Q (.ref e) ⟨h', g, dr, tk', os⟩
    obtain ⟨oe, fv, hoe, hc, hd, hdat, h1⟩ := M.obj
    have hns := M.ns
    obtain ⟨G', g1, g2⟩ := restrict h' fun b => decide (b ≠ e)
    have gk : ∀ b, b ≠ e → G'.get? b = h'.get? b := fun b hb => g1 b (decide_eq_true hb)
    have ge : G'.get? e = none := g2 e (by simp)
    have old : ∀ b o, hp.get? b = some o → G'.get? b = some o := fun b o q => (gk b (Nat.ne_of_lt (Nat.lt_of_lt_of_le (Heap.lt_size q) M.new))).trans (M.keep b o q)
    have ob : ObjOk X.prog X.w (upd H1 d (.xd [(("state" : Str), v)])) G' d (.xd [(("state" : Str), v)]) :=
      ⟨_, hns.at (fun o q => (gk d M.dne).trans q), fun f => relO_one rv f⟩
    have J : Inv X pins σ (upd H1 d (.xd [(("state" : Str), v)])) ⟨G', g, dr, tk', os⟩ := I1.laid (t' := tk') old M.dbig ob
    refine ⟨e, oe, fv, ⟨G', g, dr, tk', os⟩, _, .ref C, some d, rfl, J, fun b o q => ?_, ge, hoe, ⟨hc, hd⟩, hdat, h1, ?_, rfl, I1.bare, raises_own T.exC T.tyC, q1 d (I1.hok.fresh M.dbig)⟩
    · by_cases hb : b = e
      · have q' : G'.get? b = some o := q
        rw [hb, ge] at q'; cases q'
      · exact (gk b hb).symm.trans q
    · rw [upd_ne (Ne.symm M.dne)]
      exact I1.hok.fresh M.new
theorem ps_raise_LState {a : Expr} {ta : TA} {W : WX} {p pos pos2 : Pos} {k : Nat} (hc : X.calm = true) (T : LState.Txt X.K X.mg cn ql bm C fI) (hr : Room k X.A) (tk : Takes X W) (ha : PA X [a] ta) (hg : Gl X cn := by rfl)
    (he : starEach (a :: []) X.env = (false, eval a X.env) :: starEach [] X.env := by rfl) (hpl : (backTo pos (starEach [] X.env)).any (·.1) = false := by rfl) (hdb : (cn == ("__debug__" : Str)) = false := by decide) :
    PS X (.Raise (some (.Call (.Name cn p) [a] [] pos)) none pos2) (tRaiseF "state" C W ta) := ps_raise hc tk (pmk_LState T hr ha hg he hpl hdb)
theorem pe_by_LState {a : Addr} {oe : Obj} {cls : Value} {d : Option Addr} {pn : List (Addr × Obj)} {e : Expr} {te : TE} {pos : Pos} (T : LState.Txt X.K X.mg cn ql bm C fI) (hz : Zc cls d oe) (hf : ∃ vs, oe.data = .fields vs) (he : PE (X.suite a ((a, oe) :: pn)) e te)
    (hb : attributeBase e "state" X.env (eval e X.env) = eval e X.env := by rfl) :
    PE (X.suite a ((a, oe) :: pn)) (.Attribute e "state" pos) (tByF "state" C a cls d te) := by
  refine ⟨fun pins s σ H Q I h => ?_⟩
  refine attr_of hb (thn (he.run pins s σ H _ I h) fun u s1 hh => ?_)
  obtain ⟨x, H1, I1, rx, ex, ec, dd, v, ed, ea, q⟩ := hh
  subst ex
  obtain rfl : u = Value.ref a := rx
  subst ec
  subst ed
  obtain ⟨ha, _⟩ := I1.pin (a, oe) (List.mem_append_left _ List.mem_cons_self)
  obtain ⟨vs, hd⟩ := hf
  have hx : ObjOk X.prog X.w H1 s1.heap dd (.xd [(("state" : Str), v)]) := I1.hok dd _ ea
  obtain ⟨mA, hns, hr⟩ := hx
  obtain ⟨od, ho, hl⟩ := lookIn_ns hns
  have l : List.lookup ("state" : Str) [(("state" : Str), v)] = some v := by simp [List.lookup]
  obtain ⟨u, hu, ru⟩ := RelO.some_of (v := v) (o := mA "state") (by rw [← l]; exact hr "state")
  have J : PySem.W.InstAt s1.heap a oe C (some od) := ⟨ha, hz.1, by unfold PySem.W.notCls; rw [hd] <;> rfl, by rw [hz.2]; exact ho⟩
  exact HandSPX.exc_get I1.kIn J T.ga T.gg T.exC (PySem.W.findObj_own T.hdC T.noN rfl (by rw [hl, hu])) (handed_of ru) ⟨v, H1, I1.tok _, ru, q⟩
end
end K1

namespace K1
namespace LDeed
open PySem PySem.W PySem.Calls PyProof.Rows PySem.HandSPX
/-- the text of __init__ -/
def iA (p1 p2 : Pos) : Arguments := { posonlyargs := [], args := [{ arg := "self", annotation := none, pos := p1 }, { arg := "deed", annotation := none, pos := p2 }], vararg := none, kwonlyargs := [], kw_defaults := [], kwarg := none, defaults := [] }
def iB (q1 q2 q3 q4 : Pos) : List Stmt := [.Assign [.Attribute (.Name "self" q1) "deed" q2] (.Name "deed" q3) q4]
def iS : Scope := { kind := .function, names := [(PySem.Str.ofString "self", .local), (PySem.Str.ofString "deed", .local)], isGenerator := false, isCoroutine := false, more := [] }
/-- what the written part says of the class at C (named cn), of its chain bm, and of its __init__, at fI -/
structure Txt (K : Frag) (mg : Str → Option Value) (cn ql : Str) (bm : List Value) (C fI : Addr) : Prop where
  gC : mg cn = some (.ref C)
  cls : ∃ nm q N bs sn sub ab col dd k0 k1 k2 k3 k5, K.lookup C = some (excClassObj nm q C N bs bm true sn sub ab col dd k0 k1 k2 k3 k5 "LookupError.__new__")
  mr : Mro "LookupError" bm
  sa : findIn K (.ref C) "__setattr__" = some (some (.builtin "object.__setattr__"))
  ga : findIn K (.ref C) "__getattribute__" = some (some (.builtin "BaseException.__getattribute__"))
  gg : findIn K (.ref C) "__getattr__" = some none
  noN : findIn K (.ref C) "deed" = some none
  iC : findIn K (.ref C) "__init__" = some (some (.ref fI))
  tC : typeIn K (.ref fI) = some (.type "function")
  kC : keepIn K (.ref C) = true
  exC : subIn K (.ref C) (.type "BaseException") = some true
  tyC : typeIn K (.ref C) = some (.type "type")
  hdC : hasDictIn K C = true
  fn : ∃ (oc : Value) (od : Option Addr) (doc pm : Value) (an : Option Addr) (cdv ct : Value) (osl : Array (Option Value)) (p1 p2 q1 q2 q3 q4 : Pos),
    K.lookup fI = some ⟨oc, od, .func (fnOf "__init__" ql (iA p1 p2) (iB q1 q2 q3 q4) iS .none .none doc pm an cdv ct), osl⟩ ∧ codeIn K cdv ql = true
/-- what __init__ leaves of a fresh exception at x -/
structure InitEnd (h h' : Heap) (x C dx t1 : Addr) (v : Value) : Prop where
  keep : ∀ b o, b ≠ x → h.get? b = some o → h'.get? b = some o
  obj : h'.get? x = some { cls := .ref C, dict := some dx, data := .fields #[.ref t1, .none, .none, .none, .bool false, .none] }
  dbig : h.objs.size ≤ dx
  dne : dx ≠ x
  ns : h'.Ns1 dx (fun y => if y = "deed" then some v else none)
structure OwnMade (h h' : Heap) (e C d : Addr) (v : Value) : Prop where
  keep : ∀ b o, h.get? b = some o → h'.get? b = some o
  new : h.objs.size ≤ e
  obj : ∃ oe vs, h'.get? e = some oe ∧ oe.cls = .ref C ∧ oe.dict = some d ∧ oe.data = .fields vs ∧ vs[1]? = some .none
  dbig : h.objs.size ≤ d
  dne : d ≠ e
  ns : h'.Ns1 d (fun y => if y = "deed" then some v else none)
section
variable {prog : Program} {w : World} {A : Around} {E : Value → Shared → Prop} {R : Result → Shared → Prop} {s : Shared} {K : Frag} {mg : Str → Option Value} {cn ql : Str} {bm : List Value} {C fI : Addr}
theorem init (T : Txt K mg cn ql bm C fI) {x t0 : Addr} {v : Value} (X : K.In s.heap) (hlim : s.heap.NoLimit) (hx : s.heap.get? x = some (excO C t0)) (hnx : K.lookup x = none) (hroom : A.depth < recursionLimit)
    (hq : ∀ h' tk dx, InitEnd s.heap h' x C dx t0 v → R (.ok (.ret .none)) { s with heap := h', toks := tk }) :
    codeAny (model prog w) A (.call (.ref fI) ⟨[.ref x, v], []⟩) R s := by
  obtain ⟨oc, od, doc, pm, an, cdv, ct, osl, p1, p2, q1, q2, q3, q4, ho, hcd⟩ := T.fn
  obtain ⟨nm, q, N, bs, sn, sub, ab, col, dd, k0, k1, k2, k3, k5, hC⟩ := T.cls
  have hcl : clsIn K C = some { name := nm, bases := bs, mro := .ref C :: bm, ns := N, qualname := q, hasDict := true, slotNames := sn, subclasses := sub, abstract := ab, collection := col, hasDel := false } := by unfold clsIn; rw [hC] <;> rfl
  refine Att.call_fn (binds := [("self", .ref x), ("deed", v)]) X hlim ho hcd hroom (BindsTo.of_eq (by first | rfl | with_unfolding_all rfl)) (by first | rfl | decide | with_unfolding_all rfl) (fun s₁ IC => ?_) rfl rfl rfl
  obtain ⟨h₁, tk₁, rfl⟩ := IC.toInCall.same
  have k : ∀ b o, s.heap.get? b = some o → h₁.get? b = some o := IC.toInCall.keep
  have hn := IC.toInCall.ns
  have X₁ : K.In h₁ := X.keeps k
  have hx₁ := k _ _ hx
  show wpAny _ _ (execs _ _) _ _ _
  refine wpAny_execs_cons (plainObj_wpAny_Assign_Attribute ?_)
  refine ldE (v := v) hn (by first | rfl | with_unfolding_all rfl | kernel_rfl) (ldE (v := .ref x) hn (by first | rfl | with_unfolding_all rfl | kernel_rfl) ?_)
  refine set_plain X₁ (ox := excO C t0) (od := none) ⟨hx₁, rfl, rfl, trivial⟩ T.sa ?_
  refine exc_osaG X₁ hx₁ hcl rfl T.mr rfl T.noN (fun h₃ tk₃ dx k₃ dn dne hx₃ hn₃ => ?_)
  show wpAny _ _ (execs _ _) _ _ _
  have z : s.heap.objs.size < h₁.objs.size := hn.lt
  exact wpAny_execs_nil (hq h₃ tk₃ dx ⟨fun b o hb e => k₃ b o hb (k b o e), hx₃, Nat.le_of_lt (Nat.lt_of_lt_of_le z dn), dne, hn₃⟩)
theorem made (T : Txt K mg cn ql bm C fI) {v : Value} (X : K.In s.heap) (hlim : s.heap.NoLimit) (hroom : A.depth + 1 < recursionLimit)
    (hq : ∀ h' tk e d, OwnMade s.heap h' e C d v → R (.ok (.ret (.ref e))) { s with heap := h', toks := tk }) :
    codeAny (model prog w) A (.call (.ref C) ⟨[v], []⟩) R s := by
  obtain ⟨nm, q, N, bs, sn, sub, ab, col, dd, k0, k1, k2, k3, k5, hC⟩ := T.cls
  obtain ⟨hp, g, dr, tk, os⟩ := s
  have k : ∀ b o, hp.get? b = some o → ((hp.push (kdv_tup [v])).push (excO C hp.objs.size)).get? b = some o := fun b o e => Heap.get?_push_of_some _ (Heap.get?_push_of_some _ e)
  have hget : ((hp.push (kdv_tup [v])).push (excO C hp.objs.size)).get? (hp.objs.size + 1) = some (excO C hp.objs.size) := by heap_get
  have hnx : K.lookup (hp.objs.size + 1) = none := by
    cases e : K.lookup (hp.objs.size + 1) with
    | none => rfl
    | some o =>
      have z : hp.get? (hp.objs.size + 1) = some o := X _ _ e
      exact absurd (Nat.lt_of_succ_lt (Heap.lt_size z)) (Nat.lt_irrefl _)
  refine call_ownG F.excBase_LookupError T.mr (X _ _ hC) (looks_findIn X T.iC) (fun self => bind_fn X self T.tC) (one_le v) ?_
  refine init (s := ⟨(hp.push (kdv_tup [v])).push (excO C hp.objs.size), g, dr, tk, os⟩) T (X.keeps k) (hlim.keeps k) hget hnx ?_ fun h' tk' dx ⟨k', hx, dn, dne, hns⟩ => ?_
  · show A.depth + 1 < recursionLimit
    exact hroom
  · have old : ∀ b o, hp.get? b = some o → h'.get? b = some o := fun b o e => k' b o (Nat.ne_of_lt (Nat.lt_succ_of_lt (Heap.lt_size e))) (k b o e)
    have z : hp.objs.size + 1 + 1 ≤ dx := by
      first
        | (simpa only [Heap.size_push] using dn)
        | exact dn
        | (have q := dn; rw [Heap.size_push, Heap.size_push] at q; exact q)
    exact ⟨rfl, hq h' tk' (hp.objs.size + 1) dx ⟨old, Nat.le_succ _, ⟨_, _, hx, rfl, rfl, rfl, rfl⟩, Nat.le_trans (Nat.le_trans (Nat.le_succ _) (Nat.le_succ _)) z, dne, hns⟩⟩
end
end LDeed
end K1
namespace K1
open PySem PySem.Spec PyProof.Rows L2
section
variable {X : Cx} {cn ql : Str} {bm : List Value} {C fI : Addr}
theorem pmk_LDeed {a : Expr} {ta : TA} {p pos : Pos} {k : Nat} (T : LDeed.Txt X.K X.mg cn ql bm C fI) (hr : Room k X.A) (ha : PA X [a] ta) (hg : Gl X cn := by rfl)
    (he : starEach (a :: []) X.env = (false, eval a X.env) :: starEach [] X.env := by rfl) (hpl : (backTo pos (starEach [] X.env)).any (·.1) = false := by rfl) (hdb : (cn == ("__debug__" : Str)) = false := by decide) :
    PMk X (.Call (.Name cn p) [a] [] pos) (tMkF "deed" C ta) := by
  intro pins s σ H Q I h
  refine wpAny_Call_Name_kw (ld_glob I hg T.gC ?_ hdb)
  refine PySem.W.callWith_K (h₀ := X.base) I.ok.mod.kin T.kC (thn (ha.run pos pins s σ H _ I h) fun us s1 hh => ?_) he hpl
  obtain ⟨vs, H1, I1, r1, v, ev, q1⟩ := hh
  subst ev
  refine ⟨I1.kIn, ?_⟩
  cases r1 with
  | cons rv rn =>
    rename_i v' us'
    cases rn
    show wpAny _ _ (call (.ref C) [v']) _ _ _
    have hlim := I1.nolimit
    obtain ⟨hp, g, dr, tk, os⟩ := s1
    refine wpAny_call (LDeed.made T I1.kIn hlim (by have := hr.dp; omega) fun h' tk' e d M => ?_)
    show MkP X pins σ Q (.ref e) ⟨h', g, dr, tk', os⟩
    obtain ⟨oe, fv, hoe, hc, hd, hdat, h1⟩ := M.obj
    have hns := M.ns
    obtain ⟨G', g1, g2⟩ := restrict h' fun b => decide (b ≠ e)
    have gk : ∀ b, b ≠ e → G'.get? b = h'.get? b := fun b hb => g1 b (decide_eq_true hb)
    have ge : G'.get? e = none := g2 e (by simp)
    have old : ∀ b o, hp.get? b = some o → G'.get? b = some o := fun b o q => (gk b (Nat.ne_of_lt (Nat.lt_of_lt_of_le (Heap.lt_size q) M.new))).trans (M.keep b o q)
    have ob : ObjOk X.prog X.w (upd H1 d (.xd [(("deed" : Str), v)])) G' d (.xd [(("deed" : Str), v)]) :=
      ⟨_, hns.at (fun o q => (gk d M.dne).trans q), fun f => relO_one rv f⟩
    have J : Inv X pins σ (upd H1 d (.xd [(("deed" : Str), v)])) ⟨G', g, dr, tk', os⟩ := I1.laid (t' := tk') old M.dbig ob
    refine ⟨e, oe, fv, ⟨G', g, dr, tk', os⟩, _, .ref C, some d, rfl, J, fun b o q => ?_, ge, hoe, ⟨hc, hd⟩, hdat, h1, ?_, rfl, I1.bare, raises_own T.exC T.tyC, q1 d (I1.hok.fresh M.dbig)⟩
    · by_cases hb : b = e
      · have q' : G'.get? b = some o := q
        rw [hb, ge] at q'; cases q'
      · exact (gk b hb).symm.trans q
    · rw [upd_ne (Ne.symm M.dne)]
      exact I1.hok.fresh M.new
theorem ps_raise_LDeed {a : Expr} {ta : TA} {W : WX} {p pos pos2 : Pos} {k : Nat} (hc : X.calm = true) (T : LDeed.Txt X.K X.mg cn ql bm C fI) (hr : Room k X.A) (tk : Takes X W) (ha : PA X [a] ta) (hg : Gl X cn := by rfl)
    (he : starEach (a :: []) X.env = (false, eval a X.env) :: starEach [] X.env := by rfl) (hpl : (backTo pos (starEach [] X.env)).any (·.1) = false := by rfl) (hdb : (cn == ("__debug__" : Str)) = false := by decide) :
    PS X (.Raise (some (.Call (.Name cn p) [a] [] pos)) none pos2) (tRaiseF "deed" C W ta) := ps_raise hc tk (pmk_LDeed T hr ha hg he hpl hdb)
theorem pe_by_LDeed {a : Addr} {oe : Obj} {cls : Value} {d : Option Addr} {pn : List (Addr × Obj)} {e : Expr} {te : TE} {pos : Pos} (T : LDeed.Txt X.K X.mg cn ql bm C fI) (hz : Zc cls d oe) (hf : ∃ vs, oe.data = .fields vs) (he : PE (X.suite a ((a, oe) :: pn)) e te)
    (hb : attributeBase e "deed" X.env (eval e X.env) = eval e X.env := by rfl) :
    PE (X.suite a ((a, oe) :: pn)) (.Attribute e "deed" pos) (tByF "deed" C a cls d te) := by
  refine ⟨fun pins s σ H Q I h => ?_⟩
  refine attr_of hb (thn (he.run pins s σ H _ I h) fun u s1 hh => ?_)
  obtain ⟨x, H1, I1, rx, ex, ec, dd, v, ed, ea, q⟩ := hh
  subst ex
  obtain rfl : u = Value.ref a := rx
  subst ec
  subst ed
  obtain ⟨ha, _⟩ := I1.pin (a, oe) (List.mem_append_left _ List.mem_cons_self)
  obtain ⟨vs, hd⟩ := hf
  have hx : ObjOk X.prog X.w H1 s1.heap dd (.xd [(("deed" : Str), v)]) := I1.hok dd _ ea
  obtain ⟨mA, hns, hr⟩ := hx
  obtain ⟨od, ho, hl⟩ := lookIn_ns hns
  have l : List.lookup ("deed" : Str) [(("deed" : Str), v)] = some v := by simp [List.lookup]
  obtain ⟨u, hu, ru⟩ := RelO.some_of (v := v) (o := mA "deed") (by rw [← l]; exact hr "deed")
  have J : PySem.W.InstAt s1.heap a oe C (some od) := ⟨ha, hz.1, by unfold PySem.W.notCls; rw [hd] <;> rfl, by rw [hz.2]; exact ho⟩
  exact HandSPX.exc_get I1.kIn J T.ga T.gg T.exC (PySem.W.findObj_own T.hdC T.noN rfl (by rw [hl, hu])) (handed_of ru) ⟨v, H1, I1.tok _, ru, q⟩
end
end K1
/-! enumerate over a tuple, repr of data of any depth, isinstance of a held exception -/
namespace K1
open PySem PySem.Spec PyProof.Rows L2
theorem meets_enum1 {v : Value} {o : Obj} {H : Heap → Prop} (B : Begins v o H) :
    Meets (Builtin.«enumerate.__new__» ⟨[.type "enumerate", v], []⟩) (fun _ R s => H s.heap ∧
      R (.ok (.ret (.ref (s.heap.push o).objs.size))) { s with heap := (s.heap.push o).push { cls := .type "enumerate", data := .fields #[.none, .bool false, .ref s.heap.objs.size, rawInt 0, .none, .none] } }) :=
  .of_wp fun prog w A R s h => by
    obtain ⟨hp, g, d, tk, os⟩ := s
    obtain ⟨h1, h⟩ := h
    have hsub := sub_enumerate
    have q1 : ∀ {A' : Around} {E : Value → Shared → Prop} {Q : Value → Shared → Prop}, Q (.ref hp.objs.size) ⟨hp.push o, g, d, tk, os⟩ → wpAny (model prog w) A' (pyIter v) Q E ⟨hp, g, d, tk, os⟩ :=
      fun q => B.iter prog w _ _ ⟨hp, g, d, tk, os⟩ _ h1 q
    wp_walk using q1
    refine wpAny_stack_any fun st => wpAny_pure ?_
    split
    · rename_i c _ _ _ _ _
      cases (c == Value.type "enumerate") <;> (wp_walk using q1; exact ⟨_, rfl, h⟩)
    · wp_walk using q1
      exact ⟨_, rfl, h⟩
theorem enum_begins1 {prog : Program} {w : World} {A : Around} {E : Value → Shared → Prop} {s : Shared} {v : Value} {o : Obj} {H : Heap → Prop} {Q : Value → Shared → Prop} (B : Begins v o H) (h1 : H s.heap)
    (h : ∀ h', IsEnum h' (s.heap.objs.size + 1) s.heap.objs.size 0 .none → h'.get? s.heap.objs.size = some o → h'.objs.size = s.heap.objs.size + 2 →
      (∀ b o, s.heap.get? b = some o → h'.get? b = some o) → Q (.ref (s.heap.objs.size + 1)) { s with heap := h' }) :
    wpAny (model prog w) A (call (.type "enumerate") [v]) Q E s := by
  refine callType_new F.called_enumerate (by decide) (F.typeCall_enumerate_1 _) (F.newCall_enumerate_1 _) (fun obj => F.args_object_init_2 obj _) F.entry_enumerate_new (meets_enum1 B) ⟨h1, ?_⟩
  have hz : (s.heap.push o).objs.size = s.heap.objs.size + 1 := Heap.size_push ..
  show _ ∧ _
  rw [hz]
  have he := Heap.get?_push_size (s.heap.push o) (o := { cls := .type "enumerate", data := .fields #[.none, .bool false, .ref s.heap.objs.size, rawInt 0, .none, .none] }) rfl
  rw [hz] at he
  exact ⟨⟨_, he, rfl⟩, h _ he (Heap.get?_push_of_some _ (Heap.get?_push_size _ B.free)) (by rw [Heap.size_push, hz]) fun b o x => Heap.get?_push_of_some _ (Heap.get?_push_of_some _ x)⟩
/-- the tuple at a, each item in a new pair -/
def IteT (K : PySem.W.Frag) (a : Addr) : It :=
  ⟨fun i H => ∃ (xs : List V) (x : V), SqT K H a xs ∧ xs[i]? = some x, fun i H v H' => ∃ T x, v = .ref T ∧ H T = none ∧ H' = upd H T (.tup [.int (i : Nat), x]) ∧ ∀ xs, SqT K H a xs → xs[i]? = some x, fun i H => ∃ xs : List V, SqT K H a xs ∧ xs.length ≤ i⟩
theorem turn_enumT {P : Program} {w : World} {K : PySem.W.Frag} {elts : List Expr} {kk : Nat} {tpos : Pos} (a e it : Addr) :
    Turn P w K (.Tuple elts kk tpos) (IteT K a) [e, it] e (fun i h => (∃ old, IsEnum h e it ((i : Nat) : Int) old) ∧ h.IsTupleIter it a i ∧ e ≠ it ∧ e ≠ a ∧ a ≠ it) where
  mem := by simp
  obj := fun i h st b hb => by
    obtain ⟨⟨old, he⟩, ⟨o, ho, hc, hd⟩, _⟩ := st
    rcases (show b = e ∨ b = it by simpa using hb) with z | z
    · rw [z]; exact ⟨_, he, fun v q => nomatch q⟩
    · rw [z]; exact ⟨o, ho, fun v q => by rw [hd] at q; cases q⟩
  keep := fun i h h' st k => let ⟨⟨old, he⟩, hi, hne⟩ := st; ⟨⟨old, k e (by simp) _ he⟩, hi.at fun o q => k it (by simp) o q, hne⟩
  item := by
    intro X hP hw hK hc i pins s σ H E I hf st hg
    subst hP hw hK
    obtain ⟨⟨old, he⟩, hit, hne, nea, nai⟩ := st
    obtain ⟨xs, x, hq, hx⟩ := hg
    obtain ⟨its, rv, p, hz⟩ := I.tuple hq
    obtain ⟨u, hu, ru⟩ := rv.get hx
    have hil' := (List.getElem?_eq_some_iff.mp hu).1
    have hel : e < s.heap.objs.size := Heap.lt_size he
    have hil : it < s.heap.objs.size := by obtain ⟨_, q, _⟩ := hit; exact Heap.lt_size q
    have D := Draws.tuple (prog := X.prog) (w := X.w) (A := X.A.in1) (show X.A.in1.handled = none from I.ok.hd hc) it a nai its.toArray
    refine wpAny_pyNext_enum_itemD D he ⟨hit, (show s.heap.IsTuple a its.toArray from p)⟩ (by simpa using hil') hne (by simp [hne, nea]) fun y h' tk hy ho hst hT hsz hk => ?_
    have ey : y = u := by
      have z : its[i]? = some y := by simpa using hy
      rw [hu] at z
      exact (Option.some.inj z).symm
    subst ey
    refine ⟨_, rfl, wpAny_letOwnedTupleGo_enum (s := { s with heap := h', toks := tk + 1 }) ho fun h'' he' sb => ?_⟩
    have hT2 : h''.get? s.heap.objs.size = some { cls := .type "tuple", data := .seq #[.int i tk, y] } := (sb.2 _ (Nat.ne_of_gt hel)).trans hT
    have new : ObjOk X.prog X.w (upd H s.heap.objs.size (.tup [.int (i : Nat), x])) h'' s.heap.objs.size (.tup [.int (i : Nat), x]) :=
      ⟨by show 2 ≤ sizeLine; decide, [.int i tk, y], .cons ⟨_, rfl⟩ (.cons ru .nil), ⟨_, hT2, rfl, _, rfl⟩⟩
    have I1 : Inv X pins σ (upd H s.heap.objs.size (.tup [.int (i : Nat), x])) { s with heap := h'', toks := tk + 1 } :=
      I.turnedNew (ch := [e, it]) (fun b ob hb q => (sb.2 b (fun z => hb (by simp [z]))).trans (hk b ob (fun z => hb (by simp [z])) (fun z => hb (by simp [z])) q)) hf (Nat.le_refl _) new
    refine ⟨.ref s.heap.objs.size, _, I1, rfl, ⟨_, x, rfl, I.hok.fresh (Nat.le_refl _), rfl, fun ys hy => by rw [I.tuple_inj hy hq]; exact hx⟩, ⟨⟨y, ?_⟩, hst.1.at fun o q => (sb.2 it (Ne.symm hne)).trans q, hne, nea, nai⟩, fun b hb => ?_⟩
    · have e1 : ((i + 1 : Nat) : Int) = (i : Int) + 1 := by omega
      rw [e1]; exact he'
    · have hb' : b < s.heap.objs.size := by
        rcases (show b = e ∨ b = it by simpa using hb) with z | z
        · rw [z]; exact hel
        · rw [z]; exact hil
      rw [upd_ne (Nat.ne_of_lt hb')]
      exact (hf b hb).1
  done := by
    intro X hP hw hK hc i pins s σ H E I hf st hg
    subst hP hw hK
    obtain ⟨⟨old, he⟩, hit, hne, nea, nai⟩ := st
    obtain ⟨xs, hq, hx⟩ := hg
    obtain ⟨its, rv, p, hz⟩ := I.tuple hq
    obtain ⟨f0, f1, f2, f3, f4, f5⟩ := hf it (by simp)
    have hl := rv.length
    have hTs : s.TypeIs (.ref e) "enumerate" := ⟨_, he, rfl⟩
    unfold pyNext
    refine wpAny_bind (wpAny_attempt (wpAny_callSpecial?_slot (name := Str.ofString "__next__") hTs F.slot_enumerate_next
      (wpAny_call_entry F.slot_enumerate_next hTs F.entry_enumerate_next ?_ (F.args_enumerate_next_1 _))))
    show wpAny _ _ (field (.ref e) 2 >>= _) _ _ _
    refine wpAny_bind (wpAny_field he rfl (x := .ref it) rfl ?_)
    refine wpAny_bind (wpAny_nextOf_tuple_end (show X.A.in1.handled = none from I.ok.hd hc) hit (show s.heap.IsTuple a its.toArray from p) (by simp; omega) fun h' y eb hx' => ?_)
    obtain ⟨o, ho, hc'⟩ := hx'
    refine wpAny_bind (wpAny_isInstance (T := "StopIteration") (b := true) ⟨o, ho, hc'⟩ isSubtype_stop ?_)
    exact wpAny_pure ⟨rfl, I.turned (t' := s.toks) (fun b o hb q => eb b o hb q) f0 f1 f3 f4 f5⟩
  self := fun A i s Q E st h => let ⟨⟨_, he⟩, _⟩ := st; wpAny_pyIter_enum he h
def iEnumA (K : PySem.W.Frag) (ta : TA) : TI := fun σ H R => ta σ H fun vs H1 => ∃ a, vs = [.ref a] ∧ ((∃ xs, SqL K H1 a xs ∧ R (Ite K a) H1) ∨ (∃ xs, SqT K H1 a xs ∧ R (IteT K a) H1))
theorem pi_enumA {X : Cx} {e : Expr} {ta : TA} {p pos tpos : Pos} {elts : List Expr} {kk : Nat} (hg : Gl X "enumerate") (hm : X.mg "enumerate" = none) (ha : PA X [e] ta) (hs : starEach [e] X.env = [(false, eval e X.env)] := by rfl) :
    PI X (.Tuple elts kk tpos) (.Call (.Name "enumerate" p) [e] [] pos) (iEnumA X.K ta) := by
  refine ⟨fun pins s σ H R I h => ?_⟩
  refine Call_ (ld_blt I hg hm boot_enumerate (PyProof.Rows.callWith_type1 (thn (ha.run pos pins s σ H _ I h) fun us s1 ⟨vs, H1, I1, r1, q1⟩ => ?_) hs rfl))
  obtain ⟨a, ex, q⟩ := q1
  subst ex
  cases r1 with
  | cons r rr =>
    cases rr
    cases r
    have big : ∀ b ∈ [s1.heap.objs.size + 1, s1.heap.objs.size], s1.heap.objs.size ≤ b := fun b hb => by
      rcases (show b = s1.heap.objs.size + 1 ∨ b = s1.heap.objs.size by simpa using hb) with z | z
      · rw [z]; exact Nat.le_add_right _ _
      · rw [z]; exact Nat.le_refl _
    rcases q with ⟨xs, hq, q⟩ | ⟨xs, hq, q⟩
    · obtain ⟨its, rv, p', hz⟩ := I1.list hq
      refine call_enumerate_list p'.isList fun h' he hit hsz hk => wpAny_pyIter_enum he ?_
      have I2 : Inv X pins σ H1 { s1 with heap := h' } := I1.kept (t' := s1.toks) hk
      exact ⟨s1.heap.objs.size + 1, [s1.heap.objs.size + 1, s1.heap.objs.size], _, _, H1, rfl, I2, turn_enum a (s1.heap.objs.size + 1) s1.heap.objs.size, ⟨⟨.none, he⟩, hit, Nat.succ_ne_self _⟩, fun b hb => I1.fpOk (big b hb) (I1.hok.fresh (big b hb)), q⟩
    · obtain ⟨its, rv, p', hz⟩ := I1.tuple hq
      have hp : s1.heap.IsTuple a its.toArray := p'
      have hal : a < s1.heap.objs.size := by obtain ⟨_, q, _⟩ := hp; exact Heap.lt_size q
      refine enum_begins1 (begins_tuple a its.toArray) hp fun h' he hit hsz hk => wpAny_pyIter_enum he ?_
      have I2 : Inv X pins σ H1 { s1 with heap := h' } := I1.kept (t' := s1.toks) hk
      exact ⟨s1.heap.objs.size + 1, [s1.heap.objs.size + 1, s1.heap.objs.size], _, _, H1, rfl, I2, turn_enumT a (s1.heap.objs.size + 1) s1.heap.objs.size, ⟨⟨.none, he⟩, ⟨_, hit, rfl, rfl⟩, Nat.succ_ne_self _, Nat.ne_of_gt (Nat.lt_succ_of_lt hal), Nat.ne_of_lt hal⟩, fun b hb => I1.fpOk (big b hb) (I1.hok.fresh (big b hb)), q⟩
section
variable {K : PySem.W.Frag} {a : Addr} {xs : List V} {g : TG} {tb : TS} {D : Ends} {σ : L2.St} {H : Hp}
theorem for_enumL (Pv : Nat → L2.St → Hp → Prop) (h0 : Pv 0 σ H) (hl : ∀ i σ H, i ≤ xs.length → Pv i σ H → SqL K H a xs)
    (hs : ∀ i x T σ H, xs[i]? = some x → H T = none → Pv i σ H → g (.ref T) σ (upd H T (.tup [.int (i : Nat), x])) fun σ2 H2 => tb { D with nx := Pv (i + 1), ct := Pv (i + 1), bk := D.nx } σ2 H2) (hd : ∀ σ H, Pv xs.length σ H → D.nx σ H) :
    ∃ W : Nat → Nat → L2.St → Hp → Prop, (∃ m, W 0 m σ H) ∧ ∀ i m σ H, W i m σ H →
      ((Ite K a).stop i H ∧ D.nx σ H) ∨ ((Ite K a).go i H ∧ ∃ N : L2.St → Hp → Prop, (∀ σ' H', N σ' H' → ∃ m', m' < m ∧ W (i + 1) m' σ' H') ∧ ∀ x H', (Ite K a).yld i H x H' → g x σ H' fun σ2 H2 => tb { D with nx := N, ct := N, bk := D.nx } σ2 H2) := by
  refine ⟨fun i m σ H => m = xs.length - i ∧ i ≤ xs.length ∧ Pv i σ H, ⟨xs.length, by simp, Nat.zero_le _, h0⟩, ?_⟩
  rintro i m σ H ⟨rfl, hi, p⟩
  have q := hl i σ H hi p
  by_cases hlt : i < xs.length
  · refine .inr ⟨⟨xs, xs[i], q, by simp [hlt]⟩, Pv (i + 1), fun σ' H' p' => ⟨xs.length - (i + 1), by omega, rfl, hlt, p'⟩, fun x H' y => ?_⟩
    obtain ⟨T, x', e1, e2, e3, e4⟩ := y
    subst e1 e3
    exact hs i x' T σ H (e4 xs q) e2 p
  · have e : i = xs.length := by omega
    subst e
    exact .inl ⟨⟨xs, q, Nat.le_refl _⟩, hd σ H p⟩
theorem for_enumT (Pv : Nat → L2.St → Hp → Prop) (h0 : Pv 0 σ H) (hl : ∀ i σ H, i ≤ xs.length → Pv i σ H → SqT K H a xs)
    (hs : ∀ i x T σ H, xs[i]? = some x → H T = none → Pv i σ H → g (.ref T) σ (upd H T (.tup [.int (i : Nat), x])) fun σ2 H2 => tb { D with nx := Pv (i + 1), ct := Pv (i + 1), bk := D.nx } σ2 H2) (hd : ∀ σ H, Pv xs.length σ H → D.nx σ H) :
    ∃ W : Nat → Nat → L2.St → Hp → Prop, (∃ m, W 0 m σ H) ∧ ∀ i m σ H, W i m σ H →
      ((IteT K a).stop i H ∧ D.nx σ H) ∨ ((IteT K a).go i H ∧ ∃ N : L2.St → Hp → Prop, (∀ σ' H', N σ' H' → ∃ m', m' < m ∧ W (i + 1) m' σ' H') ∧ ∀ x H', (IteT K a).yld i H x H' → g x σ H' fun σ2 H2 => tb { D with nx := N, ct := N, bk := D.nx } σ2 H2) := by
  refine ⟨fun i m σ H => m = xs.length - i ∧ i ≤ xs.length ∧ Pv i σ H, ⟨xs.length, by simp, Nat.zero_le _, h0⟩, ?_⟩
  rintro i m σ H ⟨rfl, hi, p⟩
  have q := hl i σ H hi p
  by_cases hlt : i < xs.length
  · refine .inr ⟨⟨xs, xs[i], q, by simp [hlt]⟩, Pv (i + 1), fun σ' H' p' => ⟨xs.length - (i + 1), by omega, rfl, hlt, p'⟩, fun x H' y => ?_⟩
    obtain ⟨T, x', e1, e2, e3, e4⟩ := y
    subst e1 e3
    exact hs i x' T σ H (e4 xs q) e2 p
  · have e : i = xs.length := by omega
    subst e
    exact .inl ⟨⟨xs, q, Nat.le_refl _⟩, hd σ H p⟩
end
/-! ### repr -/
/-- repr of what is no object -/
def rReprS : List V → Hp → VK → Prop := fun xs H Q => ∃ v, xs = [v] ∧ ((v = .non ∧ Q (.str "None") H) ∨ (∃ b : Bool, v = .bl b ∧ Q (.str (if b then "True" else "False")) H) ∨ (∃ i : Int, v = .int i ∧ i.natAbs.log2 < 1920 ∧ Q (.str (toString i)) H) ∨
  ∃ x : Str, v = .str x ∧ (reprText x).length ≤ sizeLine ∧ Q (.str (reprText x)) H)
theorem call_reprS {X : Cx} : CallR X (.builtin "repr") rReprS := by
  intro pins s σ H xs us Q I r h
  obtain ⟨v, rfl, h⟩ := h
  obtain ⟨u, rfl, rv⟩ := vals1 r
  rcases h with ⟨rfl, q⟩ | ⟨b, rfl, q⟩ | ⟨i, rfl, hz, q⟩ | ⟨x, rfl, hz, q⟩
  · cases rv
    exact PySem.P.repr_of_none ⟨.str _, H, I.tok _, ⟨_, rfl⟩, q⟩
  · cases rv
    exact PySem.P.repr_of_bool ⟨.str _, H, I.tok _, ⟨_, rfl⟩, q⟩
  · obtain ⟨t, rfl⟩ := rv
    exact PySem.P.repr_of_int hz ⟨.str _, H, I.tok _, ⟨_, rfl⟩, q⟩
  · obtain ⟨t, rfl⟩ := rv
    exact PySem.P.repr_of_str (t := t) ⟨.str _, H, I.tok _, ⟨_, rfl⟩, q⟩ hz
/-- repr of a list or tuple: plain data without dicts -/
def rRepr (K : PySem.W.Frag) : List V → Hp → VK → Prop := fun xs H Q => ∃ a d, xs = [.ref a] ∧ Dp K H (.ref a) d ∧ PyData.showable d = true ∧ PyData.hasDict d = false ∧ PyData.depth d ≤ 40 ∧ d.shown.length ≤ sizeLine ∧ Q (.str d.shown) H
theorem call_repr {X : Cx} (hg : X.A.guards = some []) (hu : X.A.units + 64 < cLine) : CallR X (.builtin "repr") (rRepr X.K) := by
  intro pins s σ H xs us Q I r h
  obtain ⟨a, d, rfl, hd, h1, h2, h3, h4, q⟩ := h
  obtain ⟨u, rfl, rv⟩ := vals1 r
  obtain ⟨as, R⟩ := Dp.reads I d _ u hd rv
  cases rv
  exact repr_of_reads' R h1 (PyData.noDict_hsm h2) hg (by omega) (fun _ _ e => e) (fun h' u' tk k => ⟨.str _, H, I.kept (t' := tk) k, ⟨_, rfl⟩, q⟩) h4
/-! ### isinstance of the exception that a suite holds, its own dict at d -/
structure ExcK (K : PySem.W.Frag) (C : Addr) : Prop where
  cl : (PySem.W.clsIn K C).isSome = true
  ga : PySem.W.findIn K (.ref C) "__getattribute__" = some (some (.builtin "BaseException.__getattribute__"))
  gt : PySem.W.findIn K (.ref C) "__getattr__" = some none
  sb : PySem.W.subIn K (.ref C) (.type "BaseException") = some true
  ca : PySem.W.findIn K (.ref C) "__class__" = some (some (.builtin "object.__class__"))
  sp : PySem.W.specialIn K (.builtin "object.__class__") "__get__" = some (some (.builtin "getset_descriptor.__get__"))
  tk : PySem.W.takesIn K (.builtin "object.__class__") = some true
  mo : PySem.W.mroIn K C (.type "object") = some true
def rIsD (K : PySem.W.Frag) (C d a : Addr) : List V → Hp → VK → Prop := fun xs H Q => ∃ (N : Addr) (g : Str) (v : V) (b : Bool), xs = [.ref a, .ref N] ∧ H d = some (.xd [(g, v)]) ∧ PySem.W.kitOne K (.ref C) (.ref N) = some b ∧ Q (.bl b) H
theorem call_isD {X : Cx} {a C d : Addr} {oe : Obj} {pn : List (Addr × Obj)} (T : ExcK X.K C) (hz : Zc (.ref C) (some d) oe) (hf : ∃ vs, oe.data = .fields vs) : CallR (X.suite a ((a, oe) :: pn)) (.builtin "isinstance") (rIsD X.K C d a) := by
  intro pins s σ H xs us Q I r h
  obtain ⟨N, g, v, b, rfl, hx, e, q⟩ := h
  obtain ⟨u1, u2, rfl, r1, r2⟩ := vals2 r
  cases r1
  cases r2
  obtain ⟨hget, _⟩ := I.pin (a, oe) (List.mem_append.mpr (.inl List.mem_cons_self))
  obtain ⟨vs, hd⟩ := hf
  have hx' : ObjOk X.prog X.w H s.heap d (.xd [(g, v)]) := I.hok d _ hx
  obtain ⟨mA, hns, hr⟩ := hx'
  obtain ⟨od, ho, hl⟩ := lookIn_ns hns
  have J : PySem.W.InstAt s.heap a oe C (some od) := ⟨hget, hz.1, by unfold PySem.W.notCls; rw [hd] <;> rfl, by rw [hz.2]; exact ho⟩
  exact PySem.W.kia_one (PySem.W.kitx_exc T.cl T.ga T.gt T.sb T.ca T.sp T.tk T.mo) I.kIn J e (fun z => nomatch z) fun tk => ⟨.bl b, H, I.kept (t' := tk) fun _ _ z => z, rfl, q⟩
/-! ### defs whose bodies show lists: they are told where nothing is being shown -/
structure FnG (P : Program) (w : World) (K : PySem.W.Frag) (mg : Str → Option Value) (base : Heap) (k : Nat) (f : Addr) (fd : FuncData) (ps : List Str) (sp : Sp) : Prop where
  len : ∀ vs H Q E, sp vs H Q E → vs.length = ps.length
  run : ∀ (A : Around) (outer : List Env) (s : Shared) (H : Hp) (args : Args) (us : List Value) (vs : List V) (Q : VK) (E : XK), Room k A → A.guards = some [] → Env0 P w K mg base A outer s H → BindsTo s fd args (ps.zip us) → Vals vs us → sp vs H Q E →
    codeAny (model P w) A (.call (.ref f) args) (CR CX0 outer P w H s Q E) s
end K1
/-! the text by places; short words for calls -/
namespace K1
open PySem PySem.Spec PyProof.Rows L2
def top (i : Nat) : Stmt := PySem.Challenge.pw_houseslessties_k08_whole_orbits_as_table.main.body.getD i (.Pass ⟨0, 0, 0, 0⟩)
abbrev sWhole : Stmt := top 8
abbrev sBelow : Stmt := top 9
abbrev sSeq : Stmt := top 10
abbrev sFnb : Stmt := top 11
abbrev sMInit : Stmt := inClass (top 15) 0
abbrev sMEq : Stmt := inClass (top 15) 1
abbrev sIsTab : Stmt := top 16
abbrev sChk : Stmt := top 17
abbrev sNeedS : Stmt := top 18
abbrev sFirst : Stmt := top 19
abbrev sOrbit : Stmt := top 20
abbrev sBox : Stmt := top 37
abbrev sTake : Stmt := top 38
abbrev sPick : Stmt := top 39
abbrev sTabs : Stmt := top 40
abbrev sLaw : Stmt := top 48
abbrev sJoin : Stmt := top 22
abbrev sNeedSs : Stmt := top 23
abbrev sJoined : Stmt := top 24
abbrev sParting : Stmt := top 25
abbrev sTPaper : Stmt := top 26
abbrev sIsTell : Stmt := top 27
abbrev sTOrb : Stmt := top 29
abbrev sOTab : Stmt := top 30
abbrev sJRow : Stmt := top 31
abbrev sIsEx : Stmt := top 32
abbrev sGPap : Stmt := top 33
abbrev sInv : Stmt := top 34
abbrev sTJoin : Stmt := top 35
abbrev sMaps : Stmt := top 41
abbrev sLEnds : Stmt := top 42
abbrev sLTells : Stmt := top 43
abbrev sHeard : Stmt := top 44
abbrev sUntR : Stmt := top 45
abbrev sTabR : Stmt := top 46
abbrev sBackR : Stmt := top 47
abbrev sUInit : Stmt := inClass (top 5) 0
/-- a def of the text: its object, its name in the module, how its arguments bind -/
structure Df (K : PySem.W.Frag) (mg : Str → Option Value) (x : Str) (st : Stmt) (ps : List Str) (f : Addr) (fd : FuncData) : Prop where
  F : Fun K x x st f fd
  g : mg x = some (.ref f)
  b : Binds K fd ps []
section
variable {X : Cx} {CX : CXT} {k : Nat} {f : Addr} {fd : FuncData} {ps : List Str} {sp : Sp} {E : XK} {x : Str} {st : Stmt} {p pos : Pos} {e : Expr} {es : List Expr} {t : TA}
/-- x(e, ..) -/
theorem pc (D : Df X.K X.mg x st ps f fd) (G : FnOk X.prog X.w X.K X.mg X.base CX k f fd ps sp) (hr : Room k X.A) (hx : Passes CX X E) (ha : PA X (e :: es) t) (hg : Gl X x := by rfl)
    (hdb : (x == ("__debug__" : Str)) = false := by decide) (he : starEach (e :: es) X.env = (false, eval e X.env) :: starEach es X.env := by rfl) (hpl : (backTo pos (starEach es X.env)).any (·.1) = false := by rfl) :
    PE X (.Call (.Name x p) (e :: es) [] pos) (tCall sp [] E t) := pe_call G hr hg D.g D.F.kp D.b .nil hx ha hdb he hpl
end
/-- what a def that raises may let out at its caller's def -/
theorem pass1 {X : Cx} {E : XK} (tk : Takes X (fun cls d _ H => E cls d H)) : Passes (L2.CX X.prog X.w) X E := passes_call tk fun _ _ _ _ h => h
/-! ### tests by cases -/
theorem ifD {c : Bool} {A B : Prop} (h1 : c = true → A) (h2 : c = false → B) : if c = true then A else B := by
  cases c with
  | true => exact iteT (h1 rfl)
  | false => exact iteF (h2 rfl)
theorem eqv {α : Type} {P : α → Prop} {a b : α} (e : a = b) (h : P b) : P a := e ▸ h
theorem qbl {Q : VK} {H : Hp} {a b : Bool} (e : a = b) (h : Q (.bl b) H) : Q (.bl a) H := e ▸ h
/-! ### values of any kind -/
/-- what a value is: some items for a list or a tuple, none for the others -/
inductive KV (K : PySem.W.Frag) (H : Hp) : V → Option (List V) → Prop
  | int (i : Int) : KV K H (.int i) none
  | bl (b : Bool) : KV K H (.bl b) none
  | non : KV K H .non none
  | str (x : Str) : KV K H (.str x) none
  | lst {a : Addr} {xs : List V} (h : H a = some (.lst xs)) : KV K H (.ref a) (some xs)
  | tup {a : Addr} {xs : List V} (h : H a = some (.tup xs)) : KV K H (.ref a) (some xs)
theorem KV.same {K : PySem.W.Frag} {H H' : Hp} {v : V} {o : Option (List V)} (h : KV K H v o) (s : Same H H') : KV K H' v o := by
  cases h with
  | int i => exact .int i
  | bl b => exact .bl b
  | non => exact .non
  | str x => exact .str x
  | lst h => exact .lst (s _ _ h)
  | tup h => exact .tup (s _ _ h)
def wholeB : V → Bool | .int _ => true | _ => false
def boolB : V → Bool | .bl _ => true | _ => false
inductive Tg where | i | b | n | s | l | t
def Tg.nm : Tg → String | .i => "int" | .b => "bool" | .n => "NoneType" | .s => "str" | .l => "list" | .t => "tuple"
def Tg.isI : Tg → Bool | .i => true | _ => false
def Tg.isB : Tg → Bool | .b => true | _ => false
def Tg.isQ : Tg → Bool | .l => true | .t => true | _ => false
theorem KV.ty {K : PySem.W.Frag} {H : Hp} {v : V} {o : Option (List V)} (h : KV K H v o) : ∃ g : Tg, TyX K H v (.type g.nm) ∧ g.isI = wholeB v ∧ g.isB = boolB v ∧ g.isQ = o.isSome := by
  cases h with
  | int i => exact ⟨.i, .base (.int i), rfl, rfl, rfl⟩
  | bl b => exact ⟨.b, .base (.bl b), rfl, rfl, rfl⟩
  | non => exact ⟨.n, .base .non, rfl, rfl, rfl⟩
  | str x => exact ⟨.s, .base (.str x), rfl, rfl, rfl⟩
  | lst h => exact ⟨.l, .base (.lst h), rfl, rfl, rfl⟩
  | tup h => exact ⟨.t, .base (.tup h), rfl, rfl, rfl⟩
theorem kit_I (K : PySem.W.Frag) (g : Tg) : PySem.W.kitOne K (.type g.nm) (.type "int") = some (g.isI || g.isB) := by
  cases g <;> exact kit_ty (by decide +kernel)
theorem kit_B (K : PySem.W.Frag) (g : Tg) : PySem.W.kitOne K (.type g.nm) (.type "bool") = some g.isB := by
  cases g <;> exact kit_ty (by decide +kernel)
def Tg.isL : Tg → Bool | .l => true | _ => false
def Tg.isT : Tg → Bool | .t => true | _ => false
theorem kit_L (K : PySem.W.Frag) (g : Tg) : PySem.W.kitOne K (.type g.nm) (.type "list") = some g.isL := by
  cases g <;> exact kit_ty (by decide +kernel)
theorem kit_T (K : PySem.W.Frag) (g : Tg) : PySem.W.kitOne K (.type g.nm) (.type "tuple") = some g.isT := by
  cases g <;> exact kit_ty (by decide +kernel)
theorem kit_Q (K : PySem.W.Frag) (g : Tg) : PySem.W.kitAny K (.type g.nm) [.type "list", .type "tuple"] = some g.isQ := by
  refine kitAny_cons (kit_L K g) (fun e => kitAny_cons (kit_T K g) (fun e2 => ?_) fun e2 => ?_) fun e => ?_
  all_goals (cases g <;> first | rfl | (cases e; done) | (cases e2; done))
/-- the built-in names that the text uses are the built-in ones -/
structure Bt (mg : Str → Option Value) : Prop where
  isinstance : mg "isinstance" = none
  int : mg "int" = none
  bool : mg "bool" = none
  list : mg "list" = none
  tuple : mg "tuple" = none
  len : mg "len" = none
  enumerate : mg "enumerate" = none
  range : mg "range" = none
  sorted : mg "sorted" = none
  set : mg "set" = none
  repr : mg "repr" = none
  abs : mg "abs" = none
  min : mg "min" = none
  max : mg "max" = none
end K1
namespace K1
open PySem PySem.Spec PyProof.Rows L2
def belowB (v : V) (lim : Int) : Bool := match v with | .int i => decide (0 ≤ i) && decide (i < lim) | _ => false
def seqB (o : Option (List V)) (least most : Int) : Bool := match o with | some xs => decide (least ≤ (xs.length : Int)) && decide ((xs.length : Int) ≤ most) | none => false
def spWhole (K : PySem.W.Frag) : Sp := fun vs H Q _ => ∃ v o, vs = [v] ∧ KV K H v o ∧ Q (.bl (wholeB v)) H
def spBelow (K : PySem.W.Frag) : Sp := fun vs H Q _ => ∃ v o lim, vs = [v, .int lim] ∧ KV K H v o ∧ Q (.bl (belowB v lim)) H
def spSeq (K : PySem.W.Frag) : Sp := fun vs H Q _ => ∃ v o least most, vs = [v, .int least, .int most] ∧ KV K H v o ∧ ∀ H', Same H H' → Q (.bl (seqB o least most)) H'
section
variable {P : Program} {w : World} {K : PySem.W.Frag} {mg : Str → Option Value} {base : Heap}
theorem scW : FnScope ["value"] ["value"] (defScope sWhole) := ⟨rfl, rfl, rfl, by decide +kernel, rfl, by decide +kernel, by decide +kernel⟩
theorem ok_whole {f : Addr} {fd : FuncData} (D : Df K mg "is_whole" sWhole ["value"] f fd) (B : Bt mg) : FnOk P w K mg base CX0 1 f fd ["value"] (spWhole K) := by
  refine D.F.ok scW (fun vs H Q E h => ?_) (fun cdv A outer s H vs Q E hr h => ?_)
  · obtain ⟨v, o, rfl, _⟩ := h
    rfl
  · obtain ⟨v, o, rfl, kv, q⟩ := h
    obtain ⟨g, ty, eI, eB, eQ⟩ := kv.ty
    refine ⟨_, pss_one (ps_ret (pe_and (pe_callB call_isi (by rfl) B.isinstance (by decide +kernel) (pa_cons (pv 0) (pa_cons (pe_bltn (v := .ty "int") (by rfl) B.int PyProof.Rows.boot_int rfl) pa_nil)))
      (pe_one (pe_not (pe_callB call_isi (by rfl) B.isinstance (by decide +kernel) (pa_cons (pv 0) (pa_cons (pe_bltn (v := .ty "bool") (by rfl) B.bool PyProof.Rows.boot_bool rfl) pa_nil))))))), ?_⟩
    refine ⟨_, rfl, _, _, _, _, _, rfl, .ty _, ty, kit_I K g, _, rfl, ifD (fun e => ?_) fun e => ?_⟩
    · refine ⟨_, rfl, _, _, _, _, _, rfl, .ty _, ty, kit_B K g, _, rfl, ?_⟩
      have z : (!g.isB) = wholeB v := by rw [← eI]; cases g <;> first | rfl | cases e
      exact qbl z q
    · have z : false = wholeB v := by rw [← eI]; cases g <;> first | rfl | cases e
      exact qbl z q
theorem scB : FnScope ["value", "limit"] ["value", "limit"] (defScope sBelow) := ⟨rfl, rfl, rfl, by decide +kernel, rfl, by decide +kernel, by decide +kernel⟩
theorem ok_below {f fW : Addr} {fd fdW : FuncData} (D : Df K mg "is_below" sBelow ["value", "limit"] f fd) (DW : Df K mg "is_whole" sWhole ["value"] fW fdW) (B : Bt mg) : FnOk P w K mg base CX0 2 f fd ["value", "limit"] (spBelow K) := by
  have GW : FnOk P w K mg base CX0 1 fW fdW ["value"] (spWhole K) := ok_whole DW B
  refine D.F.ok scB (fun vs H Q E h => ?_) (fun cdv A outer s H vs Q E hr h => ?_)
  · obtain ⟨v, o, lim, rfl, _⟩ := h
    rfl
  · obtain ⟨v, o, lim, rfl, kv, q⟩ := h
    refine ⟨_, pss_one (ps_ret (pe_and (pc DW GW hr pass0 (pa_cons (pv 0) pa_nil)) (pe_one (pe_chain op_le op_lt pe_int (pv 0) (pv 1))))), ?_⟩
    refine ⟨_, rfl, _, _, rfl, kv, _, rfl, ifD (fun e => ?_) fun e => ?_⟩
    · obtain ⟨i, rfl⟩ : ∃ i, v = .int i := by
        cases v <;> first | exact ⟨_, rfl⟩ | cases e
      refine ⟨_, rfl, _, _, rfl, rfl, _, rfl, ifD (fun e2 => ?_) fun e2 => ?_⟩
      · refine ⟨_, rfl, _, _, rfl, rfl, ?_⟩
        have z : decide (i < lim) = belowB (.int i) lim := by
          show _ = (decide (0 ≤ i) && decide (i < lim))
          rw [e2]; rfl
        exact qbl z q
      · have z : false = belowB (.int i) lim := by
          show _ = (decide (0 ≤ i) && decide (i < lim))
          rw [e2]; rfl
        exact qbl z q
    · have z : false = belowB v lim := by cases v <;> first | rfl | cases e
      exact qbl z q
theorem scS : FnScope ["value", "least", "most"] ["value", "least", "most"] (defScope sSeq) := ⟨rfl, rfl, rfl, by decide +kernel, rfl, by decide +kernel, by decide +kernel⟩
theorem ok_seq {f : Addr} {fd : FuncData} (D : Df K mg "is_sequence" sSeq ["value", "least", "most"] f fd) (B : Bt mg) : FnOk P w K mg base CX0 1 f fd ["value", "least", "most"] (spSeq K) := by
  refine D.F.ok scS (fun vs H Q E h => ?_) (fun cdv A outer s H vs Q E hr h => ?_)
  · obtain ⟨v, o, least, most, rfl, _⟩ := h
    rfl
  · obtain ⟨v, o, least, most, rfl, kv, q⟩ := h
    refine ⟨_, pss_one (ps_ret (pe_and (pe_callB call_isiT (by rfl) B.isinstance (by decide +kernel) (pa_cons (pv 0) (pa_cons (pe_tup (pa_cons (pe_bltn (v := .ty "list") (by rfl) B.list PyProof.Rows.boot_list rfl) (pa_cons (pe_bltn (v := .ty "tuple") (by rfl) B.tuple PyProof.Rows.boot_tuple rfl) pa_nil))) pa_nil)))
      (pe_one (pe_chain op_le op_le (pv 1) (pe_callB call_len_seq (by rfl) B.len PySem.boot_len (pa_cons (pv 0) pa_nil)) (pv 2))))), ?_⟩
    refine ⟨_, rfl, (by show 2 ≤ sizeLine; decide), fun p hp => ?_⟩
    have sm : Same H (upd H p (.tup [.ty "list", .ty "tuple"])) := fun b o e => by rw [upd_ne (ne_of_none e hp)]; exact e
    obtain ⟨g, ty, eI, eB, eQ⟩ := (kv.same sm).ty
    refine ⟨_, _, _, _, _, _, rfl, upd_same, .cons (.ty _) (.cons (.ty _) .nil), ty, kit_Q K g, _, rfl, ifD (fun e => ?_) fun e => ?_⟩
    · have kv2 := kv.same sm
      generalize hH1 : upd H p (.tup [.ty "list", .ty "tuple"]) = H1 at *
      rw [eQ] at e
      have q2 := q _ sm
      cases kv with
      | lst h =>
        rename_i a xs
        have h1 : H1 a = some (.lst xs) := sm _ _ h
        refine ⟨_, rfl, _, rfl, _, _, rfl, .inl (SqL.of h1), _, _, rfl, rfl, _, rfl, ifD (fun e2 => ?_) fun e2 => ?_⟩
        · refine ⟨_, rfl, _, _, rfl, rfl, qbl ?_ q2⟩
          show _ = (decide (least ≤ (xs.length : Int)) && decide ((xs.length : Int) ≤ most))
          rw [e2]; rfl
        · refine qbl ?_ q2
          show _ = (decide (least ≤ (xs.length : Int)) && decide ((xs.length : Int) ≤ most))
          rw [e2]; rfl
      | tup h =>
        rename_i a xs
        have h1 : H1 a = some (.tup xs) := sm _ _ h
        refine ⟨_, rfl, _, rfl, _, _, rfl, .inr (SqT.of h1), _, _, rfl, rfl, _, rfl, ifD (fun e2 => ?_) fun e2 => ?_⟩
        · refine ⟨_, rfl, _, _, rfl, rfl, qbl ?_ q2⟩
          show _ = (decide (least ≤ (xs.length : Int)) && decide ((xs.length : Int) ≤ most))
          rw [e2]; rfl
        · refine qbl ?_ q2
          show _ = (decide (least ≤ (xs.length : Int)) && decide ((xs.length : Int) ≤ most))
          rw [e2]; rfl
      | _ => cases e
    · rw [eQ] at e
      have z : o = none := by cases o <;> first | rfl | cases e
      subst z
      exact q _ sm
end
end K1
namespace K1
open PySem PySem.Spec PyProof.Rows L2
def fnb (xs : List V) (lim : Int) : V := match xs.findIdx? (fun x => !belowB x lim) with | some i => .int (i : Nat) | none => .non
theorem fnb_at {xs : List V} {lim : Int} {i : Nat} {x : V} (hx : xs[i]? = some x) (hn : belowB x lim = false) (hb : ∀ j y, j < i → xs[j]? = some y → belowB y lim = true) : fnb xs lim = .int (i : Nat) := by
  obtain ⟨hi, ex⟩ := List.getElem?_eq_some_iff.mp hx
  have e : xs.findIdx? (fun x => !belowB x lim) = some i := by
    rw [List.findIdx?_eq_some_iff_getElem]
    refine ⟨hi, by rw [ex, hn]; rfl, fun j hj => ?_⟩
    have hj' : j < xs.length := Nat.lt_trans hj hi
    have := hb j xs[j] hj (by simp [hj'])
    simp [this]
  unfold fnb
  rw [e]
theorem fnb_none {xs : List V} {lim : Int} (hb : ∀ j y, j < xs.length → xs[j]? = some y → belowB y lim = true) : fnb xs lim = .non := by
  have e : xs.findIdx? (fun x => !belowB x lim) = none := by
    rw [List.findIdx?_eq_none_iff]
    intro x hx
    obtain ⟨j, hj, e⟩ := List.mem_iff_getElem.mp hx
    have := hb j xs[j] hj (by simp [hj])
    rw [← e, this]; rfl
  unfold fnb
  rw [e]
/-- a list or tuple at a -/
def SeqA (H : Hp) (a : Addr) (xs : List V) : Prop := H a = some (.lst xs) ∨ H a = some (.tup xs)
theorem SeqA.same {H H' : Hp} {a : Addr} {xs : List V} (h : SeqA H a xs) (s : Same H H') : SeqA H' a xs := h.elim (fun h => .inl (s _ _ h)) fun h => .inr (s _ _ h)
theorem SeqA.kv {K : PySem.W.Frag} {H : Hp} {a : Addr} {xs : List V} (h : SeqA H a xs) : KV K H (.ref a) (some xs) := h.elim .lst .tup
/-- each item is of some kind -/
def Kinds (K : PySem.W.Frag) (H : Hp) (xs : List V) : Prop := ∀ x ∈ xs, ∃ o, KV K H x o
theorem Kinds.same {K : PySem.W.Frag} {H H' : Hp} {xs : List V} (h : Kinds K H xs) (s : Same H H') : Kinds K H' xs := fun x hx => let ⟨o, k⟩ := h x hx; ⟨o, k.same s⟩
theorem same_new {H : Hp} {p : Addr} {o : HO} (hp : H p = none) : Same H (upd H p o) := fun b u e => by rw [upd_ne (ne_of_none e hp)]; exact e
def spFnb (K : PySem.W.Frag) : Sp := fun vs H Q _ => ∃ a xs lim, vs = [.ref a, .int lim] ∧ SeqA H a xs ∧ Kinds K H xs ∧ ∀ H', Same H H' → Q (fnb xs lim) H'
section
variable {P : Program} {w : World} {K : PySem.W.Frag} {mg : Str → Option Value} {base : Heap}
theorem scF : FnScope ["items", "limit", "at", "item"] ["items", "limit"] (defScope sFnb) := ⟨rfl, rfl, rfl, by decide +kernel, rfl, by decide +kernel, by decide +kernel⟩
/-- one turn of the search, and the way behind it: the iterator is a list's or a tuple's -/
theorem ok_fnb {f fB : Addr} {fd fdB : FuncData} (D : Df K mg "first_not_below" sFnb ["items", "limit"] f fd) (DB : Df K mg "is_below" sBelow ["value", "limit"] fB fdB) (B : Bt mg)
    (GB : FnOk P w K mg base CX0 2 fB fdB ["value", "limit"] (spBelow K)) : FnOk P w K mg base CX0 3 f fd ["items", "limit"] (spFnb K) := by
  refine D.F.ok scF (fun vs H Q E h => ?_) (fun cdv A outer s H vs Q E hr h => ?_)
  · obtain ⟨a, xs, lim, rfl, _⟩ := h
    rfl
  · obtain ⟨a, xs, lim, rfl, hS, hK, q⟩ := h
    refine ⟨_, pss_cons (ps_for PassesOwn.never rfl (pi_enumA (by rfl) B.enumerate (pa_cons (pv 0) pa_nil))
        (pg_tup rfl (pgs_cons (pg_name (i := 2) scF.nd rfl (.inl rfl)) (pgs_cons (pg_name (i := 3) scF.nd rfl (.inl rfl)) pgs_nil)))
        (pss_one (ps_if (pt_not (pt_val (pc DB GB hr pass0 (pa_cons (pv 3) (pa_cons (pv 1) pa_nil))))) (pss_one (ps_ret (pv 2))) pss_nil)))
      (pss_one (ps_ret pe_non)), ?_⟩
    let Pv : Nat → L2.St → Hp → Prop := fun i σ H' => ∃ v2 v3 : Option V, σ = [some (.ref a), some (.int lim), v2, v3] ∧ Same H H' ∧ ∀ j y, j < i → xs[j]? = some y → belowB y lim = true
    have end_ : ∀ σ H', Pv xs.length σ H' → Q .non H' := fun σ H' ⟨v2, v3, _, sm, hb⟩ => by
      have := q H' sm
      rw [fnb_none hb] at this
      exact this
    refine ⟨_, rfl, a, rfl, ?_⟩
    rcases hS with hS | hS
    · refine .inl ⟨xs, SqL.of hS, for_enumL (K := K) Pv ⟨none, none, rfl, Same.refl H, fun j y hj => absurd hj (Nat.not_lt_zero _)⟩ (fun i σ H' _ ⟨_, _, _, sm, _⟩ => SqL.of (sm _ _ hS)) ?_ end_⟩
      rintro i x T σ H' hx hT ⟨v2, v3, rfl, sm, hb⟩
      have sm2 : Same H (upd H' T (.tup [.int (i : Nat), x])) := sm.trans (same_new hT)
      obtain ⟨o, kv⟩ := hK x (List.mem_of_getElem? hx)
      refine ⟨T, _, rfl, SqT.of upd_same, rfl, _, _, rfl, _, _, rfl, rfl, ?_⟩
      refine ⟨_, rfl, _, rfl, _, o, lim, rfl, kv.same sm2, _, rfl, ?_⟩
      refine ifD (fun e => ?_) fun e => ?_
      · refine ⟨_, rfl, ?_⟩
        have e' : belowB x lim = false := by simpa using e
        have := q _ sm2
        rw [fnb_at hx e' hb] at this
        exact this
      · have e' : belowB x lim = true := by simpa using e
        refine ⟨_, _, rfl, sm2, fun j y hj hy => ?_⟩
        rcases Nat.lt_succ_iff_lt_or_eq.mp hj with z | z
        · exact hb j y z hy
        · subst z
          rw [hx] at hy
          rw [← Option.some.inj hy]
          exact e'
    · refine .inr ⟨xs, SqT.of hS, for_enumT (K := K) Pv ⟨none, none, rfl, Same.refl H, fun j y hj => absurd hj (Nat.not_lt_zero _)⟩ (fun i σ H' _ ⟨_, _, _, sm, _⟩ => SqT.of (sm _ _ hS)) ?_ end_⟩
      rintro i x T σ H' hx hT ⟨v2, v3, rfl, sm, hb⟩
      have sm2 : Same H (upd H' T (.tup [.int (i : Nat), x])) := sm.trans (same_new hT)
      obtain ⟨o, kv⟩ := hK x (List.mem_of_getElem? hx)
      refine ⟨T, _, rfl, SqT.of upd_same, rfl, _, _, rfl, _, _, rfl, rfl, ?_⟩
      refine ⟨_, rfl, _, rfl, _, o, lim, rfl, kv.same sm2, _, rfl, ?_⟩
      refine ifD (fun e => ?_) fun e => ?_
      · refine ⟨_, rfl, ?_⟩
        have e' : belowB x lim = false := by simpa using e
        have := q _ sm2
        rw [fnb_at hx e' hb] at this
        exact this
      · have e' : belowB x lim = true := by simpa using e
        refine ⟨_, _, rfl, sm2, fun j y hj hy => ?_⟩
        rcases Nat.lt_succ_iff_lt_or_eq.mp hj with z | z
        · exact hb j y z hy
        · subst z
          rw [hx] at hy
          rw [← Option.some.inj hy]
          exact e'
end
end K1
namespace K1
open PySem PySem.Spec PyProof.Rows L2
/-- the module's numbers -/
structure Ct (mg : Str → Option Value) : Prop where
  tabs : ∃ t, mg "MOST_TABLES" = some (.int 8 t)
  states : ∃ t, mg "MOST_STATES" = some (.int 12 t)
/-- a walk over a list or a tuple -/
def iSeqA (K : PySem.W.Frag) (tl : TE) : TI := fun σ H R => tl σ H fun x H1 => ∃ a, x = .ref a ∧ ((∃ xs, SqL K H1 a xs ∧ R (Itl K a) H1) ∨ (∃ xs, SqT K H1 a xs ∧ R (Itt K a) H1))
theorem pi_seqA {X : Cx} {tg l : Expr} {tl : TE} (hl : PE X l tl) : PI X tg l (iSeqA X.K tl) := by
  refine ⟨fun pins s σ H R I h => ?_⟩
  refine thn (hl.run pins s σ H _ I h) fun v s1 ⟨x, H1, I1, r1, q1⟩ => ?_
  obtain ⟨a, e, q⟩ := q1
  subst e
  cases r1
  rcases q with ⟨xs, hq, q⟩ | ⟨xs, hq, q⟩
  · obtain ⟨its, rv, p, hz⟩ := I1.list hq
    refine wpAny_pyIter_list p.isList ?_
    refine ⟨s1.heap.objs.size, [s1.heap.objs.size], _, _, H1, rfl, I1.kept (t' := s1.toks) fun b o e => Heap.get?_push_of_some _ e, turn_list a _, ⟨_, Heap.get?_push_size _ rfl, rfl, rfl⟩, fun b hb => ?_, q⟩
    have e : b = s1.heap.objs.size := by simpa using hb
    subst e
    exact I1.fpOk (Nat.le_refl _) (I1.hok.fresh (Nat.le_refl _))
  · obtain ⟨its, rv, p, hz⟩ := I1.tuple hq
    refine wpAny_pyIter_tuple (show s1.heap.IsTuple a its.toArray from p) ?_
    refine ⟨s1.heap.objs.size, [s1.heap.objs.size], _, _, H1, rfl, I1.kept (t' := s1.toks) fun b o e => Heap.get?_push_of_some _ e, turn_tuple a _, ⟨_, Heap.get?_push_size _ rfl, rfl, rfl⟩, fun b hb => ?_, q⟩
    have e : b = s1.heap.objs.size := by simpa using hb
    subst e
    exact I1.fpOk (Nat.le_refl _) (I1.hok.fresh (Nat.le_refl _))
/-- a table of n states, by its items (none: no sequence) -/
def isTab (r : Option (List V)) (n : Int) : Bool := seqB r n n && match r with | some ys => decide (fnb ys n = V.non) | none => false
/-- a value and, if it is a sequence, the kinds of its items -/
structure Rw (K : PySem.W.Frag) (H : Hp) (x : V) (r : Option (List V)) : Prop where
  kv : KV K H x r
  ks : ∀ ys, r = some ys → Kinds K H ys
theorem Rw.same {K : PySem.W.Frag} {H H' : Hp} {x : V} {r : Option (List V)} (h : Rw K H x r) (s : Same H H') : Rw K H' x r := ⟨h.kv.same s, fun ys e => (h.ks ys e).same s⟩
theorem KV.seqA {K : PySem.W.Frag} {H : Hp} {x : V} {ys : List V} (h : KV K H x (some ys)) : ∃ a, x = .ref a ∧ SeqA H a ys := by
  cases h with
  | lst h => exact ⟨_, rfl, .inl h⟩
  | tup h => exact ⟨_, rfl, .inr h⟩
def spIsTab (K : PySem.W.Frag) : Sp := fun vs H Q _ => ∃ x r n, vs = [x, .int n] ∧ Rw K H x r ∧ ∀ H', Same H H' → Q (.bl (isTab r n)) H'
section
variable {P : Program} {w : World} {K : PySem.W.Frag} {mg : Str → Option Value} {base : Heap}
theorem scIT : FnScope ["value", "states"] ["value", "states"] (defScope sIsTab) := ⟨rfl, rfl, rfl, by decide +kernel, rfl, by decide +kernel, by decide +kernel⟩
theorem ok_istab {f fS fF : Addr} {fd fdS fdF : FuncData} (D : Df K mg "is_table" sIsTab ["value", "states"] f fd) (DS : Df K mg "is_sequence" sSeq ["value", "least", "most"] fS fdS) (DF : Df K mg "first_not_below" sFnb ["items", "limit"] fF fdF)
    (GS : FnOk P w K mg base CX0 1 fS fdS ["value", "least", "most"] (spSeq K)) (GF : FnOk P w K mg base CX0 3 fF fdF ["items", "limit"] (spFnb K)) : FnOk P w K mg base CX0 4 f fd ["value", "states"] (spIsTab K) := by
  refine D.F.ok scIT (fun vs H Q E h => ?_) (fun cdv A outer s H vs Q E hr h => ?_)
  · obtain ⟨x, r, n, rfl, _⟩ := h
    rfl
  · obtain ⟨x, r, n, rfl, hw, q⟩ := h
    refine ⟨_, pss_one (ps_ret (pe_and (pc DS GS (hr.mono (by decide)) pass0 (pa_cons (pv 0) (pa_cons (pv 1) (pa_cons (pv 1) pa_nil)))) (pe_one (pe_cmp (pc_isN (pc DF GF hr pass0 (pa_cons (pv 0) (pa_cons (pv 1) pa_nil)))) rfl)))), ?_⟩
    refine ⟨_, rfl, _, rfl, _, rfl, _, r, n, n, rfl, hw.kv, fun H1 sm => ⟨_, rfl, ifD (fun e => ?_) fun e => ?_⟩⟩
    · cases r with
      | none => cases e
      | some ys =>
        obtain ⟨a, rfl, hS⟩ := hw.kv.seqA
        refine ⟨_, rfl, _, rfl, a, ys, n, rfl, hS.same sm, (hw.ks ys rfl).same sm, fun H2 sm2 => qbl ?_ (q _ (sm.trans sm2))⟩
        show _ = (seqB (some ys) n n && _)
        rw [e]; rfl
    · refine qbl ?_ (q _ sm)
      show _ = (seqB r n n && _)
      rw [e]; rfl
end
end K1
namespace K1
open PySem PySem.Spec PyProof.Rows L2
/-- the items of a lot of tables, each with what it holds -/
structure Rws (K : PySem.W.Frag) (H : Hp) (xs : List V) (rs : List (Option (List V))) : Prop where
  len : xs.length = rs.length
  at_ : ∀ (i : Nat) x r, xs[i]? = some x → rs[i]? = some r → Rw K H x r
theorem Rws.same {K : PySem.W.Frag} {H H' : Hp} {xs : List V} {rs : List (Option (List V))} (h : Rws K H xs rs) (s : Same H H') : Rws K H' xs rs := ⟨h.len, fun i x r e1 e2 => (h.at_ i x r e1 e2).same s⟩
theorem Rws.get {K : PySem.W.Frag} {H : Hp} {xs : List V} {rs : List (Option (List V))} (h : Rws K H xs rs) {i : Nat} {x : V} (e : xs[i]? = some x) : ∃ r, rs[i]? = some r ∧ Rw K H x r := by
  have hi : i < rs.length := h.len ▸ (List.getElem?_eq_some_iff.mp e).1
  exact ⟨rs[i], by simp [hi], h.at_ i x _ e (by simp [hi])⟩
/-- what is told of a value that is no machine: none for a machine's tables (xs of the value, by their items) -/
def chkAt (o : Option (List (Option (List V)))) : Option Int :=
  match o with
  | none => some (-1)
  | some rs => if rs.length < 1 ∨ 8 < rs.length then some (-1) else
    match rs[0]? with
    | some (some y0) => if y0.length < 1 ∨ 12 < y0.length then some 0 else (rs.findIdx? fun r => !isTab r (y0.length : Int)).map fun i => (i : Int)
    | _ => some 0
/-- a value that may be a machine's tables; of its items nothing is known where there are too many, or none -/
inductive Mv (K : PySem.W.Frag) (H : Hp) : V → Option (List (Option (List V))) → Prop
  | no {v : V} (h : KV K H v none) : Mv K H v none
  | yes {v : V} {xs : List V} {rs : List (Option (List V))} (h : KV K H v (some xs)) (r : Rws K H xs rs) : Mv K H v (some rs)
theorem Mv.same {K : PySem.W.Frag} {H H' : Hp} {v : V} {o : Option (List (Option (List V)))} (h : Mv K H v o) (s : Same H H') : Mv K H' v o := by
  cases h with
  | no h => exact .no (h.same s)
  | yes h r => exact .yes (h.same s) (r.same s)
/-- tables that stand at ta, each as a tuple -/
def TabsAt (H : Hp) (ta : Addr) (ts : List (List V)) : Prop := ∃ as : List Addr, H ta = some (.tup (as.map V.ref)) ∧ as.length = ts.length ∧ ∀ (i : Nat) a t, as[i]? = some a → ts[i]? = some t → H a = some (.tup t)
theorem TabsAt.same {H H' : Hp} {ta : Addr} {ts : List (List V)} (h : TabsAt H ta ts) (s : Same H H') : TabsAt H' ta ts := let ⟨as, h1, h2, h3⟩ := h; ⟨as, s _ _ h1, h2, fun i a t e1 e2 => s _ _ (h3 i a t e1 e2)⟩
/-- an error of the class at C, its field f at v -/
def Rz (C : Addr) (f : Str) (v : V) (H : Hp) (E : XK) : Prop := ∀ d H', Same H H' → H d = none → H' d = some (.xd [(f, v)]) → E (.ref C) (some d) H'
/-- checked_tables: the tables, or the error -/
def spChk (K : PySem.W.Frag) (C : Addr) : Sp := fun vs H Q E => ∃ v o, vs = [v] ∧ Mv K H v o ∧ (∀ z, chkAt o = some z → Rz C "at" (.int z) H E) ∧
  (chkAt o = none → ∀ (ts : List (List V)), o = some (ts.map some) → ∀ ta H', Same H H' → TabsAt H' ta ts → Q (.ref ta) H')
theorem chk_neg {o : Option (List (Option (List V)))} (h : seqB (o.map fun rs => rs.map fun _ => V.non) 1 8 = false) : chkAt o = some (-1) := by
  cases o with
  | none => rfl
  | some rs =>
    have z : rs.length < 1 ∨ 8 < rs.length := by
      have e : (decide ((1 : Int) ≤ ((rs.map fun _ => V.non).length : Int)) && decide (((rs.map fun _ => V.non).length : Int) ≤ 8)) = false := h
      rw [List.length_map] at e
      simp only [Bool.and_eq_false_iff, decide_eq_false_iff_not] at e
      omega
    show (if rs.length < 1 ∨ 8 < rs.length then some (-1) else _) = _
    rw [if_pos z]
theorem chk_zero {rs : List (Option (List V))} {r0 : Option (List V)} (h1 : seqB (some (rs.map fun _ => V.non)) 1 8 = true) (h0 : rs[0]? = some r0) (h : seqB r0 1 12 = false) : chkAt (some rs) = some 0 := by
  have e : (decide ((1 : Int) ≤ ((rs.map fun _ => V.non).length : Int)) && decide (((rs.map fun _ => V.non).length : Int) ≤ 8)) = true := h1
  rw [List.length_map] at e
  simp only [Bool.and_eq_true, decide_eq_true_eq] at e
  have z : ¬ (rs.length < 1 ∨ 8 < rs.length) := by omega
  show (if rs.length < 1 ∨ 8 < rs.length then some (-1) else _) = _
  rw [if_neg z, h0]
  cases r0 with
  | none => rfl
  | some y0 =>
    have e : (decide ((1 : Int) ≤ (y0.length : Int)) && decide ((y0.length : Int) ≤ 12)) = false := h
    simp only [Bool.and_eq_false_iff, decide_eq_false_iff_not] at e
    have z : y0.length < 1 ∨ 12 < y0.length := by omega
    show (if y0.length < 1 ∨ 12 < y0.length then some 0 else _) = _
    rw [if_pos z]
theorem chk_in {rs : List (Option (List V))} {y0 : List V} (h1 : seqB (some (rs.map fun _ => V.non)) 1 8 = true) (h0 : rs[0]? = some (some y0)) (h : seqB (some y0) 1 12 = true) : chkAt (some rs) = (rs.findIdx? fun r => !isTab r (y0.length : Int)).map fun i => (i : Int) := by
  have e : (decide ((1 : Int) ≤ ((rs.map fun _ => V.non).length : Int)) && decide (((rs.map fun _ => V.non).length : Int) ≤ 8)) = true := h1
  rw [List.length_map] at e
  simp only [Bool.and_eq_true, decide_eq_true_eq] at e
  have z : ¬ (rs.length < 1 ∨ 8 < rs.length) := by omega
  have e2 : (decide ((1 : Int) ≤ (y0.length : Int)) && decide ((y0.length : Int) ≤ 12)) = true := h
  simp only [Bool.and_eq_true, decide_eq_true_eq] at e2
  have z2 : ¬ (y0.length < 1 ∨ 12 < y0.length) := by omega
  show (if rs.length < 1 ∨ 8 < rs.length then some (-1) else _) = _
  rw [if_neg z, h0]
  show (if y0.length < 1 ∨ 12 < y0.length then some 0 else _) = _
  rw [if_neg z2]
theorem find_at {α : Type} {rs : List α} {p : α → Bool} {i : Nat} {r : α} (hr : rs[i]? = some r) (hn : p r = true) (hb : ∀ (j : Nat) y, j < i → rs[j]? = some y → p y = false) : rs.findIdx? p = some i := by
  obtain ⟨hi, ex⟩ := List.getElem?_eq_some_iff.mp hr
  rw [List.findIdx?_eq_some_iff_getElem]
  refine ⟨hi, by rw [ex, hn], fun j hj => ?_⟩
  have hj' : j < rs.length := Nat.lt_trans hj hi
  have := hb j rs[j] hj (by simp [hj'])
  simp [this]
theorem find_none {α : Type} {rs : List α} {p : α → Bool} (hb : ∀ (j : Nat) y, j < rs.length → rs[j]? = some y → p y = false) : rs.findIdx? p = none := by
  rw [List.findIdx?_eq_none_iff]
  intro x hx
  obtain ⟨j, hj, e⟩ := List.mem_iff_getElem.mp hx
  exact e ▸ hb j rs[j] hj (by simp [hj])
theorem isTab_some {r : Option (List V)} {n : Int} (h : isTab r n = true) : ∃ ys, r = some ys := by
  cases r with
  | none => cases h
  | some ys => exact ⟨ys, rfl⟩
/-- tuple(x) -/
def rTup (K : PySem.W.Frag) : List V → Hp → VK → Prop := fun xs H Q => ∃ p ys, xs = [.ref p] ∧ ((SqL K H p ys ∧ ∀ l, H l = none → Q (.ref l) (upd H l (.tup ys))) ∨ (SqT K H p ys ∧ Q (.ref p) H))
theorem ctup {X : Cx} {K : PySem.W.Frag} (h : X.K = K) : CallR X (.type "tuple") (rTup K) := by
  subst h
  exact call_tuple_of
section
variable {P : Program} {w : World} {K : PySem.W.Frag} {mg : Str → Option Value} {base : Heap}
theorem scC : FnScope ["value", "states", "at", "table"] ["value"] (defScope sChk) := ⟨rfl, rfl, rfl, by decide +kernel, rfl, by decide +kernel, by decide +kernel⟩
theorem ok_chk {f fS fI C cI : Addr} {fd fdS fdI : FuncData} {bm : List Value} {ql : Str} (D : Df K mg "checked_tables" sChk ["value"] f fd) (DS : Df K mg "is_sequence" sSeq ["value", "least", "most"] fS fdS) (DI : Df K mg "is_table" sIsTab ["value", "states"] fI fdI)
    (B : Bt mg) (c : Ct mg) (T : LAt.Txt K mg "BadMachine" ql bm C cI) (GS : FnOk P w K mg base CX0 1 fS fdS ["value", "least", "most"] (spSeq K)) (GI : FnOk P w K mg base CX0 4 fI fdI ["value", "states"] (spIsTab K)) :
    FnOk P w K mg base (L2.CX P w) 5 f fd ["value"] (spChk K C) := by
  obtain ⟨t1, hc1⟩ := c.tabs
  obtain ⟨t2, hc2⟩ := c.states
  refine D.F.okX scC (fun vs H Q E h => ?_) (fun cdv A outer s H vs Q E hr h => ?_)
  · obtain ⟨v, o, rfl, _⟩ := h
    rfl
  · obtain ⟨v, o, rfl, hm, qE, qQ⟩ := h
    have hr1 : Room 1 _ := hr.mono (by decide)
    refine ⟨_, pss_cons (ps_if (pt_not (pt_val (pc DS GS hr1 pass0 (pa_cons (pv 0) (pa_cons pe_int (pa_cons (pe_glob (v := .int 8) (by rfl) hc1 ⟨_, rfl⟩) pa_nil)))))) (pss_one (ps_raise_LAt rfl T hr (takes_of rfl rfl rfl rfl) (pa_cons (pe_un un_neg pe_int) pa_nil))) pss_nil)
      (pss_cons (ps_if (pt_not (pt_val (pc DS GS hr1 pass0 (pa_cons (pe_ix ix_seq (pv 0) pe_int (fun _ _ => rfl)) (pa_cons pe_int (pa_cons (pe_glob (v := .int 12) (by rfl) hc2 ⟨_, rfl⟩) pa_nil)))))) (pss_one (ps_raise_LAt rfl T hr (takes_of rfl rfl rfl rfl) (pa_cons pe_int pa_nil))) pss_nil)
      (pss_cons (ps_set (i := 1) scC.nd rfl (.inl rfl) (pe_callB call_len_seq (by rfl) B.len PySem.boot_len (pa_cons (pe_ix ix_seq (pv 0) pe_int (fun _ _ => rfl)) pa_nil)))
      (pss_cons (ps_for (passes_of rfl) rfl (pi_enumA (by rfl) B.enumerate (pa_cons (pv 0) pa_nil)) (pg_tup rfl (pgs_cons (pg_name (i := 2) scC.nd rfl (.inl rfl)) (pgs_cons (pg_name (i := 3) scC.nd rfl (.inl rfl)) pgs_nil)))
        (pss_one (ps_if (pt_not (pt_val (pc DI GI hr pass0 (pa_cons (pv 3) (pa_cons (pv 1) pa_nil))))) (pss_one (ps_raise_LAt rfl T hr (takes_of rfl rfl rfl rfl) (pa_cons (pv 2) pa_nil))) pss_nil)))
      (pss_one (ps_ret (pe_callTy call_tuple_of (by rfl) B.tuple (by decide +kernel) (pa_cons
        (pe_lc (own := [("table", 3)]) (g := gName 3) (tt := tYes) rfl scC.nd (pi_seqA (pv 0)) (blkOk_by (N := ["value", "states", "at", "table"]) (sc := defScope sChk) (by decide +kernel)) (fun _ _ _ _ _ => pg_name (i := 3) scC.nd rfl (Or.inl rfl)) (fun _ _ _ _ _ => pts_nil)
          (fun _ _ _ _ _ => pe_callTy (ctup (K := K) rfl) (by rfl) B.tuple PyProof.Rows.boot_tuple (pa_cons (pv 3) pa_nil))) pa_nil))))))), ?_⟩
    cases hm with
    | no kv =>
      refine ⟨_, rfl, _, none, 1, 8, rfl, kv, fun H1 s1 => ⟨_, rfl, ?_⟩⟩
      exact iteT ⟨_, rfl, _, rfl, fun d hd => qE (-1) rfl d _ (s1.trans (same_new hd)) (s1.free hd) upd_same⟩
    | yes kv R =>
      rename_i xs rs
      have eqs : ∀ l m, seqB (some xs) l m = seqB (some (rs.map fun _ => V.non)) l m := fun l m => by
        show (_ && _) = (_ && _)
        rw [List.length_map, R.len]
      refine ⟨_, rfl, _, some xs, 1, 8, rfl, kv, fun H1 s1 => ⟨_, rfl, ifD (fun e1 => ?_) fun e1 => ?_⟩⟩
      · have e1' : seqB (some xs) 1 8 = false := by simpa using e1
        rw [eqs] at e1'
        exact ⟨_, rfl, _, rfl, fun d hd => qE (-1) (chk_neg (o := some rs) e1') d _ (s1.trans (same_new hd)) (s1.free hd) upd_same⟩
      · have e1' : seqB (some xs) 1 8 = true := by simpa using e1
        have e1r := e1'
        rw [eqs] at e1r
        have hx0 : ∃ x0, xs[0]? = some x0 := by
          have z : (decide ((1 : Int) ≤ (xs.length : Int)) && decide ((xs.length : Int) ≤ 8)) = true := e1'
          simp only [Bool.and_eq_true, decide_eq_true_eq] at z
          exact ⟨xs[0]'(by omega), by simp⟩
        obtain ⟨x0, hx0⟩ := hx0
        obtain ⟨r0, hr0, W0⟩ := R.get hx0
        obtain ⟨a, rfl, hS⟩ := kv.seqA
        have ixr : ∀ {H' : Hp} {Qv : VK}, Same H H' → Qv x0 H' → rIx K (.ref a) (.int 0) H' Qv := fun {H' Qv} sm q => by
          rcases hS.same sm with h | h
          · exact .inl ⟨a, xs, 0, x0, rfl, rfl, SqL.of h, atI_nat (j := 0) hx0, q⟩
          · exact .inr (.inl ⟨a, xs, 0, x0, rfl, rfl, SqT.of h, atI_nat (j := 0) hx0, q⟩)
        refine ⟨_, rfl, ixr s1 ?_⟩
        refine ⟨_, r0, 1, 12, rfl, W0.kv.same s1, fun H2 s2 => ⟨_, rfl, ifD (fun e2 => ?_) fun e2 => ?_⟩⟩
        · have e2' : seqB r0 1 12 = false := by simpa using e2
          exact ⟨_, rfl, fun d hd => qE 0 (chk_zero e1r hr0 e2') d _ ((s1.trans s2).trans (same_new hd)) ((s1.trans s2).free hd) upd_same⟩
        · have e2' : seqB r0 1 12 = true := by simpa using e2
          have s12 := s1.trans s2
          obtain ⟨y0, rfl⟩ : ∃ y0, r0 = some y0 := by
            cases r0 with
            | none => cases e2'
            | some y0 => exact ⟨y0, rfl⟩
          have hc := chk_in e1r hr0 e2'
          obtain ⟨a0, rfl, hS0⟩ := W0.kv.seqA
          refine ⟨_, rfl, ixr s12 ⟨a0, y0, rfl, (hS0.same s12).elim (fun h => .inl (SqL.of h)) (fun h => .inr (SqT.of h)), ?_⟩⟩
          -- the loop
          let Pv : Nat → L2.St → Hp → Prop := fun i σ H' => ∃ v2 v3 : Option V, σ = [some (.ref a), some (.int (y0.length : Int)), v2, v3] ∧ Same H H' ∧ ∀ (j : Nat) r, j < i → rs[j]? = some r → isTab r (y0.length : Int) = true
          refine ⟨_, rfl, a, rfl, ?_⟩
          have P0 : Pv 0 [some (.ref a), some (.int (y0.length : Int)), none, none] H2 := ⟨none, none, rfl, s12, fun j r hj => absurd hj (Nat.not_lt_zero _)⟩
          rcases hS with hS | hS
          · refine .inl ⟨xs, SqL.of (s12 _ _ hS), for_enumL (K := K) Pv P0 (fun i σ H' _ ⟨_, _, _, sm, _⟩ => SqL.of (sm _ _ hS)) ?_ ?_⟩
            · rintro i x T σ H' hx hT ⟨v2, v3, rfl, sm, hb⟩
              have sm2 : Same H (upd H' T (.tup [.int (i : Nat), x])) := sm.trans (same_new hT)
              obtain ⟨r, hr', W⟩ := R.get hx
              refine ⟨T, _, rfl, SqT.of upd_same, rfl, _, _, rfl, _, _, rfl, rfl, ?_⟩
              refine ⟨_, rfl, _, rfl, x, r, (y0.length : Int), rfl, W.same sm2, fun H3 s3 => ⟨_, rfl, ifD (fun e => ?_) fun e => ?_⟩⟩
              · have e' : isTab r (y0.length : Int) = false := by simpa using e
                have hz : chkAt (some rs) = some (i : Int) := by
                  rw [hc, find_at hr' (by rw [e']; rfl) fun j y hj hy => by rw [hb j y hj hy]; rfl]; rfl
                exact ⟨_, rfl, _, rfl, fun d hd => qE _ hz d _ ((sm2.trans s3).trans (same_new hd)) ((sm2.trans s3).free hd) upd_same⟩
              · have e' : isTab r (y0.length : Int) = true := by simpa using e
                refine ⟨_, _, rfl, sm2.trans s3, fun j y hj hy => ?_⟩
                rcases Nat.lt_succ_iff_lt_or_eq.mp hj with z | z
                · exact hb j y z hy
                · subst z
                  rw [hr'] at hy
                  rw [← Option.some.inj hy]
                  exact e'
            · rintro σ H' ⟨v2, v3, rfl, sm, hb⟩
              have hz : chkAt (some rs) = none := by
                rw [hc, find_none fun j y hj hy => by rw [hb j y (by rw [R.len]; exact hj) hy]; rfl]; rfl
              have hsome : ∀ (i : Nat) r, rs[i]? = some r → ∃ ys, r = some ys := fun i r hi => isTab_some (hb i r (by rw [R.len]; exact (List.getElem?_eq_some_iff.mp hi).1) hi)
              have hts : some rs = some ((rs.map fun r => r.getD []).map some) := by
                congr 1
                rw [List.map_map]
                refine (List.map_id rs).symm.trans (List.map_congr_left fun r hr => ?_)
                obtain ⟨i, hi, e⟩ := List.mem_iff_getElem.mp hr
                obtain ⟨ys, rfl⟩ := hsome i r (by rw [← e]; simp [hi])
                rfl
              have qq := qQ hz _ hts
              have gett : ∀ (i : Nat) x, xs[i]? = some x → ∃ b ys, x = .ref b ∧ rs[i]? = some (some ys) ∧ SeqA H b ys := fun i x hx => by
                obtain ⟨r, h1, W⟩ := R.get hx
                obtain ⟨ys, rfl⟩ := hsome i r h1
                obtain ⟨b, rfl, h2⟩ := W.kv.seqA
                exact ⟨b, ys, rfl, h1, h2⟩
              let Lv : Addr → Nat → Hp → Prop := fun D i H2 => ∃ as : List Addr, as.length = i ∧ Same H' H2 ∧ H2 D = some (.lst (as.map V.ref)) ∧ ∀ (j : Nat) b t, as[j]? = some b → rs[j]? = some (some t) → H2 b = some (.tup t)
              refine ⟨_, rfl, a, rfl, .inl ⟨xs, SqL.of (sm _ _ hS), fun D hD => lc_list (K := K) (a := a) (xs := xs) (Lv D) ⟨[], rfl, same_new hD, upd_same, fun j b t z => nomatch z⟩ (fun i H2 _ ⟨as, _, s5, _⟩ => SqL.of (s5 _ _ (sm _ _ hS))) ?_ ?_⟩⟩
              · rintro i x H2 hx ⟨as, hl, s5, hD2, hA⟩
                obtain ⟨b, ys, rfl, h1, h2⟩ := gett i x hx
                have nD : ∀ c o, H' c = some o → c ≠ D := fun c o e => ne_of_none e hD
                have hlen : (as.map V.ref).length < sizeLine := by
                  rw [List.length_map, hl, sizeLine_eq]
                  have := (List.getElem?_eq_some_iff.mp hx).1
                  have z : (decide ((1 : Int) ≤ (xs.length : Int)) && decide ((xs.length : Int) ≤ 8)) = true := e1'
                  simp only [Bool.and_eq_true, decide_eq_true_eq] at z
                  omega
                have fin : ∀ (l : Addr) (H3 : Hp), Same H2 H3 → H3 l = some (.tup ys) → H3 D = some (.lst (as.map V.ref)) → l ≠ D → Lv D (i + 1) (upd H3 D (.lst (as.map V.ref ++ [.ref l]))) := fun l H3 s6 hl3 hD3 hne => by
                  have keep : ∀ c o, H3 c = some o → c ≠ D → upd H3 D (.lst (as.map V.ref ++ [.ref l])) c = some o := fun c o e n => by rw [upd_ne n]; exact e
                  refine ⟨as ++ [l], by rw [List.length_append, hl]; rfl, fun c o e => keep c o (s6 _ _ (s5 _ _ e)) (nD c o e), by rw [upd_same, List.map_append]; rfl, fun j b t hb ht => ?_⟩
                  by_cases hj : j < as.length
                  · rw [List.getElem?_append_left hj] at hb
                    have z := s6 _ _ (hA j b t hb ht)
                    exact keep _ _ z (ne_of z hD3 (by intro q; cases q))
                  · have hj2 : j = as.length := by
                      have := (List.getElem?_eq_some_iff.mp hb).1
                      rw [List.length_append] at this
                      have q : ([l] : List Addr).length = 1 := rfl
                      omega
                    subst hj2
                    rw [List.getElem?_append_right (Nat.le_refl _), Nat.sub_self] at hb
                    have eb : l = b := Option.some.inj hb
                    subst eb
                    rw [hl, h1] at ht
                    rw [← Option.some.inj (Option.some.inj ht)]
                    exact keep _ _ hl3 hne
                refine ⟨rfl, _, rfl, b, ys, rfl, ?_⟩
                rcases h2 with h2 | h2
                · have hb2 := s5 _ _ (sm _ _ h2)
                  refine .inl ⟨SqL.of hb2, fun l hl2 => ?_⟩
                  have nlD : l ≠ D := fun e => by rw [e, hD2] at hl2; cases hl2
                  exact ⟨_, (upd_ne nlD.symm).trans hD2, hlen, fin l _ (same_new hl2) upd_same ((upd_ne nlD.symm).trans hD2) nlD⟩
                · have hb2 := s5 _ _ (sm _ _ h2)
                  refine .inr ⟨SqT.of hb2, ?_⟩
                  exact ⟨_, hD2, hlen, fin b _ (Same.refl _) hb2 hD2 (ne_of hb2 hD2 (by intro q; cases q))⟩
              · rintro H2 ⟨as, hl, s5, hD2, hA⟩
                refine ⟨D, _, rfl, .inl ⟨SqL.of hD2, fun ta hta => ?_⟩⟩
                have s7 : Same H (upd H2 ta (.tup (as.map V.ref))) := (sm.trans s5).trans (same_new hta)
                refine qq ta _ s7 ⟨as, upd_same, by rw [hl, List.length_map, R.len], fun j b t hb ht => ?_⟩
                have hj : rs[j]? = some (some t) := by
                  rw [List.getElem?_map] at ht
                  cases e : rs[j]? with
                  | none => rw [e] at ht; cases ht
                  | some r =>
                    obtain ⟨ys, rfl⟩ := hsome j r e
                    rw [e] at ht
                    rw [← Option.some.inj ht]; rfl
                exact same_new hta _ _ (hA j b t hb hj)
          · refine .inr ⟨xs, SqT.of (s12 _ _ hS), for_enumT (K := K) Pv P0 (fun i σ H' _ ⟨_, _, _, sm, _⟩ => SqT.of (sm _ _ hS)) ?_ ?_⟩
            · rintro i x T σ H' hx hT ⟨v2, v3, rfl, sm, hb⟩
              have sm2 : Same H (upd H' T (.tup [.int (i : Nat), x])) := sm.trans (same_new hT)
              obtain ⟨r, hr', W⟩ := R.get hx
              refine ⟨T, _, rfl, SqT.of upd_same, rfl, _, _, rfl, _, _, rfl, rfl, ?_⟩
              refine ⟨_, rfl, _, rfl, x, r, (y0.length : Int), rfl, W.same sm2, fun H3 s3 => ⟨_, rfl, ifD (fun e => ?_) fun e => ?_⟩⟩
              · have e' : isTab r (y0.length : Int) = false := by simpa using e
                have hz : chkAt (some rs) = some (i : Int) := by
                  rw [hc, find_at hr' (by rw [e']; rfl) fun j y hj hy => by rw [hb j y hj hy]; rfl]; rfl
                exact ⟨_, rfl, _, rfl, fun d hd => qE _ hz d _ ((sm2.trans s3).trans (same_new hd)) ((sm2.trans s3).free hd) upd_same⟩
              · have e' : isTab r (y0.length : Int) = true := by simpa using e
                refine ⟨_, _, rfl, sm2.trans s3, fun j y hj hy => ?_⟩
                rcases Nat.lt_succ_iff_lt_or_eq.mp hj with z | z
                · exact hb j y z hy
                · subst z
                  rw [hr'] at hy
                  rw [← Option.some.inj hy]
                  exact e'
            · rintro σ H' ⟨v2, v3, rfl, sm, hb⟩
              have hz : chkAt (some rs) = none := by
                rw [hc, find_none fun j y hj hy => by rw [hb j y (by rw [R.len]; exact hj) hy]; rfl]; rfl
              have hsome : ∀ (i : Nat) r, rs[i]? = some r → ∃ ys, r = some ys := fun i r hi => isTab_some (hb i r (by rw [R.len]; exact (List.getElem?_eq_some_iff.mp hi).1) hi)
              have hts : some rs = some ((rs.map fun r => r.getD []).map some) := by
                congr 1
                rw [List.map_map]
                refine (List.map_id rs).symm.trans (List.map_congr_left fun r hr => ?_)
                obtain ⟨i, hi, e⟩ := List.mem_iff_getElem.mp hr
                obtain ⟨ys, rfl⟩ := hsome i r (by rw [← e]; simp [hi])
                rfl
              have qq := qQ hz _ hts
              have gett : ∀ (i : Nat) x, xs[i]? = some x → ∃ b ys, x = .ref b ∧ rs[i]? = some (some ys) ∧ SeqA H b ys := fun i x hx => by
                obtain ⟨r, h1, W⟩ := R.get hx
                obtain ⟨ys, rfl⟩ := hsome i r h1
                obtain ⟨b, rfl, h2⟩ := W.kv.seqA
                exact ⟨b, ys, rfl, h1, h2⟩
              let Lv : Addr → Nat → Hp → Prop := fun D i H2 => ∃ as : List Addr, as.length = i ∧ Same H' H2 ∧ H2 D = some (.lst (as.map V.ref)) ∧ ∀ (j : Nat) b t, as[j]? = some b → rs[j]? = some (some t) → H2 b = some (.tup t)
              refine ⟨_, rfl, a, rfl, .inr ⟨xs, SqT.of (sm _ _ hS), fun D hD => lc_tup (K := K) (a := a) (xs := xs) (Lv D) ⟨[], rfl, same_new hD, upd_same, fun j b t z => nomatch z⟩ (fun i H2 _ ⟨as, _, s5, _⟩ => SqT.of (s5 _ _ (sm _ _ hS))) ?_ ?_⟩⟩
              · rintro i x H2 hx ⟨as, hl, s5, hD2, hA⟩
                obtain ⟨b, ys, rfl, h1, h2⟩ := gett i x hx
                have nD : ∀ c o, H' c = some o → c ≠ D := fun c o e => ne_of_none e hD
                have hlen : (as.map V.ref).length < sizeLine := by
                  rw [List.length_map, hl, sizeLine_eq]
                  have := (List.getElem?_eq_some_iff.mp hx).1
                  have z : (decide ((1 : Int) ≤ (xs.length : Int)) && decide ((xs.length : Int) ≤ 8)) = true := e1'
                  simp only [Bool.and_eq_true, decide_eq_true_eq] at z
                  omega
                have fin : ∀ (l : Addr) (H3 : Hp), Same H2 H3 → H3 l = some (.tup ys) → H3 D = some (.lst (as.map V.ref)) → l ≠ D → Lv D (i + 1) (upd H3 D (.lst (as.map V.ref ++ [.ref l]))) := fun l H3 s6 hl3 hD3 hne => by
                  have keep : ∀ c o, H3 c = some o → c ≠ D → upd H3 D (.lst (as.map V.ref ++ [.ref l])) c = some o := fun c o e n => by rw [upd_ne n]; exact e
                  refine ⟨as ++ [l], by rw [List.length_append, hl]; rfl, fun c o e => keep c o (s6 _ _ (s5 _ _ e)) (nD c o e), by rw [upd_same, List.map_append]; rfl, fun j b t hb ht => ?_⟩
                  by_cases hj : j < as.length
                  · rw [List.getElem?_append_left hj] at hb
                    have z := s6 _ _ (hA j b t hb ht)
                    exact keep _ _ z (ne_of z hD3 (by intro q; cases q))
                  · have hj2 : j = as.length := by
                      have := (List.getElem?_eq_some_iff.mp hb).1
                      rw [List.length_append] at this
                      have q : ([l] : List Addr).length = 1 := rfl
                      omega
                    subst hj2
                    rw [List.getElem?_append_right (Nat.le_refl _), Nat.sub_self] at hb
                    have eb : l = b := Option.some.inj hb
                    subst eb
                    rw [hl, h1] at ht
                    rw [← Option.some.inj (Option.some.inj ht)]
                    exact keep _ _ hl3 hne
                refine ⟨rfl, _, rfl, b, ys, rfl, ?_⟩
                rcases h2 with h2 | h2
                · have hb2 := s5 _ _ (sm _ _ h2)
                  refine .inl ⟨SqL.of hb2, fun l hl2 => ?_⟩
                  have nlD : l ≠ D := fun e => by rw [e, hD2] at hl2; cases hl2
                  exact ⟨_, (upd_ne nlD.symm).trans hD2, hlen, fin l _ (same_new hl2) upd_same ((upd_ne nlD.symm).trans hD2) nlD⟩
                · have hb2 := s5 _ _ (sm _ _ h2)
                  refine .inr ⟨SqT.of hb2, ?_⟩
                  exact ⟨_, hD2, hlen, fin b _ (Same.refl _) hb2 hD2 (ne_of hb2 hD2 (by intro q; cases q))⟩
              · rintro H2 ⟨as, hl, s5, hD2, hA⟩
                refine ⟨D, _, rfl, .inl ⟨SqL.of hD2, fun ta hta => ?_⟩⟩
                have s7 : Same H (upd H2 ta (.tup (as.map V.ref))) := (sm.trans s5).trans (same_new hta)
                refine qq ta _ s7 ⟨as, upd_same, by rw [hl, List.length_map, R.len], fun j b t hb ht => ?_⟩
                have hj : rs[j]? = some (some t) := by
                  rw [List.getElem?_map] at ht
                  cases e : rs[j]? with
                  | none => rw [e] at ht; cases ht
                  | some r =>
                    obtain ⟨ys, rfl⟩ := hsome j r e
                    rw [e] at ht
                    rw [← Option.some.inj ht]; rfl
                exact same_new hta _ _ (hA j b t hb hj)
end
end K1
namespace K1
open PySem PySem.Spec PyProof.Rows L2
/-! ### the machine's object -/
def mf (ta : Addr) (n k : Int) : List (Str × V) := putF "states" (.int k) (putF "deeds" (.int n) (putF "tables" (.ref ta) []))
theorem mf_t (ta : Addr) (n k : Int) : (mf ta n k).lookup ("tables" : Str) = some (.ref ta) := by
  unfold mf
  rw [lookup_putF, if_neg (by decide +kernel), lookup_putF, if_neg (by decide +kernel), lookup_putF, if_pos rfl]
theorem mf_d (ta : Addr) (n k : Int) : (mf ta n k).lookup ("deeds" : Str) = some (.int n) := by
  unfold mf
  rw [lookup_putF, if_neg (by decide +kernel), lookup_putF, if_pos rfl]
theorem mf_s (ta : Addr) (n k : Int) : (mf ta n k).lookup ("states" : Str) = some (.int k) := by
  unfold mf
  rw [lookup_putF, if_pos rfl]
/-- the machine at m, of the class at M: tables that stand at ta -/
def MachAt (M : Addr) (H : Hp) (m ta : Addr) (ts : List (List V)) : Prop :=
  (∃ (dx : Addr) (t0 : List V), ts[0]? = some t0 ∧ H m = some (.ins M dx (mf ta (ts.length : Int) (t0.length : Int)))) ∧ TabsAt H ta ts
theorem MachAt.same {M : Addr} {H H' : Hp} {m ta : Addr} {ts : List (List V)} (h : MachAt M H m ta ts) (s : Same H H') : MachAt M H' m ta ts :=
  let ⟨⟨dx, t0, h0, h1⟩, h2⟩ := h
  ⟨⟨dx, t0, h0, s _ _ h1⟩, h2.same s⟩
/-- what the walk asks of the class Machine, at M -/
structure McT (K : PySem.W.Frag) (mg : Str → Option Value) (M : Addr) : Prop where
  cl : Cls K M
  nT : NoAttr K M "tables"
  nD : NoAttr K M "deeds"
  nS : NoAttr K M "states"
  g : mg "Machine" = some (.ref M)
  ca : PySem.W.findIn K (.ref M) "__class__" = some (some (.builtin "object.__class__"))
  sp : PySem.W.specialIn K (.builtin "object.__class__") "__get__" = some (some (.builtin "getset_descriptor.__get__"))
  tk : PySem.W.takesIn K (.builtin "object.__class__") = some true
  mo : PySem.W.mroIn K M (.type "object") = some true
/-- __init__ of a fresh machine -/
def spMInit (K : PySem.W.Frag) (C M : Addr) : Sp := fun vs H Q E => ∃ m dx v o, vs = [.ref m, v] ∧ H m = some (.ins M dx []) ∧ Mv K H v o ∧ (∀ z, chkAt o = some z → Rz C "at" (.int z) H E) ∧
  (chkAt o = none → ∀ (ts : List (List V)), o = some (ts.map some) → ∀ ta H', (∀ b u, H b = some u → b ≠ m → H' b = some u) → MachAt M H' m ta ts → Q .non H')
theorem chk_first {ts : List (List V)} (h : chkAt (some (ts.map some)) = none) : ∃ t0, ts[0]? = some t0 := by
  cases ts with
  | nil =>
    have z : chkAt (some ([] : List (Option (List V)))) = some (-1) := rfl
    rw [show (([] : List (List V)).map some) = [] from rfl, z] at h
    cases h
  | cons a r => exact ⟨a, rfl⟩
section
variable {P : Program} {w : World} {K : PySem.W.Frag} {mg : Str → Option Value} {base : Heap}
theorem scMI : FnScope ["self", "tables"] ["self", "tables"] (defScope sMInit) := ⟨rfl, rfl, rfl, by decide +kernel, rfl, by decide +kernel, by decide +kernel⟩
theorem ok_minit {f fC C M : Addr} {fd fdC : FuncData} (F : Fun K "__init__" "Machine.__init__" sMInit f fd) (DC : Df K mg "checked_tables" sChk ["value"] fC fdC) (B : Bt mg) (T : McT K mg M)
    (GC : FnOk P w K mg base (L2.CX P w) 5 fC fdC ["value"] (spChk K C)) : FnOk P w K mg base (L2.CX P w) 6 f fd ["self", "tables"] (spMInit K C M) := by
  refine F.okX scMI (fun vs H Q E h => ?_) (fun cdv A outer s H vs Q E hr h => ?_)
  · obtain ⟨m, dx, v, o, rfl, _⟩ := h
    rfl
  · obtain ⟨m, dx, v, o, rfl, hm, mv, qE, qQ⟩ := h
    refine ⟨_, pss_cons (ps_fld (pv 0) (pc DC GC hr (pass1 (takes_of rfl rfl rfl rfl)) (pa_cons (pv 1) pa_nil)) rfl)
      (pss_cons (ps_fld (pv 0) (pe_callB call_len_seq (by rfl) B.len PySem.boot_len (pa_cons (pe_fld (pv 0) rfl) pa_nil)) rfl)
      (pss_one (ps_fld (pv 0) (pe_callB call_len_seq (by rfl) B.len PySem.boot_len (pa_cons (pe_ix ix_tup (pe_fld (pv 0) rfl) pe_int (fun _ _ => rfl)) pa_nil)) rfl))), ?_⟩
    refine ⟨_, rfl, v, o, rfl, mv, fun z hz d H' sm hd he => qE z hz d H' sm hd he, fun hz ts hts ta H' sm hT => ?_⟩
    subst hts
    obtain ⟨t0, h0⟩ := chk_first hz
    have hm1 := sm _ _ hm
    obtain ⟨as, ha1, ha2, ha3⟩ := hT
    have nma : m ≠ ta := ne_of hm1 ha1 (by intro q; cases q)
    have k1 : ∀ {fs : List (Str × V)}, (upd H' m (.ins M dx fs)) ta = some (.tup (as.map V.ref)) := fun {fs} => by rw [upd_ne nma.symm]; exact ha1
    obtain ⟨a0, ea0⟩ : ∃ a0, as[0]? = some a0 := by
      have : 0 < as.length := by rw [ha2]; exact (List.getElem?_eq_some_iff.mp h0).1
      exact ⟨as[0], by simp [this]⟩
    have hA0 := ha3 0 a0 t0 ea0 h0
    have nm0 : m ≠ a0 := ne_of hm1 hA0 (by intro q; cases q)
    refine ⟨_, rfl, m, M, dx, [], rfl, hm1, T.cl, T.nT, (by show 0 < 1000; decide), ?_⟩
    refine ⟨_, rfl, m, M, dx, _, _, rfl, upd_same, T.cl, T.nT, (by rw [lookup_putF, if_pos rfl]), ta, _, rfl, .inr (SqT.of k1), _, rfl, m, M, dx, _, rfl, upd_same, T.cl, T.nD, (by show 1 < 1000; decide), ?_⟩
    rw [upd_upd]
    refine ⟨_, rfl, m, M, dx, _, _, rfl, upd_same, T.cl, T.nT, (by rw [lookup_putF, if_neg (by decide +kernel), lookup_putF, if_pos rfl]), ta, _, 0, _, rfl, rfl, SqT.of k1, atI_nat (j := 0) (by rw [List.getElem?_map, ea0]; rfl), a0, t0, rfl, .inr (SqT.of (by rw [upd_ne nm0.symm]; exact hA0)), _, rfl, m, M, dx, _, rfl, upd_same, T.cl, T.nS, (by show 2 < 1000; decide), ?_⟩
    rw [upd_upd]
    refine qQ hz ts rfl ta _ (fun b u e hb => ?_) ⟨⟨dx, t0, h0, ?_⟩, as, k1, ha2, fun i a t e1 e2 => ?_⟩
    · rw [upd_ne hb]
      exact sm _ _ e
    · rw [upd_same]
      show some (HO.ins M dx (putF "states" (.int t0.length) (putF "deeds" (.int ((as.map V.ref).length : Int)) (putF "tables" (.ref ta) [])))) = _
      rw [List.length_map, ha2]
      rfl
    · have z := ha3 i a t e1 e2
      rw [upd_ne (ne_of z hm1 (by intro q; cases q))]
      exact z
end
end K1
namespace K1
open PySem PySem.Spec PyProof.Rows L2
/-- x == y by x's own __eq__: y another such instance, or a tuple -/
def rEqOwn (C : Addr) (sp : Sp) : R2 := fun x y H Q => ∃ (a : Addr) (dx : Addr) (fs : List (Str × V)), x = .ref a ∧ H a = some (.ins C dx fs) ∧ ((∃ (b dy : Addr) (gs : List (Str × V)), y = .ref b ∧ H b = some (.ins C dy gs)) ∨ ∃ (b : Addr) (ys : List V), y = .ref b ∧ H b = some (.tup ys)) ∧
  sp [x, y] H (fun v H' => ∃ k, v = .bl k ∧ Q v H') E0
theorem op_eqOwn {X : Cx} {n : Nat} {C f : Addr} {fd : FuncData} {ps : List Str} {sp : Sp} (F : FnOk X.prog X.w X.K X.mg X.base CX0 n f fd ps sp) (hr : Room n X.A)
    (hs : PySem.W.findIn X.K (.ref C) "__eq__" = some (some (.ref f))) (hf : PySem.W.isFn X.K (.ref f) = true) (hb : Binds X.K fd ps []) (nf : PySem.W.notFirst X.K C (.type "tuple") = true) : OpR X (compareOp .Eq) (rEqOwn C sp) := by
  intro pins s σ H x y v u Q I rx ry hq
  obtain ⟨a, dx, fs, rfl, ha, hy, hsp⟩ := hq
  cases rx
  show wpAny (model X.prog X.w) X.A (richCompare .Eq (.ref a) u) (EP X pins σ Q) X.xe s
  obtain ⟨mA, J, _⟩ := ins_get I.hok ha
  obtain ⟨od, J, _⟩ := J.look
  obtain ⟨m, hF⟩ := I.fr
  have tl : ∃ tb, PySem.W.Looks (model X.prog X.w) s.heap (typeOf u) tb ∧ PySem.W.notFirst X.K C tb = true := by
    rcases hy with ⟨b, dy, gs, rfl, hb'⟩ | ⟨b, ys, rfl, hb'⟩
    · cases ry
      obtain ⟨mB, J', _⟩ := ins_get I.hok hb'
      obtain ⟨od', J', _⟩ := J'.look
      exact ⟨.ref C, J'.type, by simp [PySem.W.notFirst]⟩
    · cases ry
      obtain ⟨_, its, rv, o, h1, h2, _⟩ := (show ObjOk X.prog X.w H s.heap b (.tup ys) from I.hok b _ hb')
      exact ⟨.type "tuple", h2 ▸ (PySem.W.Looks.ld h1).andThen .now, nf⟩
  obtain ⟨tb, tl, hn⟩ := tl
  refine PySem.W.cmp_K (op := .Eq) (tb := tb) hr.units0 hF I.ok.mod.kin J tl hn hs hf ?_
  have hl := F.len _ _ _ _ hsp
  have r2 : Vals [V.ref a, y] [Value.ref a, u] := .cons rfl (.cons ry .nil)
  refine wpAny_call (codeAny_mono (F.run X.A X.stack s H ⟨[.ref a, u], []⟩ [.ref a, u] [.ref a, y] _ E0 hr I.env0 (by
    have := hb s [.ref a, u] I.kIn (by simpa using hl)
    simpa using this) r2 hsp) fun r s' hq => ?_)
  cases r with
  | error e => exact (show False from hq).elim
  | ok fl =>
    cases fl with
    | ret w =>
      obtain ⟨z, H', I', rz, k, ez, q⟩ := I.after hq
      subst ez
      cases rz
      exact ⟨.bl k, H', I', rfl, q⟩
    | next => exact False.elim hq
    | brk => exact False.elim hq
    | cont => exact False.elim hq
/-! ### whole numbers by rows -/
/-- the tables of a machine as lists of whole numbers -/
abbrev Ts := List (List Int)
def vrow (t : List Int) : List V := t.map V.int
def vts (ts : Ts) : List (List V) := ts.map vrow
def dI (t : List Int) : List PyData := t.map PyData.int
def dT (ts : Ts) : PyData := .tuple (ts.map fun t => .tuple (dI t))
section
variable {K : PySem.W.Frag} {H : Hp}
theorem dp_ints : ∀ t : List Int, DpAll K H (vrow t) (dI t)
  | [] => .nil
  | i :: r => .cons (.int i) (dp_ints r)
theorem dp_tup {a : Addr} {t : List Int} (h : H a = some (.tup (vrow t))) : Dp K H (.ref a) (.tuple (dI t)) := .tup (SqT.of h) (dp_ints t)
theorem dp_refs : ∀ (as : List Addr) (ts : Ts), as.length = ts.length → (∀ (i : Nat) a t, as[i]? = some a → (vts ts)[i]? = some t → H a = some (.tup t)) → DpAll K H (as.map V.ref) (ts.map fun t => PyData.tuple (dI t))
  | [], [], _, _ => .nil
  | a :: as, t :: ts, hl, h => .cons (dp_tup (h 0 a (vrow t) rfl rfl)) (dp_refs as ts (Nat.succ.inj hl) fun i b u e1 e2 => h (i + 1) b u e1 e2)
  | [], _ :: _, hl, _ => nomatch hl
  | _ :: _, [], hl, _ => nomatch hl
theorem TabsAt.dp {ta : Addr} {ts : Ts} (h : TabsAt H ta (vts ts)) : Dp K H (.ref ta) (dT ts) := by
  obtain ⟨as, h1, h2, h3⟩ := h
  exact .tup (SqT.of h1) (dp_refs as ts (by rw [h2]; exact List.length_map _) h3)
end
/-- plain data: shown shortly, compared by what they hold -/
structure Pl (d : PyData) (n w : Nat) : Prop where
  lay : d.canLay0 = true
  sh : d.showable = true
  nd : d.hasDict = false
  dp : d.depth ≤ n
  wt : d.weight ≤ w
  sr : d.leavesShort 20 = true
structure PlA (ds : List PyData) (n w : Nat) : Prop where
  lay : PyData.canLayAll0 ds = true
  sh : PyData.showableAll ds = true
  nd : PyData.hasDictAll ds = false
  dp : PyData.depthAll ds ≤ n
  wt : PyData.weightAll ds ≤ w
  sr : PyData.leavesShortAll 20 ds = true
theorem Pl.int {i : Int} (h : i.natAbs < 10 ^ 19) : Pl (.int i) 0 64 := by
  have h3 : i.natAbs ≠ 0 → i.natAbs.log2 < 64 := fun z => (Nat.log2_lt z).mpr (Nat.lt_of_lt_of_le h (by decide))
  refine ⟨by simp only [PyData.canLay0], ?_, by simp only [PyData.hasDict], by simp only [PyData.depth]; omega, ?_, ?_⟩
  · simp only [PyData.showable, decide_eq_true_eq]
    by_cases z : i.natAbs = 0
    · rw [z]; decide
    · have := h3 z
      omega
  · simp only [PyData.weight]
    split
    · omega
    · rename_i z
      have := h3 (fun e => z (by rw [Int.natAbs_eq_zero.mp e]; rfl))
      omega
  · have e := int_text_length_le10 (a := i) (k := 19) (by decide) h
    simp only [PyData.leavesShort, decide_eq_true_eq, PyData.shown]
    exact decide_eq_true (Nat.le_trans (Nat.le_of_eq (PySem.ofString_length _)) e)
theorem Pl.bl (b : Bool) : Pl (.bool b) 0 0 := ⟨by simp only [PyData.canLay0], by simp only [PyData.showable], by simp only [PyData.hasDict], by simp only [PyData.depth]; omega, by simp only [PyData.weight]; omega, by simp only [PyData.leavesShort]⟩
theorem PlA.nil : PlA [] 0 0 := ⟨by simp only [PyData.canLayAll0], by simp only [PyData.showableAll], by simp only [PyData.hasDictAll], by simp only [PyData.depthAll]; omega, by simp only [PyData.weightAll]; omega, by simp only [PyData.leavesShortAll]⟩
theorem PlA.cons {d : PyData} {ds : List PyData} {n m u v : Nat} (a : Pl d n u) (b : PlA ds m v) : PlA (d :: ds) (max n m) (u + 1 + v) := by
  refine ⟨by simp only [PyData.canLayAll0, a.lay, b.lay, Bool.and_self], by simp only [PyData.showableAll, a.sh, b.sh, Bool.and_self], by simp only [PyData.hasDictAll, a.nd, b.nd, Bool.or_self], ?_, ?_, by simp only [PyData.leavesShortAll, a.sr, b.sr, Bool.and_self]⟩
  · have h1 := a.dp; have h2 := b.dp
    simp only [PyData.depthAll]; omega
  · have h1 := a.wt; have h2 := b.wt
    simp only [PyData.weightAll]; omega
theorem Pl.list {ds : List PyData} {n w : Nat} (a : PlA ds n w) : Pl (.list ds) (n + 1) w := by
  refine ⟨by simp only [PyData.canLay0, a.lay], by simp only [PyData.showable, a.sh], by simp only [PyData.hasDict, a.nd], ?_, ?_, by simp only [PyData.leavesShort, a.sr]⟩
  · have h1 := a.dp
    simp only [PyData.depth]; omega
  · have h1 := a.wt
    simp only [PyData.weight]; omega
theorem Pl.tuple {ds : List PyData} {n w : Nat} (a : PlA ds n w) : Pl (.tuple ds) (n + 1) w := by
  refine ⟨by simp only [PyData.canLay0, a.lay], by simp only [PyData.showable, a.sh], by simp only [PyData.hasDict, a.nd], ?_, ?_, by simp only [PyData.leavesShort, a.sr]⟩
  · have h1 := a.dp
    simp only [PyData.depth]; omega
  · have h1 := a.wt
    simp only [PyData.weight]; omega
theorem Pl.mono {d : PyData} {n w m v : Nat} (a : Pl d n w) (h1 : n ≤ m) (h2 : w ≤ v) : Pl d m v := ⟨a.lay, a.sh, a.nd, Nat.le_trans a.dp h1, Nat.le_trans a.wt h2, a.sr⟩
theorem PlA.mono {d : List PyData} {n w m v : Nat} (a : PlA d n w) (h1 : n ≤ m) (h2 : w ≤ v) : PlA d m v := ⟨a.lay, a.sh, a.nd, Nat.le_trans a.dp h1, Nat.le_trans a.wt h2, a.sr⟩
theorem Pl.shaped {d : PyData} {n w : Nat} (a : Pl d n w) (h : n ≤ 40) : SeqAt.shaped d = true := by
  have := a.dp
  unfold SeqAt.shaped
  rw [a.lay, decide_eq_true (by omega)]; rfl
theorem Pl.short {d : PyData} {n w : Nat} (a : Pl d n w) (h : w ≤ 100000) : d.shown.length ≤ sizeLine := by
  have h1 := PyData.shown_le 20 (by decide) d a.sr
  have h2 := a.wt
  rw [sizeLine_eq]
  omega
/-- rows of whole numbers below 10 ^ 19 -/
theorem pla_ints : ∀ t : List Int, (∀ i ∈ t, i.natAbs < 10 ^ 19) → PlA (dI t) 0 (t.length * 65)
  | [], _ => PlA.nil
  | i :: r, h => (PlA.cons (Pl.int (h i List.mem_cons_self)) (pla_ints r fun j hj => h j (List.mem_cons_of_mem _ hj))).mono (by omega) (by show 64 + 1 + r.length * 65 ≤ (r.length + 1) * 65; omega)
theorem pla_rows {n : Nat} : ∀ ts : Ts, (∀ t ∈ ts, t.length ≤ n ∧ ∀ i ∈ t, i.natAbs < 10 ^ 19) → PlA (ts.map fun t => PyData.tuple (dI t)) 1 (ts.length * (n * 65 + 1))
  | [], _ => PlA.nil.mono (by omega) (by omega)
  | t :: r, h => by
    obtain ⟨h1, h2⟩ := h t List.mem_cons_self
    refine (PlA.cons (Pl.tuple (pla_ints t h2)) (pla_rows r fun u hu => h u (List.mem_cons_of_mem _ hu))).mono (by omega) ?_
    show t.length * 65 + 1 + r.length * (n * 65 + 1) ≤ (r.length + 1) * (n * 65 + 1)
    rw [Nat.add_mul]
    omega
theorem pl_dT {n : Nat} {ts : Ts} (h : ∀ t ∈ ts, t.length ≤ n ∧ ∀ i ∈ t, i.natAbs < 10 ^ 19) : Pl (dT ts) 2 (ts.length * (n * 65 + 1)) := Pl.tuple (pla_rows ts h)
end K1
namespace K1
open PySem PySem.Spec PyProof.Rows L2
/-- tables that are shown and compared: few, of few states -/
def Few (ts : Ts) : Prop := ts.length ≤ 8 ∧ ∀ t ∈ ts, t.length ≤ 12 ∧ ∀ i ∈ t, i.natAbs < 10 ^ 19
theorem Few.pl {ts : Ts} (h : Few ts) : Pl (dT ts) 2 10000 := (pl_dT h.2).mono (Nat.le_refl _) (by have := h.1; have : ts.length * (12 * 65 + 1) ≤ 8 * (12 * 65 + 1) := Nat.mul_le_mul_right _ h.1; omega)
/-- machine == other: another machine with the same tables, or a tuple -/
def spMEq (M : Addr) : Sp := fun vs H Q _ => ∃ m ta ts v, vs = [.ref m, v] ∧ MachAt M H m ta (vts ts) ∧ Few ts ∧
  ((∃ m2 ta2, v = .ref m2 ∧ MachAt M H m2 ta2 (vts ts) ∧ Q (.bl true) H) ∨ (∃ a xs, v = .ref a ∧ H a = some (.tup xs) ∧ Q (.bl false) H))
/-- which answers isinstance gives of the class -/
structure McI (K : PySem.W.Frag) (M : Addr) : Prop where
  y : PySem.W.kitOne K (.ref M) (.ref M) = some true
  n : PySem.W.kitOne K (.type "tuple") (.ref M) = some false
def spNeed (M C : Addr) (fld : Str) (g : Ts → Nat) : Sp := fun vs H Q E => ∃ m ta ts v, vs = [.ref m, v] ∧ MachAt M H m ta (vts ts) ∧ (∃ (K : PySem.W.Frag) (o : Option (List V)), KV K H v o) ∧
  (belowB v (g ts : Int) = true → Q v H) ∧ (belowB v (g ts : Int) = false → Rz C fld v H E)
theorem ints_of {t0 : List V} {ts : Ts} (h : (vts ts)[0]? = some t0) : ∃ r : List Int, ts[0]? = some r ∧ t0 = vrow r := by
  rw [vts, List.getElem?_map] at h
  cases e : ts[0]? with
  | none => rw [e] at h; cases h
  | some r =>
    rw [e] at h
    exact ⟨r, rfl, (Option.some.inj h).symm⟩
/-- how many states -/
def nS (ts : Ts) : Nat := (ts[0]?.getD []).length
theorem MachAt.fs {M : Addr} {H : Hp} {m ta : Addr} {ts : Ts} (h : MachAt M H m ta (vts ts)) : ∃ dx : Addr, H m = some (.ins M dx (mf ta (ts.length : Int) (nS ts : Int))) := by
  obtain ⟨⟨dx, t0, h0, h1⟩, _⟩ := h
  obtain ⟨r, hr, rfl⟩ := ints_of h0
  refine ⟨dx, ?_⟩
  rw [h1]
  have e1 : (vts ts).length = ts.length := List.length_map _
  have e2 : (vrow r).length = nS ts := by
    unfold nS
    rw [hr]
    exact List.length_map _
  rw [e1, e2]
section
variable {P : Program} {w : World} {K : PySem.W.Frag} {mg : Str → Option Value} {base : Heap}
theorem scME : FnScope ["self", "other"] ["self", "other"] (defScope sMEq) := ⟨rfl, rfl, rfl, by decide +kernel, rfl, by decide +kernel, by decide +kernel⟩
theorem ok_meq {f M : Addr} {fd : FuncData} (F : Fun K "__eq__" "Machine.__eq__" sMEq f fd) (B : Bt mg) (T : McT K mg M) (T2 : McI K M) : FnOk P w K mg base CX0 1 f fd ["self", "other"] (spMEq M) := by
  refine F.ok scME (fun vs H Q E h => ?_) (fun cdv A outer s H vs Q E hr h => ?_)
  · obtain ⟨m, ta, ts, v, rfl, _⟩ := h
    rfl
  · obtain ⟨m, ta, ts, v, rfl, hM, hF, q⟩ := h
    refine ⟨_, pss_one (ps_ret (pe_and (pe_callB call_isi (by rfl) B.isinstance (by decide +kernel) (pa_cons (pv 1) (pa_cons (pe_glob (v := .ref M) (by rfl) T.g rfl) pa_nil)))
      (pe_one (pe_cmpR (op_eqD hr.units) (pe_fld (pv 0) rfl) (pe_fld (pv 1) rfl) (nomark _))))), ?_⟩
    obtain ⟨dx, h1⟩ := hM.fs
    rcases q with ⟨m2, ta2, rfl, hM2, q⟩ | ⟨a, xs, rfl, ha, q⟩
    · obtain ⟨dx2, h2⟩ := hM2.fs
      refine ⟨_, rfl, _, _, _, _, _, rfl, .own M, .base (.ins h2 T.cl T.ca T.sp T.tk T.mo), T2.y, _, rfl, iteT ?_⟩
      refine ⟨_, rfl, m, M, dx, _, _, rfl, h1, T.cl, T.nT, mf_t _ _ _, _, rfl, m2, M, dx2, _, _, rfl, h2, T.cl, T.nT, mf_t _ _ _, dT ts, dT ts, hM.2.dp, hM2.2.dp, hF.pl.shaped (by decide), hF.pl.shaped (by decide), qbl ?_ q⟩
      exact SeqAt.eqv_refl _ hF.pl.lay
    · refine ⟨_, rfl, _, _, _, _, _, rfl, .own M, .base (.tup ha), T2.n, _, rfl, iteF q⟩
theorem scNS : FnScope ["machine", "state"] ["machine", "state"] (defScope sNeedS) := ⟨rfl, rfl, rfl, by decide +kernel, rfl, by decide +kernel, by decide +kernel⟩
theorem ok_needS {f fB C M cI : Addr} {fd fdB : FuncData} {bm : List Value} {ql : Str} (D : Df K mg "need_state" sNeedS ["machine", "state"] f fd) (DB : Df K mg "is_below" sBelow ["value", "limit"] fB fdB) (T : McT K mg M) (TX : LState.Txt K mg "NoState" ql bm C cI)
    (GB : FnOk P w K mg base CX0 2 fB fdB ["value", "limit"] (spBelow K)) : FnOk P w K mg base (L2.CX P w) 3 f fd ["machine", "state"] (spNeed M C "state" nS) := by
  refine D.F.okX scNS (fun vs H Q E h => ?_) (fun cdv A outer s H vs Q E hr h => ?_)
  · obtain ⟨m, ta, ts, v, rfl, _⟩ := h
    rfl
  · obtain ⟨m, ta, ts, v, rfl, hM, ⟨K', o, kv⟩, q1, q2⟩ := h
    refine ⟨_, pss_cons (ps_if (pt_not (pt_val (pc DB GB hr pass0 (pa_cons (pv 1) (pa_cons (pe_fld (pv 0) rfl) pa_nil))))) (pss_one (ps_raise_LState rfl TX hr (takes_of rfl rfl rfl rfl) (pa_cons (pv 1) pa_nil))) pss_nil) (pss_one (ps_ret (pv 1))), ?_⟩
    obtain ⟨dx, h1⟩ := hM.fs
    have kv' : KV K H v o := by cases kv <;> first | exact .int _ | exact .bl _ | exact .non | exact .str _ | exact .lst (by assumption) | exact .tup (by assumption)
    refine ⟨_, rfl, _, rfl, m, M, dx, _, _, rfl, h1, T.cl, T.nS, mf_s _ _ _, v, o, _, rfl, kv', _, rfl, ifD (fun e => ?_) fun e => ?_⟩
    · exact ⟨_, rfl, _, rfl, fun d hd => q2 (by simpa using e) d _ (same_new hd) hd upd_same⟩
    · exact ⟨_, rfl, q1 (by simpa using e)⟩
end
end K1
namespace K1
open PySem PySem.Spec PyProof.Rows L2
def rowF (r : Option (List V)) (n : Int) : V := if seqB r 0 10000 = true then fnb (r.getD []) n else .int (-1)
theorem fnb_non {xs : List V} {lim : Int} (h : fnb xs lim = .non) : ∀ x ∈ xs, belowB x lim = true := by
  unfold fnb at h
  cases e : xs.findIdx? (fun x => !belowB x lim) with
  | some i => rw [e] at h; cases h
  | none =>
    rw [List.findIdx?_eq_none_iff] at e
    intro x hx
    simpa using e x hx
theorem fnb_all {xs : List V} {lim : Int} (h : ∀ x ∈ xs, belowB x lim = true) : fnb xs lim = .non := fnb_none fun j y _ hy => h y (List.mem_of_getElem? hy)
theorem rowF_non {r : Option (List V)} {n : Int} (h : rowF r n = .non) : ∃ xs, r = some xs ∧ ∀ x ∈ xs, belowB x n = true := by
  unfold rowF at h
  by_cases e : seqB r 0 10000 = true
  · rw [if_pos e] at h
    cases r with
    | none => cases e
    | some xs => exact ⟨xs, rfl, fnb_non h⟩
  · rw [if_neg e] at h
    cases h
/-- where a deed leads a state; where a row leads it -/
def stp (ts : Ts) (s d : Int) : Int := ((ts[d.toNat]?.getD [])[s.toNat]?).getD 0
def run (ts : Ts) (s : Int) (row : List Int) : Int := row.foldl (stp ts) s
/-- well made tables -/
structure Wf (ts : Ts) : Prop where
  t1 : 1 ≤ ts.length
  t8 : ts.length ≤ 8
  s1 : 1 ≤ nS ts
  s12 : nS ts ≤ 12
  row : ∀ t ∈ ts, t.length = nS ts ∧ ∀ i ∈ t, 0 ≤ i ∧ i < (nS ts : Int)
theorem Wf.few {ts : Ts} (h : Wf ts) : Few ts := ⟨h.t8, fun t ht => ⟨by rw [(h.row t ht).1]; exact h.s12, fun i hi => by
  have := (h.row t ht).2 i hi
  have := h.s12
  omega⟩⟩
theorem Wf.at_ {ts : Ts} (h : Wf ts) {s d : Int} (hd : 0 ≤ d ∧ d < ts.length) (hs : 0 ≤ s ∧ s < (nS ts : Int)) : ∃ t, ts[d.toNat]? = some t ∧ t[s.toNat]? = some (stp ts s d) ∧ 0 ≤ stp ts s d ∧ stp ts s d < (nS ts : Int) := by
  have h1 : d.toNat < ts.length := by omega
  have ht : ts[d.toNat]? = some ts[d.toNat] := by simp [h1]
  have hm : ts[d.toNat] ∈ ts := List.getElem_mem h1
  obtain ⟨r1, r2⟩ := h.row _ hm
  have h2 : s.toNat < ts[d.toNat].length := by rw [r1]; omega
  have e : stp ts s d = ts[d.toNat][s.toNat] := by
    unfold stp
    rw [ht]
    simp [h2]
  refine ⟨_, ht, by rw [e]; simp [h2], ?_⟩
  rw [e]
  exact r2 _ (List.getElem_mem h2)
theorem Wf.run {ts : Ts} (h : Wf ts) : ∀ (row : List Int) (s : Int), (∀ d ∈ row, 0 ≤ d ∧ d < (ts.length : Int)) → 0 ≤ s ∧ s < (nS ts : Int) → 0 ≤ run ts s row ∧ run ts s row < (nS ts : Int)
  | [], s, _, hs => hs
  | d :: r, s, hd, hs => by
    obtain ⟨t, _, _, h3⟩ := h.at_ (hd d List.mem_cons_self) hs
    exact Wf.run h r (stp ts s d) (fun e he => hd e (List.mem_cons_of_mem _ he)) h3
theorem run_snoc (ts : Ts) (s : Int) (row : List Int) (d : Int) : run ts s (row ++ [d]) = stp ts (run ts s row) d := by
  unfold run
  rw [List.foldl_append]; rfl
theorem take_succ {α : Type} {l : List α} {i : Nat} {x : α} (h : l[i]? = some x) : l.take (i + 1) = l.take i ++ [x] := by
  rw [List.take_add_one, h]; rfl
end K1
namespace K1
/-! ### rows: the shorter ones ahead, then by their deeds -/
def LL : List Int → List Int → Prop
  | _, [] => False
  | [], _ :: _ => True
  | a :: r, b :: q => a < b ∨ (a = b ∧ LL r q)
theorem LL.irrefl : ∀ r, ¬ LL r r
  | [], h => h
  | a :: r, h => by
    rcases h with h | ⟨_, h⟩
    · omega
    · exact LL.irrefl r h
theorem LL.trans : ∀ {r q s : List Int}, LL r q → LL q s → LL r s
  | _, _, [], _, h => by
    cases ‹List Int› <;> exact absurd h (by simp [LL])
  | _, [], _ :: _, h, _ => by
    cases ‹List Int› <;> exact absurd h (by simp [LL])
  | [], _ :: _, _ :: _, _, _ => True.intro
  | a :: r, b :: q, c :: s, h1, h2 => by
    rcases h1 with h1 | ⟨rfl, h1⟩
    · rcases h2 with h2 | ⟨rfl, h2⟩
      · exact .inl (by omega)
      · exact .inl h1
    · rcases h2 with h2 | ⟨rfl, h2⟩
      · exact .inl h2
      · exact .inr ⟨rfl, h1.trans h2⟩
theorem LL.tri : ∀ {r q : List Int}, r.length = q.length → r = q ∨ LL r q ∨ LL q r
  | [], [], _ => .inl rfl
  | a :: r, b :: q, h => by
    by_cases e1 : a < b
    · exact .inr (.inl (.inl e1))
    · by_cases e2 : b < a
      · exact .inr (.inr (.inl e2))
      · obtain rfl : a = b := by omega
        rcases LL.tri (r := r) (q := q) (by simpa using h) with e | e | e
        · exact .inl (by rw [e])
        · exact .inr (.inl (.inr ⟨rfl, e⟩))
        · exact .inr (.inr (.inr ⟨rfl, e⟩))
  | [], _ :: _, h => by cases h
  | _ :: _, [], h => by cases h
theorem LL.app : ∀ {r q : List Int} (s t : List Int), r.length = q.length → LL r q → LL (r ++ s) (q ++ t)
  | [], [], _, _, _, h => h.elim
  | a :: r, b :: q, s, t, hl, h => by
    rcases h with h | ⟨e, h⟩
    · exact .inl h
    · exact .inr ⟨e, LL.app s t (by simpa using hl) h⟩
  | [], _ :: _, _, _, h, _ => by cases h
  | _ :: _, [], _, _, h, _ => by cases h
theorem LL.app' : ∀ (r : List Int) {s t : List Int}, LL s t → LL (r ++ s) (r ++ t)
  | [], _, _, h => h
  | _ :: r, _, _, h => .inr ⟨rfl, LL.app' r h⟩
def rlt (r q : List Int) : Prop := r.length < q.length ∨ (r.length = q.length ∧ LL r q)
theorem rlt.irrefl (r : List Int) : ¬ rlt r r := fun h => by
  rcases h with h | ⟨_, h⟩
  · omega
  · exact LL.irrefl r h
theorem rlt.trans {r q s : List Int} (a : rlt r q) (b : rlt q s) : rlt r s := by
  rcases a with a | ⟨a1, a2⟩ <;> rcases b with b | ⟨b1, b2⟩
  · exact .inl (by omega)
  · exact .inl (by omega)
  · exact .inl (by omega)
  · exact .inr ⟨by omega, a2.trans b2⟩
theorem rlt.tri (r q : List Int) : r = q ∨ rlt r q ∨ rlt q r := by
  by_cases e1 : r.length < q.length
  · exact .inr (.inl (.inl e1))
  · by_cases e2 : q.length < r.length
    · exact .inr (.inr (.inl e2))
    · have e : r.length = q.length := by omega
      rcases LL.tri e with h | h | h
      · exact .inl h
      · exact .inr (.inl (.inr ⟨e, h⟩))
      · exact .inr (.inr (.inr ⟨e.symm, h⟩))
theorem rlt.app {r q : List Int} (d e : Int) (h : rlt r q) : rlt (r ++ [d]) (q ++ [e]) := by
  rcases h with h | ⟨h1, h2⟩
  · exact .inl (by simp only [List.length_append, List.length_cons, List.length_nil]; omega)
  · exact .inr ⟨by simp only [List.length_append, List.length_cons, List.length_nil]; omega, LL.app _ _ h1 h2⟩
theorem rlt.last (r : List Int) {d e : Int} (h : d < e) : rlt (r ++ [d]) (r ++ [e]) := .inr ⟨by simp, LL.app' r (.inl h)⟩
theorem rlt.nil {r : List Int} (h : r ≠ []) : rlt [] r := .inl (by cases r with | nil => exact absurd rfl h | cons a r => simp)
def rle (r q : List Int) : Prop := r = q ∨ rlt r q
theorem rle.trans {r q s : List Int} (a : rle r q) (b : rle q s) : rle r s := by
  rcases a with rfl | a
  · exact b
  · rcases b with rfl | b
    · exact .inr a
    · exact .inr (a.trans b)
theorem rle.anti {r q : List Int} (a : rle r q) (b : rle q r) : r = q := by
  rcases a with rfl | a
  · rfl
  · rcases b with rfl | b
    · rfl
    · exact absurd (a.trans b) (rlt.irrefl _)
theorem rle.app {r q : List Int} (d : Int) (h : rle r q) : rle (r ++ [d]) (q ++ [d]) := by
  rcases h with rfl | h
  · exact .inl rfl
  · exact .inr (h.app d d)
/-! ### the search by rows, told without a heap -/
abbrev KR := List Int × List Int
def path (act : List Int → Int → List Int) (s : List Int) (r : List Int) : List Int := r.foldl act s
theorem path_snoc (act : List Int → Int → List Int) (s r : List Int) (d : Int) : path act s (r ++ [d]) = act (path act s r) d := by
  unfold path
  rw [List.foldl_append]; rfl
/-- all deeds of the first i things, and the first d deeds of the next one, are done -/
structure Bf (act : List Int → Int → List Int) (n : Nat) (s : List Int) (F : List KR) (i d : Nat) : Prop where
  nd : (F.map (·.1)).Nodup
  h0 : F[0]? = some (s, [])
  pth : ∀ (j : Nat) k r, F[j]? = some (k, r) → k = path act s r ∧ (∀ e ∈ r, 0 ≤ e ∧ e < (n : Int)) ∧ r.length ≤ j
  asc : ∀ (j j' : Nat) k k' r r', j < j' → F[j]? = some (k, r) → F[j']? = some (k', r') → rlt r r'
  old : ∀ (j : Nat) k r, F[j]? = some (k, r) → r = [] ∨ ∃ (p : Nat) (kp rp : List Int) (e : Int), F[p]? = some (kp, rp) ∧ r = rp ++ [e] ∧ 0 ≤ e ∧ (p < i ∨ (p = i ∧ e < (d : Int)))
  cl : ∀ (p : Nat) kp rp (e : Int), F[p]? = some (kp, rp) → 0 ≤ e → e < (n : Int) → (p < i ∨ (p = i ∧ e < (d : Int))) → ∃ (j : Nat) (r : List Int), F[j]? = some (act kp e, r) ∧ rle r (rp ++ [e])
variable {act : List Int → Int → List Int} {n : Nat} {s : List Int} {F : List KR} {i d : Nat}
theorem Bf.init : Bf act n s [(s, [])] 0 0 := by
  have one : ∀ (j : Nat) k r, ([(s, [])] : List KR)[j]? = some (k, r) → j = 0 ∧ k = s ∧ r = [] := fun j k r h => by
    cases j with
    | zero =>
      have e : (s, []) = (k, r) := Option.some.inj h
      injection e with e1 e2
      exact ⟨rfl, e1.symm, e2.symm⟩
    | succ j => cases h
  refine ⟨by simp, rfl, fun j k r h => ?_, fun j j' k k' r r' hj h h' => ?_, fun j k r h => .inl (one j k r h).2.2, fun p kp rp e h _ _ z => ?_⟩
  · obtain ⟨rfl, rfl, rfl⟩ := one j k r h
    exact ⟨rfl, fun e he => absurd he (by simp), Nat.zero_le _⟩
  · have := (one j' k' r' h').1
    omega
  · obtain ⟨rfl, rfl, rfl⟩ := one p kp rp h
    omega
/-- a row of the search against the row that is looked at -/
theorem Bf.ahead (b : Bf act n s F i d) {ki ri : List Int} (hi : F[i]? = some (ki, ri)) {j : Nat} {k r : List Int} (h : F[j]? = some (k, r)) : rlt r (ri ++ [(d : Int)]) := by
  rcases b.old j k r h with rfl | ⟨p, kp, rp, e, hp, rfl, _, z⟩
  · exact rlt.nil (by simp)
  · rcases z with z | ⟨rfl, z⟩
    · exact (b.asc p i kp ki rp ri z hp hi).app _ _
    · rw [hp] at hi
      have e2 : (kp, rp) = (ki, ri) := Option.some.inj hi
      injection e2 with _ e2
      subst e2
      exact rlt.last _ z
theorem Bf.more (b : Bf act n s F i d) {j : Nat} {k r : List Int} {ki ri : List Int} (hi : F[i]? = some (ki, ri)) (h : F[j]? = some (k, r)) (hk : k = act ki d) : Bf act n s F i (d + 1) := by
  refine ⟨b.nd, b.h0, b.pth, b.asc, fun j k r h => ?_, fun p kp rp e hp h0 hn z => ?_⟩
  · rcases b.old j k r h with e | ⟨p, kp, rp, e, hp, e1, e2, z⟩
    · exact .inl e
    · exact .inr ⟨p, kp, rp, e, hp, e1, e2, by omega⟩
  · by_cases q : p < i ∨ (p = i ∧ e < (d : Int))
    · exact b.cl p kp rp e hp h0 hn q
    · obtain ⟨rfl, rfl⟩ : p = i ∧ e = (d : Int) := by omega
      rw [hi] at hp
      have e2 : (ki, ri) = (kp, rp) := Option.some.inj hp
      injection e2 with e1 e2
      subst e1
      subst e2
      subst hk
      exact ⟨j, r, h, .inr (b.ahead hi h)⟩
theorem Bf.put (b : Bf act n s F i d) {ki ri : List Int} (hi : F[i]? = some (ki, ri)) (hn : act ki d ∉ F.map (·.1)) (hd : d < n) : Bf act n s (F ++ [(act ki d, ri ++ [(d : Int)])]) i (d + 1) := by
  have hil : i < F.length := (List.getElem?_eq_some_iff.mp hi).1
  have at_ : ∀ (j : Nat) k r, (F ++ [(act ki d, ri ++ [(d : Int)])])[j]? = some (k, r) → F[j]? = some (k, r) ∨ (j = F.length ∧ k = act ki d ∧ r = ri ++ [(d : Int)]) := fun j k r h => by
    by_cases hj : j < F.length
    · rw [List.getElem?_append_left hj] at h
      exact .inl h
    · rw [List.getElem?_append_right (by omega)] at h
      cases e : j - F.length with
      | zero =>
        rw [e] at h
        have e2 : (act ki d, ri ++ [(d : Int)]) = (k, r) := Option.some.inj h
        injection e2 with e1 e2
        exact .inr ⟨by omega, e1.symm, e2.symm⟩
      | succ q => rw [e] at h; cases h
  have up : ∀ (j : Nat) x, F[j]? = some x → (F ++ [(act ki d, ri ++ [(d : Int)])])[j]? = some x := fun j x h => by
    rw [List.getElem?_append_left (List.getElem?_eq_some_iff.mp h).1]; exact h
  have new : (F ++ [(act ki d, ri ++ [(d : Int)])])[F.length]? = some (act ki d, ri ++ [(d : Int)]) := by
    rw [List.getElem?_append_right (Nat.le_refl _), Nat.sub_self]; rfl
  refine ⟨?_, up _ _ b.h0, fun j k r h => ?_, fun j j' k k' r r' hj h h' => ?_, fun j k r h => ?_, fun p kp rp e hp h0 hne z => ?_⟩
  · rw [List.map_append, List.nodup_append]
    exact ⟨b.nd, by simp, fun y hy z hz e => by
      rw [List.map_cons, List.map_nil, List.mem_singleton] at hz
      rw [e, hz] at hy
      exact hn hy⟩
  · rcases at_ j k r h with h | ⟨rfl, rfl, rfl⟩
    · exact b.pth j k r h
    · obtain ⟨p1, p2, p3⟩ := b.pth i ki ri hi
      refine ⟨by rw [path_snoc, ← p1], fun e he => ?_, by simp only [List.length_append, List.length_cons, List.length_nil]; omega⟩
      rcases List.mem_append.mp he with he | he
      · exact p2 e he
      · rw [List.mem_singleton.mp he]; omega
  · rcases at_ j' k' r' h' with h' | ⟨rfl, rfl, rfl⟩
    · have hj' := (List.getElem?_eq_some_iff.mp h').1
      rcases at_ j k r h with h | ⟨rfl, _, _⟩
      · exact b.asc j j' k k' r r' hj h h'
      · omega
    · rcases at_ j k r h with h | ⟨rfl, _, _⟩
      · exact b.ahead hi h
      · omega
  · rcases at_ j k r h with h | ⟨rfl, rfl, rfl⟩
    · rcases b.old j k r h with e | ⟨p, kp, rp, e, hp, e1, e2, z⟩
      · exact .inl e
      · exact .inr ⟨p, kp, rp, e, up _ _ hp, e1, e2, by omega⟩
    · exact .inr ⟨i, ki, ri, d, up _ _ hi, rfl, by omega, by omega⟩
  · rcases at_ p kp rp hp with hp | ⟨rfl, _, _⟩
    · by_cases q : p < i ∨ (p = i ∧ e < (d : Int))
      · obtain ⟨j, r, h1, h2⟩ := b.cl p kp rp e hp h0 hne q
        exact ⟨j, r, up _ _ h1, h2⟩
      · obtain ⟨rfl, rfl⟩ : p = i ∧ e = (d : Int) := by omega
        rw [hi] at hp
        have e2 : (ki, ri) = (kp, rp) := Option.some.inj hp
        injection e2 with e1 e2
        subst e1
        subst e2
        exact ⟨F.length, _, new, .inl rfl⟩
    · omega
theorem Bf.next (b : Bf act n s F i n) : Bf act n s F (i + 1) 0 := by
  refine ⟨b.nd, b.h0, b.pth, b.asc, fun j k r h => ?_, fun p kp rp e hp h0 hn z => b.cl p kp rp e hp h0 hn (by omega)⟩
  rcases b.old j k r h with e | ⟨p, kp, rp, e, hp, e1, e2, z⟩
  · exact .inl e
  · exact .inr ⟨p, kp, rp, e, hp, e1, e2, by omega⟩
/-- all rows' first ones, ascending -/
structure Fst (act : List Int → Int → List Int) (n : Nat) (s : List Int) (F : List KR) : Prop where
  nd : (F.map (·.1)).Nodup
  h0 : F[0]? = some (s, [])
  pth : ∀ (j : Nat) k r, F[j]? = some (k, r) → k = path act s r ∧ (∀ e ∈ r, 0 ≤ e ∧ e < (n : Int)) ∧ r.length ≤ j
  asc : ∀ (j j' : Nat) k k' r r', j < j' → F[j]? = some (k, r) → F[j']? = some (k', r') → rlt r r'
  all : ∀ r : List Int, (∀ e ∈ r, 0 ≤ e ∧ e < (n : Int)) → ∃ (j : Nat) (r' : List Int), F[j]? = some (path act s r, r') ∧ rle r' r
theorem Bf.done (b : Bf act n s F i 0) (hi : F.length ≤ i) : Fst act n s F := by
  refine ⟨b.nd, b.h0, b.pth, b.asc, fun r => ?_⟩
  generalize hm : r.length = m
  induction m generalizing r with
  | zero =>
    intro _
    obtain rfl : r = [] := List.eq_nil_of_length_eq_zero hm
    exact ⟨0, [], b.h0, .inl rfl⟩
  | succ m ih =>
    intro hr
    rcases List.eq_nil_or_concat r with rfl | ⟨q, e, rfl⟩
    · cases hm
    · have hq : q.length = m := by
        simp only [List.concat_eq_append, List.length_append, List.length_cons, List.length_nil] at hm
        omega
      rw [List.concat_eq_append] at hr ⊢
      obtain ⟨j, r', h1, h2⟩ := ih q hq fun x hx => hr x (List.mem_append_left _ hx)
      have he := hr e (List.mem_append_right _ (List.mem_singleton.mpr rfl))
      have hj := (List.getElem?_eq_some_iff.mp h1).1
      obtain ⟨j2, r2, h3, h4⟩ := b.cl j _ _ e h1 he.1 he.2 (.inl (by omega))
      exact ⟨j2, r2, by rw [path_snoc]; exact h3, h4.trans (h2.app e)⟩
end K1
namespace K1
open PySem PySem.Spec PyProof.Rows L2
/-! ### {k: v}, k a tuple -/
def tDispT (tk tv : TE) : TE := fun σ H Q => ∀ p, H p = none → tk σ (upd H p (.dT [])) fun x H1 => tv σ H1 fun y H2 => ∃ b k, x = .ref b ∧ H2 b = some (.tup (k.map kV)) ∧ H2 p = some (.dT []) ∧ Q (.ref p) (upd H2 p (.dT [(k, y)]))
theorem pe_dispT {X : Cx} {pos : Pos} {ke ve : Expr} {tk tv : TE} (hu : X.A.units < cLine) (hk : PE X ke tk) (hv : PE X ve tv) : PE X (.Dict [some ke] [ve] pos) (tDispT tk tv) := by
  refine ⟨fun pins s σ H Q I q => ?_⟩
  have hn := I.hok.fresh (Nat.le_refl s.heap.objs.size)
  have I1 := I.laid (a := s.heap.objs.size) (o := .dT []) (h' := s.heap.push { cls := .type "dict", data := .dict #[] }) (t' := s.toks) (fun _ _ q => Heap.get?_push_of_some _ q) (Nat.le_refl _) (dt_empty s.heap I.big)
  have P := pps_cons (pos := pos) hk hv pps_nil
  rw [arm_eval_Dict, zip_pairTrees [some ke] [ve] X.env pos rfl rfl, dictDisplay_pairs _ (by intro e; cases e) (by show 1 < 17; decide)]
  refine wpAny_bind (wpAny_standAt (wpAny_bind (wpAny_subDictH (knd := tupleKind (mixKind X.prog X.w)) (Q := fun d s' => wpAny (model X.prog X.w) X.A (pure (Value.ref d)) (EP X pins σ Q) X.xe s') hu (by show 1 ≤ 15; decide) ?_)))
  let Φ : V → V → Hp → Prop := fun x y H2 => ∃ b k, x = .ref b ∧ H2 b = some (.tup (k.map kV)) ∧ H2 s.heap.objs.size = some (.dT []) ∧ Q (.ref s.heap.objs.size) (upd H2 s.heap.objs.size (.dT [(k, y)]))
  refine thn (P.run pins _ σ _ (fun ps H2 => match ps with | [(x, y)] => Φ x y H2 | _ => False) I1 (q _ hn)) fun ws s2 hh => ?_
  obtain ⟨ps, H2, I2, rel, hh⟩ := hh
  match ps, hh with
  | [(x, y)], ⟨b, k, ex, hb, hp, q2⟩ =>
    cases rel with
    | cons r1 r2 =>
      cases r2
      rename_i u
      obtain ⟨u1, u2⟩ := u
      obtain ⟨rx, ry⟩ := r1
      subst ex
      obtain rfl : u1 = Value.ref b := rx
      obtain ⟨z, hd, xs, kt, dd⟩ := dt_of I2.hok hp
      cases kt
      refine ⟨[(k, b, u2)], ⟨rfl, rfl, key_of I2.hok hb, trivial⟩, dd, fun h' tk' dd' hs => wpAny_pure ?_⟩
      have dd2 : h'.DictOfH (tupleKind (mixKind X.prog X.w)) s.heap.objs.size [(k, b, u2)] := dd'
      have he : ∃ q, h'.get? s.heap.objs.size = some q := let ⟨q, _, _, hq, _⟩ := dd2; ⟨q, hq⟩
      obtain ⟨ob, es, ep, hq, h2, h3, h4, _, h5⟩ := dd2
      have nb : b ≠ s.heap.objs.size := ne_of hb hp (fun z => nomatch z)
      have kt2 : KT (upd H2 s.heap.objs.size (.dT [(k, y)])) [(k, y)] [(k, b, u2)] := .cons ⟨rfl, by rw [upd_ne nb]; exact hb, ry⟩ .nil
      refine ⟨.ref s.heap.objs.size, _, d_write (ob := .dT [(k, y)]) I2 (by rw [hp]; exact True.intro) hs he ⟨by show 1 ≤ sizeLine; decide, hd, _, kt2, ob, es, ep, hq, h2, h3, h4, h5⟩, rfl, q2⟩
/-! ### the keys of a dict that nobody else sees: locked for good -/
def iKeysF (td : TE) : TI := fun σ H R => td σ H fun x H1 => ∃ d kvs, x = .ref d ∧ H1 d = some (.dT kvs) ∧ ∀ o, R (Itkt d o kvs) (upd H1 d (.frz o (.dT kvs)))
theorem pi_keysF {X : Cx} {tg e : Expr} {td : TE} (he : PE X e td) : PI X tg e (iKeysF td) := by
  refine ⟨fun pins s σ H R I h => ?_⟩
  refine thn (he.run pins s σ H _ I h) fun u s1 ⟨x, H1, I1, rx, d, kvs, ex, hd0, q⟩ => ?_
  subst ex
  obtain rfl : u = Value.ref d := rx
  obtain ⟨o, I2⟩ := I1.lock hd0 trivial
  obtain ⟨hs, hgd, hx, es, ep, hdt, hsz, ent⟩ := I2.frzT upd_same
  refine iter_keys hs hgd hx hdt (pi_one (tk := s1.toks) I2 _ (turn_keysT _ hdt) ⟨_, Heap.get?_push_size _ rfl, rfl, ?_⟩ (q o))
  rw [hsz] <;> rfl
theorem lc_keysF {d : Addr} {o : Obj} {kvs : List (List Key × V)} {g : TG} {tt : TT} {te : TE} {vs : List Nat} {σ : L2.St} {H1 : Hp} {D : Addr} {Qd : Hp → Prop} (Pv : Nat → Hp → Prop) (h0 : Pv 0 (upd H1 D (.lst []))) (hl : ∀ i H, i ≤ kvs.length → Pv i H → H d = some (.frz o (.dT kvs)))
    (hs : ∀ (i : Nat) k v q H, kvs[i]? = some (k, v) → H q = some (.tup (k.map kV)) → Pv i H → g (.ref q) (wipe σ vs) H fun σ2 H2 => wipe σ2 vs = wipe σ vs ∧ tt σ2 H2 fun b H3 =>
      if b = true then te σ2 H3 fun y H4 => ∃ acc, H4 D = some (.lst acc) ∧ acc.length < sizeLine ∧ Pv (i + 1) (upd H4 D (.lst (acc ++ [y]))) else Pv (i + 1) H3) (hd : ∀ H, Pv kvs.length H → Qd H) :
    ∃ W : Nat → Nat → Hp → Prop, (∃ m, W 0 m (upd H1 D (.lst []))) ∧ ∀ i m H, W i m H →
      ((Itkt d o kvs).stop i H ∧ Qd H) ∨ ((Itkt d o kvs).go i H ∧ ∃ Nx : Hp → Prop, (∀ H', Nx H' → ∃ m', m' < m ∧ W (i + 1) m' H') ∧ ∀ x H', (Itkt d o kvs).yld i H x H' → g x (wipe σ vs) H' fun σ2 H2 => wipe σ2 vs = wipe σ vs ∧ tt σ2 H2 fun b H3 =>
        if b = true then te σ2 H3 fun y H4 => ∃ acc, H4 D = some (.lst acc) ∧ acc.length < sizeLine ∧ Nx (upd H4 D (.lst (acc ++ [y]))) else Nx H3) := by
  refine ⟨fun i m H => m = kvs.length - i ∧ i ≤ kvs.length ∧ Pv i H, ⟨kvs.length, by simp, Nat.zero_le _, h0⟩, ?_⟩
  rintro i m H ⟨rfl, hi, p⟩
  have q := hl i H hi p
  by_cases hlt : i < kvs.length
  · refine .inr ⟨⟨q, hlt⟩, Pv (i + 1), fun H' p' => ⟨kvs.length - (i + 1), by omega, rfl, hlt, p'⟩, fun x H' y => ?_⟩
    obtain ⟨e, k, v, b, e1, e2, e3⟩ := y
    subst e e2
    exact hs i k v b _ e1 e3 p
  · have e : i = kvs.length := by omega
    subst e
    exact .inl ⟨⟨q, Nat.le_refl _⟩, hd H p⟩
end K1
namespace K1
open PySem PySem.Spec PyProof.Rows L2
/-- at most as many as there are numbers -/
theorem nodup_le : ∀ (n : Nat) (L : List Int), L.Nodup → (∀ x ∈ L, 0 ≤ x ∧ x < (n : Int)) → L.length ≤ n
  | 0, L, _, h => by
    cases L with
    | nil => exact Nat.le_refl _
    | cons a r => have := h a List.mem_cons_self; omega
  | n + 1, L, nd, h => by
    have ih := nodup_le n (L.erase (n : Int)) (nd.erase _) fun x hx => by
      have h1 := h x (List.mem_of_mem_erase hx)
      have h2 : x ≠ (n : Int) := fun e => by
        rw [e] at hx
        exact (List.Nodup.mem_erase_iff nd).mp hx |>.1 rfl
      omega
    have h3 : L.length ≤ (L.erase (n : Int)).length + 1 := by
      by_cases hm : (n : Int) ∈ L
      · rw [List.length_erase_of_mem hm]; omega
      · rw [List.erase_of_not_mem hm]; omega
    omega
theorem val_some {kvs : List (List Key × V)} {k : List Key} {v : V} (h : valV kvs k = some v) : ∃ i : Nat, kvs[i]? = some (k, v) := by
  unfold valV at h
  cases e : kvs.find? (fun kv => decide (kv.1 = k)) with
  | none => rw [e] at h; cases h
  | some p =>
    rw [e] at h
    have h1 := List.find?_some e
    have h2 := List.mem_of_find?_eq_some e
    obtain ⟨i, hi, ep⟩ := List.mem_iff_getElem.mp h2
    refine ⟨i, ?_⟩
    rw [List.getElem?_eq_getElem hi, ep]
    obtain ⟨p1, p2⟩ := p
    have e1 : p1 = k := of_decide_eq_true h1
    have e2 : p2 = v := Option.some.inj h
    rw [e1, e2]
theorem ixTK {X : Cx} {K : PySem.W.Frag} (h : X.K = K) : IxR X (rIxT K) := by
  subst h
  exact ix_tup

/-- keys of some states; where a deed leads them -/
def kK (xs : List Int) : List Key := xs.map Sum.inl
theorem kK_v (xs : List Int) : (kK xs).map kV = vrow xs := by
  unfold kK vrow
  rw [List.map_map]; rfl
theorem kK_inj : ∀ {a b : List Int}, kK a = kK b → a = b
  | [], [], _ => rfl
  | [], _ :: _, h => by cases h
  | _ :: _, [], h => by cases h
  | x :: a, y :: b, h => by
    have h : (Sum.inl x :: kK a : List Key) = Sum.inl y :: kK b := h
    injection h with h1 h2
    injection h1 with h1
    rw [h1, kK_inj h2]
def actL (ts : Ts) (x : List Int) (d : Int) : List Int := x.map fun s => stp ts s d
theorem path_run (ts : Ts) : ∀ (r x : List Int), path (actL ts) x r = x.map fun s => run ts s r
  | [], x => by
    show x = x.map fun s => s
    rw [List.map_id']
  | d :: r, x => by
    show path (actL ts) (actL ts x d) r = _
    rw [path_run ts r, actL, List.map_map]; rfl
/-- how the search stands: its dict, its queue -/
structure DQ (H : Hp) (d q : Addr) (F : List KR) (kvs : List (List Key × V)) (as : List Addr) : Prop where
  hd : H d = some (.dT kvs)
  ky : kvs.map (·.1) = F.map fun e => kK e.1
  vl : ∀ (i : Nat) k v x r, kvs[i]? = some (k, v) → F[i]? = some (x, r) → ∃ a, v = .ref a ∧ H a = some (.tup (vrow r))
  hq : H q = some (.lst (as.map V.ref))
  ln : as.length = F.length
  it : ∀ (i : Nat) a x r, as[i]? = some a → F[i]? = some (x, r) → H a = some (.tup (vrow x))
theorem DQ.same {H H' : Hp} {d q : Addr} {F : List KR} {kvs : List (List Key × V)} {as : List Addr} (b : DQ H d q F kvs as) (s : Same H H') : DQ H' d q F kvs as :=
  ⟨s _ _ b.hd, b.ky, fun i k v x r e1 e2 => let ⟨a, h1, h2⟩ := b.vl i k v x r e1 e2; ⟨a, h1, s _ _ h2⟩, s _ _ b.hq, b.ln, fun i a x r e1 e2 => s _ _ (b.it i a x r e1 e2)⟩
theorem DQ.klen {H : Hp} {d q : Addr} {F : List KR} {kvs : List (List Key × V)} {as : List Addr} (b : DQ H d q F kvs as) : kvs.length = F.length := by
  have := congrArg List.length b.ky
  simpa using this
theorem DQ.none {H : Hp} {d q : Addr} {F : List KR} {kvs : List (List Key × V)} {as : List Addr} (b : DQ H d q F kvs as) {x : List Int} : valV kvs (kK x) = none ↔ x ∉ F.map (·.1) := by
  have e := valV_any (kK x) kvs
  have h : (kvs.any fun kv => decide (kv.1 = kK x)) = true ↔ x ∈ F.map (·.1) := by
    have z : (kvs.any fun kv => decide (kv.1 = kK x)) = ((kvs.map (·.1)).any fun k => decide (k = kK x)) := by rw [List.any_map]; rfl
    rw [z, b.ky, List.any_map, List.any_eq_true]
    constructor
    · rintro ⟨y, hy, e⟩
      have e' : kK y.1 = kK x := of_decide_eq_true e
      exact List.mem_map.mpr ⟨y, hy, kK_inj e'⟩
    · intro hx
      obtain ⟨y, hy, e⟩ := List.mem_map.mp hx
      exact ⟨y, hy, decide_eq_true (congrArg kK e)⟩
  constructor
  · intro hn hx
    rw [hn] at e
    rw [h.mpr hx] at e
    cases e
  · intro hx
    cases q : valV kvs (kK x) with
    | none => rfl
    | some v =>
      rw [q] at e
      exact absurd (h.mp e) hx
theorem DQ.look {H : Hp} {d q : Addr} {F : List KR} {kvs : List (List Key × V)} {as : List Addr} (b : DQ H d q F kvs as) (nd : (F.map (·.1)).Nodup) {x r : List Int} {i : Nat} (hi : F[i]? = some (x, r)) : ∃ a, valV kvs (kK x) = some (.ref a) ∧ H a = some (.tup (vrow r)) := by
  cases e : valV kvs (kK x) with
  | none => exact absurd (List.mem_map.mpr ⟨_, List.mem_of_getElem? hi, rfl⟩) (b.none.mp e)
  | some v =>
    obtain ⟨j, hj⟩ := val_some e
    have hk : (kvs.map (·.1))[j]? = some (kK x) := by rw [List.getElem?_map, hj]; rfl
    rw [b.ky, List.getElem?_map] at hk
    cases e2 : F[j]? with
    | none => rw [e2] at hk; cases hk
    | some y =>
      rw [e2] at hk
      have e3 : y.1 = x := kK_inj (Option.some.inj hk)
      have hij : j = i := by
        have f1 : (F.map (·.1))[j]? = some x := by rw [List.getElem?_map, e2]; exact congrArg some e3
        have f2 : (F.map (·.1))[i]? = some x := by rw [List.getElem?_map, hi]; rfl
        obtain ⟨g1, e5⟩ := List.getElem?_eq_some_iff.mp f1
        obtain ⟨g2, e6⟩ := List.getElem?_eq_some_iff.mp f2
        exact (List.getElem_inj nd).mp (e5.trans e6.symm)
      subst hij
      obtain ⟨a, e4, h4⟩ := b.vl j _ _ _ _ hj hi
      exact ⟨a, by rw [e4], h4⟩
theorem DQ.put {H : Hp} {d q : Addr} {F : List KR} {kvs : List (List Key × V)} {as : List Addr} (b : DQ H d q F kvs as) {x r : List Int} {e a : Addr} (hx : x ∉ F.map (·.1)) (he : H e = some (.tup (vrow x))) (ha : H a = some (.tup (vrow r))) :
    DQ (upd (upd H d (.dT (putK kvs (kK x) (.ref a)))) q (.lst (as.map V.ref ++ [.ref e]))) d q (F ++ [(x, r)]) (kvs ++ [(kK x, .ref a)]) (as ++ [e]) := by
  have ndq : d ≠ q := ne_of b.hd b.hq (by intro z; cases z)
  have keep : ∀ c ys, H c = some (.tup ys) → (upd (upd H d (.dT (putK kvs (kK x) (.ref a)))) q (.lst (as.map V.ref ++ [.ref e]))) c = some (.tup ys) := fun c ys h => by
    rw [upd_ne (ne_of h b.hq (by intro z; cases z)), upd_ne (ne_of h b.hd (by intro z; cases z))]; exact h
  have lk := b.klen
  have ll := b.ln
  refine ⟨?_, ?_, fun i k v y s h h' => ?_, ?_, ?_, fun i c y s h h' => ?_⟩
  · rw [upd_ne ndq, upd_same, putK_new _ (b.none.mpr hx)]
  · rw [List.map_append, b.ky, List.map_append]; rfl
  · by_cases hi : i < F.length
    · rw [List.getElem?_append_left (by omega)] at h
      rw [List.getElem?_append_left hi] at h'
      obtain ⟨c, e1, e2⟩ := b.vl i k v y s h h'
      exact ⟨c, e1, keep _ _ e2⟩
    · have hi2 : i = F.length := by
        have := (List.getElem?_eq_some_iff.mp h').1
        simp only [List.length_append, List.length_cons, List.length_nil] at this
        omega
      subst hi2
      rw [← lk, List.getElem?_append_right (Nat.le_refl _), Nat.sub_self] at h
      rw [List.getElem?_append_right (Nat.le_refl _), Nat.sub_self] at h'
      have e1 : (kK x, V.ref a) = (k, v) := Option.some.inj h
      have e2 : (x, r) = (y, s) := Option.some.inj h'
      injection e1 with _ e1
      injection e2 with _ e2
      subst e2
      exact ⟨a, e1.symm, keep _ _ ha⟩
  · rw [upd_same, List.map_append]; rfl
  · rw [List.length_append, List.length_append, b.ln]; rfl
  · by_cases hi : i < F.length
    · rw [List.getElem?_append_left (by omega)] at h
      rw [List.getElem?_append_left hi] at h'
      exact keep _ _ (b.it i c y s h h')
    · have hi2 : i = F.length := by
        have := (List.getElem?_eq_some_iff.mp h').1
        simp only [List.length_append, List.length_cons, List.length_nil] at this
        omega
      subst hi2
      rw [← ll, List.getElem?_append_right (Nat.le_refl _), Nat.sub_self] at h
      rw [List.getElem?_append_right (Nat.le_refl _), Nat.sub_self] at h'
      have e2 : (x, r) = (y, s) := Option.some.inj h'
      injection e2 with e2 _
      subst e2
      rw [← Option.some.inj h]
      exact keep _ _ he
/-- what the search tells: a dict of keys with their first rows -/
def DAt (H : Hp) (d : Addr) (F : List KR) : Prop := ∃ kvs : List (List Key × V), H d = some (.dT kvs) ∧ kvs.map (·.1) = (F.map fun e => kK e.1) ∧ ∀ (i : Nat) k v x r, kvs[i]? = some (k, v) → F[i]? = some (x, r) → ∃ a, v = .ref a ∧ H a = some (.tup (vrow r))
theorem actL_rng {ts : Ts} (w : Wf ts) {x : List Int} {d : Int} (hd : 0 ≤ d ∧ d < (ts.length : Int)) (hx : ∀ s ∈ x, 0 ≤ s ∧ s < (nS ts : Int)) : ∀ s ∈ actL ts x d, 0 ≤ s ∧ s < (nS ts : Int) := fun s hs => by
  obtain ⟨y, hy, rfl⟩ := List.mem_map.mp hs
  exact (w.at_ hd (hx y hy)).choose_spec.2.2
theorem path_rng {ts : Ts} (w : Wf ts) {x r : List Int} (hr : ∀ e ∈ r, 0 ≤ e ∧ e < (ts.length : Int)) (hx : ∀ s ∈ x, 0 ≤ s ∧ s < (nS ts : Int)) : ∀ s ∈ path (actL ts) x r, 0 ≤ s ∧ s < (nS ts : Int) := fun s hs => by
  rw [path_run] at hs
  obtain ⟨y, hy, rfl⟩ := List.mem_map.mp hs
  exact w.run r y hr (hx y hy)
/-- there are at most a thousand keys, however far the search has come -/
def FewK (ts : Ts) (ss : List Int) : Prop := ∀ (F : List KR), (F.map (·.1)).Nodup → (∀ e ∈ F, ∃ r : List Int, (∀ x ∈ r, 0 ≤ x ∧ x < (ts.length : Int)) ∧ e.1 = path (actL ts) ss r) → F.length ≤ 1000
theorem Bf.few {ts : Ts} {ss : List Int} {F : List KR} {i d : Nat} (f : FewK ts ss) (b : Bf (actL ts) ts.length ss F i d) : F.length ≤ 1000 := f F b.nd fun e he => by
  obtain ⟨j, hj⟩ := List.getElem?_of_mem he
  obtain ⟨h1, h2, _⟩ := b.pth j e.1 e.2 hj
  exact ⟨e.2, h2, h1⟩
def spFirst (M : Addr) : Sp := fun vs H Q _ => ∃ m ta ts ss p, vs = [.ref m, .ref p, .non, .non] ∧ MachAt M H m ta (vts ts) ∧ Wf ts ∧ (∀ s ∈ ss, 0 ≤ s ∧ s < (nS ts : Int)) ∧ ss.length ≤ 12 ∧ H p = some (.tup (vrow ss)) ∧ FewK ts ss ∧
  ∀ d F H', Same H H' → H d = none → DAt H' d F → Fst (actL ts) ts.length ss F → F.length ≤ 1000 → Q (.ref d) H'
section
variable {P : Program} {w : World} {K : PySem.W.Frag} {mg : Str → Option Value} {base : Heap}
/-- a def with two defaults that are None -/
structure DfF (K : PySem.W.Frag) (mg : Str → Option Value) (f : Addr) (fd : FuncData) : Prop where
  F : FunD K "first_rows" "first_rows" (defArgs sFirst) (defBody sFirst) (defScope sFirst) [.non, .non] [] f fd
  g : mg "first_rows" = some (.ref f)
theorem DfF.b {f : Addr} {fd : FuncData} (D : DfF K mg f fd) : ∃ ds, Vals [.non, .non] ds ∧ Binds K fd ["machine", "states", "out", "most"] ds :=
  D.F.binds1 2 0 (by simp) rfl fun T kV doc pm an cdv ct us its h1 h2 => match us, its, h1, h2 with | [_, _], [_, _], _, _ => ⟨_, rfl, rfl⟩
abbrev nFR : List Str := ["machine", "states", "out", "most", "rows", "queue", "at", "here", "deed", "table", "ends", "state"]
theorem scFR : FnScope nFR ["machine", "states", "out", "most"] (defScope sFirst) := ⟨rfl, rfl, rfl, by decide +kernel, rfl, by decide +kernel, by decide +kernel⟩
theorem iteE {c : Bool} {A B : Prop} (e : c = true) (h : A) : if c = true then A else B := by subst e; exact iteT h
theorem iteN {c : Bool} {A B : Prop} (e : c = false) (h : B) : if c = true then A else B := by subst e; exact iteF h
/-- a test that the proof never comes to -/
theorem pt_never {X : Cx} {e : Expr} : PT X e fun _ _ _ => False := ⟨fun _ _ _ _ _ _ h => h.elim⟩
theorem ok_first {f M : Addr} {fd : FuncData} (D : DfF K mg f fd) (B : Bt mg) (T : McT K mg M) : FnOk P w K mg base CX0 1 f fd ["machine", "states", "out", "most"] (spFirst M) := by
  refine D.F.ok scFR (fun vs H Q E h => ?_) (fun cdv A outer s H vs Q E hr h => ?_)
  · obtain ⟨m, ta, ts, ss, p, rfl, _⟩ := h
    rfl
  · obtain ⟨m, ta, ts, ss, p, rfl, hM, hW, hs, hs12, hp, few, q⟩ := h
    have hu := hu_of hr
    suffices z : ∃ t, PSs (cxOf CX0 P w K mg base nFR "first_rows" (defScope sFirst) f cdv A outer s H E).nox (defBody sFirst) t ∧ t { nx := fun _ H' => Q .non H', rt := Q } (start nFR [.ref m, .ref p, .non, .non]) H from
      let ⟨t, h1, h2⟩ := z
      ⟨t, h1.nox, h2⟩
    refine ⟨_, pss_cons (ps_set (i := 4) scFR.nd rfl (.inl rfl) (pe_dispT (Nat.lt_of_succ_lt hu) (pv 1) (pe_tup pa_nil)))
      (pss_cons (ps_set (i := 5) scFR.nd rfl (.inl rfl) (pe_lst (pa_cons (pv 1) pa_nil)))
      (pss_cons (ps_set (i := 6) scFR.nd rfl (.inl rfl) pe_int)
      (pss_cons (ps_while PassesOwn.never (PW.pt (pw_and (pt_cmpR op_lt (pv 6) (pe_callB call_len_seq (by rfl) B.len PySem.boot_len (pa_cons (pv 5) pa_nil)) (nomark _))
          (pw_and1 (PW.pt (pw_or (pt_cmp (pc_isN (pv 2))) (pw_or1 pt_never))))))
        (pss_cons (ps_set (i := 7) scFR.nd rfl (.inl rfl) (pe_ix ix_list (pv 5) (pv 6) (fun _ _ => rfl)))
        (pss_cons (ps_for PassesOwn.never rfl (pi_enumA (by rfl) B.enumerate (pa_cons (pe_fld (pv 0) rfl) pa_nil)) (pg_tup rfl (pgs_cons (pg_name (i := 8) scFR.nd rfl (.inl rfl)) (pgs_cons (pg_name (i := 9) scFR.nd rfl (.inr rfl)) pgs_nil)))
          (pss_cons (ps_set (i := 10) scFR.nd rfl (.inl rfl) (pe_callTy call_tuple_of (by rfl) B.tuple PyProof.Rows.boot_tuple (pa_cons
              (pe_lc (own := [("state", 11)]) (g := gName 11) (tt := tYes) rfl scFR.nd (pi_tup (pv 7)) (blkOk_by (N := nFR) (sc := defScope sFirst) (by decide +kernel)) (fun _ _ _ _ _ => pg_name (i := 11) scFR.nd rfl (Or.inl rfl)) (fun _ _ _ _ _ => pts_nil)
                (fun _ _ _ _ _ => pe_ix (ixTK (K := K) rfl) (pv 9) (pv 11) (fun _ _ => rfl))) pa_nil)))
          (pss_one (ps_if (pt_cmp (pc_dnotin hu (pv 10) (pv 4))) (pss_cons (ps_dput hu (pv 4) (pv 10) (pe_op op_catA (pe_dget hu (pv 4) (pv 7) (fun _ _ => rfl)) (pe_tup (pa_cons (pv 8) pa_nil))) rfl)
            (pss_one (ps_expr (pe_bm PySem.F.plainAttrs_list PySem.F.slot_list_append PySem.F.type_list_append mt_append (pv 5) (pa_cons (pv 10) pa_nil))))) pss_nil))))
        (pss_cons (ps_if (PW.pt (pw_and (pt_cmp (pc_notN (pv 3))) (pw_and1 pt_never))) pss_never pss_nil)
        (pss_one (ps_aug (i := 6) scFR.nd rfl (.inl rfl) pe_int ip_add))))))
      (pss_one (ps_ret (pv 4)))))), ?_⟩
    intro d hd
    refine ⟨_, rfl, (by show 0 ≤ sizeLine; decide), fun e0 he0 => ?_⟩
    have ned : e0 ≠ d := fun z => by rw [z, upd_same] at he0; cases he0
    have se : Same H (upd (upd H d (.dT [])) e0 (.tup [])) := (same_new hd).trans (same_new he0)
    refine ⟨p, kK ss, rfl, by rw [kK_v]; exact se _ _ hp, by rw [upd_ne ned.symm, upd_same], ?_⟩
    generalize hH1 : upd (upd (upd H d (.dT [])) e0 (.tup [])) d (.dT [(kK ss, .ref e0)]) = H1
    have s1 : Same H H1 := fun b o e => by
      rw [← hH1, upd_ne (ne_of_none e hd)]
      exact se _ _ e
    have hd1' : H1 d = some (.dT [(kK ss, .ref e0)]) := by rw [← hH1, upd_same]
    have he1 : H1 e0 = some (.tup []) := by rw [← hH1, upd_ne ned, upd_same]
    refine ⟨_, rfl, (by show 1 ≤ sizeLine; decide), fun q0 hq0 => ?_⟩
    have s2 : Same H (upd H1 q0 (.lst [.ref p])) := s1.trans (same_new hq0)
    have b0 : DQ (upd H1 q0 (.lst [.ref p])) d q0 [(ss, [])] [(kK ss, .ref e0)] [p] := by
      have sm := same_new (o := HO.lst [.ref p]) hq0
      refine ⟨sm _ _ hd1', rfl, fun i k v x r h h' => ?_, upd_same, rfl, fun i a x r h1 h2 => ?_⟩
      · cases i with
        | zero =>
          have z : (kK ss, V.ref e0) = (k, v) := Option.some.inj h
          have z' : (ss, []) = (x, r) := Option.some.inj h'
          injection z with _ z
          injection z' with _ z'
          subst z'
          exact ⟨e0, z.symm, sm _ _ he1⟩
        | succ i => cases h
      · cases i with
        | zero =>
          obtain rfl : p = a := Option.some.inj h1
          have z' : (ss, []) = (x, r) := Option.some.inj h2
          injection z' with z' _
          subst z'
          exact s2 _ _ hp
        | succ i => cases h1
    have nd0 : H d = none := hd
    refine while_by (fun σ H' => ∃ (i : Nat) (F : List KR) (kvs : List (List Key × V)) (as : List Addr) (v5 v6 v7 v8 : Option V), σ = [some (.ref m), some (.ref p), some .non, some .non, some (.ref d), some (.ref q0), some (.int (i : Int)), v5, v6, v7, v8, none] ∧ Same H H' ∧ DQ H' d q0 F kvs as ∧ Bf (actL ts) ts.length ss F i 0 ∧ i ≤ F.length)
      (fun (σ : L2.St) _ => match σ[6]? with | some (some (V.int i)) => 1000 - i.toNat | _ => 0) ⟨0, _, _, _, none, none, none, none, rfl, s2, b0, Bf.init, Nat.zero_le _⟩ ?_
      (fun σ H Q Q' hQ ⟨v, h1, v3, h2, p, ys, h3, h4, i, j, h5, h6, k, h7, h8⟩ => by
        refine ⟨v, h1, v3, h2, p, ys, h3, h4, i, j, h5, h6, k, h7, ?_⟩
        cases k with
        | false => exact hQ _ _ h8
        | true =>
          obtain ⟨u, hu, c, hc, h9⟩ := h8
          refine ⟨u, hu, c, hc, ?_⟩
          cases c with
          | false => exact h9
          | true => exact hQ _ _ h9)
    rintro σ H' ⟨i, F, kvs, as, v5, v6, v7, v8, rfl, sm, b, bf, hi⟩
    refine ⟨_, rfl, _, rfl, q0, _, rfl, .inl (SqL.of b.hq), _, _, rfl, rfl, _, rfl, ifD (fun ec => ⟨_, rfl, _, rfl, iteE rfl (iteT ?_)⟩) fun ec => iteF ?_⟩
    · have hlt : i < F.length := by
        have z : (i : Int) < ((as.map V.ref).length : Int) := of_decide_eq_true ec
        rw [List.length_map, b.ln] at z
        omega
      obtain ⟨x, rx, hx⟩ : ∃ x rx, F[i]? = some (x, rx) := ⟨F[i].1, F[i].2, List.getElem?_eq_getElem hlt⟩
      obtain ⟨a, ha⟩ : ∃ a, as[i]? = some a := by
        have : i < as.length := by rw [b.ln]; exact hlt
        exact ⟨as[i], List.getElem?_eq_getElem this⟩
      have hax := b.it i a x rx ha hx
      obtain ⟨px, pv, pl⟩ := bf.pth i x rx hx
      have hxr : ∀ s ∈ x, 0 ≤ s ∧ s < (nS ts : Int) := by rw [px]; exact path_rng hW pv hs
      have hxl : x.length ≤ 12 := by rw [px, path_run, List.length_map]; exact hs12
      obtain ⟨dx, hm⟩ := hM.fs
      obtain ⟨tas, ht1, ht2, ht3⟩ := hM.2
      have ltas : tas.length = ts.length := by rw [ht2, vts, List.length_map]
      refine ⟨_, rfl, _, rfl, q0, _, (i : Int), .ref a, rfl, rfl, SqL.of b.hq, atI_nat (by rw [List.getElem?_map, ha]; rfl), ?_⟩
      refine ⟨_, rfl, m, M, dx, _, _, rfl, sm _ _ hm, T.cl, T.nT, mf_t _ _ _, ta, rfl, .inr ⟨_, SqT.of (sm _ _ ht1), for_enumT (K := K) (a := ta) (xs := tas.map V.ref)
        (fun j σ H' => ∃ (F : List KR) (kvs : List (List Key × V)) (as : List Addr) (v6 v7 v8 : Option V), σ = [some (.ref m), some (.ref p), some .non, some .non, some (.ref d), some (.ref q0), some (.int (i : Int)), some (.ref a), v6, v7, v8, none] ∧ Same H H' ∧ DQ H' d q0 F kvs as ∧ Bf (actL ts) ts.length ss F i j ∧ F[i]? = some (x, rx) ∧ H' a = some (.tup (vrow x)))
        ⟨F, kvs, as, _, _, _, rfl, sm, b, bf, hx, hax⟩ (fun j σ H' _ ⟨_, _, _, _, _, _, _, sm, _⟩ => SqT.of (sm _ _ ht1)) ?_ ?_⟩⟩
      · rintro j y T0 σ H' hy hT0 ⟨F, kvs, as, v6, v7, v8, rfl, sm, b, bf, hx, hax⟩
        obtain ⟨tj, htj, rfl⟩ : ∃ t, tas[j]? = some t ∧ y = V.ref t := by
          rw [List.getElem?_map] at hy
          cases e : tas[j]? with
          | none => rw [e] at hy; cases hy
          | some t => rw [e] at hy; exact ⟨t, rfl, (Option.some.inj hy).symm⟩
        have hjt : j < ts.length := by rw [← ltas]; exact (List.getElem?_eq_some_iff.mp htj).1
        have hdj : 0 ≤ (j : Int) ∧ (j : Int) < (ts.length : Int) := by omega
        obtain ⟨t, h1'⟩ : ∃ t, ts[j]? = some t := ⟨ts[j], List.getElem?_eq_getElem hjt⟩
        have hT := ht3 j tj (vrow t) htj (by rw [vts, List.getElem?_map, h1']; rfl)
        generalize hyy : actL ts x (j : Int) = yy
        have lyy : yy.length = x.length := by rw [← hyy, actL, List.length_map]
        have sT := same_new (o := HO.tup [.int (j : Nat), .ref tj]) hT0
        refine ⟨T0, _, rfl, SqT.of upd_same, rfl, _, _, rfl, _, _, rfl, rfl, ?_⟩
        generalize hH2 : upd H' T0 (.tup [.int (j : Nat), .ref tj]) = H2 at sT ⊢
        have b2 := b.same sT
        have sm2 := sm.trans sT
        have hax2 := sT _ _ hax
        -- ends
        refine ⟨_, rfl, a, rfl, ⟨_, SqT.of hax2⟩, fun D0 hD0 => lc_tup (K := K) (a := a) (xs := vrow x) (fun k H3 => Same H2 H3 ∧ H3 D0 = some (.lst ((vrow yy).take k))) ⟨same_new hD0, by rw [upd_same]; rfl⟩ (fun k H3 _ ⟨s3, _⟩ => SqT.of (s3 _ _ hax2)) ?_ ?_⟩
        · rintro k z H3 hz ⟨s3, hD3⟩
          obtain ⟨xk, hxk, rfl⟩ : ∃ xk, x[k]? = some xk ∧ z = V.int xk := by
            rw [vrow, List.getElem?_map] at hz
            cases e : x[k]? with
            | none => rw [e] at hz; cases hz
            | some xk => rw [e] at hz; exact ⟨xk, rfl, (Option.some.inj hz).symm⟩
          have hk : k < x.length := (List.getElem?_eq_some_iff.mp hxk).1
          have hxkr := hxr xk (List.mem_of_getElem? hxk)
          obtain ⟨t', g1, g2, _⟩ := hW.at_ hdj hxkr
          have g1' : ts[j]? = some t' := by simpa using g1
          obtain rfl : t = t' := Option.some.inj (h1'.symm.trans g1')
          refine ⟨rfl, _, rfl, _, rfl, tj, _, xk, .int (stp ts xk j), rfl, rfl, SqT.of (s3 _ _ (sm2 _ _ hT)), at_of (j := xk.toNat) (by omega) (by rw [vrow, List.getElem?_map, g2]; rfl), ?_⟩
          refine ⟨_, hD3, by rw [List.length_take, vrow, List.length_map, sizeLine_eq]; omega, ?_, ?_⟩
          · intro c o e
            rw [upd_ne (ne_of_none e hD0)]
            exact s3 _ _ e
          · have ez : (vrow yy)[k]? = some (V.int (stp ts xk j)) := by rw [← hyy, vrow, actL, List.map_map, List.getElem?_map, hxk]; rfl
            rw [upd_same, take_succ ez]
        · rintro H3 ⟨s3, hD3⟩
          have etk : (vrow yy).take (vrow x).length = vrow yy := by rw [List.take_of_length_le]; rw [vrow, vrow, List.length_map, List.length_map, lyy]; exact Nat.le_refl _
          rw [etk] at hD3
          refine ⟨D0, _, rfl, .inl ⟨SqL.of hD3, fun en hen => ?_⟩⟩
          have s4 := s3.trans (same_new (o := HO.tup (vrow yy)) hen)
          generalize hH4 : upd H3 en (.tup (vrow yy)) = H4
          have hen4 : H4 en = some (.tup (vrow yy)) := by rw [← hH4]; exact upd_same
          have s4' : Same H2 H4 := by rw [← hH4]; exact s4
          have b4 := b2.same s4'
          have sm4 := sm2.trans s4'
          have hax4 := s4' _ _ hax2
          have hsmall : F.length ≤ 1000 := bf.few few
          obtain ⟨_, pv', pl'⟩ := bf.pth i x rx hx
          have hil : i < F.length := (List.getElem?_eq_some_iff.mp hx).1
          refine ⟨_, rfl, _, rfl, d, _, rfl, DGet.t (k := kK yy) b4.hd (by rw [kK_v]; exact hen4), _, rfl, ?_⟩
          cases ev : valV kvs (kK yy) with
          | some v =>
            refine iteF ?_
            have hin : yy ∈ F.map (·.1) := by
              by_cases z : yy ∈ F.map (·.1)
              · exact z
              · rw [b4.none.mpr z] at ev; cases ev
            obtain ⟨e, he, e1⟩ := List.mem_map.mp hin
            obtain ⟨j2, hj2⟩ := List.getElem?_of_mem he
            exact ⟨F, kvs, as, _, _, _, rfl, sm4, b4, bf.more (j := j2) (k := e.1) (r := e.2) hx hj2 (by rw [hyy]; exact e1), hx, hax4⟩
          | none =>
            refine iteT ?_
            have hnin := b4.none.mp ev
            obtain ⟨ra, hv, hra⟩ := b4.look bf.nd hx
            refine ⟨_, rfl, _, rfl, d, .ref ra, rfl, by rw [← hv]; exact DGet.t b4.hd (by rw [kK_v]; exact hax4), _, rfl, (by show 1 ≤ sizeLine; decide), fun dt hdt => ?_⟩
            have s5 := same_new (o := HO.tup [V.int (j : Nat)]) hdt
            have bfn : Bf (actL ts) ts.length ss (F ++ [(yy, rx ++ [(j : Int)])]) i (j + 1) := by
              rw [← hyy]
              exact bf.put hx (by rw [hyy]; exact hnin) hjt
            have hx' : (F ++ [(yy, rx ++ [(j : Int)])])[i]? = some (x, rx) := by rw [List.getElem?_append_left hil]; exact hx
            -- whichever tuple stands for the row, the rest is the same
            have rest : ∀ (rb : Addr) (H6 : Hp), Same H4 H6 → H6 rb = some (.tup (vrow (rx ++ [(j : Int)]))) → DPut H6 d (.ref en) (.ref rb) (upd H6 d (.dT (putK kvs (kK yy) (.ref rb)))) ∧
                DQ (upd (upd H6 d (.dT (putK kvs (kK yy) (.ref rb)))) q0 (.lst (as.map V.ref ++ [.ref en]))) d q0 (F ++ [(yy, rx ++ [(j : Int)])]) (kvs ++ [(kK yy, .ref rb)]) (as ++ [en]) ∧ (upd H6 d (.dT (putK kvs (kK yy) (.ref rb)))) q0 = some (.lst (as.map V.ref)) ∧
                Same H (upd (upd H6 d (.dT (putK kvs (kK yy) (.ref rb)))) q0 (.lst (as.map V.ref ++ [.ref en]))) ∧ (upd (upd H6 d (.dT (putK kvs (kK yy) (.ref rb)))) q0 (.lst (as.map V.ref ++ [.ref en]))) a = some (.tup (vrow x)) := fun rb H6 s6 hrb => by
              have b6 := b4.same s6
              have hq6 := b6.hq
              have ndq : q0 ≠ d := ne_of hq6 b6.hd (by intro z; cases z)
              refine ⟨DPut.t b6.hd (by rw [kK_v]; exact s6 _ _ hen4) (by rw [b6.klen, sizeLine_eq]; omega), b6.put hnin (s6 _ _ hen4) hrb, by rw [upd_ne ndq]; exact hq6, fun c o e => ?_, ?_⟩
              · have hcq : c ≠ q0 := fun z => by rw [z, s1.free hq0] at e; cases e
                rw [upd_ne hcq, upd_ne (ne_of_none e nd0)]
                exact s6 _ _ (sm4 _ _ e)
              · have z := s6 _ _ hax4
                rw [upd_ne (ne_of z hq6 (by intro z; cases z)), upd_ne (ne_of z b6.hd (by intro z; cases z))]
                exact z
            have fin : (as.map V.ref).length < sizeLine := by
              rw [List.length_map, b4.ln, sizeLine_eq]; omega
            have hrl : (vrow rx).length ≤ 1000 := by rw [vrow, List.length_map]; omega
            refine ⟨ra, dt, vrow rx, [.int (j : Nat)], rfl, rfl, SqT.of (s5 _ _ hra), SqT.of upd_same, ?_, fun e => ?_, fun _ e => absurd e (by simp), fun _ _ pn hpn => ?_⟩
            · show (vrow rx).length + 1 ≤ sizeLine
              rw [sizeLine_eq]; omega
            · have e0 : rx = [] := by
                cases rx with
                | nil => rfl
                | cons z r => cases e
              subst e0
              obtain ⟨g1, g2, g3, g4, g5⟩ := rest dt _ s5 upd_same
              refine ⟨_, rfl, _, rfl, d, _, rfl, g1, ?_⟩
              refine ⟨_, rfl, .inl ⟨rfl, _, SqL.of g3⟩, _, rfl, q0, _, _, rfl, rfl, g3, fin, ?_⟩
              exact ⟨_, _, _, _, _, _, rfl, g4, g2, bfn, hx', g5⟩
            · have s6 := s5.trans (same_new (o := HO.tup (vrow rx ++ [V.int (j : Nat)])) hpn)
              obtain ⟨g1, g2, g3, g4, g5⟩ := rest pn _ s6 (by rw [upd_same, vrow, vrow, List.map_append]; rfl)
              refine ⟨_, rfl, _, rfl, d, _, rfl, g1, ?_⟩
              refine ⟨_, rfl, .inl ⟨rfl, _, SqL.of g3⟩, _, rfl, q0, _, _, rfl, rfl, g3, fin, ?_⟩
              exact ⟨_, _, _, _, _, _, rfl, g4, g2, bfn, hx', g5⟩
      · rintro σ H' ⟨F, kvs, as, v6, v7, v8, rfl, sm, b, bf, hx, hax⟩
        have hil : i < F.length := (List.getElem?_eq_some_iff.mp hx).1
        have hsmall : F.length ≤ 1000 := bf.few few
        rw [List.length_map, ltas] at bf
        refine ⟨_, rfl, _, rfl, iteN rfl (iteF ⟨_, rfl, _, _, rfl, rfl, ?_⟩)⟩
        refine ⟨⟨i + 1, F, kvs, as, some (.ref a), v6, v7, v8, ?_, sm, b, bf.next, by omega⟩, ?_⟩
        · have z : ((i + 1 : Nat) : Int) = (i : Int) + 1 := by omega
          rw [z]; rfl
        · show 1000 - ((i : Int) + 1).toNat < 1000 - (i : Int).toNat
          omega
    · have hge : F.length ≤ i := by
        have z : ¬ ((i : Int) < ((as.map V.ref).length : Int)) := of_decide_eq_false ec
        rw [List.length_map, b.ln] at z
        omega
      exact ⟨_, rfl, q d F H' sm nd0 ⟨kvs, b.hd, b.ky, b.vl⟩ (bf.done hge) (bf.few few)⟩
/-- first_rows(e, ..) with its defaults -/
theorem pcF {X : Cx} {CX : CXT} {k : Nat} {f : Addr} {fd : FuncData} {sp : Sp} {E : XK} {p pos : Pos} {e : Expr} {es : List Expr} {t : TA} {ds : List Value} (D : DfF X.K X.mg f fd) (G : FnOk X.prog X.w X.K X.mg X.base CX k f fd ["machine", "states", "out", "most"] sp) (hr : Room k X.A) (hx : Passes CX X E) (ha : PA X (e :: es) t)
    (hv : Vals [.non, .non] ds) (hb : Binds X.K fd ["machine", "states", "out", "most"] ds) (hg : Gl X "first_rows" := by rfl)
    (hdb : (("first_rows" : Str) == ("__debug__" : Str)) = false := by decide) (he : starEach (e :: es) X.env = (false, eval e X.env) :: starEach es X.env := by rfl) (hpl : (backTo pos (starEach es X.env)).any (·.1) = false := by rfl) :
    PE X (.Call (.Name "first_rows" p) (e :: es) [] pos) (tCall sp [.non, .non] E t) := pe_call G hr hg D.g D.F.kp hb hv hx ha hdb he hpl
end
end K1
namespace K1
open PySem PySem.Spec PyProof.Rows L2
abbrev uF (x y z : V) : List (Str × V) := [("there", z), ("here", y), ("archive", x)]
def spUInit (K : PySem.W.Frag) (C : Addr) : Sp := fun vs H Q _ => ∃ a x y z, vs = [.ref a, x, y, z] ∧ OexC K C ∧ H a = some (exo a C none) ∧
  ∀ d H', (∀ c o, H c = some o → c ≠ a → H' c = some o) → H d = none → d ≠ a → H' a = some (exo a C (some d)) → H' d = some (exd d (uF x y z)) → Q .non H'
section
variable {P : Program} {w : World} {K : PySem.W.Frag} {mg : Str → Option Value} {base : Heap}
theorem scUI : FnScope ["self", "archive", "here", "there"] ["self", "archive", "here", "there"] (defScope sUInit) := ⟨rfl, rfl, rfl, by decide +kernel, rfl, by decide +kernel, by decide +kernel⟩
structure UnC (K : PySem.W.Frag) (mg : Str → Option Value) (C : Addr) : Prop where
  x : OexC K C
  n1 : PySem.W.findIn K (.ref C) "archive" = some none
  n2 : PySem.W.findIn K (.ref C) "here" = some none
  n3 : PySem.W.findIn K (.ref C) "there" = some none
  f : XfC K C
  g : mg "Untold" = some (.ref C)
theorem ok_uinit {f C : Addr} {fd : FuncData} (F : Fun K "__init__" "Untold.__init__" sUInit f fd) (U : UnC K mg C) : FnOk P w K mg base CX0 1 f fd ["self", "archive", "here", "there"] (spUInit K C) := by
  refine F.ok scUI (fun vs H Q E h => ?_) (fun cdv A outer s H vs Q E hr h => ?_)
  · obtain ⟨a, x, y, z, rfl, _⟩ := h
    rfl
  · obtain ⟨a, x, y, z, rfl, hx, ha, q⟩ := h
    refine ⟨_, pss_cons (ps_ost (pv 0) (pv 1)) (pss_cons (ps_ost (pv 0) (pv 2)) (pss_one (ps_ost (pv 0) (pv 3)))), ?_⟩
    refine ⟨_, rfl, _, rfl, a, C, rfl, hx, U.n1, .inl ⟨ha, fun d hd ne => ?_⟩⟩
    refine ⟨_, rfl, _, rfl, a, C, rfl, hx, U.n2, .inr ⟨d, _, upd_same, by rw [upd_ne ne, upd_same], by show 1 ≤ 900; decide, ?_⟩⟩
    refine ⟨_, rfl, _, rfl, a, C, rfl, hx, U.n3, .inr ⟨d, _, by rw [upd_ne ne.symm, upd_same], upd_same, by show 2 ≤ 900; decide, ?_⟩⟩
    refine q d _ (fun c o e n => ?_) hd ne (by rw [upd_ne ne.symm, upd_ne ne.symm, upd_same]) upd_same
    have ncd := ne_of_none e hd
    rw [upd_ne ncd, upd_ne ncd, upd_ne n, upd_ne ncd]
    exact e
/-- the error Untold, its fields -/
def RzU (CU : Addr) (x a b : Int) (H : Hp) (E : XK) : Prop := ∀ d H', Same H H' → H d = none → H' d = some (.xd (uF (.int x) (.int a) (.int b))) → E (.ref CU) (some d) H'
end
end K1
namespace K1
open PySem PySem.Spec PyProof.Rows L2
/-! ### the pairs of a dict with tuple keys that nobody else sees -/
section
variable {X : Cx} {pins : List (Addr × Obj)} {σ : L2.St} {H : Hp} {s : Shared} {d : Addr} {o : Obj}
theorem frzT2 {kvs : List (List Key × V)} (I : Inv X pins σ H s) (h : H d = some (.frz o (.dT kvs))) :
    (d == sysModules) = false ∧ s.heap.get? d = some o ∧ o.ExactDict ∧ ∃ (es : Array DictEntry) (ep : Nat), o.data = .dict es ep ∧ es.size = kvs.length ∧
      ∀ (i : Nat) (k : List Key) (v : V), kvs[i]? = some (k, v) → ∃ (en : DictEntry) (q : Addr), es[i]? = some en ∧ en.key = .ref q ∧ H q = some (.tup (k.map kV)) ∧ RelV v en.val := by
  obtain ⟨hd, z, hs, xs, pr, o', es, ep, ho, hx, hdt, he, _⟩ := I.hok d _ h
  rw [hd] at ho
  cases ho
  refine ⟨hs, hd, hx, es, ep, hdt, ?_, fun i k v e => ?_⟩
  · have l1 : es.size = xs.length := size_of_entries he
    have l2 : kvs.length = xs.length := Paired.length pr
    omega
  · obtain ⟨b, hb, e1, e2, e3⟩ := paired_get pr e
    have q := entry_at he i
    rw [hb] at q
    exact ⟨_, b.2.1, q, rfl, e2, e3⟩
end
def Itit (d : Addr) (o : Obj) (kvs : List (List Key × V)) : It :=
  ⟨fun i H => H d = some (.frz o (.dT kvs)) ∧ i < kvs.length, fun i H x H' => ∃ (T q : Addr) (k : List Key) (v : V), kvs[i]? = some (k, v) ∧ x = .ref T ∧ H T = none ∧ H q = some (.tup (k.map kV)) ∧ H' = upd H T (.tup [.ref q, v]), fun i H => H d = some (.frz o (.dT kvs)) ∧ kvs.length ≤ i⟩
section
variable {P : Program} {w : World} {K : PySem.W.Frag} {d : Addr} {o : Obj} {es : Array DictEntry} {ep : Nat}
theorem turn_itemsT {kvs : List (List Key × V)} {elts : List Expr} {kk : Nat} {tpos : Pos} (it : Addr) (hod : o.data = .dict es ep) :
    Turn P w K (.Tuple elts kk tpos) (Itit d o kvs) [it] it (fun i h => ∃ ok ov, IsItemIter h it d i kvs.length ep ok ov) where
  mem := by simp
  obj := fun i h st b hb => by
    have e : b = it := by simpa using hb
    subst e
    obtain ⟨ok, ov, e⟩ := st
    exact ⟨_, e, fun v z => nomatch z⟩
  keep := fun i h h' st k => let ⟨ok, ov, e⟩ := st; ⟨ok, ov, k it (by simp) _ e⟩
  item := by
    intro X hP hw hK hc i pins s σ H E I hf st hg
    subst hP hw hK
    obtain ⟨hd, hi⟩ := hg
    obtain ⟨hs, hgd, hx, es', ep', hdt, hsz, ent⟩ := frzT2 I hd
    obtain ⟨rfl, rfl⟩ := dict_ep hod hdt
    obtain ⟨⟨k, v⟩, hkv⟩ : ∃ p, kvs[i]? = some p := ⟨kvs[i], List.getElem?_eq_getElem hi⟩
    obtain ⟨en, q, hen, hkey, hq, rv⟩ := ent i k v hkv
    have hm : s.heap.DictRaw d es' ep' := ⟨o, hgd, hx, hod⟩
    obtain ⟨ok, ov, he⟩ := st
    rw [← hsz] at he
    have hi' : i < es'.size := by omega
    have een : es'[i] = en := by
      rw [Array.getElem?_eq_getElem hi'] at hen
      exact Option.some.inj hen
    have hlt : it < s.heap.objs.size := Heap.lt_size he
    refine wpAny_pyNext_items_item_raw he hm hi' fun h' ho hT hz hk => ?_
    rw [een, hkey] at ho hT
    refine ⟨_, rfl, wpAny_letOwnedTupleGo_items (s := { s with heap := h' }) ho fun h'' he' sb => ?_⟩
    have hT2 : h''.get? s.heap.objs.size = some { cls := .type "tuple", data := .seq #[.ref q, en.val] } := (sb.2 _ (Nat.ne_of_gt hlt)).trans hT
    have new : ObjOk X.prog X.w (upd H s.heap.objs.size (.tup [.ref q, v])) h'' s.heap.objs.size (.tup [.ref q, v]) :=
      ⟨by show 2 ≤ sizeLine; decide, [.ref q, en.val], .cons rfl (.cons rv .nil), ⟨_, hT2, rfl, _, rfl⟩⟩
    have I1 : Inv X pins σ (upd H s.heap.objs.size (.tup [.ref q, v])) { s with heap := h'' } :=
      I.turnedNew (t' := s.toks) (ch := [it]) (fun b ob hb e => (sb.2 b (by simpa using hb)).trans (hk b ob (by simpa using hb) e)) hf (Nat.le_refl _) new
    refine ⟨.ref s.heap.objs.size, _, I1, rfl, ⟨_, q, k, v, hkv, rfl, I.hok.fresh (Nat.le_refl _), hq, rfl⟩, ⟨.ref q, en.val, ?_⟩, fun b hb => ?_⟩
    · rw [← hsz]; exact he'
    · have e : b = it := by simpa using hb
      rw [e, upd_ne (Nat.ne_of_lt hlt)]
      exact (hf it (by simp)).1
  done := by
    intro X hP hw hK hc i pins s σ H E I hf st hg
    subst hP hw hK
    obtain ⟨hd, hi⟩ := hg
    obtain ⟨f0, f1, f2, f3, f4, f5⟩ := hf it (by simp)
    obtain ⟨hs, hgd, hx, es', ep', hdt, hsz, ent⟩ := frzT2 I hd
    obtain ⟨rfl, rfl⟩ := dict_ep hod hdt
    obtain ⟨ok, ov, he⟩ := st
    rw [← hsz] at he
    exact wpAny_pyNext_items_end_raw (I.ok.hd hc) he ⟨o, hgd, hx, hod⟩ (by omega) fun h' eb => ⟨rfl, I.turned (t' := s.toks) (fun b ob hb e => eb b ob hb e) f0 f1 f3 f4 f5⟩
  self := fun A i s Q E st h => let ⟨_, _, e⟩ := st; PySem.W.kcp_self e h
end
def iItemsF (td : TE) : TI := fun σ H R => td σ H fun x H1 => ∃ d kvs, x = .ref d ∧ H1 d = some (.dT kvs) ∧ ∀ o, R (Itit d o kvs) (upd H1 d (.frz o (.dT kvs)))
theorem pi_itemsF {X : Cx} {e : Expr} {td : TE} {apos cpos : Pos} {elts : List Expr} {kk : Nat} {tpos : Pos} (he : PE X e td) (hbase : attributeBase e "items" X.env (eval e X.env) = eval e X.env := by rfl) (hline : (apos.endLine == cpos.line) = true := by rfl) :
    PI X (.Tuple elts kk tpos) (.Call (.Attribute e "items" apos) [] [] cpos) (iItemsF td) := by
  refine ⟨fun pins s σ H R I h => ?_⟩
  refine wpAny_Call_method (T := "dict") (id := "dict.items") hbase rfl hline F.plainAttrs_dict F.slot_dict_items F.type_dict_items (thn (he.run pins s σ H _ I h) fun u s1 ⟨x, H0, I0, rx, d, kvs, ex, hd0, q⟩ => ?_)
  subst ex
  obtain rfl : u = Value.ref d := rx
  obtain ⟨o, I1⟩ := I0.lock hd0 trivial
  obtain ⟨hs, hgd, hx, es, ep, hdt, hsz, ent⟩ := I1.frzT upd_same
  have hm : s1.heap.DictRaw d es ep := ⟨o, hgd, hx, hdt⟩
  refine ⟨hm.typeIs, fun a ea => ?_, ?_⟩
  · cases ea
    exact ⟨o, hgd, hx.2.1⟩
  have I2 : Inv X pins σ (upd H0 d (.frz o (.dT kvs))) { s1 with heap := s1.heap.push { cls := .type "dict_items", data := .fields #[.ref d] } } := I1.kept (t' := s1.toks) fun b ob q => Heap.get?_push_of_some _ q
  have fin : wpAny (model X.prog X.w) X.A (pyIter (.ref s1.heap.objs.size)) (PIE X pins σ (.Tuple elts kk tpos) R) X.xe { s1 with heap := s1.heap.push { cls := .type "dict_items", data := .fields #[.ref d] } } := by
    refine wpAny_pyIter_items_raw (d := d) ⟨_, Heap.get?_push_size _ rfl, rfl, rfl⟩ (hm.at fun ob e => Heap.get?_push_of_some _ e) (pi_one (tk := s1.toks) I2 _ (turn_itemsT _ hdt) ⟨.none, .none, ?_⟩ (q o))
    rw [← hsz]
    exact Heap.get?_push_size _ rfl
  show wpAny _ _ (callWith cpos (.builtin "dict.items") [.ref d] [] []) _ X.xe s1
  exact method_meetsIn F.slot_dict_items F.entry_dict_items rfl (PySem.evalArgs_none ⟨rfl, hm.typeIs, F.args_dict_items_1 _, _, meets_dict_items_raw d hs, ⟨es, ep, hm⟩, fin⟩)
theorem lc_itemsF {d : Addr} {o : Obj} {kvs : List (List Key × V)} {g : TG} {tt : TT} {te : TE} {vs : List Nat} {σ : L2.St} {H1 : Hp} {D : Addr} {Qd : Hp → Prop} (Pv : Nat → Hp → Prop) (h0 : Pv 0 (upd H1 D (.lst []))) (hl : ∀ i H, i ≤ kvs.length → Pv i H → H d = some (.frz o (.dT kvs)))
    (hs : ∀ (i : Nat) k v q T H, kvs[i]? = some (k, v) → H q = some (.tup (k.map kV)) → H T = none → Pv i H → g (.ref T) (wipe σ vs) (upd H T (.tup [.ref q, v])) fun σ2 H2 => wipe σ2 vs = wipe σ vs ∧ tt σ2 H2 fun b H3 =>
      if b = true then te σ2 H3 fun y H4 => ∃ acc, H4 D = some (.lst acc) ∧ acc.length < sizeLine ∧ Pv (i + 1) (upd H4 D (.lst (acc ++ [y]))) else Pv (i + 1) H3) (hd : ∀ H, Pv kvs.length H → Qd H) :
    ∃ W : Nat → Nat → Hp → Prop, (∃ m, W 0 m (upd H1 D (.lst []))) ∧ ∀ i m H, W i m H →
      ((Itit d o kvs).stop i H ∧ Qd H) ∨ ((Itit d o kvs).go i H ∧ ∃ Nx : Hp → Prop, (∀ H', Nx H' → ∃ m', m' < m ∧ W (i + 1) m' H') ∧ ∀ x H', (Itit d o kvs).yld i H x H' → g x (wipe σ vs) H' fun σ2 H2 => wipe σ2 vs = wipe σ vs ∧ tt σ2 H2 fun b H3 =>
        if b = true then te σ2 H3 fun y H4 => ∃ acc, H4 D = some (.lst acc) ∧ acc.length < sizeLine ∧ Nx (upd H4 D (.lst (acc ++ [y]))) else Nx H3) := by
  refine ⟨fun i m H => m = kvs.length - i ∧ i ≤ kvs.length ∧ Pv i H, ⟨kvs.length, by simp, Nat.zero_le _, h0⟩, ?_⟩
  rintro i m H ⟨rfl, hi, p⟩
  have q := hl i H hi p
  by_cases hlt : i < kvs.length
  · refine .inr ⟨⟨q, hlt⟩, Pv (i + 1), fun H' p' => ⟨kvs.length - (i + 1), by omega, rfl, hlt, p'⟩, fun x H' y => ?_⟩
    obtain ⟨T, r, k, v, e1, e2, e3, e4, e5⟩ := y
    subst e2
    rw [e5]
    exact hs i k v r T _ e1 e4 e3 p
  · have e : i = kvs.length := by omega
    subst e
    exact .inl ⟨⟨q, Nat.le_refl _⟩, hd H p⟩
end K1
namespace K1
open PySem PySem.Spec PyProof.Rows L2
theorem belowB_int {v : V} {n : Nat} (h : belowB v (n : Int) = true) : ∃ i : Int, v = .int i ∧ 0 ≤ i ∧ i < (n : Int) := by
  cases v with
  | int i =>
    have z : (decide (0 ≤ i) && decide (i < (n : Int))) = true := h
    rw [Bool.and_eq_true, decide_eq_true_eq, decide_eq_true_eq] at z
    exact ⟨i, rfl, z⟩
  | _ => cases h
theorem belowI {i : Int} {n : Nat} (h : 0 ≤ i ∧ i < (n : Int)) : belowB (.int i) (n : Int) = true := by
  show (decide (0 ≤ i) && decide (i < (n : Int))) = true
  rw [decide_eq_true h.1, decide_eq_true h.2]; rfl
/-- the first of some values that is no state -/
def FstBad (n : Nat) (xs : List V) (v : V) : Prop := ∃ i : Nat, xs[i]? = some v ∧ belowB v (n : Int) = false ∧ ∀ (j : Nat) y, j < i → xs[j]? = some y → belowB y (n : Int) = true
def spNeedSs (M CS : Addr) : Sp := fun vs H Q E => ∃ m ta ts p xs, vs = [.ref m, .ref p] ∧ MachAt M H m ta (vts ts) ∧ H p = some (.tup xs) ∧ (∀ x ∈ xs, ∃ (K : PySem.W.Frag) (o : Option (List V)), KV K H x o) ∧
  (∀ v, FstBad (nS ts) xs v → Rz CS "state" v H E) ∧ ((∀ x ∈ xs, belowB x (nS ts : Int) = true) → Q .non H)
/-! ### two states side by side -/
theorem nodup_of {α β : Type} {l : List α} {f : α → β} (h : (l.map f).Nodup) : l.Pairwise fun a b => f a ≠ f b := List.pairwise_map.mp h
theorem pair_few {ts : Ts} (w : Wf ts) {a h : Int} (ha : 0 ≤ a ∧ a < (nS ts : Int)) (hh : 0 ≤ h ∧ h < (nS ts : Int)) : FewK ts [a, h] := fun F nd hF => by
  have form : ∀ e ∈ F, ∃ x y : Int, e.1 = [x, y] ∧ 0 ≤ x ∧ x < 12 ∧ 0 ≤ y ∧ y < 12 := fun e he => by
    obtain ⟨r, hr, e1⟩ := hF e he
    have h1 := w.run r a hr ha
    have h2 := w.run r h hr hh
    have := w.s12
    rw [path_run] at e1
    exact ⟨run ts a r, run ts h r, e1, by omega, by omega, by omega, by omega⟩
  have nd2 : (F.map fun e => e.1.getD 0 0 * 12 + e.1.getD 1 0).Nodup := by
    refine List.pairwise_map.mpr (List.Pairwise.imp_of_mem (fun {e e'} he he' ne z => ?_) (nodup_of nd))
    obtain ⟨x, y, e1, _⟩ := form e he
    obtain ⟨x', y', e2, _⟩ := form e' he'
    rw [e1, e2] at z
    have z' : x * 12 + y = x' * 12 + y' := z
    obtain ⟨rfl, rfl⟩ : x = x' ∧ y = y' := by omega
    exact ne (e1.trans e2.symm)
  have := nodup_le 144 _ nd2 fun z hz => by
    obtain ⟨e, he, rfl⟩ := List.mem_map.mp hz
    obtain ⟨x, y, e1, _⟩ := form e he
    rw [e1]
    show 0 ≤ x * 12 + y ∧ x * 12 + y < ((144 : Nat) : Int)
    omega
  rw [List.length_map] at this
  omega
/-- the things whose first state is t -/
def onT (F : List KR) (t : Int) : List KR := F.filter fun e => decide (e.1.getD 0 0 = t)
def endsOf (F : List KR) (t : Int) : List Int := (onT F t).map fun e => e.1.getD 1 0
def rowsOf (F : List KR) (t : Int) : List (List Int) := (onT F t).map (·.2)
theorem onT_snoc {F : List KR} {t : Int} {i : Nat} {e : KR} (h : F[i]? = some e) : onT (F.take (i + 1)) t = onT (F.take i) t ++ (if e.1.getD 0 0 = t then [e] else []) := by
  rw [take_succ h, onT, List.filter_append]
  show _ = onT (F.take i) t ++ _
  unfold onT
  by_cases z : e.1.getD 0 0 = t
  · rw [if_pos z, List.filter_cons, if_pos (decide_eq_true z), List.filter_nil]
  · rw [if_neg z, List.filter_cons, if_neg (by simpa using z), List.filter_nil]
theorem onT_len (F : List KR) (t : Int) (i : Nat) : (onT (F.take i) t).length ≤ F.length := by
  refine Nat.le_trans (List.length_filter_le _ _) ?_
  rw [List.length_take]; omega
def spJoined (M CU : Addr) : Sp := fun vs H Q E => ∃ m ta ts a h t, vs = [.ref m, .int a, .int h, .int t] ∧ MachAt M H m ta (vts ts) ∧ Wf ts ∧ (0 ≤ a ∧ a < (nS ts : Int)) ∧ (0 ≤ h ∧ h < (nS ts : Int)) ∧
  ∀ F H', Same H H' → Fst (actL ts) ts.length [a, h] F → (∀ e, endsOf F t = [e] → Q (.int e) H') ∧ ((endsOf F t).length ≠ 1 → RzU CU a h t H' E)
def spJoin (M CS CU : Addr) : Sp := fun vs H Q E => ∃ m ta ts v1 v2 v3, vs = [.ref m, v1, v2, v3] ∧ MachAt M H m ta (vts ts) ∧ Wf ts ∧ (∀ x ∈ [v1, v2, v3], ∃ (K : PySem.W.Frag) (o : Option (List V)), KV K H x o) ∧ (∀ v H', Same H H' → FstBad (nS ts) [v1, v2, v3] v → Rz CS "state" v H' E) ∧
  (∀ a h t, v1 = .int a → v2 = .int h → v3 = .int t → (0 ≤ a ∧ a < (nS ts : Int)) → (0 ≤ h ∧ h < (nS ts : Int)) → (0 ≤ t ∧ t < (nS ts : Int)) → ∀ F H', Same H H' → Fst (actL ts) ts.length [a, h] F → (∀ e, endsOf F t = [e] → Q (.int e) H') ∧ ((endsOf F t).length ≠ 1 → RzU CU a h t H' E))
def UntV (H : Hp) (v : V) : List (List Int) → Prop
  | [] => ∃ p, v = .ref p ∧ H p = some (.tup [.str "none"])
  | [_] => v = .non
  | r1 :: r2 :: _ => ∃ p a b, v = .ref p ∧ H a = some (.tup (vrow r1)) ∧ H b = some (.tup (vrow r2)) ∧ H p = some (.tup [.str "rows", .ref a, .ref b])
def spUntold (M CS : Addr) : Sp := fun vs H Q E => ∃ m ta ts v1 v2 v3, vs = [.ref m, v1, v2, v3] ∧ MachAt M H m ta (vts ts) ∧ Wf ts ∧ (∀ x ∈ [v1, v2, v3], ∃ (K : PySem.W.Frag) (o : Option (List V)), KV K H x o) ∧ (∀ v H', Same H H' → FstBad (nS ts) [v1, v2, v3] v → Rz CS "state" v H' E) ∧
  (∀ a h t, v1 = .int a → v2 = .int h → v3 = .int t → (0 ≤ a ∧ a < (nS ts : Int)) → (0 ≤ h ∧ h < (nS ts : Int)) → (0 ≤ t ∧ t < (nS ts : Int)) → ∀ F u H', Same H H' → Fst (actL ts) ts.length [a, h] F → UntV H' u (rowsOf F t) → Q u H')
section
variable {P : Program} {w : World} {K : PySem.W.Frag} {mg : Str → Option Value} {base : Heap}
theorem scNSs : FnScope ["machine", "states", "state"] ["machine", "states"] (defScope sNeedSs) := ⟨rfl, rfl, rfl, by decide +kernel, rfl, by decide +kernel, by decide +kernel⟩
theorem ok_needSs {f fN CS M : Addr} {fd fdN : FuncData} (D : Df K mg "need_states" sNeedSs ["machine", "states"] f fd) (DN : Df K mg "need_state" sNeedS ["machine", "state"] fN fdN)
    (GN : FnOk P w K mg base (L2.CX P w) 3 fN fdN ["machine", "state"] (spNeed M CS "state" nS)) : FnOk P w K mg base (L2.CX P w) 4 f fd ["machine", "states"] (spNeedSs M CS) := by
  refine D.F.okX scNSs (fun vs H Q E h => ?_) (fun cdv A outer s H vs Q E hr h => ?_)
  · obtain ⟨m, ta, ts, p, xs, rfl, _⟩ := h
    rfl
  · obtain ⟨m, ta, ts, p, xs, rfl, hM, hp, kv, qb, qg⟩ := h
    refine ⟨_, pss_one (ps_for (passes_of rfl) rfl (pi_tup (pv 1)) (pg_name (i := 2) scNSs.nd rfl (.inl rfl)) (pss_one (ps_expr (pc DN GN hr (pass1 (takes_of rfl rfl rfl rfl)) (pa_cons (pv 0) (pa_cons (pv 2) pa_nil)))))), ?_⟩
    refine ⟨_, rfl, p, rfl, ⟨_, SqT.of hp⟩, for_tup (K := K) (a := p) (xs := xs) (fun i σ H' => ∃ v2, σ = [some (.ref m), some (.ref p), v2] ∧ H' = H ∧ ∀ (j : Nat) y, j < i → xs[j]? = some y → belowB y (nS ts : Int) = true) ⟨none, rfl, rfl, fun j y hj => absurd hj (Nat.not_lt_zero _)⟩ (fun i σ H' _ ⟨_, _, e, _⟩ => e ▸ SqT.of hp) ?_ ?_⟩
    · rintro i x σ H' hx ⟨v2, rfl, rfl, ok⟩
      refine ⟨_, rfl, _, rfl, m, ta, ts, x, rfl, hM, kv x (List.mem_of_getElem? hx), fun e => ?_, fun e => qb x ⟨i, hx, e, ok⟩⟩
      refine ⟨_, rfl, rfl, fun j y hj hy => ?_⟩
      rcases Nat.lt_succ_iff_lt_or_eq.mp hj with z | z
      · exact ok j y z hy
      · subst z
        rw [hx] at hy
        rw [← Option.some.inj hy]; exact e
    · rintro σ H' ⟨v2, rfl, rfl, ok⟩
      refine qg fun x hx => ?_
      obtain ⟨j, hj⟩ := List.getElem?_of_mem hx
      exact ok j x (List.getElem?_eq_some_iff.mp hj).1 hj
abbrev nJd : List Str := ["machine", "archive", "here", "there", "ends", "at", "end"]
theorem scJd : FnScope nJd ["machine", "archive", "here", "there"] (defScope sJoined) := ⟨rfl, rfl, rfl, by decide +kernel, rfl, by decide +kernel, by decide +kernel⟩
abbrev gPair (i j : Nat) (K : PySem.W.Frag) : TG := gTup K 2 (gCons (gName i) (gCons (gName j) gNil))
theorem ok_joined {f fF fI CU M : Addr} {fd fdF fdI : FuncData} (D : Df K mg "joined" sJoined ["machine", "archive", "here", "there"] f fd) (DF : DfF K mg fF fdF) (U : UnC K mg CU) (B : Bt mg)
    (iC : PySem.W.findIn K (.ref CU) "__init__" = some (some (.ref fI))) (tI : PySem.W.typeIn K (.ref fI) = some (.type "function")) (bI : Binds K fdI ["self", "archive", "here", "there"] [])
    (GI : FnOk P w K mg base CX0 1 fI fdI ["self", "archive", "here", "there"] (spUInit K CU)) (GF : FnOk P w K mg base CX0 1 fF fdF ["machine", "states", "out", "most"] (spFirst M)) :
    FnOk P w K mg base (L2.CX P w) 4 f fd ["machine", "archive", "here", "there"] (spJoined M CU) := by
  refine D.F.okX scJd (fun vs H Q E h => ?_) (fun cdv A outer s H vs Q E hr h => ?_)
  · obtain ⟨m, ta, ts, a, h, t, rfl, _⟩ := h
    rfl
  · obtain ⟨m, ta, ts, a, h, t, rfl, hM, hW, ha, hh, q⟩ := h
    obtain ⟨ds, vd, bd⟩ := DF.b
    refine ⟨_, pss_cons (ps_setLc (i := 4) (own := [("at", 5), ("end", 6)]) (g := gPair 5 6 K) rfl scJd.nd rfl rfl (sw_true rfl rfl rfl rfl) (pi_keysF (pcF DF GF (hr.mono (by decide)) pass0 (pa_cons (pv 0) (pa_cons (pe_tup (pa_cons (pv 1) (pa_cons (pv 2) pa_nil))) pa_nil)) vd bd)) (blkOk_by (N := nJd) (sc := defScope sJoined) (by decide +kernel))
          (fun _ _ _ _ _ => pg_tup rfl (pgs_cons (pg_name (i := 5) scJd.nd rfl (Or.inl rfl)) (pgs_cons (pg_name (i := 6) scJd.nd rfl (Or.inl rfl)) pgs_nil))) (fun _ _ _ _ _ => pts_one (pt_cmpR op_eq (pv 5) (pv 3) (nomark _))) (fun _ _ _ _ _ => pv 6))
      (pss_cons (ps_if (pt_cmpR op_ne (pe_callB call_len_seq (by rfl) B.len PySem.boot_len (pa_cons (pv 4) pa_nil)) pe_int (nomark _)) (pss_one (ps_raise rfl (takes_of rfl rfl rfl rfl) (pmk_oex (CX := CX0) U.x iC tI GI (hr.mono (show 2 ≤ 3 by decide)) bI .nil (fun _ _ _ _ _ _ _ h => h.elim) (by rfl) U.g (pa_cons (pv 1) (pa_cons (pv 2) (pa_cons (pv 3) pa_nil)))))) pss_nil)
      (pss_one (ps_ret (pe_ix ix_list (pv 4) pe_int (fun _ _ => rfl))))), ?_⟩
    refine ⟨_, rfl, _, rfl, _, rfl, (by show 2 ≤ sizeLine; decide), fun p hp => ?_⟩
    have s1 := same_new (o := HO.tup [V.int a, .int h]) hp
    have hss : ∀ s ∈ [a, h], 0 ≤ s ∧ s < (nS ts : Int) := fun s hs => by
      simp only [List.mem_cons, List.mem_nil_iff, or_false] at hs
      rcases hs with rfl | rfl <;> assumption
    refine ⟨m, ta, ts, [a, h], p, rfl, hM.same s1, hW, hss, (by show 2 ≤ 12; decide), upd_same, pair_few hW ha hh, fun d F H2 s2 hd ⟨kvs, hd2, ky, vl⟩ hF hf => ?_⟩
    have s12 := s1.trans s2
    have hd0 : H d = none := s1.free hd
    have lk : kvs.length = F.length := by simpa using congrArg List.length ky
    refine ⟨d, kvs, rfl, hd2, fun od D0 hD0 => ?_⟩
    have ndD : d ≠ D0 := fun z => by rw [← z, upd_same] at hD0; cases hD0
    have hD2 : H2 D0 = none := by rw [upd_ne ndD.symm] at hD0; exact hD0
    generalize hH3 : upd H2 d (.frz od (.dT kvs)) = H3
    have hd3 : H3 d = some (.frz od (.dT kvs)) := by rw [← hH3, upd_same]
    have s3 : Same H H3 := fun c o e => by
      rw [← hH3, upd_ne (ne_of_none e hd0)]
      exact s12 _ _ e
    have hD3 : H3 D0 = none := by rw [← hH3, upd_ne ndD.symm]; exact hD2
    refine lc_keysF (fun i H' => Same H3 H' ∧ H' D0 = some (.lst ((endsOf (F.take i) t).map V.int))) ⟨same_new hD3, upd_same⟩ (fun i H' _ ⟨s4, _⟩ => s4 _ _ hd3) ?_ ?_
    · rintro i k v qk H' hk hqk ⟨s4, hD4⟩
      obtain ⟨e, he, rfl⟩ : ∃ e, F[i]? = some e ∧ k = kK e.1 := by
        have z : (kvs.map (·.1))[i]? = some k := by rw [List.getElem?_map, hk]; rfl
        rw [ky, List.getElem?_map] at z
        cases e : F[i]? with
        | none => rw [e] at z; cases z
        | some x => rw [e] at z; exact ⟨x, rfl, (Option.some.inj z).symm⟩
      obtain ⟨pe, pv1, _⟩ := hF.pth i e.1 e.2 he
      rw [path_run] at pe
      have pe' : e.1 = [run ts a e.2, run ts h e.2] := pe
      rw [kK_v, pe'] at hqk
      refine ⟨qk, _, rfl, SqT.of hqk, rfl, _, _, rfl, _, _, rfl, rfl, ?_⟩
      refine ⟨rfl, _, rfl, _, rfl, rfl, _, rfl, ?_⟩
      have hon : e.1.getD 0 0 = run ts a e.2 := by rw [pe']; rfl
      have hen : e.1.getD 1 0 = run ts h e.2 := by rw [pe']; rfl
      have snoc := onT_snoc (t := t) he
      refine ifD (fun c => ?_) fun c => ?_
      · have c' : run ts a e.2 = t := by
          have := of_decide_eq_true c
          injection this
        rw [hon, if_pos c'] at snoc
        refine ⟨_, rfl, _, hD4, ?_, ?_, ?_⟩
        · rw [List.length_map, endsOf, List.length_map, sizeLine_eq]
          have := onT_len F t i
          omega
        · intro c o e
          rw [upd_ne (ne_of_none e hD3)]
          exact s4 _ _ e
        · rw [upd_same, endsOf, endsOf, snoc, List.map_append, List.map_append]
          show _ = some (HO.lst (_ ++ [V.int (e.1.getD 1 0)]))
          rw [hen]
      · have c' : run ts a e.2 ≠ t := fun z => by
          have := of_decide_eq_false c
          exact this (by rw [z])
        rw [hon, if_neg c', List.append_nil] at snoc
        refine ⟨s4, ?_⟩
        rw [endsOf, snoc]
        exact hD4
    · rintro H4 ⟨s4, hD4⟩
      rw [lk, List.take_length] at hD4
      obtain ⟨q1, q2⟩ := q F H4 (s3.trans s4) hF
      refine ⟨_, rfl, _, _, rfl, .inl (SqL.of hD4), rfl, _, rfl, ifD (fun c => ?_) fun c => ?_⟩
      · have c' : (endsOf F t).length ≠ 1 := fun z => by
          rw [List.length_map, z] at c
          cases c
        refine ⟨_, rfl, _, rfl, _, rfl, by show 3 ≤ 1000; decide, fun ea hea => ⟨ea, .int a, .int h, .int t, rfl, U.x, upd_same, fun d H5 k2 hd ne hea2 hd2 => ⟨rfl, d, _, hea2, hd2, ?_, ?_⟩⟩⟩
        · rw [upd_ne ne] at hd; exact hd
        · refine q2 c' d _ (fun c o e => ?_) (by rw [upd_ne ne] at hd; exact hd) upd_same
          have nce := ne_of_none e hea
          have ncd : c ≠ d := fun z => by rw [z] at e; rw [upd_ne ne, e] at hd; cases hd
          rw [upd_ne ncd]
          unfold L2.del
          rw [if_neg nce]
          exact k2 c o (by rw [upd_ne nce]; exact e) nce
      · obtain ⟨e, he⟩ : ∃ e, endsOf F t = [e] := by
          match hx : endsOf F t with
          | [] => rw [hx] at c; cases c
          | [e] => exact ⟨e, rfl⟩
          | a :: b :: r =>
            rw [hx] at c
            have z := of_decide_eq_true (show decide (V.int ((((a :: b :: r).map V.int).length : Nat) : Int) = V.int 1) = true by
              have := c
              simpa using this)
            injection z with z
            simp only [List.length_map, List.length_cons] at z
            omega
        rw [he] at hD4
        exact ⟨_, rfl, D0, _, 0, _, rfl, rfl, SqL.of hD4, atI_nat (j := 0) rfl, q1 e he⟩
end
end K1
namespace K1
open PySem PySem.Spec PyProof.Rows L2
/-- rows at addresses -/
def RowsAt (H : Hp) (as : List Addr) (rs : List (List Int)) : Prop := as.length = rs.length ∧ ∀ (i : Nat) a r, as[i]? = some a → rs[i]? = some r → H a = some (.tup (vrow r))
theorem RowsAt.same {H H' : Hp} {as : List Addr} {rs : List (List Int)} (h : RowsAt H as rs) (s : Same H H') : RowsAt H' as rs := ⟨h.1, fun i a r e1 e2 => s _ _ (h.2 i a r e1 e2)⟩
theorem RowsAt.snoc {H : Hp} {as : List Addr} {rs : List (List Int)} {a : Addr} {r : List Int} (h : RowsAt H as rs) (ha : H a = some (.tup (vrow r))) : RowsAt H (as ++ [a]) (rs ++ [r]) := by
  refine ⟨by rw [List.length_append, List.length_append, h.1]; rfl, fun i c q e1 e2 => ?_⟩
  by_cases hi : i < as.length
  · rw [List.getElem?_append_left hi] at e1
    rw [List.getElem?_append_left (by rw [← h.1]; exact hi)] at e2
    exact h.2 i c q e1 e2
  · have hl : i = as.length := by
      have := (List.getElem?_eq_some_iff.mp e1).1
      simp only [List.length_append, List.length_cons, List.length_nil] at this
      omega
    subst hl
    rw [List.getElem?_append_right (Nat.le_refl _), Nat.sub_self] at e1
    rw [h.1, List.getElem?_append_right (Nat.le_refl _), Nat.sub_self] at e2
    rw [← Option.some.inj e1, ← Option.some.inj e2]
    exact ha
section
variable {P : Program} {w : World} {K : PySem.W.Frag} {mg : Str → Option Value} {base : Heap}
theorem scJn : FnScope ["machine", "archive", "here", "there"] ["machine", "archive", "here", "there"] (defScope sJoin) := ⟨rfl, rfl, rfl, by decide +kernel, rfl, by decide +kernel, by decide +kernel⟩
theorem ok_join {f fN fJ CS CU M : Addr} {fd fdN fdJ : FuncData} (D : Df K mg "join" sJoin ["machine", "archive", "here", "there"] f fd) (DN : Df K mg "need_states" sNeedSs ["machine", "states"] fN fdN) (DJ : Df K mg "joined" sJoined ["machine", "archive", "here", "there"] fJ fdJ)
    (GN : FnOk P w K mg base (L2.CX P w) 4 fN fdN ["machine", "states"] (spNeedSs M CS)) (GJ : FnOk P w K mg base (L2.CX P w) 4 fJ fdJ ["machine", "archive", "here", "there"] (spJoined M CU)) : FnOk P w K mg base (L2.CX P w) 5 f fd ["machine", "archive", "here", "there"] (spJoin M CS CU) := by
  refine D.F.okX scJn (fun vs H Q E h => ?_) (fun cdv A outer s H vs Q E hr h => ?_)
  · obtain ⟨m, ta, ts, v1, v2, v3, rfl, _⟩ := h
    rfl
  · obtain ⟨m, ta, ts, v1, v2, v3, rfl, hM, hW, kv, qb, qg⟩ := h
    refine ⟨_, pss_cons (ps_expr (pc DN GN hr (pass1 (takes_of rfl rfl rfl rfl)) (pa_cons (pv 0) (pa_cons (pe_tup (pa_cons (pv 1) (pa_cons (pv 2) (pa_cons (pv 3) pa_nil)))) pa_nil))))
      (pss_one (ps_ret (pc DJ GJ hr (pass1 (takes_of rfl rfl rfl rfl)) (pa_cons (pv 0) (pa_cons (pv 1) (pa_cons (pv 2) (pa_cons (pv 3) pa_nil))))))), ?_⟩
    refine ⟨_, rfl, _, rfl, _, rfl, _, rfl, (by show 3 ≤ sizeLine; decide), fun p hp => ?_⟩
    have s1 := same_new (o := HO.tup [v1, v2, v3]) hp
    refine ⟨m, ta, ts, p, _, rfl, hM.same s1, upd_same, fun x hx => ?_, fun v hv => qb v _ s1 hv, fun ok => ?_⟩
    · obtain ⟨K', o, z⟩ := kv x hx
      exact ⟨K', o, z.same s1⟩
    · obtain ⟨a, rfl, ha⟩ := belowB_int (ok v1 (by simp))
      obtain ⟨h, rfl, hh⟩ := belowB_int (ok v2 (by simp))
      obtain ⟨t, rfl, ht⟩ := belowB_int (ok v3 (by simp))
      exact ⟨_, rfl, _, rfl, _, rfl, _, rfl, m, ta, ts, a, h, t, rfl, hM.same s1, hW, ha, hh, fun F H' s2 hF => qg a h t rfl rfl rfl ha hh ht F H' (s1.trans s2) hF⟩
end
end K1
namespace K1
open PySem PySem.Spec PyProof.Rows L2
theorem seqG {t u : TS} {D : Ends} {σ : L2.St} {H : Hp} (G : L2.St → Hp → Prop) (hu : ∀ σ H, G σ H → u D σ H) (ht : (∀ σ H, G σ H → u D σ H) → t { D with nx := u D } σ H) : tSeq t u D σ H := ht hu
theorem gn {i : Nat} {x : V} {σ : L2.St} {H : Hp} {Q : L2.St → Hp → Prop} (h : Q (σ.set i (some x)) H) : gName i x σ H Q := h
theorem nxP {D : Ends} {σ : L2.St} {H : Hp} (h : D.nx σ H) : tNext D σ H := h
/-- a source of draws -/
def BoxO (H : Hp) (b : Addr) : Prop := ∃ x y : Int, H b = some (.lst [.int x, .int y])
/-- all but the source stands, which is one again -/
def Bx (b : Addr) (H H' : Hp) : Prop := BoxO H' b ∧ ∀ c o, H c = some o → c ≠ b → H' c = some o
theorem Bx.refl {b : Addr} {H : Hp} (h : BoxO H b) : Bx b H H := ⟨h, fun _ _ e _ => e⟩
theorem Bx.trans {b : Addr} {H H1 H2 : Hp} (a : Bx b H H1) (c : Bx b H1 H2) : Bx b H H2 := ⟨c.1, fun d o e n => c.2 d o (a.2 d o e n) n⟩
theorem BoxO.same {b : Addr} {H H' : Hp} (h : BoxO H b) (s : Same H H') : BoxO H' b := let ⟨x, y, e⟩ := h; ⟨x, y, s _ _ e⟩
theorem Bx.same {b : Addr} {H H1 H2 : Hp} (a : Bx b H H1) (s : Same H1 H2) : Bx b H H2 := ⟨a.1.same s, fun d o e n => s _ _ (a.2 d o e n)⟩
theorem Same.bx {b : Addr} {H H1 H2 : Hp} (s : Same H H1) (a : Bx b H1 H2) : Bx b H H2 := ⟨a.1, fun d o e n => a.2 d o (s _ _ e) n⟩
theorem Bx.set {b : Addr} {H : Hp} {x y : Int} : Bx b H (upd H b (.lst [.int x, .int y])) := ⟨⟨x, y, upd_same⟩, fun c o e n => by rw [upd_ne n]; exact e⟩
theorem Bx.free {b c : Addr} {H H' : Hp} (a : Bx b H H') (hb : c ≠ b) (h : H' c = none) : H c = none := by
  cases q : H c with
  | none => rfl
  | some o => rw [a.2 c o q hb] at h; cases h
theorem BoxO.ne {b c : Addr} {H : Hp} {o : HO} (h : BoxO H b) (e : H c = some o) (n : ∀ xs, o ≠ .lst xs) : c ≠ b := fun z => by
  obtain ⟨x, y, hb⟩ := h
  rw [z, hb] at e
  exact n _ (Option.some.inj e).symm
theorem Bx.ne {b c : Addr} {H H' : Hp} (a : Bx b H H') (h : H' c = none) : c ≠ b := fun z => by
  obtain ⟨x, y, hb⟩ := a.1
  rw [z, hb] at h
  cases h
theorem Bx.new {b p : Addr} {H H' : Hp} {o : HO} (a : Bx b H H') (h : H' p = none) : Bx b H (upd H' p o) := a.same (same_new h)
theorem Bx.put {b p : Addr} {H H' : Hp} {o : HO} (a : Bx b H H') (hp : H p = none) (n : p ≠ b) : Bx b H (upd H' p o) := ⟨let ⟨x, y, e⟩ := a.1; ⟨x, y, by rw [upd_ne n.symm]; exact e⟩, fun c o' e n' => by rw [upd_ne (ne_of_none e hp)]; exact a.2 c o' e n'⟩
theorem Bx.tup {b c : Addr} {H H' : Hp} {xs : List V} (x : Bx b H H') (hb : BoxO H b) (h : H c = some (.tup xs)) : H' c = some (.tup xs) := x.2 _ _ h (hb.ne h fun xs => by intro z; cases z)
def spTake : Sp := fun vs H Q _ => ∃ b n, vs = [.ref b, .int n] ∧ BoxO H b ∧ 1 ≤ n ∧ n < 1073741824 ∧ ∀ r H', 0 ≤ r → r < n → Bx b H H' → Q (.int r) H'
def spPick : Sp := fun vs H Q _ => ∃ (b l : Addr) (xs : List V), vs = [.ref b, .ref l] ∧ BoxO H b ∧ H l = some (.lst xs) ∧ l ≠ b ∧ 1 ≤ xs.length ∧ xs.length ≤ 1000 ∧ ∀ (i : Nat) v H', xs[i]? = some v → Bx b H H' → Q v H'
def spBox (K : PySem.W.Frag) : Sp := fun vs H Q _ => ∃ (a : Addr) (ns : List Int) (k : Int), vs = [.ref a, .int k] ∧ SqL K H a (ns.map V.int) ∧ ns.length ≤ 63 ∧ 0 ≤ k ∧ k ≤ 100 ∧ ∀ b H', Same H H' → H b = none → BoxO H' b → Q (.ref b) H'
section
variable {P : Program} {w : World} {K : PySem.W.Frag} {mg : Str → Option Value} {base : Heap}
theorem scTk : FnScope ["_law_box_here", "_law_many", "_law_digit", "_law_raw"] ["_law_box_here", "_law_many"] (defScope sTake) := ⟨rfl, rfl, rfl, by decide +kernel, rfl, by decide +kernel, by decide +kernel⟩
theorem ok_take {f : Addr} {fd : FuncData} (D : Df K mg "_law_take" sTake ["_law_box_here", "_law_many"] f fd) (B : Bt mg) : FnOk P w K mg base CX0 1 f fd ["_law_box_here", "_law_many"] spTake := by
  refine D.F.ok scTk (fun vs H Q E h => ?_) (fun cdv A outer s H vs Q E hr h => ?_)
  · obtain ⟨b, n, rfl, _⟩ := h
    rfl
  · obtain ⟨b, n, rfl, ⟨x, y, hb⟩, h1, h2, q⟩ := h
    refine ⟨_, pss_cons (ps_if (pt_cmpR op_gt (pe_ix ix_list (pv 0) pe_int (fun _ _ => rfl)) pe_int (nomark _))
        (pss_cons (ps_set (i := 2) scTk.nd rfl (.inl rfl) (pe_op op_mod (pe_callTy call_int1 (by rfl) B.int PyProof.Rows.boot_int (pa_cons (pe_ix ix_list (pv 0) pe_int (fun _ _ => rfl)) pa_nil)) (pv 1)))
        (pss_cons (ps_asg (pe_op op_fdivN (pe_ix ix_list (pv 0) pe_int (fun _ _ => rfl)) (pv 1)) (pg_sub (pv 0) pe_int set_list))
        (pss_one (ps_ret (pv 2))))) pss_nil)
      (pss_cons (ps_set (i := 3) scTk.nd rfl (.inl rfl) (pe_op op_mod (pe_callTy call_int1 (by rfl) B.int PyProof.Rows.boot_int (pa_cons (pe_op op_add (pe_op op_mul (pe_ix ix_list (pv 0) pe_int (fun _ _ => rfl)) pe_int) pe_int) pa_nil)) pe_int))
      (pss_cons (ps_asg (pe_op op_add (pe_op op_mod (pe_callTy call_int1 (by rfl) B.int PyProof.Rows.boot_int (pa_cons (pe_op op_add (pe_op op_mul (pv 3) pe_int) pe_int) pa_nil)) pe_int) pe_int) (pg_sub (pv 0) pe_int set_list))
      (pss_one (ps_ret (pe_op op_mod (pe_callTy call_int1 (by rfl) B.int PyProof.Rows.boot_int (pa_cons (pe_op op_fdivN (pe_op op_add (pe_op op_mul (pv 3) pe_int) (pe_ix ix_list (pv 0) pe_int (fun _ _ => rfl))) pe_int) pa_nil)) (pv 1)))))), ?_⟩
    have a0 : ∀ {u v : Int}, atI [V.int u, V.int v] 0 = some (V.int u) := fun {u v} => atI_nat (j := 0) rfl
    have a1 : ∀ {u v : Int}, atI [V.int u, V.int v] 1 = some (V.int v) := fun {u v} => atI_nat (j := 1) rfl
    have np : 0 < n := by omega
    refine ⟨_, rfl, b, _, 0, .int x, rfl, rfl, SqL.of hb, a0, _, _, rfl, rfl, _, rfl, ifD (fun e => ?_) fun e => ?_⟩
    · refine ⟨_, rfl, b, _, 0, .int x, rfl, rfl, SqL.of hb, a0, .inl ⟨x, rfl, _, rfl, _, _, rfl, rfl, np, ?_⟩⟩
      refine ⟨_, rfl, b, _, 0, .int x, rfl, rfl, SqL.of hb, a0, _, rfl, _, _, rfl, rfl, ⟨by omega, by omega⟩, _, rfl, b, _, 0, 0, rfl, rfl, hb, rfl, ?_⟩
      exact ⟨_, rfl, q _ _ (Int.emod_nonneg _ (by omega)) (Int.emod_lt_of_pos _ np) Bx.set⟩
    · refine ⟨_, rfl, b, _, 1, .int y, rfl, rfl, SqL.of hb, a1, _, _, rfl, rfl, .inr ⟨by decide, by decide⟩, _, _, rfl, rfl, .inl ⟨_, rfl, _, _, rfl, rfl, (by decide : (0 : Int) < 2147483647), ?_⟩⟩
      refine ⟨_, rfl, _, _, rfl, rfl, .inr ⟨by decide, by decide⟩, _, _, rfl, rfl, .inl ⟨_, rfl, _, _, rfl, rfl, (by decide : (0 : Int) < 2147483399), _, _, rfl, rfl, _, rfl, b, _, 1, 1, rfl, rfl, hb, rfl, ?_⟩⟩
      generalize hH2 : upd H b _ = H2
      have hb2 : ∃ y', H2 b = some (.lst [.int x, .int y']) := ⟨_, by rw [← hH2, upd_same]; rfl⟩
      obtain ⟨y', hb2⟩ := hb2
      have bx : Bx b H H2 := ⟨⟨_, _, hb2⟩, fun c o e n => by rw [← hH2, upd_ne n]; exact e⟩
      refine ⟨_, rfl, _, _, rfl, rfl, .inr ⟨by decide, by decide⟩, _, rfl, b, _, 1, .int y', rfl, rfl, SqL.of hb2, a1, _, _, rfl, rfl, _, _, rfl, rfl, ⟨by decide, by decide⟩, .inl ⟨_, rfl, _, rfl, _, _, rfl, rfl, np, ?_⟩⟩
      exact q _ _ (Int.emod_nonneg _ (by omega)) (Int.emod_lt_of_pos _ np) bx
theorem scPi : FnScope ["_law_box_here", "_law_some"] ["_law_box_here", "_law_some"] (defScope sPick) := ⟨rfl, rfl, rfl, by decide +kernel, rfl, by decide +kernel, by decide +kernel⟩
theorem ok_pick {f fT : Addr} {fd fdT : FuncData} (D : Df K mg "_law_pick" sPick ["_law_box_here", "_law_some"] f fd) (DT : Df K mg "_law_take" sTake ["_law_box_here", "_law_many"] fT fdT) (B : Bt mg) (GT : FnOk P w K mg base CX0 1 fT fdT ["_law_box_here", "_law_many"] spTake) :
    FnOk P w K mg base CX0 2 f fd ["_law_box_here", "_law_some"] spPick := by
  refine D.F.ok scPi (fun vs H Q E h => ?_) (fun cdv A outer s H vs Q E hr h => ?_)
  · obtain ⟨b, l, xs, rfl, _⟩ := h
    rfl
  · obtain ⟨b, l, xs, rfl, hb, hl, hne, h1, h2, q⟩ := h
    refine ⟨_, pss_one (ps_ret (pe_ix ix_list (pv 1) (pc DT GT hr pass0 (pa_cons (pv 0) (pa_cons (pe_callB call_len_seq (by rfl) B.len PySem.boot_len (pa_cons (pv 1) pa_nil)) pa_nil))) (fun _ _ => rfl))), ?_⟩
    refine ⟨_, rfl, _, rfl, _, rfl, l, xs, rfl, .inl (SqL.of hl), b, _, rfl, hb, by omega, by omega, fun r H' r0 r1 bx => ?_⟩
    have hi : r.toNat < xs.length := by omega
    refine ⟨l, xs, r, xs[r.toNat], rfl, rfl, SqL.of (bx.2 _ _ hl hne), at_of (j := r.toNat) (by omega) (List.getElem?_eq_getElem hi), q r.toNat _ H' (List.getElem?_eq_getElem hi) bx⟩
theorem scBx : FnScope ["_law_script", "_law_k", "_law_cell", "_law_great"] ["_law_script", "_law_k"] (defScope sBox) := ⟨rfl, rfl, rfl, by decide +kernel, rfl, by decide +kernel, by decide +kernel⟩
theorem ok_box {f : Addr} {fd : FuncData} (D : Df K mg "_law_box" sBox ["_law_script", "_law_k"] f fd) (B : Bt mg) : FnOk P w K mg base CX0 1 f fd ["_law_script", "_law_k"] (spBox K) := by
  refine D.F.ok scBx (fun vs H Q E h => ?_) (fun cdv A outer s H vs Q E hr h => ?_)
  · obtain ⟨a, ns, k, rfl, _⟩ := h
    rfl
  · obtain ⟨a, ns, k, rfl, hS, hl, k0, k1, q⟩ := h
    refine ⟨_, pss_cons (ps_set (i := 2) scBx.nd rfl (.inl rfl) (pe_op op_add (pe_op op_mul pe_int (pv 1)) pe_int))
      (pss_cons (ps_if (pt_cmpR op_lt (pv 1) (pe_callB call_len_seq (by rfl) B.len PySem.boot_len (pa_cons (pv 0) pa_nil)) (nomark _))
        (pss_one (ps_set (i := 2) scBx.nd rfl (.inl rfl) (pe_callB call_abs (by rfl) B.abs (by decide +kernel) (pa_cons (pe_callTy call_int1 (by rfl) B.int PyProof.Rows.boot_int (pa_cons (pe_ix ix_list (pv 0) (pv 1) (fun _ _ => rfl)) pa_nil)) pa_nil))))
        (pss_one (ps_if (pt_cmpR op_gt (pe_callB call_len_seq (by rfl) B.len PySem.boot_len (pa_cons (pv 0) pa_nil)) pe_int (nomark _))
          (pss_one (ps_set (i := 2) scBx.nd rfl (.inl rfl) (pe_op op_add (pv 2) (pe_op op_mul (pe_op op_mod (pe_callTy call_int1 (by rfl) B.int PyProof.Rows.boot_int (pa_cons (pe_callB call_abs (by rfl) B.abs (by decide +kernel) (pa_cons (pe_callTy call_int1 (by rfl) B.int PyProof.Rows.boot_int (pa_cons (pe_ix ix_list (pv 0)
            (pe_op op_mod (pe_callTy call_int1 (by rfl) B.int PyProof.Rows.boot_int (pa_cons (pv 1) pa_nil)) (pe_callB call_len_seq (by rfl) B.len PySem.boot_len (pa_cons (pv 0) pa_nil))) (fun _ _ => rfl)) pa_nil)) pa_nil)) pa_nil)) pe_int) pe_int)))) pss_nil)))
      (pss_cons (ps_set (i := 3) scBx.nd rfl (.inl rfl) (pe_ifExp (pt_cmpR op_ge (pv 2) (pe_op op_pow pe_int pe_int) (nomark _)) (pv 2) pe_int))
      (pss_one (ps_ret (pe_lst (pa_cons (pv 3)
        (pa_cons (pe_op op_add (pe_op op_mod (pe_callTy call_int1 (by rfl) B.int PyProof.Rows.boot_int (pa_cons (pe_op op_add (pe_op op_mul (pe_op op_mod (pe_callTy call_int1 (by rfl) B.int PyProof.Rows.boot_int (pa_cons (pv 2) pa_nil)) pe_int) pe_int) (pe_op op_mul pe_int (pv 1))) pa_nil)) pe_int) pe_int) pa_nil))))))), ?_⟩
    have hget : ∀ (j : Int), 0 ≤ j → j < (ns.length : Int) → ∃ z : Int, atI (ns.map V.int) j = some (V.int z) := fun j h0 h1 => by
      have hj : j.toNat < ns.length := by omega
      exact ⟨ns[j.toNat], at_of (j := j.toNat) (by omega) (by rw [List.getElem?_map, List.getElem?_eq_getElem hj]; rfl)⟩
    refine ⟨_, rfl, _, _, rfl, rfl, .inl ⟨by decide, by decide⟩, _, _, rfl, rfl, ?_⟩
    refine gn ?_
    dsimp only
    refine seqG (fun σ H' => ∃ c : Int, σ = [some (.ref a), some (.int k), some (.int c), none] ∧ H' = H) ?_ (fun kk => ?_)
    · rintro σ H' ⟨c, rfl, rfl⟩
      refine seqG (fun σ H'' => ∃ g : Int, σ = [some (.ref a), some (.int k), some (.int c), some (.int g)] ∧ H'' = H') ?_ (fun k2 => ⟨_, rfl, _, _, rfl, rfl, ⟨by decide, by decide, by decide⟩, _, _, rfl, rfl, _, rfl, ifD (fun e => ⟨_, rfl, k2 _ _ ⟨_, rfl, rfl⟩⟩) fun e => k2 _ _ ⟨_, rfl, rfl⟩⟩)
      rintro σ H'' ⟨g, rfl, e⟩
      subst e
      refine ⟨_, rfl, _, rfl, .inl ⟨_, rfl, _, _, rfl, rfl, (by decide : (0 : Int) < 2147483563), _, _, rfl, rfl, .inr ⟨by decide, by decide⟩, _, rfl, _, _, rfl, rfl, .inl ⟨by decide, by decide⟩, _, _, rfl, rfl, .inl ⟨_, rfl, _, _, rfl, rfl, (by decide : (0 : Int) < 2147483563), _, _, rfl, rfl, (by show 2 ≤ sizeLine; decide), fun p hp => ?_⟩⟩⟩
      exact q p _ (same_new hp) hp ⟨_, _, upd_same⟩
    · refine ⟨_, rfl, _, rfl, a, _, rfl, .inl (hS), _, _, rfl, rfl, _, rfl, ifD (fun e => ?_) fun e => ?_⟩
      · have e' : k < (ns.length : Int) := by
          have z := of_decide_eq_true e
          rw [List.length_map] at z
          exact z
        obtain ⟨z, hz⟩ := hget k k0 e'
        refine ⟨_, rfl, _, rfl, a, _, k, _, rfl, rfl, hS, hz, ?_⟩
        refine .inl ⟨z, rfl, _, rfl, ?_⟩
        exact kk _ _ ⟨_, rfl, rfl⟩
      · refine ⟨_, rfl, a, _, rfl, .inl hS, _, _, rfl, rfl, _, rfl, ifD (fun e => ?_) fun e => ?_⟩
        · have e' : 0 < (ns.length : Int) := by
            have z := of_decide_eq_true e
            rw [List.length_map] at z
            omega
          have em : (k % ((ns.map V.int).length : Int)) = k % (ns.length : Int) := by rw [List.length_map]
          obtain ⟨z, hz⟩ := hget (k % (ns.length : Int)) (Int.emod_nonneg _ (by omega)) (Int.emod_lt_of_pos _ e')
          refine ⟨_, rfl, _, rfl, _, rfl, .inl ⟨_, rfl, _, rfl, a, _, rfl, .inl hS, _, _, rfl, rfl, (by rw [List.length_map]; exact e'), a, _, _, _, rfl, rfl, hS, (by rw [em]; exact hz), ?_⟩⟩
          refine .inl ⟨z, rfl, _, rfl, .inl ⟨_, rfl, _, _, rfl, rfl, (by decide : (0 : Int) < 2147483563), _, _, rfl, rfl, .inr ⟨by decide, by decide⟩, _, _, rfl, rfl, ?_⟩⟩
          exact kk _ _ ⟨_, rfl, rfl⟩
        · exact kk _ _ ⟨_, rfl, rfl⟩
end
end K1
namespace K1
open PySem PySem.Spec PyProof.Rows L2
/-- the values of g below k -/
def gL (g : Int → Int) (k : Nat) : List Int := (List.range k).map fun i : Nat => g (i : Int)
theorem gL_succ (g : Int → Int) (k : Nat) : gL g (k + 1) = gL g k ++ [g (k : Int)] := by
  unfold gL
  rw [List.range_succ, List.map_append]; rfl
theorem gL_len (g : Int → Int) (k : Nat) : (gL g k).length = k := by unfold gL; rw [List.length_map, List.length_range]
theorem gL_at {g : Int → Int} {k i : Nat} (h : i < k) : (gL g k)[i]? = some (g (i : Int)) := by
  unfold gL
  rw [List.getElem?_map, List.getElem?_range h]; rfl
theorem gL_mem {g : Int → Int} {k : Nat} {x : Int} (h : x ∈ gL g k) : ∃ i : Int, 0 ≤ i ∧ i < (k : Int) ∧ x = g i := by
  obtain ⟨i, hi, rfl⟩ := List.mem_map.mp h
  exact ⟨i, by omega, by have := List.mem_range.mp hi; omega, rfl⟩
theorem gL_congr {g f : Int → Int} {k : Nat} (h : ∀ i : Int, 0 ≤ i → i < (k : Int) → g i = f i) : gL g k = gL f k :=
  List.map_congr_left fun i hi => h _ (by omega) (by have := List.mem_range.mp hi; omega)
def idL (n : Nat) : List Int := gL (fun s => s) n
def FewM (ts : Ts) : Prop := FewK ts (idL (nS ts))
theorem few_of {ts : Ts} {ss : List Int} (Form : List Int → Prop) (code : List Int → Int) (N : Nat) (hN : N ≤ 1000) (h0 : Form ss) (hs : ∀ x d, Form x → (0 ≤ d ∧ d < (ts.length : Int)) → Form (actL ts x d)) (hc : ∀ x, Form x → 0 ≤ code x ∧ code x < (N : Int))
    (inj : ∀ x y, Form x → Form y → code x = code y → x = y) : FewK ts ss := fun F nd hF => by
  have form : ∀ e ∈ F, Form e.1 := fun e he => by
    obtain ⟨r, hr, e1⟩ := hF e he
    rw [e1]
    clear e1
    have : ∀ (r x : List Int), (∀ y ∈ r, 0 ≤ y ∧ y < (ts.length : Int)) → Form x → Form (path (actL ts) x r) := fun r => by
      induction r with
      | nil => exact fun x _ h => h
      | cons d r ih => exact fun x hr h => ih _ (fun y hy => hr y (List.mem_cons_of_mem _ hy)) (hs x d h (hr d List.mem_cons_self))
    exact this r ss hr h0
  have nd2 : (F.map fun e => code e.1).Nodup :=
    List.pairwise_map.mpr (List.Pairwise.imp_of_mem (fun {e e'} he he' ne z => ne (inj _ _ (form e he) (form e' he') z)) (nodup_of nd))
  have := nodup_le N _ nd2 fun z hz => by
    obtain ⟨e, he, rfl⟩ := List.mem_map.mp hz
    exact hc _ (form e he)
  rw [List.length_map] at this
  omega
theorem getD_rng {x : List Int} {n : Int} (h0 : 0 < n) (h : ∀ s ∈ x, 0 ≤ s ∧ s < n) (i : Nat) : 0 ≤ x.getD i 0 ∧ x.getD i 0 < n := by
  rw [List.getD_eq_getElem?_getD]
  cases e : x[i]? with
  | none => exact ⟨Int.le_refl _, h0⟩
  | some s => exact h s (List.mem_of_getElem? e)
theorem idL_rng {n : Nat} : ∀ s ∈ idL n, 0 ≤ s ∧ s < (n : Int) := fun s hs => by
  obtain ⟨i, h1, h2, rfl⟩ := gL_mem hs
  exact ⟨h1, h2⟩
/-- machines of at most four states -/
theorem few_small {ts : Ts} (w : Wf ts) (h4 : nS ts ≤ 4) : FewM ts := by
  refine few_of (fun x => x.length = nS ts ∧ ∀ s ∈ x, 0 ≤ s ∧ s < (nS ts : Int)) (fun x => x.getD 0 0 + 4 * x.getD 1 0 + 16 * x.getD 2 0 + 64 * x.getD 3 0) 256 (by decide) ⟨gL_len _ _, idL_rng⟩ (fun x d h hd => ⟨by rw [actL, List.length_map]; exact h.1, actL_rng w hd h.2⟩) (fun x h => ?_) (fun x y hx hy e => ?_)
  · have s1 := w.s1
    have b : ∀ i, 0 ≤ x.getD i 0 ∧ x.getD i 0 < 4 := fun i => by
      have := getD_rng (n := (nS ts : Int)) (by omega) h.2 i
      omega
    have b0 := b 0; have b1 := b 1; have b2 := b 2; have b3 := b 3
    show 0 ≤ x.getD 0 0 + 4 * x.getD 1 0 + 16 * x.getD 2 0 + 64 * x.getD 3 0 ∧ x.getD 0 0 + 4 * x.getD 1 0 + 16 * x.getD 2 0 + 64 * x.getD 3 0 < ((256 : Nat) : Int)
    omega
  · have s1 := w.s1
    have b : ∀ z : List Int, (∀ s ∈ z, 0 ≤ s ∧ s < (nS ts : Int)) → ∀ i, 0 ≤ z.getD i 0 ∧ z.getD i 0 < 4 := fun z h i => by
      have := getD_rng (n := (nS ts : Int)) (by omega) h i
      omega
    have x0 := b x hx.2 0; have x1 := b x hx.2 1; have x2 := b x hx.2 2; have x3 := b x hx.2 3
    have y0 := b y hy.2 0; have y1 := b y hy.2 1; have y2 := b y hy.2 2; have y3 := b y hy.2 3
    have e : x.getD 0 0 + 4 * x.getD 1 0 + 16 * x.getD 2 0 + 64 * x.getD 3 0 = y.getD 0 0 + 4 * y.getD 1 0 + 16 * y.getD 2 0 + 64 * y.getD 3 0 := e
    have d0 : x.getD 0 0 = y.getD 0 0 := by omega
    have d1 : x.getD 1 0 = y.getD 1 0 := by omega
    have d2 : x.getD 2 0 = y.getD 2 0 := by omega
    have d3 : x.getD 3 0 = y.getD 3 0 := by omega
    refine List.ext_getElem (hx.1.trans hy.1.symm) fun i h1 h2 => ?_
    have g : ∀ (z : List Int) (h : i < z.length), z.getD i 0 = z[i] := fun z h => by rw [List.getD_eq_getElem?_getD, List.getElem?_eq_getElem h]; rfl
    rw [← g x h1, ← g y h2]
    have hi : i < 4 := by rw [hx.1] at h1; omega
    rcases (show i = 0 ∨ i = 1 ∨ i = 2 ∨ i = 3 by omega) with rfl | rfl | rfl | rfl <;> assumption
/-- tables of one form -/
structure Gen (ts : Ts) (n : Nat) (bys : List Int) (G : Int → Int → Int) : Prop where
  e : ts = bys.map fun b => gL (G b) n
  b1 : 1 ≤ bys.length
  b8 : bys.length ≤ 8
  n1 : 1 ≤ n
  n12 : n ≤ 12
  rg : ∀ b ∈ bys, ∀ s : Int, 0 ≤ s → s < (n : Int) → 0 ≤ G b s ∧ G b s < (n : Int)
theorem Gen.len {ts : Ts} {n : Nat} {bys : List Int} {G : Int → Int → Int} (g : Gen ts n bys G) : ts.length = bys.length := by rw [g.e, List.length_map]
theorem Gen.nS {ts : Ts} {n : Nat} {bys : List Int} {G : Int → Int → Int} (g : Gen ts n bys G) : nS ts = n := by
  have hb := g.b1
  have e : ts[0]? = some (gL (G (bys[0]'(by omega))) n) := by rw [g.e, List.getElem?_map, List.getElem?_eq_getElem (by omega)]; rfl
  unfold K1.nS
  rw [e]
  exact gL_len _ _
theorem Gen.wf {ts : Ts} {n : Nat} {bys : List Int} {G : Int → Int → Int} (g : Gen ts n bys G) : Wf ts := by
  have h1 := g.b1; have h8 := g.b8; have n1 := g.n1; have n12 := g.n12; have l := g.len; have e := g.nS
  refine ⟨by omega, by omega, by omega, by omega, fun t ht => ?_⟩
  rw [g.e] at ht
  obtain ⟨b, hb, rfl⟩ := List.mem_map.mp ht
  refine ⟨by rw [gL_len, e], fun i hi => ?_⟩
  obtain ⟨s, s0, s1, rfl⟩ := gL_mem hi
  rw [e]
  exact g.rg b hb s s0 s1
theorem Gen.stp {ts : Ts} {n : Nat} {bys : List Int} {G : Int → Int → Int} (g : Gen ts n bys G) {d : Int} (hd : 0 ≤ d ∧ d < (ts.length : Int)) : ∃ b ∈ bys, ∀ s : Int, 0 ≤ s → s < (n : Int) → stp ts s d = G b s := by
  have l := g.len
  have h : d.toNat < bys.length := by omega
  refine ⟨bys[d.toNat], List.getElem_mem h, fun s s0 s1 => ?_⟩
  unfold K1.stp
  rw [g.e, List.getElem?_map, List.getElem?_eq_getElem h]
  show ((gL (G bys[d.toNat]) n)[s.toNat]?).getD 0 = _
  rw [gL_at (by omega)]
  show G bys[d.toNat] ((s.toNat : Nat) : Int) = _
  rw [show ((s.toNat : Nat) : Int) = s by omega]
theorem few_gen {ts : Ts} {n : Nat} {bys : List Int} {G : Int → Int → Int} (g : Gen ts n bys G) (M : Int → Int → Int) (Pc : Int → Prop) (c0 : Int) (h0 : Pc c0) (hid : ∀ s, 0 ≤ s → s < (n : Int) → M c0 s = s) (hr : ∀ c, Pc c → ∀ s, 0 ≤ s → s < (n : Int) → 0 ≤ M c s ∧ M c s < (n : Int))
    (hs : ∀ b ∈ bys, ∀ c, Pc c → ∃ c', Pc c' ∧ ∀ s, 0 ≤ s → s < (n : Int) → G b (M c s) = M c' s)
    (inj : ∀ c c', Pc c → Pc c' → M c 0 = M c' 0 → (2 ≤ n → M c 1 = M c' 1) → ∀ s, 0 ≤ s → s < (n : Int) → M c s = M c' s) : FewM ts := by
  have n1 := g.n1; have n12 := g.n12
  refine few_of (fun x => ∃ c, Pc c ∧ x = gL (M c) n) (fun x => x.getD 0 0 * 12 + x.getD 1 0) 144 (by decide) ⟨c0, h0, ?_⟩ (fun x d ⟨c, hc, e⟩ hd => ?_) (fun x ⟨c, hc, e⟩ => ?_) (fun x y ⟨c, hc, e⟩ ⟨c', hc', e'⟩ z => ?_)
  · rw [g.nS]
    exact gL_congr fun i i0 i1 => (hid i i0 i1).symm
  · obtain ⟨b, hb, hst⟩ := g.stp hd
    obtain ⟨c', hc', h⟩ := hs b hb c hc
    refine ⟨c', hc', ?_⟩
    subst e
    unfold actL gL
    rw [List.map_map]
    refine List.map_congr_left fun i hi => ?_
    have hi' := List.mem_range.mp hi
    have r := hr c hc (i : Int) (by omega) (by omega)
    show K1.stp ts (M c (i : Int)) d = M c' (i : Int)
    rw [hst _ r.1 r.2]
    exact h _ (by omega) (by omega)
  · subst e
    have b : ∀ i, 0 ≤ (gL (M c) n).getD i 0 ∧ (gL (M c) n).getD i 0 < 12 := fun i => by
      have := getD_rng (x := gL (M c) n) (n := (n : Int)) (by omega) (fun s hs => by
        obtain ⟨j, j0, j1, rfl⟩ := gL_mem hs
        exact hr c hc j j0 j1) i
      omega
    have b0 := b 0; have b1 := b 1
    show 0 ≤ (gL (M c) n).getD 0 0 * 12 + (gL (M c) n).getD 1 0 ∧ (gL (M c) n).getD 0 0 * 12 + (gL (M c) n).getD 1 0 < ((144 : Nat) : Int)
    omega
  · subst e
    subst e'
    have b : ∀ c, Pc c → ∀ i, 0 ≤ (gL (M c) n).getD i 0 ∧ (gL (M c) n).getD i 0 < 12 := fun c hc i => by
      have := getD_rng (x := gL (M c) n) (n := (n : Int)) (by omega) (fun s hs => by
        obtain ⟨j, j0, j1, rfl⟩ := gL_mem hs
        exact hr c hc j j0 j1) i
      omega
    have b0 := b c hc 0; have b1 := b c hc 1; have b0' := b c' hc' 0; have b1' := b c' hc' 1
    have z : (gL (M c) n).getD 0 0 * 12 + (gL (M c) n).getD 1 0 = (gL (M c') n).getD 0 0 * 12 + (gL (M c') n).getD 1 0 := z
    have z0 : (gL (M c) n).getD 0 0 = (gL (M c') n).getD 0 0 := by omega
    have z1 : (gL (M c) n).getD 1 0 = (gL (M c') n).getD 1 0 := by omega
    have at_ : ∀ (c : Int) (i : Nat), i < n → (gL (M c) n).getD i 0 = M c (i : Int) := fun c i hi => by rw [List.getD_eq_getElem?_getD, gL_at hi]; rfl
    refine gL_congr (inj c c' hc hc' ?_ fun h2 => ?_)
    · have := (at_ c 0 (by omega)).symm.trans (z0.trans (at_ c' 0 (by omega)))
      simpa using this
    · have := (at_ c 1 (by omega)).symm.trans (z1.trans (at_ c' 1 (by omega)))
      simpa using this
/-- turns -/
theorem few_turn {ts : Ts} {n : Nat} {bys : List Int} (g : Gen ts n bys fun b s => (s + b) % (n : Int)) : FewM ts := by
  have n1 := g.n1
  refine few_gen g (fun c s => (s + c) % (n : Int)) (fun c => 0 ≤ c ∧ c < (n : Int)) 0 ⟨by omega, by omega⟩ (fun s s0 s1 => ?_) (fun c hc s s0 s1 => ⟨Int.emod_nonneg _ (by omega), Int.emod_lt_of_pos _ (by omega)⟩) (fun b hb c hc => ⟨(c + b) % (n : Int), ⟨Int.emod_nonneg _ (by omega), Int.emod_lt_of_pos _ (by omega)⟩, fun s s0 s1 => ?_⟩) (fun c c' hc hc' h _ => ?_)
  · show (s + 0) % (n : Int) = s
    rw [Int.add_zero, Int.emod_eq_of_lt s0 s1]
  · show ((s + c) % (n : Int) + b) % (n : Int) = (s + (c + b) % (n : Int)) % (n : Int)
    rw [Int.emod_add_emod, Int.add_emod_emod, Int.add_assoc]
  · have h : (0 + c) % (n : Int) = (0 + c') % (n : Int) := h
    rw [Int.zero_add, Int.zero_add, Int.emod_eq_of_lt hc.1 hc.2, Int.emod_eq_of_lt hc'.1 hc'.2] at h
    subst h
    exact fun s _ _ => rfl
/-- stops -/
theorem few_stop {ts : Ts} {n : Nat} {bys : List Int} (g : Gen ts n bys fun b s => if s + b < (n : Int) - 1 then s + b else (n : Int) - 1) (hb0 : ∀ b ∈ bys, 0 ≤ b) : FewM ts := by
  have n1 := g.n1
  refine few_gen g (fun c s => if s + c < (n : Int) - 1 then s + c else (n : Int) - 1) (fun c => 0 ≤ c ∧ c < (n : Int)) 0 ⟨by omega, by omega⟩ (fun s s0 s1 => ?_) (fun c hc s s0 s1 => ?_) (fun b hb c hc => ⟨if c + b < (n : Int) - 1 then c + b else (n : Int) - 1, ?_, fun s s0 s1 => ?_⟩) (fun c c' hc hc' h _ => ?_)
  · show (if s + 0 < (n : Int) - 1 then s + 0 else (n : Int) - 1) = s
    split <;> omega
  · show 0 ≤ (if s + c < (n : Int) - 1 then s + c else (n : Int) - 1) ∧ (if s + c < (n : Int) - 1 then s + c else (n : Int) - 1) < (n : Int)
    split <;> omega
  · have := hb0 b hb
    split <;> omega
  · have := hb0 b hb
    show (if (if s + c < (n : Int) - 1 then s + c else (n : Int) - 1) + b < (n : Int) - 1 then (if s + c < (n : Int) - 1 then s + c else (n : Int) - 1) + b else (n : Int) - 1) = (if s + (if c + b < (n : Int) - 1 then c + b else (n : Int) - 1) < (n : Int) - 1 then s + (if c + b < (n : Int) - 1 then c + b else (n : Int) - 1) else (n : Int) - 1)
    by_cases h1 : s + c < (n : Int) - 1
    · rw [if_pos h1]
      by_cases h2 : c + b < (n : Int) - 1
      · rw [if_pos h2]
        by_cases h3 : s + c + b < (n : Int) - 1
        · rw [if_pos h3, if_pos (by omega)]; omega
        · rw [if_neg h3, if_neg (by omega)]
      · rw [if_neg h2, if_neg (by omega), if_neg (by omega)]
    · rw [if_neg h1]
      by_cases h2 : c + b < (n : Int) - 1
      · rw [if_pos h2, if_neg (show ¬ (s + (c + b) < (n : Int) - 1) by omega)]
        split <;> omega
      · rw [if_neg h2, if_neg (show ¬ (s + ((n : Int) - 1) < (n : Int) - 1) by omega)]
        split <;> omega
  · have h : (if 0 + c < (n : Int) - 1 then 0 + c else (n : Int) - 1) = (if 0 + c' < (n : Int) - 1 then 0 + c' else (n : Int) - 1) := h
    have e : c = c' := by
      by_cases h1 : 0 + c < (n : Int) - 1 <;> by_cases h2 : 0 + c' < (n : Int) - 1
      · rw [if_pos h1, if_pos h2] at h; omega
      · rw [if_pos h1, if_neg h2] at h; omega
      · rw [if_neg h1, if_pos h2] at h; omega
      · omega
    subst e
    exact fun s _ _ => rfl
/-- the greater of two -/
theorem few_max {ts : Ts} {n : Nat} {bys : List Int} (g : Gen ts n bys fun b s => if s < b then b else s) (hb0 : ∀ b ∈ bys, 0 ≤ b ∧ b < (n : Int)) : FewM ts := by
  have n1 := g.n1
  refine few_gen g (fun c s => if s < c then c else s) (fun c => 0 ≤ c ∧ c < (n : Int)) 0 ⟨by omega, by omega⟩ (fun s s0 s1 => ?_) (fun c hc s s0 s1 => ?_) (fun b hb c hc => ⟨if c < b then b else c, ?_, fun s s0 s1 => ?_⟩) (fun c c' hc hc' h _ => ?_)
  · show (if s < 0 then 0 else s) = s
    rw [if_neg (by omega)]
  · show 0 ≤ (if s < c then c else s) ∧ (if s < c then c else s) < (n : Int)
    split <;> omega
  · have := hb0 b hb
    split <;> omega
  · have := hb0 b hb
    show (if (if s < c then c else s) < b then b else (if s < c then c else s)) = (if s < (if c < b then b else c) then (if c < b then b else c) else s)
    by_cases h1 : s < c <;> by_cases h2 : c < b
    · rw [if_pos h1, if_pos h2, if_pos (by omega)]
    · rw [if_pos h1, if_neg h2, if_pos h1]
    · rw [if_neg h1, if_pos h2]
    · rw [if_neg h1, if_neg h2, if_neg h1, if_neg (by omega)]
  · have h : (if 0 < c then c else 0) = (if 0 < c' then c' else 0) := h
    have e : c = c' := by
      by_cases h1 : 0 < c <;> by_cases h2 : 0 < c'
      · rw [if_pos h1, if_pos h2] at h; exact h
      · rw [if_pos h1, if_neg h2] at h; omega
      · rw [if_neg h1, if_pos h2] at h; omega
      · omega
    subst e
    exact fun s _ _ => rfl
/-- resets -/
theorem few_const {ts : Ts} {n : Nat} {bys : List Int} (g : Gen ts n bys fun b _ => b) : FewM ts := by
  have n1 := g.n1
  have hb0 : ∀ b ∈ bys, 0 ≤ b ∧ b < (n : Int) := fun b hb => g.rg b hb 0 (Int.le_refl _) (by omega)
  refine few_gen g (fun c s => if c < 0 then s else c) (fun c => -1 ≤ c ∧ c < (n : Int)) (-1) ⟨by omega, by omega⟩ (fun s s0 s1 => rfl) (fun c hc s s0 s1 => ?_) (fun b hb c hc => ⟨b, ⟨by have := hb0 b hb; omega, (hb0 b hb).2⟩, fun s s0 s1 => ?_⟩) (fun c c' hc hc' h h2 => ?_)
  · show 0 ≤ (if c < 0 then s else c) ∧ (if c < 0 then s else c) < (n : Int)
    split <;> omega
  · have := hb0 b hb
    show b = (if b < 0 then s else b)
    rw [if_neg (by omega)]
  · intro s s0 s1
    have h : (if c < 0 then (0 : Int) else c) = (if c' < 0 then 0 else c') := h
    have h2 : 2 ≤ n → (if c < 0 then (1 : Int) else c) = (if c' < 0 then 1 else c') := h2
    show (if c < 0 then s else c) = (if c' < 0 then s else c')
    by_cases e1 : c < 0 <;> by_cases e2 : c' < 0
    · rw [if_pos e1, if_pos e2]
    · rw [if_pos e1, if_neg e2] at h h2 ⊢
      by_cases e3 : 2 ≤ n
      · have := h2 e3; omega
      · omega
    · rw [if_neg e1, if_pos e2] at h h2 ⊢
      by_cases e3 : 2 ≤ n
      · have := h2 e3; omega
      · omega
    · rw [if_neg e1, if_neg e2] at h ⊢
      exact h
end K1
namespace K1
open PySem PySem.Spec PyProof.Rows L2
/-- tables at a list -/
def TabL (H : Hp) (p : Addr) (ts : List (List V)) : Prop := ∃ as : List Addr, H p = some (.lst (as.map V.ref)) ∧ as.length = ts.length ∧ ∀ (i : Nat) a t, as[i]? = some a → ts[i]? = some t → H a = some (.tup t)
theorem TabL.same {H H' : Hp} {ta : Addr} {ts : List (List V)} (h : TabL H ta ts) (s : Same H H') : TabL H' ta ts := let ⟨as, h1, h2, h3⟩ := h; ⟨as, s _ _ h1, h2, fun i a t e1 e2 => s _ _ (h3 i a t e1 e2)⟩
theorem TabL.bx {b : Addr} {H H' : Hp} {p : Addr} {ts : List (List V)} (h : TabL H p ts) (n : p ≠ b) (hb : BoxO H b) (a : Bx b H H') : TabL H' p ts :=
  let ⟨as, h1, h2, h3⟩ := h
  ⟨as, a.2 _ _ h1 n, h2, fun i c t e1 e2 => a.tup hb (h3 i c t e1 e2)⟩
theorem tabL_snoc {H : Hp} {p l : Addr} {as : List Addr} {rs : Ts} {t : List Int} (h1 : H p = some (.lst (as.map V.ref))) (h2 : as.length = (vts rs).length) (h3 : ∀ (i : Nat) a t, as[i]? = some a → (vts rs)[i]? = some t → H a = some (.tup t)) (hl : H l = none) :
    TabL (upd (upd H l (.tup (vrow t))) p (.lst (as.map V.ref ++ [.ref l]))) p (vts (rs ++ [t])) := by
  have las : as.length = rs.length := by rw [h2, vts, List.length_map]
  have sl := same_new (o := HO.tup (vrow t)) hl
  refine ⟨as ++ [l], by rw [upd_same, List.map_append]; rfl, by simp only [vts, List.length_append, List.length_map, las]; rfl, ?_⟩
  intro j a u e1 e2
  have hne : ∀ (c : Addr) (u : List V), H c = some (.tup u) → c ≠ p := fun c u e z => by rw [z, h1] at e; cases e
  simp only [vts, List.map_append] at e2
  by_cases hj : j < as.length
  · rw [List.getElem?_append_left hj] at e1
    rw [List.getElem?_append_left (by rw [List.length_map, ← las]; exact hj)] at e2
    have z := h3 j a u e1 e2
    rw [upd_ne (hne a u z)]
    exact sl _ _ z
  · have ej : j = as.length := by
      have := (List.getElem?_eq_some_iff.mp e1).1
      rw [List.length_append] at this
      simp only [List.length_cons, List.length_nil] at this
      omega
    rw [ej, List.getElem?_append_right (Nat.le_refl _), Nat.sub_self] at e1
    rw [ej, List.getElem?_append_right (by rw [List.length_map, las]; omega), List.length_map, las, Nat.sub_self] at e2
    obtain rfl : l = a := Option.some.inj e1
    obtain rfl : vrow t = u := Option.some.inj e2
    rw [upd_ne (fun z => by rw [z, h1] at hl; cases hl), upd_same]
theorem rowPut {H6 H8 : Hp} {D1 l : Addr} {rs : Ts} {row : List Int} (s : Same H6 H8) (hD : H6 D1 = none) (tl : TabL H8 D1 (vts rs)) (hl : H8 l = none) (hr : rs.length ≤ 100) :
    ∃ acc, (upd H8 l (.tup (vrow row))) D1 = some (.lst acc) ∧ acc.length < sizeLine ∧ Same H6 (upd (upd H8 l (.tup (vrow row))) D1 (.lst (acc ++ [.ref l]))) ∧ TabL (upd (upd H8 l (.tup (vrow row))) D1 (.lst (acc ++ [.ref l]))) D1 (vts (rs ++ [row])) := by
  obtain ⟨as, a1, a2, a3⟩ := tl
  have las : as.length = rs.length := by rw [a2, vts, List.length_map]
  refine ⟨_, (same_new hl) _ _ a1, by rw [List.length_map, las, sizeLine_eq]; omega, fun c o e => ?_, tabL_snoc a1 a2 a3 hl⟩
  rw [upd_ne (ne_of_none e hD)]
  exact (same_new hl) _ _ (s _ _ e)
/-- a row that a comprehension makes -/
def Gp (H1 : Hp) (D : Addr) (g : Int → Int) (k : Nat) (H' : Hp) : Prop := Same H1 H' ∧ H' D = some (.lst (vrow (gL g k)))
theorem Gp.nil {H1 : Hp} {D : Addr} {g : Int → Int} (hD : H1 D = none) : Gp H1 D g 0 (upd H1 D (.lst [])) := ⟨same_new hD, upd_same⟩
theorem Gp.put {H1 H' : Hp} {D : Addr} {g : Int → Int} {k : Nat} {v : Int} (a : Gp H1 D g k H') (hD : H1 D = none) (hv : v = g (k : Int)) (hk : k < 1000) : ∃ acc, H' D = some (.lst acc) ∧ acc.length < sizeLine ∧ Gp H1 D g (k + 1) (upd H' D (.lst (acc ++ [.int v]))) := by
  obtain ⟨s, h⟩ := a
  refine ⟨_, h, by rw [vrow, List.length_map, gL_len, sizeLine_eq]; omega, fun c o e => ?_, ?_⟩
  · rw [upd_ne (ne_of_none e hD)]; exact s _ _ e
  · rw [upd_same, gL_succ, hv, vrow, vrow, List.map_append]; rfl
/-- the same, by a source that gives numbers below m -/
def Rg (b D : Addr) (H1 : Hp) (m : Int) (i : Nat) (H' : Hp) : Prop := ∃ ns : List Int, ns.length = i ∧ (∀ x ∈ ns, 0 ≤ x ∧ x < m) ∧ Bx b H1 H' ∧ H' D = some (.lst (vrow ns))
theorem Rg.nil {b D : Addr} {H1 : Hp} {m : Int} (hb : BoxO H1 b) (hD : H1 D = none) : Rg b D H1 m 0 (upd H1 D (.lst [])) := ⟨[], rfl, fun x hx => absurd hx (by simp), (Bx.refl hb).new hD, upd_same⟩
theorem Rg.box {b D : Addr} {H1 H' : Hp} {m : Int} {i : Nat} (g : Rg b D H1 m i H') : BoxO H' b := let ⟨_, _, _, a, _⟩ := g; a.1
theorem Rg.put {b D : Addr} {H1 H' H2 : Hp} {m x : Int} {i : Nat} (g : Rg b D H1 m i H') (hb : BoxO H1 b) (hD : H1 D = none) (a : Bx b H' H2) (hx : 0 ≤ x ∧ x < m) (hi : i < 1000) : ∃ acc, H2 D = some (.lst acc) ∧ acc.length < sizeLine ∧ Rg b D H1 m (i + 1) (upd H2 D (.lst (acc ++ [.int x]))) := by
  obtain ⟨ns, h1, h2, h3, h4⟩ := g
  have nD : D ≠ b := (Bx.refl hb).ne hD
  refine ⟨vrow ns, a.2 _ _ h4 nD, by rw [vrow, List.length_map, h1, sizeLine_eq]; omega, ns ++ [x], by rw [List.length_append, h1]; rfl, fun y hy => ?_, (h3.trans a).put hD nD, by rw [upd_same]; simp only [vrow, List.map_append]; rfl⟩
  rcases List.mem_append.mp hy with z | z
  · exact h2 y z
  · rw [List.mem_singleton.mp z]; exact hx
theorem inV_st {st : Int} (h : inV (.int st) [.int 0, .int 2, .int 3, .int 4] = true) : st = 0 ∨ st = 2 ∨ st = 3 ∨ st = 4 := by
  simp [inV, eqV] at h
  omega
theorem vrow_at {ns : List Int} {i : Nat} {x : V} (h : (vrow ns)[i]? = some x) : ∃ z, ns[i]? = some z ∧ x = V.int z := by
  rw [vrow, List.getElem?_map] at h
  cases e : ns[i]? with
  | none => rw [e] at h; cases h
  | some z => rw [e] at h; exact ⟨z, rfl, (Option.some.inj h).symm⟩
theorem pe_imp {X : Cx} {e : Expr} {t t' : TE} (h : PE X e t) (i : ∀ σ H Q, t' σ H Q → t σ H Q) : PE X e t' := ⟨fun pins s σ H Q I q => h.run pins s σ H Q I (i _ _ _ q)⟩
/-- how many deeds -/
def tCnt : TE := fun σ H Q => ∃ (b : Addr) (st n : Int), σ[0]? = some (some (.ref b)) ∧ σ[2]? = some (some (.int st)) ∧ σ[3]? = some (some (.int n)) ∧ BoxO H b ∧ ∀ (cnt : Int) H', 1 ≤ cnt → cnt ≤ 8 → Bx b H H' → Q (.int cnt) H'
def spTabs : Sp := fun vs H Q _ => ∃ (b : Addr), vs = [.ref b, .int 4] ∧ BoxO H b ∧ ∀ p ts H', Bx b H H' → H p = none → p ≠ b → TabL H' p (vts ts) → Wf ts → FewM ts → Q (.ref p) H'
section
variable {P : Program} {w : World} {K : PySem.W.Frag} {mg : Str → Option Value} {base : Heap}
abbrev nTb : List Str := ["_law_box_here", "_law_most", "_law_style", "_law_states", "_law_by", "_law_found", "_law_deed", "_law_other", "_law_s"]
theorem scTb : FnScope nTb ["_law_box_here", "_law_most"] (defScope sTabs) := ⟨rfl, rfl, rfl, by decide +kernel, rfl, by decide +kernel, by decide +kernel⟩
theorem ok_tabs {f fT fP : Addr} {fd fdT fdP : FuncData} (D : Df K mg "_law_tables" sTabs ["_law_box_here", "_law_most"] f fd) (DT : Df K mg "_law_take" sTake ["_law_box_here", "_law_many"] fT fdT) (DP : Df K mg "_law_pick" sPick ["_law_box_here", "_law_some"] fP fdP) (B : Bt mg)
    (GT : FnOk P w K mg base CX0 1 fT fdT ["_law_box_here", "_law_many"] spTake) (GP : FnOk P w K mg base CX0 2 fP fdP ["_law_box_here", "_law_some"] spPick) : FnOk P w K mg base CX0 3 f fd ["_law_box_here", "_law_most"] spTabs := by
  refine D.F.ok scTb (fun vs H Q E h => ?_) (fun cdv A outer s H vs Q E hr h => ?_)
  · obtain ⟨b, rfl, _⟩ := h
    rfl
  · obtain ⟨b, rfl, hb, q⟩ := h
    have r1 := hr.mono (show 1 ≤ 2 by decide)
    have r2 := hr
    refine ⟨_, pss_cons (ps_asg (pe_tup (pa_cons (pc DT GT r1 pass0 (pa_cons (pv 0) (pa_cons pe_int pa_nil))) (pa_cons (pe_op op_add pe_int (pc DT GT r1 pass0 (pa_cons (pv 0) (pa_cons (pv 1) pa_nil)))) pa_nil))) (pg_tup rfl (pgs_cons (pg_name (i := 2) scTb.nd rfl (.inl rfl)) (pgs_cons (pg_name (i := 3) scTb.nd rfl (.inr rfl)) pgs_nil))))
      (pss_cons (ps_if (PW.pt (pw_and (pt_cmpR op_in_seq (pv 2) (pe_tup (pa_cons pe_int (pa_cons pe_int (pa_cons pe_int (pa_cons pe_int pa_nil))))) rfl) (pw_and1 (pt_cmpR op_eq (pc DT GT r1 pass0 (pa_cons (pv 0) (pa_cons pe_int pa_nil))) pe_int (nomark _))))) (pss_one (ps_set (i := 3) scTb.nd rfl (.inr rfl) (pe_op op_add pe_int (pc DT GT r1 pass0 (pa_cons (pv 0) (pa_cons pe_int pa_nil)))))) pss_nil)
      (pss_cons (ps_if (pt_cmpR op_eq (pv 2) pe_int (nomark _)) (pss_one (ps_ret (pe_lc (own := [("_law_by", 4)]) (g := gName 4) (tt := tYes) rfl scTb.nd (pi_list (pc DP GP r2 pass0 (pa_cons (pv 0) (pa_cons (pe_lst (pa_cons (pe_lst (pa_cons pe_int pa_nil)) (pa_cons (pe_lst (pa_cons pe_int (pa_cons pe_int pa_nil))) (pa_cons (pe_lst (pa_cons pe_int (pa_cons pe_int pa_nil))) (pa_cons (pe_lst (pa_cons pe_int (pa_cons pe_int pa_nil))) pa_nil))))) pa_nil)))) (blkOk_by (N := nTb) (sc := defScope sTabs) (by decide +kernel)) (fun _ _ _ _ _ => pg_name (i := 4) scTb.nd rfl (Or.inr rfl)) (fun _ _ _ _ _ => pts_nil)
            (fun _ _ _ _ _ => pe_callTy (ctup (K := K) rfl) (by rfl) B.tuple PyProof.Rows.boot_tuple (pa_cons (pe_lc (own := [("_law_s", 8)]) (g := gName 8) (tt := tYes) rfl scTb.nd (pi_range1 (by rfl) B.range (pa_cons (pv 3) pa_nil)) (blkOk_by (by rfl)) (fun _ _ _ _ _ => pg_name (i := 8) scTb.nd rfl (Or.inl rfl)) (fun _ _ _ _ _ => pts_nil)
              (fun _ _ _ _ _ => pe_op op_mod (pe_callTy call_int1 (by rfl) B.int PyProof.Rows.boot_int (pa_cons (pe_op op_add (pv 8) (pv 4)) pa_nil)) (pv 3))) pa_nil))))) pss_nil)
      (pss_cons (ps_if (PW.pt (pw_and (pt_cmpR op_eq (pv 2) pe_int (nomark _)) (pw_and1 (pt_cmpR op_ge (pv 1) pe_int (nomark _))))) (pss_one (ps_ret (pc DP GP r2 pass0 (pa_cons (pv 0) (pa_cons (pe_lst (pa_cons (pe_lst (pa_cons (pe_tup (pa_cons pe_int (pa_cons pe_int (pa_cons pe_int (pa_cons pe_int pa_nil))))) (pa_cons (pe_tup (pa_cons pe_int (pa_cons pe_int (pa_cons pe_int (pa_cons pe_int pa_nil))))) pa_nil))) (pa_cons (pe_lst (pa_cons (pe_tup (pa_cons pe_int (pa_cons pe_int (pa_cons pe_int (pa_cons pe_int pa_nil))))) (pa_cons (pe_tup (pa_cons pe_int (pa_cons pe_int (pa_cons pe_int (pa_cons pe_int pa_nil))))) pa_nil))) (pa_cons (pe_lst (pa_cons (pe_tup (pa_cons pe_int (pa_cons pe_int (pa_cons pe_int (pa_cons pe_int pa_nil))))) (pa_cons (pe_tup (pa_cons pe_int (pa_cons pe_int (pa_cons pe_int (pa_cons pe_int pa_nil))))) pa_nil))) (pa_cons (pe_lst (pa_cons (pe_tup (pa_cons pe_int (pa_cons pe_int (pa_cons pe_int (pa_cons pe_int pa_nil))))) (pa_cons (pe_tup (pa_cons pe_int (pa_cons pe_int (pa_cons pe_int (pa_cons pe_int pa_nil))))) pa_nil))) pa_nil))))) pa_nil))))) pss_nil)
      (pss_cons (ps_if (pt_cmpR op_eq (pv 2) pe_int (nomark _)) (pss_one (ps_ret (pe_lc (own := [("_law_by", 4)]) (g := gName 4) (tt := tYes) rfl scTb.nd (pi_tup (pe_tup (pa_cons pe_int (pa_cons (pe_op op_add pe_int (pc DT GT r1 pass0 (pa_cons (pv 0) (pa_cons pe_int pa_nil)))) pa_nil)))) (blkOk_by (N := nTb) (sc := defScope sTabs) (by decide +kernel)) (fun _ _ _ _ _ => pg_name (i := 4) scTb.nd rfl (Or.inr rfl)) (fun _ _ _ _ _ => pts_nil)
            (fun _ _ _ _ _ => pe_callTy (ctup (K := K) rfl) (by rfl) B.tuple PyProof.Rows.boot_tuple (pa_cons (pe_lc (own := [("_law_s", 8)]) (g := gName 8) (tt := tYes) rfl scTb.nd (pi_range1 (by rfl) B.range (pa_cons (pv 3) pa_nil)) (blkOk_by (by rfl)) (fun _ _ _ _ _ => pg_name (i := 8) scTb.nd rfl (Or.inl rfl)) (fun _ _ _ _ _ => pts_nil)
              (fun _ _ _ _ _ => pe_callB (call_min2 rfl) (by rfl) B.min (by decide +kernel) (pa_cons (pe_op op_sub (pv 3) pe_int) (pa_cons (pe_op op_add (pv 8) (pv 4)) pa_nil)))) pa_nil))))) pss_nil)
      (pss_cons (ps_if (pt_cmpR op_eq (pv 2) pe_int (nomark _)) (pss_one (ps_ret (pe_lc (own := [("_law_by", 4)]) (g := gName 4) (tt := tYes) rfl scTb.nd (pi_range1 (by rfl) B.range (pa_cons (pe_callB (call_min2 rfl) (by rfl) B.min (by decide +kernel) (pa_cons (pv 3) (pa_cons pe_int pa_nil))) pa_nil)) (blkOk_by (N := nTb) (sc := defScope sTabs) (by decide +kernel)) (fun _ _ _ _ _ => pg_name (i := 4) scTb.nd rfl (Or.inr rfl)) (fun _ _ _ _ _ => pts_nil)
            (fun _ _ _ _ _ => pe_callTy (ctup (K := K) rfl) (by rfl) B.tuple PyProof.Rows.boot_tuple (pa_cons (pe_lc (own := [("_law_s", 8)]) (g := gName 8) (tt := tYes) rfl scTb.nd (pi_range1 (by rfl) B.range (pa_cons (pv 3) pa_nil)) (blkOk_by (by rfl)) (fun _ _ _ _ _ => pg_name (i := 8) scTb.nd rfl (Or.inl rfl)) (fun _ _ _ _ _ => pts_nil)
              (fun _ _ _ _ _ => pe_callB (call_max2 rfl) (by rfl) B.max (by decide +kernel) (pa_cons (pv 8) (pa_cons (pv 4) pa_nil)))) pa_nil))))) pss_nil)
      (pss_cons (ps_set (i := 5) scTb.nd rfl (.inl rfl) (pe_lst pa_nil))
      (pss_cons (ps_for PassesOwn.never rfl (pi_range1 (by rfl) B.range (pa_cons (pe_imp (t' := tCnt) (pe_ifExp (PW.pt (pw_and (pt_cmpR op_eq (pv 2) pe_int (nomark _)) (pw_and1 (pt_cmpR op_gt (pv 3) pe_int (nomark _))))) pe_int (pe_op op_add pe_int (pc DT GT r1 pass0 (pa_cons (pv 0) (pa_cons pe_int pa_nil))))) (fun σ H Q ⟨b, st, n, h0, h2, h3, bo, q⟩ => ⟨_, h2, rfl, _, rfl, ifD (fun _ => ⟨_, h3, _, _, rfl, rfl, _, rfl, ifD (fun _ => q 8 H (by decide) (by decide) (Bx.refl bo)) fun _ => ⟨_, h0, b, 2, rfl, bo, by decide, by decide, fun u H6 u0 u1 bx6 => ⟨_, _, rfl, rfl, q (1 + u) H6 (by omega) (by omega) bx6⟩⟩⟩) fun _ => iteF ⟨_, h0, b, 2, rfl, bo, by decide, by decide, fun u H6 u0 u1 bx6 => ⟨_, _, rfl, rfl, q (1 + u) H6 (by omega) (by omega) bx6⟩⟩⟩)) pa_nil)) (pg_name (i := 6) scTb.nd rfl (.inl rfl))
        (pss_cons (ps_asg (pe_tup (pa_cons (pc DT GT r1 pass0 (pa_cons (pv 0) (pa_cons (pv 3) pa_nil))) (pa_cons (pc DT GT r1 pass0 (pa_cons (pv 0) (pa_cons (pv 3) pa_nil))) pa_nil))) (pg_tup rfl (pgs_cons (pg_name (i := 4) scTb.nd rfl (.inr rfl)) (pgs_cons (pg_name (i := 7) scTb.nd rfl (.inr rfl)) pgs_nil))))
        (pss_one (ps_if (pt_cmpR op_eq (pv 2) pe_int (nomark _)) (pss_one (ps_expr (pe_bm PySem.F.plainAttrs_list PySem.F.slot_list_append PySem.F.type_list_append mt_append (pv 5) (pa_cons (pe_callTy call_tuple_of (by rfl) B.tuple PyProof.Rows.boot_tuple (pa_cons (pe_lc (own := [("_law_s", 8)]) (g := gName 8) (tt := tYes) rfl scTb.nd (pi_range1 (by rfl) B.range (pa_cons (pv 3) pa_nil)) (blkOk_by (N := nTb) (sc := defScope sTabs) (by decide +kernel)) (fun _ _ _ _ _ => pg_name (i := 8) scTb.nd rfl (Or.inl rfl)) (fun _ _ _ _ _ => pts_nil)
              (fun _ _ _ _ _ => pv 4)) pa_nil)) pa_nil)))) (pss_one (ps_if (pt_cmpR op_eq (pv 2) pe_int (nomark _)) (pss_one (ps_expr (pe_bm PySem.F.plainAttrs_list PySem.F.slot_list_append PySem.F.type_list_append mt_append (pv 5) (pa_cons (pe_callTy call_tuple_of (by rfl) B.tuple PyProof.Rows.boot_tuple (pa_cons (pe_lc (own := [("_law_s", 8)]) (g := gName 8) (tt := tYes) rfl scTb.nd (pi_range1 (by rfl) B.range (pa_cons (pv 3) pa_nil)) (blkOk_by (N := nTb) (sc := defScope sTabs) (by decide +kernel)) (fun _ _ _ _ _ => pg_name (i := 8) scTb.nd rfl (Or.inl rfl)) (fun _ _ _ _ _ => pts_nil)
              (fun _ _ _ _ _ => pe_ifExp (pt_cmpR op_eq (pv 8) (pv 4) (nomark _)) (pv 7) (pe_ifExp (pt_cmpR op_eq (pv 8) (pv 7) (nomark _)) (pv 4) (pv 8)))) pa_nil)) pa_nil)))) (pss_one (ps_expr (pe_bm PySem.F.plainAttrs_list PySem.F.slot_list_append PySem.F.type_list_append mt_append (pv 5) (pa_cons (pe_callTy call_tuple_of (by rfl) B.tuple PyProof.Rows.boot_tuple (pa_cons (pe_lc (own := [("_law_s", 8)]) (g := gName 8) (tt := tYes) rfl scTb.nd (pi_range1 (by rfl) B.range (pa_cons (pv 3) pa_nil)) (blkOk_by (N := nTb) (sc := defScope sTabs) (by decide +kernel)) (fun _ _ _ _ _ => pg_name (i := 8) scTb.nd rfl (Or.inl rfl)) (fun _ _ _ _ _ => pts_nil)
              (fun _ _ _ _ _ => pc DT GT r1 pass0 (pa_cons (pv 0) (pa_cons (pv 3) pa_nil)))) pa_nil)) pa_nil))))))))))
      (pss_one (ps_ret (pv 5)))))))))), ?_⟩
    refine ⟨_, rfl, b, 8, rfl, hb, by decide, by decide, fun st H1 st0 st1 bx1 => ?_⟩
    refine ⟨_, rfl, _, rfl, b, 4, rfl, bx1.1, by decide, by decide, fun y H2 y0 y1 bx2 => ⟨_, _, rfl, rfl, (by show 2 ≤ sizeLine; decide), fun T hT => ⟨T, _, rfl, SqT.of upd_same, rfl, _, _, rfl, _, _, rfl, rfl, ?_⟩⟩⟩
    have bx3 := (bx1.trans bx2).new (o := HO.tup [.int st, .int (1 + y)]) hT
    generalize upd H2 T (.tup [.int st, .int (1 + y)]) = H3 at bx3 ⊢
    -- how many states
    dsimp only
    refine seqG (fun σ H' => ∃ n : Nat, σ = [some (.ref b), some (.int 4), some (.int st), some (.int (n : Int)), none, none, none, none, none] ∧ Bx b H H' ∧ 1 ≤ n ∧ n ≤ 12 ∧ (n ≤ 4 ∨ st = 0 ∨ st = 2 ∨ st = 3 ∨ st = 4)) ?_ (fun k => ?_)
    · rintro σ H4 ⟨n, rfl, bx4, n1, n12, hst⟩
      have mk : ∀ (bys : List Int) (G : Int → Int → Int), 1 ≤ bys.length → bys.length ≤ 8 → (∀ b ∈ bys, ∀ s : Int, 0 ≤ s → s < (n : Int) → 0 ≤ G b s ∧ G b s < (n : Int)) → Gen (bys.map fun b => gL (G b) n) n bys G := fun bys G h1 h8 hr => ⟨rfl, h1, h8, n1, n12, hr⟩
      refine ⟨_, rfl, rfl, _, rfl, ifD (fun e => ?_) fun e => ?_⟩
      · -- turns
        refine ⟨_, rfl, (by show 1 ≤ sizeLine; decide), fun l0 hl0 => ⟨(by show 2 ≤ sizeLine; decide), fun l1 hl1 => ⟨(by show 2 ≤ sizeLine; decide), fun l2 hl2 => ⟨(by show 2 ≤ sizeLine; decide), fun l3 hl3 => ⟨(by show 4 ≤ sizeLine; decide), fun lo hlo => ?_⟩⟩⟩⟩⟩
        have b0 := bx4
        have nl0 : l0 ≠ b := b0.ne hl0
        have b1 := b0.new (o := HO.lst [.int 1]) hl0
        have nl1 : l1 ≠ b := b1.ne hl1
        have b2 := b1.new (o := HO.lst [.int 1, .int 2]) hl1
        have nl2 : l2 ≠ b := b2.ne hl2
        have b3 := b2.new (o := HO.lst [.int 2, .int 3]) hl2
        have nl3 : l3 ≠ b := b3.ne hl3
        have b4 := b3.new (o := HO.lst [.int 1, .int 1]) hl3
        have nlo : lo ≠ b := b4.ne hlo
        have b5 := b4.new (o := HO.lst [.ref l0, .ref l1, .ref l2, .ref l3]) hlo
        have gl0 := ((same_new (o := HO.lst [.ref l0, .ref l1, .ref l2, .ref l3]) hlo) _ _ ((same_new (o := HO.lst [.int 1, .int 1]) hl3) _ _ ((same_new (o := HO.lst [.int 2, .int 3]) hl2) _ _ ((same_new (o := HO.lst [.int 1, .int 2]) hl1) _ _ (upd_same : (upd H4 l0 (.lst [.int 1])) l0 = some (.lst [.int 1]))))))
        have gl1 := ((same_new (o := HO.lst [.ref l0, .ref l1, .ref l2, .ref l3]) hlo) _ _ ((same_new (o := HO.lst [.int 1, .int 1]) hl3) _ _ ((same_new (o := HO.lst [.int 2, .int 3]) hl2) _ _ (upd_same : (upd (upd H4 l0 (.lst [.int 1])) l1 (.lst [.int 1, .int 2])) l1 = some (.lst [.int 1, .int 2])))))
        have gl2 := ((same_new (o := HO.lst [.ref l0, .ref l1, .ref l2, .ref l3]) hlo) _ _ ((same_new (o := HO.lst [.int 1, .int 1]) hl3) _ _ (upd_same : (upd (upd (upd H4 l0 (.lst [.int 1])) l1 (.lst [.int 1, .int 2])) l2 (.lst [.int 2, .int 3])) l2 = some (.lst [.int 2, .int 3]))))
        have gl3 := ((same_new (o := HO.lst [.ref l0, .ref l1, .ref l2, .ref l3]) hlo) _ _ (upd_same : (upd (upd (upd (upd H4 l0 (.lst [.int 1])) l1 (.lst [.int 1, .int 2])) l2 (.lst [.int 2, .int 3])) l3 (.lst [.int 1, .int 1])) l3 = some (.lst [.int 1, .int 1])))
        have glo := (upd_same : (upd (upd (upd (upd (upd H4 l0 (.lst [.int 1])) l1 (.lst [.int 1, .int 2])) l2 (.lst [.int 2, .int 3])) l3 (.lst [.int 1, .int 1])) lo (.lst [.ref l0, .ref l1, .ref l2, .ref l3])) lo = some (.lst [.ref l0, .ref l1, .ref l2, .ref l3]))
        generalize upd (upd (upd (upd (upd H4 l0 (.lst [.int 1])) l1 (.lst [.int 1, .int 2])) l2 (.lst [.int 2, .int 3])) l3 (.lst [.int 1, .int 1])) lo (.lst [.ref l0, .ref l1, .ref l2, .ref l3]) = H9 at b5 gl0 gl1 gl2 gl3 glo ⊢
        refine ⟨b, lo, _, rfl, b5.1, glo, nlo, (by decide : 1 ≤ 4), (by decide : 4 ≤ 1000), fun i v H6 hv bx6 => ?_⟩
        obtain ⟨lb, bys, rfl, hlb, c1, c2⟩ : ∃ (lb : Addr) (bys : List Int), v = .ref lb ∧ H6 lb = some (.lst (vrow bys)) ∧ 1 ≤ bys.length ∧ bys.length ≤ 2 := by
          match i, hv with
          | 0, hv => cases hv; exact ⟨l0, [1], rfl, bx6.2 _ _ gl0 nl0, by decide, by decide⟩
          | 1, hv => cases hv; exact ⟨l1, [1, 2], rfl, bx6.2 _ _ gl1 nl1, by decide, by decide⟩
          | 2, hv => cases hv; exact ⟨l2, [2, 3], rfl, bx6.2 _ _ gl2 nl2, by decide, by decide⟩
          | 3, hv => cases hv; exact ⟨l3, [1, 1], rfl, bx6.2 _ _ gl3 nl3, by decide, by decide⟩
          | i + 4, hv => cases hv
        have bxA := b5.trans bx6
        have gen := mk bys (fun b s => (s + b) % (n : Int)) c1 (by omega) (fun b _ s s0 s1 => ⟨Int.emod_nonneg _ (by omega), Int.emod_lt_of_pos _ (by omega)⟩)
        refine ⟨lb, rfl, ⟨_, SqL.of hlb⟩, fun D1 hD1 => lc_list (K := K) (a := lb) (xs := vrow bys) (fun i H' => Same H6 H' ∧ TabL H' D1 (vts ((bys.take i).map fun b => gL ((fun b s => (s + b) % (n : Int)) b) n))) ⟨same_new hD1, [], upd_same, rfl, fun i a t h => by cases h⟩ (fun i H' _ ⟨s, _⟩ => SqL.of (s _ _ hlb)) ?_ ?_⟩
        · rintro i x H7 hx ⟨s7, tl⟩
          obtain ⟨z, hz, rfl⟩ := vrow_at hx
          have hil : i < bys.length := (List.getElem?_eq_some_iff.mp hz).1
          refine ⟨rfl, _, rfl, (n : Int), rfl, by omega, by omega, fun D2 hD2 => lc_range (Gp H7 D2 (fun s => (s + z) % (n : Int))) (Gp.nil hD2) ?_ ?_⟩
          · rintro k H8 hk g
            exact ⟨rfl, _, rfl, _, rfl, _, _, rfl, rfl, .inl ⟨_, rfl, _, rfl, _, _, rfl, rfl, by omega, g.put hD2 (by show (0 + (k : Int) + z) % (n : Int) = ((k : Int) + z) % (n : Int); rw [Int.zero_add]) (by omega)⟩⟩
          · rintro H8 ⟨s8, hD8⟩
            refine ⟨D2, _, rfl, .inl ⟨SqL.of hD8, fun l hl => ?_⟩⟩
            have tl8 := tl.same s8
            have e8 : ((n : Int)).toNat = n := by omega
            rw [e8]
            obtain ⟨acc, a1, a2, a3, a4⟩ := rowPut (row := gL (fun s => (s + z) % (n : Int)) n) (s7.trans s8) hD1 tl8 hl (by rw [List.length_map, List.length_take]; omega)
            refine ⟨acc, a1, a2, a3, ?_⟩
            rw [take_succ hz, List.map_append]
            exact a4
        · rintro H7 ⟨s7, tl⟩
          rw [vrow, List.length_map, List.take_length] at tl
          exact q D1 _ H7 (bxA.same s7) (bxA.free (bxA.ne hD1) hD1) (bxA.ne hD1) tl gen.wf (few_turn gen)
      · refine ⟨_, rfl, rfl, _, rfl, ifD (fun e1 => ⟨_, rfl, _, _, rfl, rfl, _, rfl, iteT ?_⟩) fun e1 => iteF ?_⟩
        · -- told ones
          have bk0 := bx4
          generalize H4 = K0 at bk0 ⊢
          clear mk
          refine ⟨_, rfl, ?_⟩
          refine ⟨(by show 4 ≤ sizeLine; decide), fun a0 ha0 => ?_⟩
          have sa0 : Same K0 (upd K0 a0 (.tup [.int 1, .int 1, .int 3, .int 3])) := same_new ha0
          have ga0 : (upd K0 a0 (.tup [.int 1, .int 1, .int 3, .int 3])) a0 = some (.tup [.int 1, .int 1, .int 3, .int 3]) := upd_same
          generalize upd K0 a0 (.tup [.int 1, .int 1, .int 3, .int 3]) = K1 at sa0 ga0 ⊢
          have bk1 := bk0.same sa0
          refine ⟨(by show 4 ≤ sizeLine; decide), fun b0 hb0 => ?_⟩
          have sb0 : Same K1 (upd K1 b0 (.tup [.int 2, .int 3, .int 2, .int 3])) := same_new hb0
          have gb0 : (upd K1 b0 (.tup [.int 2, .int 3, .int 2, .int 3])) b0 = some (.tup [.int 2, .int 3, .int 2, .int 3]) := upd_same
          generalize upd K1 b0 (.tup [.int 2, .int 3, .int 2, .int 3]) = K2 at sb0 gb0 ⊢
          replace ga0 := sb0 _ _ ga0
          have bk2 := bk1.same sb0
          refine ⟨(by show 2 ≤ sizeLine; decide), fun l0 hl0 => ?_⟩
          have sl0 : Same K2 (upd K2 l0 (.lst [.ref a0, .ref b0])) := same_new hl0
          have gl0 : (upd K2 l0 (.lst [.ref a0, .ref b0])) l0 = some (.lst [.ref a0, .ref b0]) := upd_same
          generalize upd K2 l0 (.lst [.ref a0, .ref b0]) = K3 at sl0 gl0 ⊢
          replace ga0 := sl0 _ _ ga0
          replace gb0 := sl0 _ _ gb0
          have nl0 : l0 ≠ b := bk2.ne hl0
          have fl0 : H l0 = none := bk2.free nl0 hl0
          have bk3 := bk2.same sl0
          refine ⟨(by show 4 ≤ sizeLine; decide), fun a1 ha1 => ?_⟩
          have sa1 : Same K3 (upd K3 a1 (.tup [.int 1, .int 0, .int 3, .int 2])) := same_new ha1
          have ga1 : (upd K3 a1 (.tup [.int 1, .int 0, .int 3, .int 2])) a1 = some (.tup [.int 1, .int 0, .int 3, .int 2]) := upd_same
          generalize upd K3 a1 (.tup [.int 1, .int 0, .int 3, .int 2]) = K4 at sa1 ga1 ⊢
          replace ga0 := sa1 _ _ ga0
          replace gb0 := sa1 _ _ gb0
          replace gl0 := sa1 _ _ gl0
          have bk4 := bk3.same sa1
          refine ⟨(by show 4 ≤ sizeLine; decide), fun b1 hb1 => ?_⟩
          have sb1 : Same K4 (upd K4 b1 (.tup [.int 2, .int 3, .int 0, .int 1])) := same_new hb1
          have gb1 : (upd K4 b1 (.tup [.int 2, .int 3, .int 0, .int 1])) b1 = some (.tup [.int 2, .int 3, .int 0, .int 1]) := upd_same
          generalize upd K4 b1 (.tup [.int 2, .int 3, .int 0, .int 1]) = K5 at sb1 gb1 ⊢
          replace ga0 := sb1 _ _ ga0
          replace gb0 := sb1 _ _ gb0
          replace gl0 := sb1 _ _ gl0
          replace ga1 := sb1 _ _ ga1
          have bk5 := bk4.same sb1
          refine ⟨(by show 2 ≤ sizeLine; decide), fun l1 hl1 => ?_⟩
          have sl1 : Same K5 (upd K5 l1 (.lst [.ref a1, .ref b1])) := same_new hl1
          have gl1 : (upd K5 l1 (.lst [.ref a1, .ref b1])) l1 = some (.lst [.ref a1, .ref b1]) := upd_same
          generalize upd K5 l1 (.lst [.ref a1, .ref b1]) = K6 at sl1 gl1 ⊢
          replace ga0 := sl1 _ _ ga0
          replace gb0 := sl1 _ _ gb0
          replace gl0 := sl1 _ _ gl0
          replace ga1 := sl1 _ _ ga1
          replace gb1 := sl1 _ _ gb1
          have nl1 : l1 ≠ b := bk5.ne hl1
          have fl1 : H l1 = none := bk5.free nl1 hl1
          have bk6 := bk5.same sl1
          refine ⟨(by show 4 ≤ sizeLine; decide), fun a2 ha2 => ?_⟩
          have sa2 : Same K6 (upd K6 a2 (.tup [.int 1, .int 2, .int 3, .int 0])) := same_new ha2
          have ga2 : (upd K6 a2 (.tup [.int 1, .int 2, .int 3, .int 0])) a2 = some (.tup [.int 1, .int 2, .int 3, .int 0]) := upd_same
          generalize upd K6 a2 (.tup [.int 1, .int 2, .int 3, .int 0]) = K7 at sa2 ga2 ⊢
          replace ga0 := sa2 _ _ ga0
          replace gb0 := sa2 _ _ gb0
          replace gl0 := sa2 _ _ gl0
          replace ga1 := sa2 _ _ ga1
          replace gb1 := sa2 _ _ gb1
          replace gl1 := sa2 _ _ gl1
          have bk7 := bk6.same sa2
          refine ⟨(by show 4 ≤ sizeLine; decide), fun b2 hb2 => ?_⟩
          have sb2 : Same K7 (upd K7 b2 (.tup [.int 3, .int 2, .int 1, .int 0])) := same_new hb2
          have gb2 : (upd K7 b2 (.tup [.int 3, .int 2, .int 1, .int 0])) b2 = some (.tup [.int 3, .int 2, .int 1, .int 0]) := upd_same
          generalize upd K7 b2 (.tup [.int 3, .int 2, .int 1, .int 0]) = K8 at sb2 gb2 ⊢
          replace ga0 := sb2 _ _ ga0
          replace gb0 := sb2 _ _ gb0
          replace gl0 := sb2 _ _ gl0
          replace ga1 := sb2 _ _ ga1
          replace gb1 := sb2 _ _ gb1
          replace gl1 := sb2 _ _ gl1
          replace ga2 := sb2 _ _ ga2
          have bk8 := bk7.same sb2
          refine ⟨(by show 2 ≤ sizeLine; decide), fun l2 hl2 => ?_⟩
          have sl2 : Same K8 (upd K8 l2 (.lst [.ref a2, .ref b2])) := same_new hl2
          have gl2 : (upd K8 l2 (.lst [.ref a2, .ref b2])) l2 = some (.lst [.ref a2, .ref b2]) := upd_same
          generalize upd K8 l2 (.lst [.ref a2, .ref b2]) = K9 at sl2 gl2 ⊢
          replace ga0 := sl2 _ _ ga0
          replace gb0 := sl2 _ _ gb0
          replace gl0 := sl2 _ _ gl0
          replace ga1 := sl2 _ _ ga1
          replace gb1 := sl2 _ _ gb1
          replace gl1 := sl2 _ _ gl1
          replace ga2 := sl2 _ _ ga2
          replace gb2 := sl2 _ _ gb2
          have nl2 : l2 ≠ b := bk8.ne hl2
          have fl2 : H l2 = none := bk8.free nl2 hl2
          have bk9 := bk8.same sl2
          refine ⟨(by show 4 ≤ sizeLine; decide), fun a3 ha3 => ?_⟩
          have sa3 : Same K9 (upd K9 a3 (.tup [.int 1, .int 2, .int 3, .int 3])) := same_new ha3
          have ga3 : (upd K9 a3 (.tup [.int 1, .int 2, .int 3, .int 3])) a3 = some (.tup [.int 1, .int 2, .int 3, .int 3]) := upd_same
          generalize upd K9 a3 (.tup [.int 1, .int 2, .int 3, .int 3]) = K10 at sa3 ga3 ⊢
          replace ga0 := sa3 _ _ ga0
          replace gb0 := sa3 _ _ gb0
          replace gl0 := sa3 _ _ gl0
          replace ga1 := sa3 _ _ ga1
          replace gb1 := sa3 _ _ gb1
          replace gl1 := sa3 _ _ gl1
          replace ga2 := sa3 _ _ ga2
          replace gb2 := sa3 _ _ gb2
          replace gl2 := sa3 _ _ gl2
          have bk10 := bk9.same sa3
          refine ⟨(by show 4 ≤ sizeLine; decide), fun b3 hb3 => ?_⟩
          have sb3 : Same K10 (upd K10 b3 (.tup [.int 2, .int 3, .int 3, .int 3])) := same_new hb3
          have gb3 : (upd K10 b3 (.tup [.int 2, .int 3, .int 3, .int 3])) b3 = some (.tup [.int 2, .int 3, .int 3, .int 3]) := upd_same
          generalize upd K10 b3 (.tup [.int 2, .int 3, .int 3, .int 3]) = K11 at sb3 gb3 ⊢
          replace ga0 := sb3 _ _ ga0
          replace gb0 := sb3 _ _ gb0
          replace gl0 := sb3 _ _ gl0
          replace ga1 := sb3 _ _ ga1
          replace gb1 := sb3 _ _ gb1
          replace gl1 := sb3 _ _ gl1
          replace ga2 := sb3 _ _ ga2
          replace gb2 := sb3 _ _ gb2
          replace gl2 := sb3 _ _ gl2
          replace ga3 := sb3 _ _ ga3
          have bk11 := bk10.same sb3
          refine ⟨(by show 2 ≤ sizeLine; decide), fun l3 hl3 => ?_⟩
          have sl3 : Same K11 (upd K11 l3 (.lst [.ref a3, .ref b3])) := same_new hl3
          have gl3 : (upd K11 l3 (.lst [.ref a3, .ref b3])) l3 = some (.lst [.ref a3, .ref b3]) := upd_same
          generalize upd K11 l3 (.lst [.ref a3, .ref b3]) = K12 at sl3 gl3 ⊢
          replace ga0 := sl3 _ _ ga0
          replace gb0 := sl3 _ _ gb0
          replace gl0 := sl3 _ _ gl0
          replace ga1 := sl3 _ _ ga1
          replace gb1 := sl3 _ _ gb1
          replace gl1 := sl3 _ _ gl1
          replace ga2 := sl3 _ _ ga2
          replace gb2 := sl3 _ _ gb2
          replace gl2 := sl3 _ _ gl2
          replace ga3 := sl3 _ _ ga3
          replace gb3 := sl3 _ _ gb3
          have nl3 : l3 ≠ b := bk11.ne hl3
          have fl3 : H l3 = none := bk11.free nl3 hl3
          have bk12 := bk11.same sl3
          refine ⟨(by show 4 ≤ sizeLine; decide), fun lo hlo => ?_⟩
          have slo : Same K12 (upd K12 lo (.lst [.ref l0, .ref l1, .ref l2, .ref l3])) := same_new hlo
          have glo : (upd K12 lo (.lst [.ref l0, .ref l1, .ref l2, .ref l3])) lo = some (.lst [.ref l0, .ref l1, .ref l2, .ref l3]) := upd_same
          generalize upd K12 lo (.lst [.ref l0, .ref l1, .ref l2, .ref l3]) = K13 at slo glo ⊢
          replace ga0 := slo _ _ ga0
          replace gb0 := slo _ _ gb0
          replace gl0 := slo _ _ gl0
          replace ga1 := slo _ _ ga1
          replace gb1 := slo _ _ gb1
          replace gl1 := slo _ _ gl1
          replace ga2 := slo _ _ ga2
          replace gb2 := slo _ _ gb2
          replace gl2 := slo _ _ gl2
          replace ga3 := slo _ _ ga3
          replace gb3 := slo _ _ gb3
          replace gl3 := slo _ _ gl3
          have nlo : lo ≠ b := bk12.ne hlo
          have bk13 := bk12.same slo
          refine ⟨b, lo, _, rfl, bk13.1, glo, nlo, (by decide : 1 ≤ 4), (by decide : 4 ≤ 1000), fun i v K' hv bx => ?_⟩
          have two : ∀ (x y : Addr) (r u : List Int), K13 x = some (.tup (vrow r)) → K13 y = some (.tup (vrow u)) → ∀ (i : Nat) a t, ([x, y] : List Addr)[i]? = some a → (vts [r, u])[i]? = some t → K' a = some (.tup t) := fun x y r u hx hy i a t e1 e2 => by
            match i, e1, e2 with
            | 0, e1, e2 => cases e1; cases e2; exact bx.tup bk13.1 hx
            | 1, e1, e2 => cases e1; cases e2; exact bx.tup bk13.1 hy
            | i + 2, e1, _ => cases e1
          match i, hv with
          | 0, hv =>
            cases hv
            have w : Wf [[1, 1, 3, 3], [2, 3, 2, 3]] := ⟨by decide, by decide, by decide, by decide, by decide⟩
            exact q l0 [[1, 1, 3, 3], [2, 3, 2, 3]] K' (bk13.trans bx) fl0 nl0 ⟨[a0, b0], bx.2 _ _ gl0 nl0, rfl, two _ _ [1, 1, 3, 3] [2, 3, 2, 3] ga0 gb0⟩ w (few_small w (by decide))
          | 1, hv =>
            cases hv
            have w : Wf [[1, 0, 3, 2], [2, 3, 0, 1]] := ⟨by decide, by decide, by decide, by decide, by decide⟩
            exact q l1 [[1, 0, 3, 2], [2, 3, 0, 1]] K' (bk13.trans bx) fl1 nl1 ⟨[a1, b1], bx.2 _ _ gl1 nl1, rfl, two _ _ [1, 0, 3, 2] [2, 3, 0, 1] ga1 gb1⟩ w (few_small w (by decide))
          | 2, hv =>
            cases hv
            have w : Wf [[1, 2, 3, 0], [3, 2, 1, 0]] := ⟨by decide, by decide, by decide, by decide, by decide⟩
            exact q l2 [[1, 2, 3, 0], [3, 2, 1, 0]] K' (bk13.trans bx) fl2 nl2 ⟨[a2, b2], bx.2 _ _ gl2 nl2, rfl, two _ _ [1, 2, 3, 0] [3, 2, 1, 0] ga2 gb2⟩ w (few_small w (by decide))
          | 3, hv =>
            cases hv
            have w : Wf [[1, 2, 3, 3], [2, 3, 3, 3]] := ⟨by decide, by decide, by decide, by decide, by decide⟩
            exact q l3 [[1, 2, 3, 3], [2, 3, 3, 3]] K' (bk13.trans bx) fl3 nl3 ⟨[a3, b3], bx.2 _ _ gl3 nl3, rfl, two _ _ [1, 2, 3, 3] [2, 3, 3, 3] ga3 gb3⟩ w (few_small w (by decide))
          | i + 4, hv => cases hv
        · refine ⟨_, rfl, rfl, _, rfl, ifD (fun e2 => ?_) fun e2 => ?_⟩
          · -- stops
            refine ⟨_, rfl, b, 2, rfl, bx4.1, by decide, by decide, fun u H5 u0 u1 bx5 => ⟨_, _, rfl, rfl, (by show 2 ≤ sizeLine; decide), fun lb hlb0 => ?_⟩⟩
            have bxA := (bx4.trans bx5).new (o := HO.tup [.int 1, .int (1 + u)]) hlb0
            have hlb : (upd H5 lb (.tup [.int 1, .int (1 + u)])) lb = some (.tup [.int 1, .int (1 + u)]) := upd_same
            have bpos : ∀ b ∈ ([1, 1 + u] : List Int), 0 ≤ b := fun b hb => by
              simp only [List.mem_cons, List.mem_nil_iff, or_false] at hb
              rcases hb with rfl | rfl <;> omega
            have gen := mk [1, 1 + u] (fun b s => if s + b < (n : Int) - 1 then s + b else (n : Int) - 1) (by decide : 1 ≤ 2) (by decide : 2 ≤ 8) (fun b hb s s0 s1 => by have := bpos b hb; split <;> omega)
            refine ⟨lb, rfl, ⟨_, SqT.of hlb⟩, fun D1 hD1 => ?_⟩
            change (upd H5 lb (.tup [.int 1, .int (1 + u)])) D1 = none at hD1
            generalize hH6 : upd H5 lb (.tup [.int 1, .int (1 + u)]) = H6 at bxA hlb hD1
            refine lc_tup (K := K) (a := lb) (xs := vrow [1, 1 + u]) (fun i H' => Same H6 H' ∧ TabL H' D1 (vts ((([1, 1 + u] : List Int).take i).map fun b => gL ((fun b s => if s + b < (n : Int) - 1 then s + b else (n : Int) - 1) b) n))) (by rw [← hH6] at hD1 ⊢; exact ⟨same_new hD1, [], upd_same, rfl, fun i a t h => by cases h⟩) (fun i H' _ ⟨s, _⟩ => SqT.of (s _ _ hlb)) ?_ ?_
            · rintro i x H7 hx ⟨s7, tl⟩
              obtain ⟨z, hz, rfl⟩ := vrow_at hx
              have hil : i < 2 := (List.getElem?_eq_some_iff.mp hz).1
              refine ⟨rfl, _, rfl, (n : Int), rfl, by omega, by omega, fun D2 hD2 => lc_range (Gp H7 D2 (fun s => if s + z < (n : Int) - 1 then s + z else (n : Int) - 1)) (Gp.nil hD2) ?_ ?_⟩
              · rintro k H8 hk g
                exact ⟨rfl, _, rfl, _, _, rfl, rfl, _, rfl, _, rfl, _, _, rfl, rfl, _, _, rfl, g.put hD2 (by show (if 0 + (k : Int) + z < (n : Int) - 1 then 0 + (k : Int) + z else (n : Int) - 1) = _; rw [Int.zero_add]) (by omega)⟩
              · rintro H8 ⟨s8, hD8⟩
                refine ⟨D2, _, rfl, .inl ⟨SqL.of hD8, fun l hl => ?_⟩⟩
                have tl8 := tl.same s8
                have e8 : ((n : Int)).toNat = n := by omega
                rw [e8]
                obtain ⟨acc, a1, a2, a3, a4⟩ := rowPut (row := gL (fun s => if s + z < (n : Int) - 1 then s + z else (n : Int) - 1) n) (s7.trans s8) hD1 tl8 hl (by rw [List.length_map, List.length_take]; omega)
                refine ⟨acc, a1, a2, a3, ?_⟩
                rw [take_succ hz, List.map_append]
                exact a4
            · rintro H7 ⟨s7, tl⟩
              exact q D1 _ H7 (bxA.same s7) (bxA.free (bxA.ne hD1) hD1) (bxA.ne hD1) tl gen.wf (few_stop gen bpos)
          · refine ⟨_, rfl, rfl, _, rfl, ifD (fun e3 => ?_) fun e3 => ?_⟩
            · -- the greater
              have m3 : ∃ m : Nat, (if 3 < (n : Int) then 3 else (n : Int)) = (m : Int) ∧ 1 ≤ m ∧ m ≤ 3 ∧ m ≤ n := by
                by_cases h : 3 < (n : Int)
                · exact ⟨3, by rw [if_pos h]; rfl, by decide, by decide, by omega⟩
                · exact ⟨n, by rw [if_neg h], n1, by omega, Nat.le_refl _⟩
              obtain ⟨m, em, m1, m3, mn⟩ := m3
              have brg : ∀ b ∈ idL m, 0 ≤ b ∧ b < (n : Int) := fun b hb => by have := idL_rng b hb; omega
              have gen := mk (idL m) (fun b s => if s < b then b else s) (by rw [idL, gL_len]; exact m1) (by rw [idL, gL_len]; omega) (fun b hb s s0 s1 => by have := brg b hb; split <;> omega)
              refine ⟨_, rfl, _, _, rfl, (m : Int), by rw [em], by omega, by omega, fun D1 hD1 => lc_range (fun i H' => Same H4 H' ∧ TabL H' D1 (vts (((idL m).take i).map fun b => gL ((fun b s => if s < b then b else s) b) n))) ⟨same_new hD1, [], upd_same, rfl, fun i a t h => by cases h⟩ ?_ ?_⟩
              · rintro i H7 hi ⟨s7, tl⟩
                have hz : (idL m)[i]? = some (i : Int) := gL_at (by omega)
                refine ⟨rfl, _, rfl, (n : Int), rfl, by omega, by omega, fun D2 hD2 => lc_range (Gp H7 D2 (fun s => if s < (i : Int) then (i : Int) else s)) (Gp.nil hD2) ?_ ?_⟩
                · rintro k H8 hk g
                  exact ⟨rfl, _, rfl, _, rfl, _, _, rfl, g.put hD2 (by show (if 0 + (i : Int) > 0 + (k : Int) then 0 + (i : Int) else 0 + (k : Int)) = _; rw [Int.zero_add, Int.zero_add]) (by omega)⟩
                · rintro H8 ⟨s8, hD8⟩
                  refine ⟨D2, _, rfl, .inl ⟨SqL.of hD8, fun l hl => ?_⟩⟩
                  have tl8 := tl.same s8
                  have e8 : ((n : Int)).toNat = n := by omega
                  rw [e8]
                  obtain ⟨acc, a1, a2, a3, a4⟩ := rowPut (row := gL (fun s => if s < (i : Int) then (i : Int) else s) n) (s7.trans s8) hD1 tl8 hl (by rw [List.length_map, List.length_take, idL, gL_len]; omega)
                  refine ⟨acc, a1, a2, a3, ?_⟩
                  rw [take_succ hz, List.map_append]
                  exact a4
              · rintro H7 ⟨s7, tl⟩
                have e9 : ((m : Int)).toNat = (idL m).length := by rw [idL, gL_len]; omega
                rw [e9, List.take_length] at tl
                exact q D1 _ H7 (bx4.same s7) (bx4.free (bx4.ne hD1) hD1) (bx4.ne hD1) tl gen.wf (few_max gen brg)
            · -- drawn ones
              have hst4 : n ≤ 4 ∨ st = 4 := by
                have a0 : st ≠ 0 := fun z => by have := of_decide_eq_false e; exact this (by rw [z])
                have a2 : st ≠ 2 := fun z => by have := of_decide_eq_false e2; exact this (by rw [z])
                have a3 : st ≠ 3 := fun z => by have := of_decide_eq_false e3; exact this (by rw [z])
                omega
              refine ⟨(by show 0 ≤ sizeLine; decide), fun p hp => ?_⟩
              have npb : p ≠ b := bx4.ne hp
              have npH : H p = none := bx4.free npb hp
              have bx5 := bx4.new (o := HO.lst []) hp
              have hp5 : (upd H4 p (.lst [])) p = some (.lst []) := upd_same
              generalize upd H4 p (.lst []) = H5 at bx5 hp5 ⊢
              have stepIn : ∀ (H6 : Hp) (rs : Ts), Bx b H H6 → TabL H6 p (vts rs) → ∀ (D2 : Addr) (H8 : Hp) (row : List Int), Bx b H6 H8 → H8 D2 = some (.lst (vrow row)) → rs.length ≤ 8 → ∀ l, H8 l = none → ∃ acc, (upd H8 l (.tup (vrow row))) p = some (.lst acc) ∧ acc.length < sizeLine ∧ Bx b H (upd (upd H8 l (.tup (vrow row))) p (.lst (acc ++ [.ref l]))) ∧ TabL (upd (upd H8 l (.tup (vrow row))) p (.lst (acc ++ [.ref l]))) p (vts (rs ++ [row])) := fun H6 rs bx6 tl D2 H8 row bx8 hD8 hl8 l hl => by
                obtain ⟨as, a1, a2, a3⟩ := tl.bx npb bx6.1 bx8
                have las : as.length = rs.length := by rw [a2, vts, List.length_map]
                exact ⟨_, (same_new hl) _ _ a1, by rw [List.length_map, las, sizeLine_eq]; omega, ((bx6.trans bx8).new hl).put npH npb, tabL_snoc a1 a2 a3 hl⟩
              refine ⟨b, st, n, rfl, rfl, rfl, bx5.1, fun cnt H6 c1 c8 bx6 => ⟨cnt, rfl, by omega, by omega, for_range (fun i σ H' => ∃ (rs : Ts) (v4 v6 v7 : Option V), σ = [some (.ref b), some (.int 4), some (.int st), some (.int (n : Int)), v4, some (.ref p), v6, v7, none] ∧ Bx b H H' ∧ TabL H' p (vts rs) ∧ rs.length = i ∧ (∀ t ∈ rs, t.length = n ∧ ∀ x ∈ t, 0 ≤ x ∧ x < (n : Int)) ∧ (st = 4 → ∃ bys : List Int, rs = bys.map fun b => gL (fun _ => b) n))
                  ⟨[], none, none, none, rfl, bx5.trans bx6, ⟨[], bx6.2 _ _ hp5 npb, rfl, fun i a t h => by cases h⟩, rfl, fun t ht => absurd ht (by simp), fun _ => ⟨[], rfl⟩⟩ ?_ ?_⟩⟩
              · rintro i σ H7 hi ⟨rs, v4, v6, v7, rfl, bx7, tl7, hl7, hr7, h47⟩
                refine ⟨_, rfl, _, rfl, b, _, rfl, bx7.1, by omega, by omega, fun y1 H8 y10 y11 bx8 => ⟨_, rfl, _, rfl, b, _, rfl, bx8.1, by omega, by omega, fun y2 H9 y20 y21 bx9 => ⟨(by show 2 ≤ sizeLine; decide), fun T2 hT2 => ⟨T2, _, rfl, SqT.of upd_same, rfl, _, _, rfl, _, _, rfl, rfl, ?_⟩⟩⟩⟩
                have bxN := (bx8.trans bx9).new (o := HO.tup [.int y1, .int y2]) hT2
                generalize upd H9 T2 (.tup [.int y1, .int y2]) = H10 at bxN ⊢
                have tlN := tl7.bx npb bx7.1 bxN
                have hbN := bxN.1
                have bxI := bx7.trans bxN
                obtain ⟨asN, aN1, aN2, aN3⟩ := id tlN
                have e8 : ((n : Int)).toNat = n := by omega
                -- one row more
                have fin : ∀ (D2 : Addr) (H11 : Hp) (row : List Int), Bx b H10 H11 → H11 D2 = some (.lst (vrow row)) → row.length = n → (∀ x ∈ row, 0 ≤ x ∧ x < (n : Int)) → (st = 4 → row = gL (fun _ => y1) n) → ∀ l, H11 l = none → ∃ acc, (upd H11 l (.tup (vrow row))) p = some (.lst acc) ∧ acc.length < sizeLine ∧
                    ∃ (rs : Ts) (w4 w6 w7 : Option V), [some (.ref b), some (.int 4), some (.int st), some (.int (n : Int)), some (.int y1), some (.ref p), some (.int (0 + (i : Int))), some (.int y2), none] = [some (.ref b), some (.int 4), some (.int st), some (.int (n : Int)), w4, some (.ref p), w6, w7, none] ∧ Bx b H (upd (upd H11 l (.tup (vrow row))) p (.lst (acc ++ [.ref l]))) ∧ TabL (upd (upd H11 l (.tup (vrow row))) p (.lst (acc ++ [.ref l]))) p (vts rs) ∧ rs.length = i + 1 ∧ (∀ t ∈ rs, t.length = n ∧ ∀ x ∈ t, 0 ≤ x ∧ x < (n : Int)) ∧ (st = 4 → ∃ bys : List Int, rs = bys.map fun b => gL (fun _ => b) n) := fun D2 H11 row bx11 hD11 hlr hrr h4r l hl => by
                  obtain ⟨acc, a1, a2, a3, a4⟩ := stepIn H10 rs bxI tlN D2 H11 row bx11 hD11 (by omega) l hl
                  refine ⟨acc, a1, a2, rs ++ [row], _, _, _, rfl, a3, a4, by rw [List.length_append, hl7]; rfl, fun t ht => ?_, fun h4 => ?_⟩
                  · rcases List.mem_append.mp ht with z | z
                    · exact hr7 t z
                    · rw [List.mem_singleton.mp z]; exact ⟨hlr, hrr⟩
                  · obtain ⟨bys, rfl⟩ := h47 h4
                    exact ⟨bys ++ [y1], by rw [List.map_append, h4r h4]; rfl⟩
                refine ⟨_, rfl, rfl, _, rfl, ifD (fun e4 => ?_) fun e4 => ?_⟩
                · refine ⟨_, rfl, .inl ⟨rfl, _, SqL.of aN1⟩, _, rfl, (n : Int), rfl, by omega, by omega, fun D2 hD2 => lc_range (Gp H10 D2 (fun _ => y1)) (Gp.nil hD2) ?_ ?_⟩
                  · rintro k H11 hk g
                    exact ⟨rfl, _, rfl, g.put hD2 rfl (by omega)⟩
                  · rintro H11 ⟨s11, hD11⟩
                    rw [e8] at hD11
                    refine ⟨D2, _, rfl, .inl ⟨SqL.of hD11, fun l hl => ?_⟩⟩
                    obtain ⟨acc, a1, a2, a3⟩ := fin D2 H11 (gL (fun _ => y1) n) ((Bx.refl hbN).same s11) hD11 (gL_len _ _) (fun x hx => by
                      obtain ⟨_, _, _, rfl⟩ := gL_mem hx
                      exact ⟨y10, y11⟩) (fun _ => rfl) l hl
                    exact ⟨p, _, _, rfl, rfl, a1, a2, a3⟩
                · have n4 : st ≠ 4 := fun z => by have := of_decide_eq_false e4; exact this (by rw [z])
                  refine ⟨_, rfl, rfl, _, rfl, ifD (fun e5 => ?_) fun e5 => ?_⟩
                  · refine ⟨_, rfl, .inl ⟨rfl, _, SqL.of aN1⟩, _, rfl, (n : Int), rfl, by omega, by omega, fun D2 hD2 => lc_range (Rg b D2 H10 (n : Int)) (Rg.nil hbN hD2) ?_ ?_⟩
                    · rintro k H11 hk g
                      exact ⟨rfl, _, rfl, _, rfl, rfl, _, rfl, ifD (fun _ => ⟨_, rfl, g.put hbN hD2 (Bx.refl g.box) ⟨y20, y21⟩ (by omega)⟩) fun _ => ⟨_, rfl, _, rfl, rfl, _, rfl, ifD (fun _ => ⟨_, rfl, g.put hbN hD2 (Bx.refl g.box) ⟨y10, y11⟩ (by omega)⟩) fun _ => ⟨_, rfl, g.put hbN hD2 (Bx.refl g.box) ⟨by omega, by omega⟩ (by omega)⟩⟩⟩
                    · rintro H11 ⟨ns, k1, k2, bx11, hD11⟩
                      refine ⟨D2, _, rfl, .inl ⟨SqL.of hD11, fun l hl => ?_⟩⟩
                      obtain ⟨acc, a1, a2, a3⟩ := fin D2 H11 ns bx11 hD11 (k1.trans e8) k2 (fun h => absurd h n4) l hl
                      exact ⟨p, _, _, rfl, rfl, a1, a2, a3⟩
                  · refine ⟨_, rfl, .inl ⟨rfl, _, SqL.of aN1⟩, _, rfl, (n : Int), rfl, by omega, by omega, fun D2 hD2 => lc_range (Rg b D2 H10 (n : Int)) (Rg.nil hbN hD2) ?_ ?_⟩
                    · rintro k H11 hk g
                      exact ⟨rfl, _, rfl, _, rfl, b, _, rfl, g.box, by omega, by omega, fun r H12 r0 r1' bx12 => g.put hbN hD2 bx12 ⟨r0, r1'⟩ (by omega)⟩
                    · rintro H11 ⟨ns, k1, k2, bx11, hD11⟩
                      refine ⟨D2, _, rfl, .inl ⟨SqL.of hD11, fun l hl => ?_⟩⟩
                      obtain ⟨acc, a1, a2, a3⟩ := fin D2 H11 ns bx11 hD11 (k1.trans e8) k2 (fun h => absurd h n4) l hl
                      exact ⟨p, _, _, rfl, rfl, a1, a2, a3⟩
              · rintro σ H7 ⟨rs, v4, v6, v7, rfl, bx7, tl7, hl7, hr7, h47⟩
                have l1 : 1 ≤ rs.length := by omega
                have l8 : rs.length ≤ 8 := by omega
                have e0 : nS rs = n := by
                  cases rs with
                  | nil => exact absurd l1 (by simp)
                  | cons t r => exact (hr7 t List.mem_cons_self).1
                have w7 : Wf rs := ⟨l1, l8, by omega, by omega, fun t ht => ⟨by rw [e0]; exact (hr7 t ht).1, fun x hx => by rw [e0]; exact (hr7 t ht).2 x hx⟩⟩
                refine ⟨_, rfl, q p rs H7 bx7 npH npb tl7 w7 ?_⟩
                rcases hst4 with h4 | h4
                · exact few_small w7 (by omega)
                · obtain ⟨bys, rfl⟩ := h47 h4
                  rw [List.length_map] at l1 l8
                  exact few_const (mk bys (fun b _ => b) l1 l8 fun b hb s s0 s1 => (hr7 _ (List.mem_map.mpr ⟨b, hb, rfl⟩)).2 b (List.mem_of_getElem? (gL_at (i := 0) (by omega))))
    · refine ⟨_, rfl, (by show 4 ≤ sizeLine; decide), fun T2 hT2 => ⟨T2, _, rfl, .inr (SqT.of upd_same), rfl, rfl, _, rfl, ifD (fun e => ?_) fun e => iteF ?_⟩⟩
      · have hst := inV_st e
        have bx5 := bx3.new (o := HO.tup [.int 0, .int 2, .int 3, .int 4]) hT2
        refine ⟨_, rfl, b, 3, rfl, bx5.1, by decide, by decide, fun z H6 z0 z1 bx6 => ⟨rfl, _, rfl, ifD (fun e2 => ?_) fun e2 => ?_⟩⟩
        · refine ⟨_, rfl, b, 7, rfl, bx6.1, by decide, by decide, fun u H7 u0 u1 bx7 => ⟨_, _, rfl, rfl, ?_⟩⟩
          have en : 1 + u = (((1 + u).toNat : Nat) : Int) := by omega
          have kk := k _ _ ⟨(1 + u).toNat, rfl, (bx5.trans bx6).trans bx7, by omega, by omega, .inr hst⟩
          rw [← en] at kk
          exact kk
        · have en : 1 + y = (((1 + y).toNat : Nat) : Int) := by omega
          rw [en]
          exact k _ _ ⟨(1 + y).toNat, rfl, bx5.trans bx6, by omega, by omega, .inr hst⟩
      · have en : 1 + y = (((1 + y).toNat : Nat) : Int) := by omega
        rw [en]
        exact k _ _ ⟨(1 + y).toNat, rfl, bx3.new (o := HO.tup [.int 0, .int 2, .int 3, .int 4]) hT2, by omega, by omega, .inl (by omega)⟩
end
end K1
namespace K1
open PySem PySem.Spec PyProof.Rows L2
theorem ixLK {X : Cx} {K : PySem.W.Frag} (h : X.K = K) : IxR X (rIxL K) := by
  subst h
  exact ix_list
def mK (F : List KR) : List (List Key × V) := F.map fun e => (kK e.1, V.bl true)
/-- how the law's search stands -/
structure MQ (H : Hp) (d q : Addr) (F : List KR) (as : List Addr) : Prop where
  hd : H d = some (.dT (mK F))
  hq : H q = some (.lst (as.map V.ref))
  ln : as.length = F.length
  it : ∀ (i : Nat) a x r, as[i]? = some a → F[i]? = some (x, r) → ∃ b c, H a = some (.tup [.ref b, .ref c]) ∧ H b = some (.tup (vrow x)) ∧ H c = some (.tup (vrow r))
theorem MQ.same {H H' : Hp} {d q : Addr} {F : List KR} {as : List Addr} (b : MQ H d q F as) (s : Same H H') : MQ H' d q F as :=
  ⟨s _ _ b.hd, s _ _ b.hq, b.ln, fun i a x r e1 e2 => let ⟨u, v, h1, h2, h3⟩ := b.it i a x r e1 e2; ⟨u, v, s _ _ h1, s _ _ h2, s _ _ h3⟩⟩
theorem mK_none {F : List KR} {x : List Int} : valV (mK F) (kK x) = none ↔ x ∉ F.map (·.1) := by
  have e := valV_any (kK x) (mK F)
  have h : ((mK F).any fun kv => decide (kv.1 = kK x)) = true ↔ x ∈ F.map (·.1) := by
    rw [mK, List.any_map, List.any_eq_true]
    constructor
    · rintro ⟨y, hy, e⟩
      have e' : kK y.1 = kK x := of_decide_eq_true e
      exact List.mem_map.mpr ⟨y, hy, kK_inj e'⟩
    · intro hx
      obtain ⟨y, hy, e⟩ := List.mem_map.mp hx
      exact ⟨y, hy, decide_eq_true (congrArg kK e)⟩
  constructor
  · intro hn hx
    rw [hn, h.mpr hx] at e
    cases e
  · intro hx
    cases q : valV (mK F) (kK x) with
    | none => rfl
    | some v =>
      rw [q] at e
      exact absurd (h.mp e) hx
theorem MQ.put {H H6 : Hp} {d q : Addr} {F : List KR} {as : List Addr} (b : MQ H d q F as) {x r : List Int} {a e c : Addr} (hx : x ∉ F.map (·.1)) (s : Same (upd H d (.dT (putK (mK F) (kK x) (.bl true)))) H6) (ha : H6 a = some (.tup [.ref e, .ref c])) (he : H6 e = some (.tup (vrow x))) (hc : H6 c = some (.tup (vrow r))) :
    H6 q = some (.lst (as.map V.ref)) ∧ MQ (upd H6 q (.lst (as.map V.ref ++ [.ref a]))) d q (F ++ [(x, r)]) (as ++ [a]) := by
  have ndq : d ≠ q := ne_of b.hd b.hq (by intro z; cases z)
  have hq6 : H6 q = some (.lst (as.map V.ref)) := s _ _ (by rw [upd_ne ndq.symm]; exact b.hq)
  have keep : ∀ c ys, H6 c = some (.tup ys) → (upd H6 q (.lst (as.map V.ref ++ [.ref a]))) c = some (.tup ys) := fun c ys h => by
    rw [upd_ne (ne_of h hq6 (by intro z; cases z))]; exact h
  have old : ∀ c ys, H c = some (.tup ys) → H6 c = some (.tup ys) := fun c ys h => s _ _ (by rw [upd_ne (ne_of h b.hd (by intro z; cases z))]; exact h)
  have ll := b.ln
  refine ⟨hq6, ?_, by rw [upd_same, List.map_append]; rfl, by rw [List.length_append, List.length_append, ll]; rfl, fun i g y t h h' => ?_⟩
  · rw [upd_ne ndq, s _ _ upd_same, putK_new _ (mK_none.mpr hx), mK, mK, List.map_append]; rfl
  · by_cases hi : i < F.length
    · rw [List.getElem?_append_left (by omega)] at h
      rw [List.getElem?_append_left hi] at h'
      obtain ⟨u, v, h1, h2, h3⟩ := b.it i g y t h h'
      exact ⟨u, v, keep _ _ (old _ _ h1), keep _ _ (old _ _ h2), keep _ _ (old _ _ h3)⟩
    · have hi2 : i = F.length := by
        have := (List.getElem?_eq_some_iff.mp h').1
        simp only [List.length_append, List.length_cons, List.length_nil] at this
        omega
      subst hi2
      rw [← ll, List.getElem?_append_right (Nat.le_refl _), Nat.sub_self] at h
      rw [List.getElem?_append_right (Nat.le_refl _), Nat.sub_self] at h'
      have e2 : (x, r) = (y, t) := Option.some.inj h'
      injection e2 with e2 e3
      subst e2
      subst e3
      rw [← Option.some.inj h]
      exact ⟨e, c, keep _ _ ha, keep _ _ he, keep _ _ hc⟩
/-- the law's maps with their rows -/
def MapsAt (H : Hp) (q : Addr) (F : List KR) : Prop := ∃ as : List Addr, H q = some (.lst (as.map V.ref)) ∧ as.length = F.length ∧
  ∀ (i : Nat) a x r, as[i]? = some a → F[i]? = some (x, r) → ∃ b c, H a = some (.tup [.ref b, .ref c]) ∧ H b = some (.tup (vrow x)) ∧ H c = some (.tup (vrow r))
theorem rgV_id (n : Nat) : rgV 0 (n : Int) = vrow (idL n) := by
  unfold rgV vrow idL gL
  rw [List.map_map]
  have e : ((n : Int) - 0).toNat = n := by omega
  rw [e]
  refine List.map_congr_left fun i _ => ?_
  show V.int (0 + (i : Int)) = V.int (i : Int)
  rw [Int.zero_add]
def spMaps : Sp := fun vs H Q _ => ∃ p ts, vs = [.ref p] ∧ TabL H p (vts ts) ∧ Wf ts ∧ FewM ts ∧
  ∀ q F H', Same H H' → H q = none → MapsAt H' q F → Fst (actL ts) ts.length (idL (nS ts)) F → F.length ≤ 1000 → Q (.ref q) H'
section
variable {P : Program} {w : World} {K : PySem.W.Frag} {mg : Str → Option Value} {base : Heap}
abbrev nMp : List Str := ["_law_tables_here", "_law_start", "_law_found", "_law_met", "_law_at", "_law_one", "_law_row", "_law_deed", "_law_after", "_law_state"]
theorem scMp : FnScope nMp ["_law_tables_here"] (defScope sMaps) := ⟨rfl, rfl, rfl, by decide +kernel, rfl, by decide +kernel, by decide +kernel⟩
theorem ok_maps {f : Addr} {fd : FuncData} (D : Df K mg "_law_maps" sMaps ["_law_tables_here"] f fd) (B : Bt mg) : FnOk P w K mg base CX0 1 f fd ["_law_tables_here"] spMaps := by
  refine D.F.ok scMp (fun vs H Q E h => ?_) (fun cdv A outer s H vs Q E hr h => ?_)
  · obtain ⟨p, ts, rfl, _⟩ := h
    rfl
  · obtain ⟨p, ts, rfl, hT, hW, few, q⟩ := h
    have hu := hu_of hr
    refine ⟨_, pss_cons (ps_set (i := 1) scMp.nd rfl (.inl rfl) (pe_tupRg rfl (by rfl) B.tuple (prg_1 (by rfl) B.range (pe_callB call_len_seq (by rfl) B.len PySem.boot_len (pa_cons (pe_ix ix_list (pv 0) pe_int (fun _ _ => rfl)) pa_nil)))))
      (pss_cons (ps_par (i := 2) (j := 3) rfl scMp.nd rfl rfl (by decide) rfl rfl (pa_cons (pe_lst (pa_cons (pe_tup (pa_cons (pv 1) (pa_cons (pe_tup pa_nil) pa_nil))) pa_nil)) (pa_cons (pe_dispT (Nat.lt_of_succ_lt hu) (pv 1) pe_bl) pa_nil)) (by rfl))
      (pss_cons (ps_for PassesOwn.never rfl (pi_range1 (by rfl) B.range (pa_cons pe_int pa_nil)) (pg_name (i := 4) scMp.nd rfl (.inl rfl))
        (pss_cons (ps_if (pt_cmpR op_eq (pv 4) (pe_callB call_len_seq (by rfl) B.len PySem.boot_len (pa_cons (pv 2) pa_nil)) (nomark _)) (pss_one ps_break) pss_nil)
        (pss_cons (ps_asg (pe_ix ix_list (pv 2) (pv 4) (fun _ _ => rfl)) (pg_tup rfl (pgs_cons (pg_name (i := 5) scMp.nd rfl (.inl rfl)) (pgs_cons (pg_name (i := 6) scMp.nd rfl (.inl rfl)) pgs_nil))))
        (pss_one (ps_for PassesOwn.never rfl (pi_range1 (by rfl) B.range (pa_cons (pe_callB call_len_seq (by rfl) B.len PySem.boot_len (pa_cons (pv 0) pa_nil)) pa_nil)) (pg_name (i := 7) scMp.nd rfl (.inr rfl))
          (pss_cons (ps_set (i := 8) scMp.nd rfl (.inl rfl) (pe_callTy call_tuple_of (by rfl) B.tuple PyProof.Rows.boot_tuple (pa_cons
              (pe_lc (own := [("_law_state", 9)]) (g := gName 9) (tt := tYes) rfl scMp.nd (pi_tup (pv 5)) (blkOk_by (N := nMp) (sc := defScope sMaps) (by decide +kernel)) (fun _ _ _ _ _ => pg_name (i := 9) scMp.nd rfl (Or.inl rfl)) (fun _ _ _ _ _ => pts_nil)
                (fun _ _ _ _ _ => pe_ix (ixTK (K := K) rfl) (pe_ix (ixLK (K := K) rfl) (pv 0) (pv 7) (fun _ _ => rfl)) (pv 9) (fun _ _ => rfl))) pa_nil)))
          (pss_one (ps_if (pt_cmp (pc_dnotin hu (pv 8) (pv 3))) (pss_cons (ps_dput hu (pv 3) (pv 8) pe_bl rfl)
            (pss_one (ps_expr (pe_bm PySem.F.plainAttrs_list PySem.F.slot_list_append PySem.F.type_list_append mt_append (pv 2) (pa_cons (pe_tup (pa_cons (pv 8) (pa_cons (pe_op op_catA (pv 6) (pe_tup (pa_cons (pv 7) pa_nil))) pa_nil))) pa_nil))))) pss_nil))))))))
      (pss_one (ps_ret (pv 2))))), ?_⟩
    obtain ⟨tas, ht1, ht2, ht3⟩ := hT
    have ltas : tas.length = ts.length := by rw [ht2, vts, List.length_map]
    have hl1 := hW.t1
    obtain ⟨t0, e0⟩ : ∃ t, ts[0]? = some t := ⟨ts[0]'(by omega), List.getElem?_eq_getElem (by omega)⟩
    obtain ⟨a0, g0⟩ : ∃ a, tas[0]? = some a := ⟨tas[0]'(by omega), List.getElem?_eq_getElem (by omega)⟩
    have hT0 := ht3 0 a0 (vrow t0) g0 (by rw [vts, List.getElem?_map, e0]; rfl)
    have lt0 : t0.length = nS ts := by unfold nS; rw [e0]; rfl
    have n12 := hW.s12
    refine ⟨_, rfl, p, _, 0, _, rfl, rfl, SqL.of ht1, atI_nat (j := 0) (by rw [List.getElem?_map, g0]; rfl), a0, _, rfl, .inr (SqT.of hT0), ?_⟩
    have lt0' : ((vrow t0).length : Int) = (nS ts : Int) := by rw [vrow, List.length_map, lt0]
    refine ⟨_, rfl, ?_⟩
    rw [lt0']
    refine ⟨.of_le (Int.le_refl _) (by omega) (by decide) (by omega), fun p0 hp0 => ?_⟩
    rw [rgV_id]
    generalize hss : idL (nS ts) = ss at *
    have s1 := same_new (o := HO.tup (vrow ss)) hp0
    have hp1 : (upd H p0 (.tup (vrow ss))) p0 = some (.tup (vrow ss)) := upd_same
    generalize upd H p0 (.tup (vrow ss)) = H1 at s1 hp1 ⊢
    refine ⟨_, rfl, (by show 0 ≤ sizeLine; decide), fun e0 he0 => ⟨(by show 2 ≤ sizeLine; decide), fun r0 hr0 => ⟨(by show 1 ≤ sizeLine; decide), fun q0 hq0 => fun d hd => ⟨_, rfl, p0, kK ss, rfl, ?_, upd_same, _, _, rfl, ?_⟩⟩⟩⟩
    · rw [kK_v]
      exact ((((same_new he0).trans (same_new hr0)).trans (same_new hq0)).trans (same_new hd)) _ _ hp1
    have b0 : MQ (upd (upd (upd (upd (upd H1 e0 (.tup [])) r0 (.tup [.ref p0, .ref e0])) q0 (.lst [.ref r0])) d (.dT [])) d (.dT [(kK ss, .bl true)])) d q0 [(ss, [])] [r0] := by
      have k1 := same_new (o := HO.tup []) he0
      have k2 := same_new (o := HO.tup [.ref p0, .ref e0]) hr0
      have k3 := same_new (o := HO.lst [.ref r0]) hq0
      have k4 := same_new (o := HO.dT []) hd
      have k34 : ∀ c o, upd (upd (upd H1 e0 (.tup [])) r0 (.tup [.ref p0, .ref e0])) q0 (.lst [.ref r0]) c = some o → (upd (upd (upd (upd (upd H1 e0 (.tup [])) r0 (.tup [.ref p0, .ref e0])) q0 (.lst [.ref r0])) d (.dT [])) d (.dT [(kK ss, .bl true)])) c = some o := fun c o e => by
        rw [upd_ne (ne_of_none e hd)]; exact k4 _ _ e
      refine ⟨upd_same, k34 _ _ upd_same, rfl, fun i a x r h1 h2 => ?_⟩
      cases i with
      | zero =>
        obtain rfl : r0 = a := Option.some.inj h1
        have z' : (ss, []) = (x, r) := Option.some.inj h2
        injection z' with z1 z2
        subst z1
        subst z2
        exact ⟨p0, e0, k34 _ _ (k3 _ _ upd_same), k34 _ _ (k3 _ _ (k2 _ _ (k1 _ _ hp1))), k34 _ _ (k3 _ _ (k2 _ _ upd_same))⟩
      | succ i => cases h1
    have s2 : Same H (upd (upd (upd (upd (upd H1 e0 (.tup [])) r0 (.tup [.ref p0, .ref e0])) q0 (.lst [.ref r0])) d (.dT [])) d (.dT [(kK ss, .bl true)])) := fun c o e => by
      have e1 := ((((s1.trans (same_new (o := HO.tup []) he0)).trans (same_new (o := HO.tup [.ref p0, .ref e0]) hr0)).trans (same_new (o := HO.lst [.ref r0]) hq0))) c o e
      rw [upd_ne (ne_of_none e1 hd)]
      exact same_new hd _ _ e1
    have nd0 : H d = none := (((s1.trans (same_new (o := HO.tup []) he0)).trans (same_new (o := HO.tup [.ref p0, .ref e0]) hr0)).trans (same_new (o := HO.lst [.ref r0]) hq0)).free hd
    have nq0 : H q0 = none := (((s1.trans (same_new (o := HO.tup []) he0)).trans (same_new (o := HO.tup [.ref p0, .ref e0]) hr0))).free hq0
    generalize upd (upd (upd (upd (upd H1 e0 (.tup [])) r0 (.tup [.ref p0, .ref e0])) q0 (.lst [.ref r0])) d (.dT [])) d (.dT [(kK ss, .bl true)]) = H2 at b0 s2 ⊢
    have hs : ∀ s ∈ ss, 0 ≤ s ∧ s < (nS ts : Int) := by rw [← hss]; exact idL_rng
    have few' : FewK ts ss := by have z := few; unfold FewM at z; rw [hss] at z; exact z
    have lss : ss.length ≤ 12 := by rw [← hss, idL, gL_len]; exact n12
    have fin : ∀ (H' : Hp) (F : List KR) (as : List Addr) (i : Nat), Same H H' → MQ H' d q0 F as → Bf (actL ts) ts.length ss F i 0 → F.length ≤ i → Q (.ref q0) H' := fun H' F as i sm b bf hi =>
      q q0 F H' sm nq0 ⟨as, b.hq, b.ln, b.it⟩ (bf.done hi) (bf.few few')
    refine ⟨3200, rfl, by decide, by decide, for_range (fun i σ H' => ∃ (F : List KR) (as : List Addr) (v4 v5 v6 v7 v8 : Option V), σ = [some (.ref p), some (.ref p0), some (.ref q0), some (.ref d), v4, v5, v6, v7, v8, none] ∧ Same H H' ∧ MQ H' d q0 F as ∧ Bf (actL ts) ts.length ss F i 0 ∧ i ≤ F.length)
      ⟨_, _, none, none, none, none, none, rfl, s2, b0, Bf.init, Nat.zero_le _⟩ ?_ ?_⟩
    · rintro i σ H' hi ⟨F, as, v4, v5, v6, v7, v8, rfl, sm, b, bf, hiF⟩
      have hsmall : F.length ≤ 1000 := bf.few few'
      refine ⟨_, rfl, _, rfl, q0, _, rfl, .inl (SqL.of b.hq), rfl, _, rfl, ifD (fun ec => ?_) fun ec => ?_⟩
      · have ei : F.length ≤ i := by
          have z := of_decide_eq_true ec
          injection z with z
          rw [List.length_map, b.ln] at z
          omega
        exact ⟨_, rfl, fin H' F as i sm b bf ei⟩
      · have hlt : i < F.length := by
          have z : ¬ ((V.int (0 + (i : Int))) = V.int ((as.map V.ref).length : Int)) := of_decide_eq_false ec
          rw [List.length_map, b.ln] at z
          have : i ≠ F.length := fun y => z (by rw [y, Int.zero_add])
          omega
        obtain ⟨x, rx, hx⟩ : ∃ x rx, F[i]? = some (x, rx) := ⟨F[i].1, F[i].2, List.getElem?_eq_getElem hlt⟩
        obtain ⟨a, ha⟩ : ∃ a, as[i]? = some a := by
          have : i < as.length := by rw [b.ln]; exact hlt
          exact ⟨as[i], List.getElem?_eq_getElem this⟩
        obtain ⟨xa, ra, hta, hxa, hra⟩ := b.it i a x rx ha hx
        obtain ⟨px, pv, pl⟩ := bf.pth i x rx hx
        have hxr : ∀ s ∈ x, 0 ≤ s ∧ s < (nS ts : Int) := by rw [px]; exact path_rng hW pv hs
        have hxl : x.length ≤ 12 := by rw [px, path_run, List.length_map]; exact lss
        have lrx : rx.length ≤ 1000 := by omega
        refine ⟨_, rfl, _, rfl, q0, _, 0 + (i : Int), .ref a, rfl, rfl, SqL.of b.hq, at_of (j := i) (by omega) (by rw [List.getElem?_map, ha]; rfl), a, _, rfl, SqT.of hta, rfl, _, _, rfl, _, _, rfl, rfl, ?_⟩
        have hp' := sm _ _ ht1
        have el : (((tas.map V.ref).length : Nat) : Int) = (ts.length : Int) := by rw [List.length_map, ltas]
        have hl8 := hW.t8
        refine ⟨_, rfl, p, _, rfl, .inl (SqL.of hp'), ((tas.map V.ref).length : Int), rfl, by omega, by omega, for_range
          (fun j σ H' => ∃ (F : List KR) (as : List Addr) (v7 v8 : Option V), σ = [some (.ref p), some (.ref p0), some (.ref q0), some (.ref d), some (.int (0 + (i : Int))), some (.ref xa), some (.ref ra), v7, v8, none] ∧ Same H H' ∧ MQ H' d q0 F as ∧ Bf (actL ts) ts.length ss F i j ∧ F[i]? = some (x, rx) ∧ H' xa = some (.tup (vrow x)) ∧ H' ra = some (.tup (vrow rx)))
          ⟨F, as, _, _, rfl, sm, b, bf, hx, hxa, hra⟩ ?_ ?_⟩
        · rintro j σ H' hj ⟨F, as, v7, v8, rfl, sm, b, bf, hx, hxa, hra⟩
          have hjt : j < ts.length := by omega
          obtain ⟨tj, htj⟩ : ∃ t, tas[j]? = some t := ⟨tas[j]'(by omega), List.getElem?_eq_getElem (by omega)⟩
          have hdj : 0 ≤ (j : Int) ∧ (j : Int) < (ts.length : Int) := by omega
          obtain ⟨t, h1'⟩ : ∃ t, ts[j]? = some t := ⟨ts[j], List.getElem?_eq_getElem hjt⟩
          have hT := ht3 j tj (vrow t) htj (by rw [vts, List.getElem?_map, h1']; rfl)
          generalize hyy : actL ts x (j : Int) = yy
          have lyy : yy.length = x.length := by rw [← hyy, actL, List.length_map]
          refine ⟨_, rfl, xa, rfl, ⟨_, SqT.of hxa⟩, fun D0 hD0 => lc_tup (K := K) (a := xa) (xs := vrow x) (fun k H3 => Same H' H3 ∧ H3 D0 = some (.lst ((vrow yy).take k))) ⟨same_new hD0, by rw [upd_same]; rfl⟩ (fun k H3 _ ⟨s3, _⟩ => SqT.of (s3 _ _ hxa)) ?_ ?_⟩
          · rintro k z H3 hz ⟨s3, hD3⟩
            obtain ⟨xk, hxk, rfl⟩ := vrow_at hz
            have hk : k < x.length := (List.getElem?_eq_some_iff.mp hxk).1
            have hxkr := hxr xk (List.mem_of_getElem? hxk)
            obtain ⟨t', g1, g2, _⟩ := hW.at_ hdj hxkr
            have g1' : ts[j]? = some t' := by simpa using g1
            obtain rfl : t = t' := Option.some.inj (h1'.symm.trans g1')
            refine ⟨rfl, _, rfl, _, rfl, p, _, 0 + (j : Int), .ref tj, rfl, rfl, SqL.of (s3 _ _ (sm _ _ ht1)), at_of (j := j) (by omega) (by rw [List.getElem?_map, htj]; rfl), _, rfl, tj, _, xk, .int (stp ts xk j), rfl, rfl, SqT.of (s3 _ _ (sm _ _ hT)), at_of (j := xk.toNat) (by omega) (by rw [vrow, List.getElem?_map, g2]; rfl), ?_⟩
            refine ⟨_, hD3, by rw [List.length_take, vrow, List.length_map, sizeLine_eq]; omega, ?_, ?_⟩
            · intro c o e
              rw [upd_ne (ne_of_none e hD0)]
              exact s3 _ _ e
            · have ez : (vrow yy)[k]? = some (V.int (stp ts xk j)) := by rw [← hyy, vrow, actL, List.map_map, List.getElem?_map, hxk]; rfl
              rw [upd_same, take_succ ez]
          · rintro H3 ⟨s3, hD3⟩
            have etk : (vrow yy).take (vrow x).length = vrow yy := by rw [List.take_of_length_le]; rw [vrow, vrow, List.length_map, List.length_map, lyy]; exact Nat.le_refl _
            rw [etk] at hD3
            refine ⟨D0, _, rfl, .inl ⟨SqL.of hD3, fun en hen => ?_⟩⟩
            have s4 := s3.trans (same_new (o := HO.tup (vrow yy)) hen)
            have hen4 : (upd H3 en (.tup (vrow yy))) en = some (.tup (vrow yy)) := upd_same
            generalize upd H3 en (.tup (vrow yy)) = H4 at s4 hen4 ⊢
            have b4 := b.same s4
            have sm4 := sm.trans s4
            have hxa4 := s4 _ _ hxa
            have hra4 := s4 _ _ hra
            have hsmall : F.length ≤ 1000 := bf.few few'
            have hil : i < F.length := (List.getElem?_eq_some_iff.mp hx).1
            refine ⟨_, rfl, _, rfl, d, _, rfl, DGet.t (k := kK yy) b4.hd (by rw [kK_v]; exact hen4), _, rfl, ?_⟩
            cases ev : valV (mK F) (kK yy) with
            | some v =>
              refine iteF ?_
              have hin : yy ∈ F.map (·.1) := by
                by_cases z : yy ∈ F.map (·.1)
                · exact z
                · rw [mK_none.mpr z] at ev; cases ev
              obtain ⟨e, he, e1⟩ := List.mem_map.mp hin
              obtain ⟨j2, hj2⟩ := List.getElem?_of_mem he
              exact ⟨F, as, _, _, rfl, sm4, b4, bf.more (j := j2) (k := e.1) (r := e.2) hx hj2 (by rw [hyy]; exact e1), hx, hxa4, hra4⟩
            | none =>
              refine iteT ?_
              have hnin := mK_none.mp ev
              have bfn : Bf (actL ts) ts.length ss (F ++ [(yy, rx ++ [(j : Int)])]) i (j + 1) := by
                rw [← hyy]
                exact bf.put hx (by rw [hyy]; exact hnin) hjt
              have hx' : (F ++ [(yy, rx ++ [(j : Int)])])[i]? = some (x, rx) := by rw [List.getElem?_append_left hil]; exact hx
              refine ⟨_, rfl, _, rfl, d, _, rfl, DPut.t b4.hd (by rw [kK_v]; exact hen4) (by rw [mK, List.length_map, sizeLine_eq]; omega), ?_⟩
              have hq4 := b4.hq
              have ndq : q0 ≠ d := ne_of hq4 b4.hd (by intro z; cases z)
              have kp : ∀ c ys, H4 c = some (.tup ys) → (upd H4 d (.dT (putK (mK F) (kK yy) (.bl true)))) c = some (.tup ys) := fun c ys e => by
                rw [upd_ne (ne_of e b4.hd (by intro z; cases z))]; exact e
              have k5 : Same H (upd H4 d (.dT (putK (mK F) (kK yy) (.bl true)))) := fun c o e => by
                rw [upd_ne (ne_of_none e nd0)]; exact sm4 _ _ e
              have hen5 := kp _ _ hen4
              have hxa5 := kp _ _ hxa4
              have hra5 := kp _ _ hra4
              have hq5 : (upd H4 d (.dT (putK (mK F) (kK yy) (.bl true)))) q0 = some (.lst (as.map V.ref)) := by rw [upd_ne ndq]; exact hq4
              have put := fun (H6 : Hp) (a e c : Addr) (s6 : Same (upd H4 d (.dT (putK (mK F) (kK yy) (.bl true)))) H6) (g1 : H6 a = some (.tup [.ref e, .ref c])) (g2 : H6 e = some (.tup (vrow yy))) (g3 : H6 c = some (.tup (vrow (rx ++ [(j : Int)])))) => b4.put (H6 := H6) hnin s6 g1 g2 g3
              generalize upd H4 d (.dT (putK (mK F) (kK yy) (.bl true))) = H5 at kp k5 hen5 hxa5 hra5 hq5 put ⊢
              refine ⟨_, rfl, .inl ⟨rfl, _, SqL.of hq5⟩, _, rfl, _, rfl, _, rfl, (by show 1 ≤ sizeLine; decide), fun dt hdt => ?_⟩
              have s5 := same_new (o := HO.tup [V.int (0 + (j : Int))]) hdt
              have hdt5 : (upd H5 dt (.tup [V.int (0 + (j : Int))])) dt = some (.tup [V.int (0 + (j : Int))]) := upd_same
              generalize upd H5 dt (.tup [V.int (0 + (j : Int))]) = H6 at s5 hdt5 ⊢
              -- whichever tuple stands for the row, the rest is the same
              have rest : ∀ (rb : Addr) (H7 : Hp), Same H6 H7 → H7 rb = some (.tup (vrow (rx ++ [(j : Int)]))) → ∀ (t5 : Addr), H7 t5 = none →
                  (upd H7 t5 (.tup [.ref en, .ref rb])) q0 = some (.lst (as.map V.ref)) ∧ (as.map V.ref).length < sizeLine ∧
                  ∃ (F' : List KR) (as' : List Addr) (w7 w8 : Option V), [some (V.ref p), some (.ref p0), some (.ref q0), some (.ref d), some (.int (0 + (i : Int))), some (.ref xa), some (.ref ra), some (.int (0 + (j : Int))), some (.ref en), none] = [some (.ref p), some (.ref p0), some (.ref q0), some (.ref d), some (.int (0 + (i : Int))), some (.ref xa), some (.ref ra), w7, w8, none] ∧
                    Same H (upd (upd H7 t5 (.tup [.ref en, .ref rb])) q0 (.lst (as.map V.ref ++ [.ref t5]))) ∧ MQ (upd (upd H7 t5 (.tup [.ref en, .ref rb])) q0 (.lst (as.map V.ref ++ [.ref t5]))) d q0 F' as' ∧ Bf (actL ts) ts.length ss F' i (j + 1) ∧ F'[i]? = some (x, rx) ∧
                    (upd (upd H7 t5 (.tup [.ref en, .ref rb])) q0 (.lst (as.map V.ref ++ [.ref t5]))) xa = some (.tup (vrow x)) ∧ (upd (upd H7 t5 (.tup [.ref en, .ref rb])) q0 (.lst (as.map V.ref ++ [.ref t5]))) ra = some (.tup (vrow rx)) := fun rb H7 s7 hrb t5 ht5 => by
                have s8 := (s5.trans s7).trans (same_new (o := HO.tup [.ref en, .ref rb]) ht5)
                obtain ⟨g1, g2⟩ := put _ t5 en rb s8 upd_same (s8 _ _ hen5) (same_new ht5 _ _ hrb)
                have kq : ∀ c ys, H5 c = some (.tup ys) → (upd (upd H7 t5 (.tup [.ref en, .ref rb])) q0 (.lst (as.map V.ref ++ [.ref t5]))) c = some (.tup ys) := fun c ys e => by
                  rw [upd_ne (ne_of (s8 _ _ e) g1 (by intro z; cases z))]; exact s8 _ _ e
                refine ⟨g1, by rw [List.length_map, b4.ln, sizeLine_eq]; omega, _, _, _, _, rfl, fun c o e => ?_, g2, bfn, hx', kq _ _ hxa5, kq _ _ hra5⟩
                rw [upd_ne (ne_of_none e nq0)]
                exact s8 _ _ (k5 _ _ e)
              have ej : V.int (0 + (j : Int)) = V.int (j : Int) := by rw [Int.zero_add]
              refine ⟨ra, dt, vrow rx, [.int (0 + (j : Int))], rfl, rfl, SqT.of (s5 _ _ hra5), SqT.of hdt5, ?_, fun e => ?_, fun _ e => absurd e (by simp), fun _ _ pn hpn => ?_⟩
              · show (vrow rx).length + 1 ≤ sizeLine
                rw [sizeLine_eq, vrow, List.length_map]; omega
              · have e0 : rx = [] := by
                  cases rx with
                  | nil => rfl
                  | cons z r => cases e
                subst e0
                refine ⟨(by show 2 ≤ sizeLine; decide), fun t5 ht5 => ?_⟩
                obtain ⟨g1, g2, g3⟩ := rest dt H6 (Same.refl _) (by rw [hdt5, ej]; rfl) t5 ht5
                exact ⟨q0, _, _, rfl, rfl, g1, g2, g3⟩
              · refine ⟨(by show 2 ≤ sizeLine; decide), fun t5 ht5 => ?_⟩
                obtain ⟨g1, g2, g3⟩ := rest pn _ (same_new hpn) (by rw [upd_same, vrow, vrow, List.map_append, ej]; rfl) t5 ht5
                exact ⟨q0, _, _, rfl, rfl, g1, g2, g3⟩
        · rintro σ H' ⟨F, as, v7, v8, rfl, sm, b, bf, hx, hxa, hra⟩
          have hil : i < F.length := (List.getElem?_eq_some_iff.mp hx).1
          have ejj : ((tas.map V.ref).length : Int).toNat = ts.length := by omega
          rw [ejj] at bf
          exact ⟨F, as, _, _, _, _, _, rfl, sm, b, bf.next, by omega⟩
    · rintro σ H' ⟨F, as, v4, v5, v6, v7, v8, rfl, sm, b, bf, hiF⟩
      have := bf.few few'
      have z : ((3200 : Int)).toNat = 3200 := rfl
      omega
end
end K1
namespace K1
open PySem PySem.Spec PyProof.Rows L2
theorem sub_len {α : Type} [DecidableEq α] : ∀ {a b : List α}, a.Nodup → (∀ x ∈ a, x ∈ b) → a.length ≤ b.length
  | [], _, _, _ => Nat.zero_le _
  | x :: a, b, nd, h => by
    obtain ⟨nx, na⟩ := List.nodup_cons.mp nd
    have hx : x ∈ b := h x List.mem_cons_self
    have ih := sub_len (b := b.erase x) na fun y hy => by
      have : y ≠ x := fun e => nx (e ▸ hy)
      exact (List.mem_erase_of_ne this).mpr (h y (List.mem_cons_of_mem _ hy))
    rw [List.length_erase_of_mem hx] at ih
    have : 0 < b.length := List.length_pos_of_mem hx
    simp only [List.length_cons]
    omega
theorem asc_nodup {l : List Int} (h : l.Pairwise (· < ·)) : l.Nodup := h.imp fun {a b} h => by intro e; omega
section
variable {act : List Int → Int → List Int} {n : Nat} {s s2 : List Int} {F G : List KR}
theorem Fst.pw (h : Fst act n s F) : F.Pairwise fun x y => rlt x.2 y.2 := List.pairwise_iff_getElem.mpr fun i j hi hj hij => h.asc i j F[i].1 F[j].1 F[i].2 F[j].2 hij (List.getElem?_eq_getElem hi) (List.getElem?_eq_getElem hj)
theorem Fst.mem (h : Fst act n s F) {e : KR} (he : e ∈ F) : e.1 = path act s e.2 ∧ (∀ x ∈ e.2, 0 ≤ x ∧ x < (n : Int)) ∧ e.2.length < F.length := by
  obtain ⟨j, hj⟩ := List.getElem?_of_mem he
  obtain ⟨h1, h2, h3⟩ := h.pth j e.1 e.2 hj
  have := (List.getElem?_eq_some_iff.mp hj).1
  exact ⟨h1, h2, by omega⟩
theorem Fst.first (h : Fst act n s F) {p : List Int → Bool} {e : KR} {L : List KR} (hf : F.filter (fun e => p e.1) = e :: L) : e ∈ F ∧ p e.1 = true ∧ ∀ r : List Int, (∀ x ∈ r, 0 ≤ x ∧ x < (n : Int)) → p (path act s r) = true → rle e.2 r := by
  have hm : e ∈ F.filter (fun e => p e.1) := by rw [hf]; exact List.mem_cons_self
  obtain ⟨m1, m2⟩ := List.mem_filter.mp hm
  refine ⟨m1, m2, fun r hr hp => ?_⟩
  obtain ⟨j, r', hj, hl⟩ := h.all r hr
  have hm' : (path act s r, r') ∈ F.filter (fun e => p e.1) := List.mem_filter.mpr ⟨List.mem_of_getElem? hj, hp⟩
  rw [hf] at hm'
  rcases List.mem_cons.mp hm' with z | z
  · rw [← z]; exact hl
  · have pw := h.pw.filter (fun e => p e.1)
    rw [hf] at pw
    exact rle.trans (.inr ((List.pairwise_cons.mp pw).1 _ z)) hl
theorem Fst.none (h : Fst act n s F) {p : List Int → Bool} (hf : F.filter (fun e => p e.1) = []) (r : List Int) (hr : ∀ x ∈ r, 0 ≤ x ∧ x < (n : Int)) : p (path act s r) = false := by
  cases e : p (path act s r) with
  | false => rfl
  | true =>
    obtain ⟨j, r', hj, hl⟩ := h.all r hr
    have hm' : (path act s r, r') ∈ F.filter (fun e => p e.1) := List.mem_filter.mpr ⟨List.mem_of_getElem? hj, e⟩
    rw [hf] at hm'
    cases hm'
/-- two searches of one machine: the first rows that lead to what is looked for are the same -/
theorem fst_two (h1 : Fst act n s F) (h2 : Fst act n s2 G) {p q : List Int → Bool} (hpq : ∀ r : List Int, (∀ x ∈ r, 0 ≤ x ∧ x < (n : Int)) → p (path act s r) = q (path act s2 r)) {g : KR} {M : List KR} (hg : G.filter (fun e => q e.1) = g :: M) :
    ∃ e L, F.filter (fun e => p e.1) = e :: L ∧ e.2 = g.2 := by
  obtain ⟨g1, g2, g3⟩ := h2.first hg
  obtain ⟨k1, k2, _⟩ := h2.mem g1
  have pg : p (path act s g.2) = true := by rw [hpq _ k2, ← k1]; exact g2
  match hf : F.filter (fun e => p e.1) with
  | [] =>
    rw [h1.none hf _ k2] at pg
    cases pg
  | e :: L =>
    obtain ⟨e1, e2, e3⟩ := h1.first hf
    obtain ⟨l1, l2, _⟩ := h1.mem e1
    exact ⟨e, L, hf, rle.anti (e3 _ k2 pg) (g3 _ l2 (by rw [← hpq _ l2, ← l1]; exact e2))⟩
end
/-! ### where rows lead all states, and two of them -/
section
variable {ts : Ts} {F G : List KR} {a h t : Int}
theorem idL_to {n : Nat} {r : List Int} {i : Int} (h0 : 0 ≤ i) (h1 : i < (n : Int)) : (path (actL ts) (idL n) r).getD i.toNat 0 = run ts i r := by
  rw [path_run, List.getD_eq_getElem?_getD, List.getElem?_map, idL, gL_at (by omega)]
  show run ts ((i.toNat : Nat) : Int) r = _
  rw [show ((i.toNat : Nat) : Int) = i by omega]
theorem pair_0 {r : List Int} : (path (actL ts) [a, h] r).getD 0 0 = run ts a r := by rw [path_run]; rfl
theorem pair_1 {r : List Int} : (path (actL ts) [a, h] r).getD 1 0 = run ts h r := by rw [path_run]; rfl
/-- the maps that lead the archive to t -/
def EM (F : List KR) (a : Nat) (t : Int) : List KR := F.filter fun e => decide (e.1.getD a 0 = t)
def thr (L : List KR) (h : Nat) : List Int := L.map fun e => e.1.getD h 0
theorem ends_mem (hM : Fst (actL ts) ts.length (idL (nS ts)) F) (hG : Fst (actL ts) ts.length [a, h] G) (ha : 0 ≤ a ∧ a < (nS ts : Int)) (hh : 0 ≤ h ∧ h < (nS ts : Int)) (x : Int) : x ∈ thr (EM F a.toNat t) h.toNat ↔ x ∈ endsOf G t := by
  unfold thr EM endsOf onT
  constructor
  · intro hx
    obtain ⟨e, he, rfl⟩ := List.mem_map.mp hx
    obtain ⟨h1, h2⟩ := List.mem_filter.mp he
    obtain ⟨k1, k2, _⟩ := hM.mem h1
    have h2 := of_decide_eq_true h2
    obtain ⟨j, r', hj, _⟩ := hG.all e.2 k2
    refine List.mem_map.mpr ⟨_, List.mem_filter.mpr ⟨List.mem_of_getElem? hj, decide_eq_true ?_⟩, ?_⟩
    · show (path (actL ts) [a, h] e.2).getD 0 0 = t
      rw [pair_0, ← h2, k1, idL_to ha.1 ha.2]
    · show (path (actL ts) [a, h] e.2).getD 1 0 = _
      rw [pair_1, k1, idL_to hh.1 hh.2]
  · intro hx
    obtain ⟨e, he, rfl⟩ := List.mem_map.mp hx
    obtain ⟨h1, h2⟩ := List.mem_filter.mp he
    obtain ⟨k1, k2, _⟩ := hG.mem h1
    have h2 := of_decide_eq_true h2
    obtain ⟨j, r', hj, _⟩ := hM.all e.2 k2
    refine List.mem_map.mpr ⟨_, List.mem_filter.mpr ⟨List.mem_of_getElem? hj, decide_eq_true ?_⟩, ?_⟩
    · show (path (actL ts) (idL (nS ts)) e.2).getD a.toNat 0 = t
      rw [idL_to ha.1 ha.2, ← h2, k1, pair_0]
    · show (path (actL ts) (idL (nS ts)) e.2).getD h.toNat 0 = _
      rw [idL_to hh.1 hh.2, k1, pair_1]
theorem onT_form (hG : Fst (actL ts) ts.length [a, h] G) {e : KR} (he : e ∈ onT G t) : e.1 = [t, e.1.getD 1 0] := by
  obtain ⟨h1, h2⟩ := List.mem_filter.mp he
  obtain ⟨k1, k2, _⟩ := hG.mem h1
  have h2 := of_decide_eq_true h2
  rw [path_run] at k1
  rw [k1] at h2 ⊢
  have h2 : run ts a e.2 = t := h2
  show [run ts a e.2, run ts h e.2] = [t, run ts h e.2]
  rw [h2]
theorem ends_nodup (hG : Fst (actL ts) ts.length [a, h] G) : (endsOf G t).Nodup := by
  refine List.pairwise_map.mpr (List.Pairwise.imp_of_mem (fun {e e'} he he' ne z => ?_) ((nodup_of hG.nd).filter _))
  exact ne ((onT_form hG he).trans ((congrArg (fun x => [t, x]) z).trans (onT_form hG he').symm))
theorem lots_len (hM : Fst (actL ts) ts.length (idL (nS ts)) F) (hG : Fst (actL ts) ts.length [a, h] G) (ha : 0 ≤ a ∧ a < (nS ts : Int)) (hh : 0 ≤ h ∧ h < (nS ts : Int)) {lots : List Int} (hp : lots.Pairwise (· < ·)) (hm : ∀ x, x ∈ lots ↔ x ∈ thr (EM F a.toNat t) h.toNat) :
    lots.length = (endsOf G t).length ∧ ∀ x, x ∈ lots ↔ x ∈ endsOf G t := by
  have k : ∀ x, x ∈ lots ↔ x ∈ endsOf G t := fun x => (hm x).trans (ends_mem hM hG ha hh x)
  exact ⟨Nat.le_antisymm (sub_len (asc_nodup hp) fun x hx => (k x).mp hx) (sub_len (ends_nodup hG) fun x hx => (k x).mpr hx), k⟩
theorem two_link (hM : Fst (actL ts) ts.length (idL (nS ts)) F) (hG : Fst (actL ts) ts.length [a, h] G) (ha : 0 ≤ a ∧ a < (nS ts : Int)) (hh : 0 ≤ h ∧ h < (nS ts : Int)) (h2 : 2 ≤ (endsOf G t).length) :
    ∃ e1 L1 e2 L2 rs, EM F a.toNat t = e1 :: L1 ∧ (EM F a.toNat t).filter (fun e => decide (e.1.getD h.toNat 0 ≠ e1.1.getD h.toNat 0)) = e2 :: L2 ∧ rowsOf G t = e1.2 :: e2.2 :: rs := by
  unfold endsOf at h2
  rw [List.length_map] at h2
  match hg : onT G t, h2 with
  | g1 :: g2 :: M, _ =>
    have q1 : ∀ r : List Int, (∀ x ∈ r, 0 ≤ x ∧ x < (ts.length : Int)) → decide ((path (actL ts) (idL (nS ts)) r).getD a.toNat 0 = t) = decide ((path (actL ts) [a, h] r).getD 0 0 = t) := fun r _ => by
      rw [idL_to ha.1 ha.2, pair_0]
    obtain ⟨e1, L1, hL, he⟩ := fst_two (p := fun x => decide (x.getD a.toNat 0 = t)) (q := fun x => decide (x.getD 0 0 = t)) hM hG q1 hg
    have m1 : e1 ∈ F := (List.mem_filter.mp (show e1 ∈ F.filter _ by rw [hL]; exact List.mem_cons_self)).1
    have mg1 : g1 ∈ onT G t := by rw [hg]; exact List.mem_cons_self
    have mg2 : g2 ∈ onT G t := by rw [hg]; exact List.mem_cons_of_mem _ List.mem_cons_self
    have w1 : e1.1.getD h.toNat 0 = g1.1.getD 1 0 := by
      rw [(hM.mem m1).1, idL_to hh.1 hh.2, (hG.mem (List.mem_filter.mp mg1).1).1, pair_1, he]
    have nd := ends_nodup (t := t) hG
    unfold endsOf at nd
    rw [hg] at nd
    have n12 : g2.1.getD 1 0 ≠ g1.1.getD 1 0 := fun z => (List.nodup_cons.mp nd).1 (by show g1.1.getD 1 0 ∈ _; rw [← z]; exact List.mem_cons_self)
    have q2 : ∀ r : List Int, (∀ x ∈ r, 0 ≤ x ∧ x < (ts.length : Int)) → (decide ((path (actL ts) (idL (nS ts)) r).getD h.toNat 0 ≠ e1.1.getD h.toNat 0) && decide ((path (actL ts) (idL (nS ts)) r).getD a.toNat 0 = t)) = (decide ((path (actL ts) [a, h] r).getD 1 0 ≠ e1.1.getD h.toNat 0) && decide ((path (actL ts) [a, h] r).getD 0 0 = t)) := fun r _ => by
      rw [idL_to ha.1 ha.2, pair_0, idL_to hh.1 hh.2, pair_1]
    have hg2 : ∃ M', G.filter (fun e => decide (e.1.getD 1 0 ≠ e1.1.getD h.toNat 0) && decide (e.1.getD 0 0 = t)) = g2 :: M' := by
      have ff : G.filter (fun e => decide (e.1.getD 1 0 ≠ e1.1.getD h.toNat 0) && decide (e.1.getD 0 0 = t)) = (onT G t).filter fun e => decide (e.1.getD 1 0 ≠ e1.1.getD h.toNat 0) := by
        unfold onT
        rw [List.filter_filter]
      rw [ff, hg, List.filter_cons, if_neg (by rw [w1]; simp), List.filter_cons, if_pos (decide_eq_true (by rw [w1]; exact n12))]
      exact ⟨_, rfl⟩
    obtain ⟨M', hg2⟩ := hg2
    obtain ⟨e2, L2, hL2, he2⟩ := fst_two (p := fun x => decide (x.getD h.toNat 0 ≠ e1.1.getD h.toNat 0) && decide (x.getD a.toNat 0 = t)) (q := fun x => decide (x.getD 1 0 ≠ e1.1.getD h.toNat 0) && decide (x.getD 0 0 = t)) hM hG q2 hg2
    refine ⟨e1, L1, e2, L2, M.map (·.2), hL, ?_, ?_⟩
    · unfold EM
      rw [List.filter_filter]
      exact hL2
    · unfold rowsOf
      rw [hg, he, he2]; rfl
/-- rows of the pairs are short -/
theorem pair_short (w : Wf ts) (ha : 0 ≤ a ∧ a < (nS ts : Int)) (hh : 0 ≤ h ∧ h < (nS ts : Int)) (hG : Fst (actL ts) ts.length [a, h] G) : G.length ≤ 144 := by
  have form : ∀ e ∈ G, ∃ x y : Int, e.1 = [x, y] ∧ 0 ≤ x ∧ x < 12 ∧ 0 ≤ y ∧ y < 12 := fun e he => by
    obtain ⟨e1, hr, _⟩ := hG.mem he
    have h1 := w.run e.2 a hr ha
    have h2 := w.run e.2 h hr hh
    have := w.s12
    rw [path_run] at e1
    exact ⟨run ts a e.2, run ts h e.2, e1, by omega, by omega, by omega, by omega⟩
  have nd2 : (G.map fun e => e.1.getD 0 0 * 12 + e.1.getD 1 0).Nodup := by
    refine List.pairwise_map.mpr (List.Pairwise.imp_of_mem (fun {e e'} he he' ne z => ?_) (nodup_of hG.nd))
    obtain ⟨x, y, e1, _⟩ := form e he
    obtain ⟨x', y', e2, _⟩ := form e' he'
    rw [e1, e2] at z
    have z' : x * 12 + y = x' * 12 + y' := z
    obtain ⟨rfl, rfl⟩ : x = x' ∧ y = y' := by omega
    exact ne (e1.trans e2.symm)
  have := nodup_le 144 _ nd2 fun z hz => by
    obtain ⟨e, he, rfl⟩ := List.mem_map.mp hz
    obtain ⟨x, y, e1, _⟩ := form e he
    rw [e1]
    show 0 ≤ x * 12 + y ∧ x * 12 + y < ((144 : Nat) : Int)
    omega
  rw [List.length_map] at this
  omega
end
end K1
namespace K1
open PySem PySem.Spec PyProof.Rows L2
/-! ### the orbit, by the search of one state -/
def Rch (ts : Ts) (s x : Int) : Prop := ∃ r : List Int, (∀ d ∈ r, 0 ≤ d ∧ d < (ts.length : Int)) ∧ run ts s r = x
theorem Rch.rng {ts : Ts} (w : Wf ts) {s x : Int} (h : Rch ts s x) (hs : 0 ≤ s ∧ s < (nS ts : Int)) : 0 ≤ x ∧ x < (nS ts : Int) := by
  obtain ⟨r, hr, rfl⟩ := h
  exact w.run r s hr hs
theorem Rch.trans {ts : Ts} {s x y : Int} (a : Rch ts s x) (b : Rch ts x y) : Rch ts s y := by
  obtain ⟨r, hr, rfl⟩ := a
  obtain ⟨q, hq, rfl⟩ := b
  exact ⟨r ++ q, fun d hd => (List.mem_append.mp hd).elim (hr d) (hq d), by unfold run; rw [List.foldl_append]⟩
theorem one_0 {ts : Ts} {s : Int} {r : List Int} : (path (actL ts) [s] r) = [run ts s r] := by rw [path_run]; rfl
theorem one_few {ts : Ts} (w : Wf ts) {s : Int} (hs : 0 ≤ s ∧ s < (nS ts : Int)) : FewK ts [s] := fun F nd hF => by
  have form : ∀ e ∈ F, ∃ x : Int, e.1 = [x] ∧ 0 ≤ x ∧ x < 12 := fun e he => by
    obtain ⟨r, hr, e1⟩ := hF e he
    have h1 := w.run r s hr hs
    have := w.s12
    rw [one_0] at e1
    exact ⟨run ts s r, e1, by omega, by omega⟩
  have nd2 : (F.map fun e => e.1.getD 0 0).Nodup := by
    refine List.pairwise_map.mpr (List.Pairwise.imp_of_mem (fun {e e'} he he' ne z => ?_) (nodup_of nd))
    obtain ⟨x, e1, _⟩ := form e he
    obtain ⟨x', e2, _⟩ := form e' he'
    rw [e1, e2] at z
    have z' : x = x' := z
    subst z'
    exact ne (e1.trans e2.symm)
  have := nodup_le 12 _ nd2 fun z hz => by
    obtain ⟨e, he, rfl⟩ := List.mem_map.mp hz
    obtain ⟨x, e1, _⟩ := form e he
    rw [e1]
    show 0 ≤ x ∧ x < ((12 : Nat) : Int)
    omega
  rw [List.length_map] at this
  omega
def heads (F : List KR) : List Int := F.map fun e => e.1.getD 0 0
theorem heads_rch {ts : Ts} {s : Int} {F : List KR} (hF : Fst (actL ts) ts.length [s] F) (x : Int) : x ∈ heads F ↔ Rch ts s x := by
  constructor
  · intro hx
    obtain ⟨e, he, rfl⟩ := List.mem_map.mp hx
    obtain ⟨h1, h2, _⟩ := hF.mem he
    exact ⟨e.2, h2, by rw [h1, one_0]; rfl⟩
  · rintro ⟨r, hr, rfl⟩
    obtain ⟨j, r', hj, _⟩ := hF.all r hr
    exact List.mem_map.mpr ⟨_, List.mem_of_getElem? hj, by show (path (actL ts) [s] r).getD 0 0 = _; rw [one_0]; rfl⟩
theorem heads_nodup {ts : Ts} {s : Int} {F : List KR} (hF : Fst (actL ts) ts.length [s] F) : (heads F).Nodup := by
  refine List.pairwise_map.mpr (List.Pairwise.imp_of_mem (fun {e e'} he he' ne z => ?_) (nodup_of hF.nd))
  obtain ⟨h1, _, _⟩ := hF.mem he
  obtain ⟨h2, _, _⟩ := hF.mem he'
  rw [one_0] at h1 h2
  rw [h1, h2] at z
  have z' : run ts s e.2 = run ts s e'.2 := z
  exact ne (by rw [h1, h2, z'])
theorem lt_of_le_nodup {l : List Int} (h : l.Pairwise (· ≤ ·)) (n : l.Nodup) : l.Pairwise (· < ·) := by
  have h2 : l.Pairwise (· ≠ ·) := n
  exact (h.and h2).imp fun {a b} ⟨h1, h2⟩ => by omega
def spOrbit (M CS : Addr) : Sp := fun vs H Q E => ∃ m ta ts v, vs = [.ref m, v] ∧ MachAt M H m ta (vts ts) ∧ Wf ts ∧ (∃ (K : PySem.W.Frag) (o : Option (List V)), KV K H v o) ∧ (belowB v (nS ts : Int) = false → Rz CS "state" v H E) ∧
  (∀ s, v = .int s → (0 ≤ s ∧ s < (nS ts : Int)) → ∀ (ns : List Int) p H', Same H H' → ns.Pairwise (· < ·) → (∀ x, x ∈ ns ↔ Rch ts s x) → H' p = some (.tup (vrow ns)) → Q (.ref p) H')
section
variable {P : Program} {w : World} {K : PySem.W.Frag} {mg : Str → Option Value} {base : Heap}
abbrev nOr : List Str := ["machine", "state", "ends"]
theorem scOr : FnScope nOr ["machine", "state"] (defScope sOrbit) := ⟨rfl, rfl, rfl, by decide +kernel, rfl, by decide +kernel, by decide +kernel⟩
theorem ok_orbit {f fN fF CS M : Addr} {fd fdN fdF : FuncData} (D : Df K mg "orbit" sOrbit ["machine", "state"] f fd) (DN : Df K mg "need_state" sNeedS ["machine", "state"] fN fdN) (DF : DfF K mg fF fdF) (B : Bt mg)
    (GN : FnOk P w K mg base (L2.CX P w) 3 fN fdN ["machine", "state"] (spNeed M CS "state" nS)) (GF : FnOk P w K mg base CX0 1 fF fdF ["machine", "states", "out", "most"] (spFirst M)) : FnOk P w K mg base (L2.CX P w) 4 f fd ["machine", "state"] (spOrbit M CS) := by
  refine D.F.okX scOr (fun vs H Q E h => ?_) (fun cdv A outer s H vs Q E hr h => ?_)
  · obtain ⟨m, ta, ts, v, rfl, _⟩ := h
    rfl
  · obtain ⟨m, ta, ts, v, rfl, hM, hW, kv, q1, q2⟩ := h
    obtain ⟨ds, vd, bd⟩ := DF.b
    refine ⟨_, pss_cons (ps_expr (pc DN GN hr (pass1 (takes_of rfl rfl rfl rfl)) (pa_cons (pv 0) (pa_cons (pv 1) pa_nil))))
      (pss_one (ps_ret (pe_callTy call_tuple_of (by rfl) B.tuple PyProof.Rows.boot_tuple (pa_cons (pe_callB cr_sortedI (by rfl) B.sorted PyProof.Rows.boot_sorted (pa_cons
        (pe_lc (own := [("ends", 2)]) (g := gName 2) (tt := tYes) rfl scOr.nd (pi_keysF (pcF DF GF (hr.mono (by decide)) pass0 (pa_cons (pv 0) (pa_cons (pe_tup (pa_cons (pv 1) pa_nil)) pa_nil)) vd bd)) (blkOk_by (N := nOr) (sc := defScope sOrbit) (by decide +kernel)) (fun _ _ _ _ _ => pg_name (i := 2) scOr.nd rfl (Or.inl rfl)) (fun _ _ _ _ _ => pts_nil)
          (fun _ _ _ _ _ => pe_ix (ixTK (K := K) rfl) (pv 2) pe_int (fun _ _ => rfl))) pa_nil)) pa_nil)))), ?_⟩
    refine ⟨_, rfl, _, rfl, m, ta, ts, v, rfl, hM, kv, fun e => ?_, fun e => q1 e⟩
    obtain ⟨s0, rfl, hs⟩ := belowB_int e
    have q := q2 s0 rfl hs
    refine ⟨_, rfl, _, rfl, (by show 1 ≤ sizeLine; decide), fun p hp => ?_⟩
    have s1 := same_new (o := HO.tup [V.int s0]) hp
    refine ⟨m, ta, ts, [s0], p, rfl, hM.same s1, hW, fun x hx => by rw [List.mem_singleton.mp hx]; exact hs, (by decide : 1 ≤ 12), upd_same, one_few hW hs, fun d F H2 s2 hd ⟨kvs, hd2, ky, vl⟩ hF hf => ?_⟩
    have s12 := s1.trans s2
    have hd0 : H d = none := s1.free hd
    have lk : kvs.length = F.length := by simpa using congrArg List.length ky
    refine ⟨d, kvs, rfl, hd2, fun od D0 hD0 => ?_⟩
    have ndD : d ≠ D0 := fun z => by rw [← z, upd_same] at hD0; cases hD0
    have hD2 : H2 D0 = none := by rw [upd_ne ndD.symm] at hD0; exact hD0
    generalize hH3 : upd H2 d (.frz od (.dT kvs)) = H3
    have hd3 : H3 d = some (.frz od (.dT kvs)) := by rw [← hH3, upd_same]
    have s3 : Same H H3 := fun c o e => by
      rw [← hH3, upd_ne (ne_of_none e hd0)]
      exact s12 _ _ e
    have hD3 : H3 D0 = none := by rw [← hH3, upd_ne ndD.symm]; exact hD2
    refine lc_keysF (fun i H' => Same H3 H' ∧ H' D0 = some (.lst (((heads F).take i).map V.int))) ⟨same_new hD3, upd_same⟩ (fun i H' _ ⟨s4, _⟩ => s4 _ _ hd3) ?_ ?_
    · rintro i k v qk H' hk hqk ⟨s4, hD4⟩
      obtain ⟨e, he, rfl⟩ : ∃ e, F[i]? = some e ∧ k = kK e.1 := by
        have z : (kvs.map (·.1))[i]? = some k := by rw [List.getElem?_map, hk]; rfl
        rw [ky, List.getElem?_map] at z
        cases e : F[i]? with
        | none => rw [e] at z; cases z
        | some x => rw [e] at z; exact ⟨x, rfl, (Option.some.inj z).symm⟩
      obtain ⟨pe, _, _⟩ := hF.mem (List.mem_of_getElem? he)
      rw [one_0] at pe
      have hx : (heads F)[i]? = some (run ts s0 e.2) := by rw [heads, List.getElem?_map, he, Option.map_some, pe]; rfl
      rw [kK_v, pe] at hqk
      refine ⟨rfl, _, rfl, qk, _, 0, .int (run ts s0 e.2), rfl, rfl, SqT.of hqk, atI_nat (j := 0) rfl, _, hD4, ?_, ?_, ?_⟩
      · rw [List.length_map, List.length_take, heads, List.length_map, sizeLine_eq]; omega
      · intro c o e
        rw [upd_ne (ne_of_none e hD3)]
        exact s4 _ _ e
      · rw [upd_same, take_succ hx, List.map_append]; rfl
    · rintro H4 ⟨s4, hD4⟩
      have eL : (heads F).take kvs.length = heads F := by rw [lk, heads, List.take_of_length_le]; rw [List.length_map]; exact Nat.le_refl _
      rw [eL] at hD4
      refine ⟨D0, heads F, rfl, SqL.of hD4, fun ns' p2 hperm hpw hp2 => ?_⟩
      refine ⟨p2, _, rfl, .inl ⟨SqL.of upd_same, fun p3 hp3 => ?_⟩⟩
      refine q ns' p3 _ ((s3.trans s4).trans ((same_new hp2).trans (same_new hp3))) (lt_of_le_nodup hpw (hperm.nodup_iff.mpr (heads_nodup hF))) (fun x => ?_) upd_same
      rw [hperm.mem_iff]
      exact heads_rch hF x
end
end K1
namespace K1
open PySem PySem.Spec PyProof.Rows L2
theorem for_itemsF {d : Addr} {o : Obj} {kvs : List (List Key × V)} {g : TG} {tb : TS} {D : Ends} {σ : L2.St} {H : Hp} (Pv : Nat → L2.St → Hp → Prop) (h0 : Pv 0 σ H) (hl : ∀ i σ H, i ≤ kvs.length → Pv i σ H → H d = some (.frz o (.dT kvs)))
    (hs : ∀ (i : Nat) k v q T σ H, kvs[i]? = some (k, v) → H q = some (.tup (k.map kV)) → H T = none → Pv i σ H → g (.ref T) σ (upd H T (.tup [.ref q, v])) fun σ2 H2 => tb { D with nx := Pv (i + 1), ct := Pv (i + 1), bk := D.nx } σ2 H2) (hd : ∀ σ H, Pv kvs.length σ H → D.nx σ H) :
    ∃ W : Nat → Nat → L2.St → Hp → Prop, (∃ m, W 0 m σ H) ∧ ∀ i m σ H, W i m σ H →
      ((Itit d o kvs).stop i H ∧ D.nx σ H) ∨ ((Itit d o kvs).go i H ∧ ∃ N : L2.St → Hp → Prop, (∀ σ' H', N σ' H' → ∃ m', m' < m ∧ W (i + 1) m' σ' H') ∧ ∀ x H', (Itit d o kvs).yld i H x H' → g x σ H' fun σ2 H2 => tb { D with nx := N, ct := N, bk := D.nx } σ2 H2) := by
  refine ⟨fun i m σ H => m = kvs.length - i ∧ i ≤ kvs.length ∧ Pv i σ H, ⟨kvs.length, by simp, Nat.zero_le _, h0⟩, ?_⟩
  rintro i m σ H ⟨rfl, hi, p⟩
  have q := hl i σ H hi p
  by_cases hlt : i < kvs.length
  · refine .inr ⟨⟨q, hlt⟩, Pv (i + 1), fun σ' H' p' => ⟨kvs.length - (i + 1), by omega, rfl, hlt, p'⟩, fun x H' y => ?_⟩
    obtain ⟨T, r, k, v, e1, e2, e3, e4, e5⟩ := y
    subst e2
    rw [e5]
    exact hs i k v r T σ _ e1 e4 e3 p
  · have e : i = kvs.length := by omega
    subst e
    exact .inl ⟨⟨q, Nat.le_refl _⟩, hd σ H p⟩
/-! ### rows that part -/
def hd0 (e : KR) : Int := e.1.getD 0 0
def partG : List KR → List KR → Option (List Int × List Int)
  | _, [] => none
  | S, e :: r => match S.find? (fun s => decide (hd0 s = hd0 e)) with
    | some s => some (s.2, e.2)
    | none => partG (S ++ [e]) r
def Part (F : List KR) : Option (List Int × List Int) := partG [] F
def seenK (S : List KR) (as : List Addr) : List (Key × V) := (S.zip as).map fun p => (Sum.inl (hd0 p.1), V.ref p.2)
def SeenAt (H : Hp) (d : Addr) (S : List KR) : Prop := ∃ as : List Addr, as.length = S.length ∧ H d = some (.dK (seenK S as)) ∧ ∀ (i : Nat) e a, S[i]? = some e → as[i]? = some a → H a = some (.tup (vrow e.2))
theorem SeenAt.same {H H' : Hp} {d : Addr} {S : List KR} (h : SeenAt H d S) (s : Same H H') : SeenAt H' d S := let ⟨as, h1, h2, h3⟩ := h; ⟨as, h1, s _ _ h2, fun i e a e1 e2 => s _ _ (h3 i e a e1 e2)⟩
theorem seen_val (x : Int) : ∀ (S : List KR) (as : List Addr), as.length = S.length →
    (S.find? (fun s => decide (hd0 s = x)) = none ∧ valV (seenK S as) (Sum.inl x) = none) ∨
    ∃ (i : Nat) (e : KR) (a : Addr), S.find? (fun s => decide (hd0 s = x)) = some e ∧ S[i]? = some e ∧ as[i]? = some a ∧ valV (seenK S as) (Sum.inl x) = some (.ref a)
  | [], [], _ => .inl ⟨rfl, rfl⟩
  | [], _ :: _, h => by cases h
  | _ :: _, [], h => by cases h
  | e :: S, a :: as, h => by
    by_cases z : hd0 e = x
    · refine .inr ⟨0, e, a, List.find?_cons_of_pos (by simpa using z), rfl, rfl, ?_⟩
      unfold valV seenK
      rw [List.zip_cons_cons, List.map_cons, List.find?_cons_of_pos (by simpa using z)]; rfl
    · have n1 : valV (seenK (e :: S) (a :: as)) (Sum.inl x) = valV (seenK S as) (Sum.inl x) := by
        unfold valV seenK
        rw [List.zip_cons_cons, List.map_cons, List.find?_cons_of_neg (by simpa using z)]
      have n2 : (e :: S).find? (fun s => decide (hd0 s = x)) = S.find? (fun s => decide (hd0 s = x)) := List.find?_cons_of_neg (by simpa using z)
      rw [n1, n2]
      rcases seen_val x S as (by simpa using h) with k | ⟨i, f, b, k1, k2, k3, k4⟩
      · exact .inl k
      · exact .inr ⟨i + 1, f, b, k1, k2, k3, k4⟩
theorem seenK_snoc {S : List KR} {as : List Addr} {e : KR} {a : Addr} (h : as.length = S.length) : seenK (S ++ [e]) (as ++ [a]) = seenK S as ++ [(Sum.inl (hd0 e), V.ref a)] := by
  unfold seenK
  rw [List.zip_append h.symm, List.map_append]; rfl
theorem partG_cons {S r : List KR} {e : KR} : partG S (e :: r) = match S.find? (fun s => decide (hd0 s = hd0 e)) with | some s => some (s.2, e.2) | none => partG (S ++ [e]) r := rfl
def spParting (M : Addr) : Sp := fun vs H Q _ => ∃ m ta ts a h, vs = [.ref m, .int a, .int h] ∧ MachAt M H m ta (vts ts) ∧ Wf ts ∧ (0 ≤ a ∧ a < (nS ts : Int)) ∧ (0 ≤ h ∧ h < (nS ts : Int)) ∧
  ∀ F H', Same H H' → Fst (actL ts) ts.length [a, h] F → (Part F = none → Q .non H') ∧ ∀ r1 r2 p x y, Part F = some (r1, r2) → H' p = some (.tup [.ref x, .ref y]) → H' x = some (.tup (vrow r1)) → H' y = some (.tup (vrow r2)) → Q (.ref p) H'
section
variable {P : Program} {w : World} {K : PySem.W.Frag} {mg : Str → Option Value} {base : Heap}
abbrev nPt : List Str := ["machine", "archive", "here", "seen", "ends", "row"]
theorem scPt : FnScope nPt ["machine", "archive", "here"] (defScope sParting) := ⟨rfl, rfl, rfl, by decide +kernel, rfl, by decide +kernel, by decide +kernel⟩
theorem ok_parting {f fF M : Addr} {fd fdF : FuncData} (D : Df K mg "parting_rows" sParting ["machine", "archive", "here"] f fd) (DF : DfF K mg fF fdF) (B : Bt mg) (GF : FnOk P w K mg base CX0 1 fF fdF ["machine", "states", "out", "most"] (spFirst M)) :
    FnOk P w K mg base CX0 2 f fd ["machine", "archive", "here"] (spParting M) := by
  refine D.F.ok scPt (fun vs H Q E h => ?_) (fun cdv A outer s H vs Q E hr h => ?_)
  · obtain ⟨m, ta, ts, a, h, rfl, _⟩ := h
    rfl
  · obtain ⟨m, ta, ts, a, h, rfl, hM, hW, ha, hh, q⟩ := h
    have hu := hu_of hr
    obtain ⟨ds, vd, bd⟩ := DF.b
    refine ⟨_, pss_cons (ps_set (i := 3) scPt.nd rfl (.inl rfl) pe_dnewK)
      (pss_cons (ps_for PassesOwn.never rfl (pi_itemsF (pcF DF GF hr pass0 (pa_cons (pv 0) (pa_cons (pe_tup (pa_cons (pv 1) (pa_cons (pv 2) pa_nil))) pa_nil)) vd bd)) (pg_tup rfl (pgs_cons (pg_name (i := 4) scPt.nd rfl (.inl rfl)) (pgs_cons (pg_name (i := 5) scPt.nd rfl (.inl rfl)) pgs_nil)))
        (pss_cons (ps_if (pt_cmp (pc_din hu (pe_ix (ixTK (K := K) rfl) (pv 4) pe_int (fun _ _ => rfl)) (pv 3))) (pss_one (ps_ret (pe_tup (pa_cons (pe_dget hu (pv 3) (pe_ix (ixTK (K := K) rfl) (pv 4) pe_int (fun _ _ => rfl)) (fun _ _ => rfl)) (pa_cons (pv 5) pa_nil))))) pss_nil)
        (pss_one (ps_dput hu (pv 3) (pe_ix (ixTK (K := K) rfl) (pv 4) pe_int (fun _ _ => rfl)) (pv 5) rfl))))
      (pss_one (ps_ret pe_non))), ?_⟩
    intro dn hdn
    have s0 := same_new (o := HO.dK []) hdn
    have hdn0 : (upd H dn (.dK [])) dn = some (.dK []) := upd_same
    generalize upd H dn (.dK []) = H0 at s0 hdn0 ⊢
    refine ⟨_, rfl, _, rfl, _, rfl, (by show 2 ≤ sizeLine; decide), fun p hp => ?_⟩
    have s1 := s0.trans (same_new (o := HO.tup [V.int a, .int h]) hp)
    have hdn1 := (same_new (o := HO.tup [V.int a, .int h]) hp) _ _ hdn0
    have hss : ∀ s ∈ [a, h], 0 ≤ s ∧ s < (nS ts : Int) := fun s hs => by
      simp only [List.mem_cons, List.mem_nil_iff, or_false] at hs
      rcases hs with rfl | rfl <;> assumption
    refine ⟨m, ta, ts, [a, h], p, rfl, hM.same s1, hW, hss, (by show 2 ≤ 12; decide), upd_same, pair_few hW ha hh, fun d F H2 s2 hd ⟨kvs, hd2, ky, vl⟩ hF hf => ?_⟩
    have s12 := s1.trans s2
    have hd0' : H d = none := s1.free hd
    have hdn2 := s2 _ _ hdn1
    have lk : kvs.length = F.length := by simpa using congrArg List.length ky
    refine ⟨d, kvs, rfl, hd2, fun od => ?_⟩
    have ndd : dn ≠ d := fun z => by rw [z, hd2] at hdn2; cases hdn2
    generalize hH3 : upd H2 d (.frz od (.dT kvs)) = H3
    have hd3 : H3 d = some (.frz od (.dT kvs)) := by rw [← hH3, upd_same]
    have hdn3 : H3 dn = some (.dK []) := by rw [← hH3, upd_ne ndd]; exact hdn2
    have vl3 : ∀ (i : Nat) k v x r, kvs[i]? = some (k, v) → F[i]? = some (x, r) → ∃ a, v = .ref a ∧ H3 a = some (.tup (vrow r)) := fun i k v x r e1 e2 => by
      obtain ⟨c, e, hc⟩ := vl i k v x r e1 e2
      refine ⟨c, e, ?_⟩
      rw [← hH3, upd_ne (ne_of hc hd2 (by intro z; cases z))]
      exact hc
    have s3' : Same H H3 := fun c o e => by
      rw [← hH3, upd_ne (ne_of_none e hd0')]
      exact s12 _ _ e
    have nH : H dn = none := hdn
    refine for_itemsF (fun i σ H' => ∃ v4 v5, σ = [some (.ref m), some (.int a), some (.int h), some (.ref dn), v4, v5] ∧ (∀ c o, H3 c = some o → c ≠ dn → H' c = some o) ∧ SeenAt H' dn (F.take i) ∧ partG (F.take i) (F.drop i) = Part F) ⟨none, none, rfl, fun c o e _ => e, ⟨[], rfl, hdn3, fun i e a e1 => by cases e1⟩, rfl⟩ (fun i σ H' _ ⟨_, _, _, k, _⟩ => k _ _ hd3 (fun z => ndd z.symm)) ?_ ?_
    · rintro i k v qk T σ H' hk hqk hT ⟨v4, v5, rfl, kp, ⟨as, la, hs1, hs2⟩, hpt⟩
      obtain ⟨e, he, rfl⟩ : ∃ e, F[i]? = some e ∧ k = kK e.1 := by
        have z : (kvs.map (·.1))[i]? = some k := by rw [List.getElem?_map, hk]; rfl
        rw [ky, List.getElem?_map] at z
        cases e : F[i]? with
        | none => rw [e] at z; cases z
        | some x => rw [e] at z; exact ⟨x, rfl, (Option.some.inj z).symm⟩
      have hiF : i < F.length := (List.getElem?_eq_some_iff.mp he).1
      obtain ⟨c, rfl, hc⟩ := vl3 i _ _ e.1 e.2 hk he
      obtain ⟨pe, _, _⟩ := hF.mem (List.mem_of_getElem? he)
      rw [path_run] at pe
      have pe' : e.1 = [run ts a e.2, run ts h e.2] := pe
      have eh : hd0 e = run ts a e.2 := by unfold hd0; rw [pe']; rfl
      rw [kK_v, pe'] at hqk
      have sT := same_new (o := HO.tup [.ref qk, .ref c]) hT
      have hcT := sT _ _ (kp _ _ hc (ne_of (kp _ _ hc (fun z => by rw [z, hdn3] at hc; cases hc)) hs1 (by intro z; cases z)))
      have hsT := sT _ _ hs1
      have hqT := sT _ _ hqk
      have hs2T : ∀ (j : Nat) f b, (F.take i)[j]? = some f → as[j]? = some b → (upd H' T (.tup [.ref qk, .ref c])) b = some (.tup (vrow f.2)) := fun j f b e1 e2 => sT _ _ (hs2 j f b e1 e2)
      have hTT : (upd H' T (.tup [.ref qk, .ref c])) T = some (.tup [.ref qk, .ref c]) := upd_same
      have kpA : ∀ c' o, H3 c' = some o → c' ≠ dn → (upd H' T (.tup [.ref qk, .ref c])) c' = some o := fun x o e n => sT _ _ (kp _ _ e n)
      generalize upd H' T (.tup [.ref qk, .ref c]) = H4 at sT hcT hsT hqT hs2T hTT kpA ⊢
      have ed : F.drop i = e :: F.drop (i + 1) := by
        rw [List.drop_eq_getElem_cons hiF]
        congr 1
        exact (List.getElem?_eq_some_iff.mp he).2
      have et := take_succ he
      rw [ed, partG_cons, eh] at hpt
      have lS : (seenK (F.take i) as).length ≤ 1000 := by
        unfold seenK
        rw [List.length_map, List.length_zip, List.length_take]
        omega
      refine ⟨T, _, rfl, SqT.of hTT, rfl, _, _, rfl, _, _, rfl, rfl, ?_⟩
      refine ⟨_, rfl, qk, _, 0, _, rfl, rfl, SqT.of hqT, atI_nat (j := 0) rfl, _, rfl, dn, _, rfl, DGet.k (k := Sum.inl (run ts a e.2)) hsT, _, rfl, ?_⟩
      rcases seen_val (run ts a e.2) (F.take i) as la with ⟨k1, k2⟩ | ⟨j, f, b, k1, k2, k3, k4⟩
      · rw [k2]
        rw [k1] at hpt
        refine iteF ?_
        refine ⟨_, rfl, _, rfl, _, rfl, qk, _, 0, _, rfl, rfl, SqT.of hqT, atI_nat (j := 0) rfl, dn, _, rfl, DPut.k (k := Sum.inl (run ts a e.2)) hsT (by rw [sizeLine_eq]; omega), ?_⟩
        refine ⟨_, _, rfl, fun c' o e' n => by rw [upd_ne n]; exact kpA _ _ e' n, ⟨as ++ [c], by rw [et, List.length_append, List.length_append, la]; rfl, ?_, fun j f b e1 e2 => ?_⟩, by rw [et]; exact hpt⟩
        · rw [upd_same, putK_new _ k2, et, seenK_snoc la, eh]
        · have hb : H4 b = some (.tup (vrow f.2)) := by
            rw [et] at e1
            by_cases hj : j < as.length
            · rw [List.getElem?_append_left hj] at e2
              rw [List.getElem?_append_left (by rw [← la]; exact hj)] at e1
              exact hs2T j f b e1 e2
            · have hl : j = as.length := by
                have := (List.getElem?_eq_some_iff.mp e2).1
                simp only [List.length_append, List.length_cons, List.length_nil] at this
                omega
              subst hl
              rw [List.getElem?_append_right (Nat.le_refl _), Nat.sub_self] at e2
              rw [la, List.getElem?_append_right (Nat.le_refl _), Nat.sub_self] at e1
              rw [← Option.some.inj e1, ← Option.some.inj e2]
              exact hcT
          rw [upd_ne (ne_of hb hsT (by intro z; cases z))]
          exact hb
      · rw [k4]
        rw [k1] at hpt
        refine iteT ?_
        have sH : Same H H4 := fun c o e => kpA c o (s3' _ _ e) (ne_of_none e nH)
        refine ⟨_, rfl, _, rfl, qk, _, 0, _, rfl, rfl, SqT.of hqT, atI_nat (j := 0) rfl, dn, _, rfl, by rw [← k4]; exact DGet.k (k := Sum.inl (run ts a e.2)) hsT, _, rfl, (by show 2 ≤ sizeLine; decide), fun p9 hp9 => ?_⟩
        have s9 := same_new (o := HO.tup [V.ref b, .ref c]) hp9
        exact (q F _ (sH.trans s9) hF).2 f.2 e.2 p9 b c hpt.symm upd_same (s9 _ _ (hs2T j f b k2 k3)) (s9 _ _ hcT)
    · rintro σ H' ⟨v4, v5, rfl, kp, sa, hpt⟩
      rw [lk, List.take_length, List.drop_length] at hpt
      have sH : Same H H' := fun c o e => kp c o (s3' _ _ e) (ne_of_none e nH)
      exact (q F H' sH hF).1 hpt.symm
end
end K1
namespace K1
open PySem PySem.Spec PyProof.Rows L2
/-! ### a search finds one list -/
theorem asc_one : ∀ {F G : List KR}, (F.Pairwise fun x y => rlt x.2 y.2) → (G.Pairwise fun x y => rlt x.2 y.2) → (∀ e, e ∈ F ↔ e ∈ G) → F = G
  | [], [], _, _, _ => rfl
  | [], y :: G, _, _, h => absurd ((h y).mpr List.mem_cons_self) (by simp)
  | x :: F, [], _, _, h => absurd ((h x).mp List.mem_cons_self) (by simp)
  | x :: F, y :: G, p, q, h => by
    obtain ⟨p1, p2⟩ := List.pairwise_cons.mp p
    obtain ⟨q1, q2⟩ := List.pairwise_cons.mp q
    have e : x = y := by
      rcases List.mem_cons.mp ((h x).mp List.mem_cons_self) with z | z
      · exact z
      · rcases List.mem_cons.mp ((h y).mpr List.mem_cons_self) with w | w
        · exact w.symm
        · exact absurd ((q1 x z).trans (p1 y w)) (rlt.irrefl _)
    subst e
    refine congrArg (x :: ·) (asc_one p2 q2 fun e => ?_)
    constructor
    · intro he
      rcases List.mem_cons.mp ((h e).mp (List.mem_cons_of_mem _ he)) with z | z
      · subst z; exact absurd (p1 _ he) (rlt.irrefl _)
      · exact z
    · intro he
      rcases List.mem_cons.mp ((h e).mpr (List.mem_cons_of_mem _ he)) with z | z
      · subst z; exact absurd (q1 _ he) (rlt.irrefl _)
      · exact z
theorem fst_sub {act : List Int → Int → List Int} {n : Nat} {s : List Int} {F G : List KR} (h1 : Fst act n s F) (h2 : Fst act n s G) : ∀ e, e ∈ F → e ∈ G := fun e he => by
  obtain ⟨k1, k2, _⟩ := h1.mem he
  obtain ⟨j, r', hj, l1⟩ := h2.all e.2 k2
  have hjm := List.mem_of_getElem? hj
  obtain ⟨k3, k4, _⟩ := h2.mem hjm
  have k3 : path act s e.2 = path act s r' := k3
  have k4 : ∀ x ∈ r', 0 ≤ x ∧ x < (n : Int) := k4
  obtain ⟨i, r'', hi, l2⟩ := h1.all r' k4
  have him := List.mem_of_getElem? hi
  have same : (path act s r', r'') = e := by
    have nd := nodup_of h1.nd
    obtain ⟨a, ha⟩ := List.getElem?_of_mem he
    have ea : (F.map (·.1))[a]? = some e.1 := by rw [List.getElem?_map, ha]; rfl
    have ei : (F.map (·.1))[i]? = some e.1 := by rw [List.getElem?_map, hi]; show some (path act s r') = _; rw [← k3, ← k1]
    obtain ⟨g1, e5⟩ := List.getElem?_eq_some_iff.mp ea
    obtain ⟨g2, e6⟩ := List.getElem?_eq_some_iff.mp ei
    have z : a = i := (List.getElem_inj h1.nd).mp (e5.trans e6.symm)
    subst z
    rw [ha] at hi
    exact (Option.some.inj hi).symm
  have l3 : rle e.2 r' := by
    have z : r'' = e.2 := by rw [← same]
    rw [← z]; exact l2
  have er : r' = e.2 := rle.anti l1 l3
  have : e = (path act s e.2, r') := by rw [er, ← k1]
  rw [this]
  exact hjm
theorem fst_one {act : List Int → Int → List Int} {n : Nat} {s : List Int} {F G : List KR} (h1 : Fst act n s F) (h2 : Fst act n s G) : F = G := asc_one h1.pw h2.pw fun e => ⟨fst_sub h1 h2 e, fst_sub h2 h1 e⟩
/-! ### papers of what does not tell -/
def PP (ts : Ts) (a h : Int) (r : Option (List Int × List Int)) : Prop := ∃ F, Fst (actL ts) ts.length [a, h] F ∧ Part F = r
theorem PP.one {ts : Ts} {a h : Int} {r q : Option (List Int × List Int)} (x : PP ts a h r) (y : PP ts a h q) : r = q := by
  obtain ⟨F, h1, e1⟩ := x
  obtain ⟨G, h2, e2⟩ := y
  rw [← e1, ← e2, fst_one h1 h2]
def In8 (ts : Ts) (d : Int) : Prop := 0 ≤ d ∧ d < (ts.length : Int)
/-- archive, deed, two rows: the first ones -/
def TPaper (ts : Ts) (s : Int) : Option (Int × Int × List Int × List Int) → Prop
  | none => ∀ x, Rch ts s x → ∀ d, In8 ts d → PP ts x (stp ts x d) none
  | some (x, d, r1, r2) => Rch ts s x ∧ In8 ts d ∧ PP ts x (stp ts x d) (some (r1, r2)) ∧ ∀ y e, Rch ts s y → In8 ts e → (y < x ∨ (y = x ∧ e < d)) → PP ts y (stp ts y e) none
theorem TPaper.one {ts : Ts} {s : Int} : ∀ {r q : Option (Int × Int × List Int × List Int)}, TPaper ts s r → TPaper ts s q → r = q
  | none, none, _, _ => rfl
  | none, some (x, d, r1, r2), a, b => by
    have := PP.one (a x b.1 d b.2.1) b.2.2.1
    cases this
  | some (x, d, r1, r2), none, a, b => by
    have := PP.one (b x a.1 d a.2.1) a.2.2.1
    cases this
  | some (x, d, r1, r2), some (y, e, q1, q2), a, b => by
    rcases (show (x < y ∨ (x = y ∧ d < e)) ∨ (y < x ∨ (y = x ∧ e < d)) ∨ (x = y ∧ d = e) by omega) with z | z | ⟨z1, z2⟩
    · have := PP.one (b.2.2.2 x d a.1 a.2.1 z) a.2.2.1
      cases this
    · have := PP.one (a.2.2.2 y e b.1 b.2.1 z) b.2.2.1
      cases this
    · subst z1
      subst z2
      have := PP.one a.2.2.1 b.2.2.1
      cases this
      rfl
def TPV (H : Hp) (u : V) : Option (Int × Int × List Int × List Int) → Prop
  | none => u = .non
  | some (x, d, r1, r2) => ∃ p a b, u = .ref p ∧ H p = some (.tup [.str "untold", .int x, .int d, .ref a, .ref b]) ∧ H a = some (.tup (vrow r1)) ∧ H b = some (.tup (vrow r2))
def spTPaper (M CS : Addr) : Sp := fun vs H Q E => ∃ m ta ts v, vs = [.ref m, v] ∧ MachAt M H m ta (vts ts) ∧ Wf ts ∧ (∃ (K : PySem.W.Frag) (o : Option (List V)), KV K H v o) ∧ (belowB v (nS ts : Int) = false → Rz CS "state" v H E) ∧
  (∀ s, v = .int s → (0 ≤ s ∧ s < (nS ts : Int)) → ∀ r u H', Same H H' → TPaper ts s r → TPV H' u r → Q u H')
def spIsTell (M CS : Addr) : Sp := fun vs H Q E => ∃ m ta ts v, vs = [.ref m, v] ∧ MachAt M H m ta (vts ts) ∧ Wf ts ∧ (∃ (K : PySem.W.Frag) (o : Option (List V)), KV K H v o) ∧ (belowB v (nS ts : Int) = false → Rz CS "state" v H E) ∧
  (∀ s, v = .int s → (0 ≤ s ∧ s < (nS ts : Int)) → ∀ r H', Same H H' → TPaper ts s r → Q (.bl r.isNone) H')
section
variable {P : Program} {w : World} {K : PySem.W.Frag} {mg : Str → Option Value} {base : Heap}
abbrev nTP : List Str := ["machine", "state", "archive", "deed", "rows"]
theorem scTP : FnScope nTP ["machine", "state"] (defScope sTPaper) := ⟨rfl, rfl, rfl, by decide +kernel, rfl, by decide +kernel, by decide +kernel⟩
theorem ok_tpaper {f fO fP CS M : Addr} {fd fdO fdP : FuncData} (D : Df K mg "telling_paper" sTPaper ["machine", "state"] f fd) (DO : Df K mg "orbit" sOrbit ["machine", "state"] fO fdO) (DP : Df K mg "parting_rows" sParting ["machine", "archive", "here"] fP fdP) (B : Bt mg) (T : McT K mg M)
    (GO : FnOk P w K mg base (L2.CX P w) 4 fO fdO ["machine", "state"] (spOrbit M CS)) (GP : FnOk P w K mg base CX0 2 fP fdP ["machine", "archive", "here"] (spParting M)) : FnOk P w K mg base (L2.CX P w) 5 f fd ["machine", "state"] (spTPaper M CS) := by
  refine D.F.okX scTP (fun vs H Q E h => ?_) (fun cdv A outer s H vs Q E hr h => ?_)
  · obtain ⟨m, ta, ts, v, rfl, _⟩ := h
    rfl
  · obtain ⟨m, ta, ts, v, rfl, hM, hW, kv, q1, q2⟩ := h
    have r2 := hr.mono (show 2 ≤ 4 by decide)
    refine ⟨_, pss_cons (ps_for (passes_of rfl) rfl (pi_tup (pc DO GO hr (pass1 (takes_of rfl rfl rfl rfl)) (pa_cons (pv 0) (pa_cons (pv 1) pa_nil)))) (pg_name (i := 2) scTP.nd rfl (.inl rfl))
        (pss_one (ps_for (passes_of rfl) rfl (pi_range1 (by rfl) B.range (pa_cons (pe_fld (pv 0) rfl) pa_nil)) (pg_name (i := 3) scTP.nd rfl (.inl rfl))
          (pss_cons (ps_set (i := 4) scTP.nd rfl (.inl rfl) (pc DP GP r2 pass0 (pa_cons (pv 0) (pa_cons (pv 2) (pa_cons (pe_ix (ixTK (K := K) rfl) (pe_ix (ixTK (K := K) rfl) (pe_fld (pv 0) rfl) (pv 3) (fun _ _ => rfl)) (pv 2) (fun _ _ => rfl)) pa_nil)))))
          (pss_one (ps_if (pt_cmp (pc_notN (pv 4))) (pss_one (ps_ret (pe_tup (pa_cons pe_str (pa_cons (pv 2) (pa_cons (pv 3) (pa_cons (pe_ix (ixTK (K := K) rfl) (pv 4) pe_int (fun _ _ => rfl)) (pa_cons (pe_ix (ixTK (K := K) rfl) (pv 4) pe_int (fun _ _ => rfl)) pa_nil)))))))) pss_nil))))))
      (pss_one (ps_ret pe_non)), ?_⟩
    refine ⟨_, rfl, _, rfl, m, ta, ts, v, rfl, hM, hW, kv, q1, fun st e hst ns p H1 s1 asc mem hp => ?_⟩
    subst e
    have q := q2 st rfl hst
    have asc_lt : ∀ (i j : Nat) (z y : Int), ns[i]? = some z → ns[j]? = some y → y < z → j < i := fun i j z y hi hj hlt => by
      rcases Nat.lt_trichotomy j i with k | k | k
      · exact k
      · subst k
        rw [hi] at hj
        have := Option.some.inj hj
        omega
      · obtain ⟨g1, e1⟩ := List.getElem?_eq_some_iff.mp hi
        obtain ⟨g2, e2⟩ := List.getElem?_eq_some_iff.mp hj
        have := List.pairwise_iff_getElem.mp asc i j g1 g2 k
        omega
    refine ⟨p, rfl, ⟨_, SqT.of hp⟩, for_tup (K := K) (a := p) (xs := vrow ns) (fun i σ H' => ∃ v2 v3 v4, σ = [some (.ref m), some (.int st), v2, v3, v4] ∧ Same H1 H' ∧ ∀ (j : Nat) y, j < i → ns[j]? = some y → ∀ d, In8 ts d → PP ts y (stp ts y d) none) ⟨none, none, none, rfl, fun _ _ e => e, fun j y hj => absurd hj (Nat.not_lt_zero _)⟩ (fun i σ H' _ ⟨_, _, _, _, s, _⟩ => SqT.of (s _ _ hp)) ?_ ?_⟩
    · rintro i x σ H2 hx ⟨v2, v3, v4, rfl, s2, no⟩
      obtain ⟨z, hz, rfl⟩ := vrow_at hx
      have hzR := (mem z).mp (List.mem_of_getElem? hz)
      have hzr := hzR.rng hW hst
      obtain ⟨dx, hf⟩ := (hM.same (s1.trans s2)).fs
      have t8 := hW.t8
      refine ⟨_, rfl, m, M, dx, _, _, rfl, hf, T.cl, T.nD, mf_d _ _ _, (ts.length : Int), rfl, by omega, by omega, for_range (fun k σ H' => ∃ v3 v4, σ = [some (.ref m), some (.int st), some (.int z), v3, v4] ∧ Same H1 H' ∧ ∀ d, In8 ts d → d < (k : Int) → PP ts z (stp ts z d) none) ⟨_, _, rfl, s2, fun d hd hk => by have := hd.1; omega⟩ ?_ ?_⟩
      · rintro k σ H3 hk ⟨v3, v4, rfl, s3, no2⟩
        have hk8 : In8 ts (0 + (k : Int)) := ⟨by omega, by omega⟩
        have hM3 := hM.same (s1.trans s3)
        obtain ⟨dx, hf⟩ := hM3.fs
        obtain ⟨tas, ht1, ht2, ht3⟩ := hM3.2
        obtain ⟨t, g1, g2, g3⟩ := hW.at_ hk8 hzr
        have hj : (0 + (k : Int)).toNat < tas.length := by
          have : tas.length = ts.length := by rw [ht2, vts, List.length_map]
          omega
        obtain ⟨tj, htj⟩ : ∃ t, tas[(0 + (k : Int)).toNat]? = some t := ⟨_, List.getElem?_eq_getElem hj⟩
        have hT := ht3 _ tj (vrow t) htj (by rw [vts, List.getElem?_map, g1]; rfl)
        refine ⟨_, rfl, _, rfl, _, rfl, m, M, dx, _, _, rfl, hf, T.cl, T.nT, mf_t _ _ _, _, rfl, ta, _, 0 + (k : Int), .ref tj, rfl, rfl, SqT.of ht1, at_of (j := (0 + (k : Int)).toNat) (by omega) (by rw [List.getElem?_map, htj]; rfl), _, rfl, tj, _, z, .int (stp ts z (0 + (k : Int))), rfl, rfl, SqT.of hT, at_of (j := z.toNat) (by omega) (by rw [vrow, List.getElem?_map, g2]; rfl), m, ta, ts, z, _, rfl, hM3, hW, hzr, g3, fun F H4 s4 hF => ⟨fun hpart => ?_, fun r1 r2 p4 x4 y4 hpart hp4 hx4 hy4 => ?_⟩⟩
        · refine ⟨_, rfl, _, rfl, iteN rfl (nxP ⟨_, _, rfl, s3.trans s4, fun d hd hlt => ?_⟩)⟩
          by_cases w : d = 0 + (k : Int)
          · rw [w]; exact ⟨F, hF, hpart⟩
          · exact no2 d hd (by omega)
        · refine ⟨_, rfl, _, rfl, iteT ⟨_, rfl, _, rfl, _, rfl, p4, _, 0, _, rfl, rfl, SqT.of hp4, atI_nat (j := 0) rfl, _, rfl, p4, _, 1, _, rfl, rfl, SqT.of hp4, atI_nat (j := 1) rfl, (by show 5 ≤ sizeLine; decide), fun p5 hp5 => ?_⟩⟩
          have s5 := same_new (o := HO.tup [.str "untold", .int z, .int (0 + (k : Int)), .ref x4, .ref y4]) hp5
          refine q (some (z, 0 + (k : Int), r1, r2)) _ _ (((s1.trans s3).trans s4).trans s5) ⟨hzR, hk8, ⟨F, hF, hpart⟩, fun y e hy he hlt => ?_⟩ ⟨p5, x4, y4, rfl, upd_same, s5 _ _ hx4, s5 _ _ hy4⟩
          rcases hlt with hlt | ⟨rfl, hlt⟩
          · obtain ⟨j, hj⟩ := List.getElem?_of_mem ((mem y).mpr hy)
            exact no j y (asc_lt i j z y hz hj hlt) hj e he
          · exact no2 e he (by omega)
      · rintro σ H3 ⟨v3, v4, rfl, s3, no2⟩
        refine ⟨_, _, _, rfl, s3, fun j y hj hy d hd => ?_⟩
        rcases Nat.lt_succ_iff_lt_or_eq.mp hj with w | w
        · exact no j y w hy d hd
        · subst w
          rw [hz] at hy
          obtain rfl := Option.some.inj hy
          have := hd.2
          exact no2 d hd (by omega)
    · rintro σ H2 ⟨v2, v3, v4, rfl, s2, no⟩
      refine q none _ _ (s1.trans s2) (fun x hx d hd => ?_) rfl
      obtain ⟨j, hj⟩ := List.getElem?_of_mem ((mem x).mpr hx)
      exact no j x (by rw [vrow, List.length_map]; exact (List.getElem?_eq_some_iff.mp hj).1) hj d hd
abbrev nIT : List Str := ["machine", "state"]
theorem scItl : FnScope nIT ["machine", "state"] (defScope sIsTell) := ⟨rfl, rfl, rfl, by decide +kernel, rfl, by decide +kernel, by decide +kernel⟩
theorem ok_istell {f fT CS M : Addr} {fd fdT : FuncData} (D : Df K mg "is_telling" sIsTell ["machine", "state"] f fd) (DT : Df K mg "telling_paper" sTPaper ["machine", "state"] fT fdT)
    (GT : FnOk P w K mg base (L2.CX P w) 5 fT fdT ["machine", "state"] (spTPaper M CS)) : FnOk P w K mg base (L2.CX P w) 6 f fd ["machine", "state"] (spIsTell M CS) := by
  refine D.F.okX scItl (fun vs H Q E h => ?_) (fun cdv A outer s H vs Q E hr h => ?_)
  · obtain ⟨m, ta, ts, v, rfl, _⟩ := h
    rfl
  · obtain ⟨m, ta, ts, v, rfl, hM, hW, kv, q1, q2⟩ := h
    refine ⟨_, pss_one (ps_ret (pe_cmp (pc_isN (pc DT GT hr (pass1 (takes_of rfl rfl rfl rfl)) (pa_cons (pv 0) (pa_cons (pv 1) pa_nil)))))), ?_⟩
    refine ⟨_, rfl, _, rfl, m, ta, ts, v, rfl, hM, hW, kv, q1, fun st e hst r u H' sm hT hV => ?_⟩
    have q := q2 st e hst r H' sm hT
    match r, hV with
    | none, hV =>
      obtain rfl : u = .non := hV
      exact q
    | some (x, d, r1, r2), ⟨p, a, b, eu, _⟩ =>
      subst eu
      exact q
end
end K1
namespace K1
open PySem PySem.Spec PyProof.Rows L2
/-! ### what tells -/
def VRow (ts : Ts) (r : List Int) : Prop := ∀ d ∈ r, 0 ≤ d ∧ d < (ts.length : Int)
theorem VRow.app {ts : Ts} {r q : List Int} (a : VRow ts r) (b : VRow ts q) : VRow ts (r ++ q) := fun d hd => (List.mem_append.mp hd).elim (a d) (b d)
theorem run_app (ts : Ts) (s : Int) (r q : List Int) : run ts s (r ++ q) = run ts (run ts s r) q := by
  unfold run
  rw [List.foldl_append]
/-- the joins with this archive and this state here are told, as far as rows lead -/
def Told (ts : Ts) (a h : Int) : Prop := ∀ r q : List Int, VRow ts r → VRow ts q → run ts a r = run ts a q → run ts h r = run ts h q
def hds (F : List KR) : List Int := F.map hd0
theorem part_none : ∀ (r S : List KR), (hds S).Nodup → (partG S r = none ↔ (hds (S ++ r)).Nodup)
  | [], S, h => by rw [List.append_nil]; exact ⟨fun _ => h, fun _ => rfl⟩
  | e :: r, S, h => by
    rw [partG_cons]
    have key : hd0 e ∈ hds S ↔ ∃ s, S.find? (fun s => decide (hd0 s = hd0 e)) = some s := by
      constructor
      · intro hm
        obtain ⟨s, hs, es⟩ := List.mem_map.mp hm
        cases q : S.find? (fun s => decide (hd0 s = hd0 e)) with
        | none =>
          have := List.find?_eq_none.mp q s hs
          exact absurd (decide_eq_true es) this
        | some s => exact ⟨s, rfl⟩
      · rintro ⟨s, hs⟩
        exact List.mem_map.mpr ⟨s, List.mem_of_find?_eq_some hs, by have z := List.find?_some hs; exact of_decide_eq_true z⟩
    have e1 : S ++ e :: r = (S ++ [e]) ++ r := by rw [List.append_assoc]; rfl
    cases q : S.find? (fun s => decide (hd0 s = hd0 e)) with
    | some s =>
      have hm := key.mpr ⟨s, q⟩
      constructor
      · intro z; cases z
      · intro nd
        exfalso
        rw [hds, List.map_append, List.nodup_append] at nd
        exact nd.2.2 _ hm _ List.mem_cons_self rfl
    | none =>
      have hn : hd0 e ∉ hds S := fun z => by
        obtain ⟨s, hs⟩ := key.mp z
        rw [q] at hs
        cases hs
      show partG (S ++ [e]) r = none ↔ _
      rw [e1]
      refine part_none r (S ++ [e]) ?_
      rw [hds, List.map_append, List.nodup_append]
      exact ⟨h, by simp, fun y hy z hz w => by
        rw [List.map_cons, List.map_nil, List.mem_singleton] at hz
        rw [w, hz] at hy
        exact hn hy⟩
theorem part_some : ∀ (r S : List KR) {p q : List Int}, partG S r = some (p, q) → ∃ e ∈ S ++ r, ∃ f ∈ r, hd0 e = hd0 f ∧ p = e.2 ∧ q = f.2 ∧ ∃ i j : Nat, i < j ∧ (S ++ r)[i]? = some e ∧ (S ++ r)[j]? = some f
  | [], S, p, q, h => by cases h
  | e :: r, S, p, q, h => by
    rw [partG_cons] at h
    cases w : S.find? (fun s => decide (hd0 s = hd0 e)) with
    | some s =>
      rw [w] at h
      have h : some (s.2, e.2) = some (p, q) := h
      have h := Option.some.inj h
      injection h with h1 h2
      have ms := List.mem_of_find?_eq_some w
      obtain ⟨i, hi⟩ := List.getElem?_of_mem ms
      have hiS : i < S.length := (List.getElem?_eq_some_iff.mp hi).1
      exact ⟨s, List.mem_append_left _ ms, e, List.mem_cons_self, (by have z := List.find?_some w; exact of_decide_eq_true z), h1.symm, h2.symm, i, S.length, hiS, by rw [List.getElem?_append_left hiS]; exact hi, by rw [List.getElem?_append_right (Nat.le_refl _), Nat.sub_self]; rfl⟩
    | none =>
      rw [w] at h
      obtain ⟨a, ha, f, hf, k1, k2, k3, i, j, k4, k5, k6⟩ := part_some r (S ++ [e]) h
      have e1 : S ++ e :: r = (S ++ [e]) ++ r := by rw [List.append_assoc]; rfl
      rw [e1]
      exact ⟨a, ha, f, List.mem_cons_of_mem _ hf, k1, k2, k3, i, j, k4, k5, k6⟩
section
variable {ts : Ts} {F : List KR} {a h : Int}
theorem told_iff (hF : Fst (actL ts) ts.length [a, h] F) : (hds F).Nodup ↔ Told ts a h := by
  have form : ∀ e ∈ F, e.1 = [run ts a e.2, run ts h e.2] ∧ VRow ts e.2 := fun e he => by
    obtain ⟨h1, h2, _⟩ := hF.mem he
    rw [path_run] at h1
    exact ⟨h1, h2⟩
  constructor
  · intro nd r q hr hq e
    obtain ⟨i, r', hi, _⟩ := hF.all r hr
    obtain ⟨j, q', hj, _⟩ := hF.all q hq
    have e1 : (hds F)[i]? = some (run ts a r) := by rw [hds, List.getElem?_map, hi]; show some ((path (actL ts) [a, h] r).getD 0 0) = _; rw [pair_0]
    have e2 : (hds F)[j]? = some (run ts a r) := by rw [hds, List.getElem?_map, hj]; show some ((path (actL ts) [a, h] q).getD 0 0) = _; rw [pair_0, e]
    obtain ⟨g1, k1⟩ := List.getElem?_eq_some_iff.mp e1
    obtain ⟨g2, k2⟩ := List.getElem?_eq_some_iff.mp e2
    have z : i = j := (List.getElem_inj nd).mp (k1.trans k2.symm)
    subst z
    rw [hi] at hj
    have k := Option.some.inj hj
    injection k with k _
    have := congrArg (fun x => x.getD 1 0) k
    simp only [pair_1] at this
    exact this
  · intro t
    refine List.pairwise_map.mpr (List.Pairwise.imp_of_mem (fun {e e'} he he' ne z => ?_) (nodup_of hF.nd))
    obtain ⟨f1, v1⟩ := form e he
    obtain ⟨f2, v2⟩ := form e' he'
    have z' : run ts a e.2 = run ts a e'.2 := by
      have z : hd0 e = hd0 e' := z
      unfold hd0 at z
      rw [f1, f2] at z
      exact z
    exact ne (by rw [f1, f2, z', t _ _ v1 v2 z'])
theorem pp_none (ex : ∃ F, Fst (actL ts) ts.length [a, h] F) : PP ts a h none ↔ Told ts a h := by
  constructor
  · rintro ⟨F, hF, e⟩
    exact (told_iff hF).mp ((part_none F [] List.nodup_nil).mp e)
  · intro t
    obtain ⟨F, hF⟩ := ex
    exact ⟨F, hF, (part_none F [] List.nodup_nil).mpr ((told_iff hF).mpr t)⟩
theorem pp_some {r1 r2 : List Int} (p : PP ts a h (some (r1, r2))) : VRow ts r1 ∧ VRow ts r2 ∧ run ts a r1 = run ts a r2 ∧ run ts h r1 ≠ run ts h r2 := by
  obtain ⟨F, hF, e⟩ := p
  obtain ⟨x, hx, y, hy, k1, rfl, rfl, i, j, k4, k5, k6⟩ := part_some F [] e
  rw [List.nil_append] at hx k5 k6
  obtain ⟨f1, v1, _⟩ := hF.mem hx
  obtain ⟨f2, v2, _⟩ := hF.mem hy
  rw [path_run] at f1 f2
  have f1 : x.1 = [run ts a x.2, run ts h x.2] := f1
  have f2 : y.1 = [run ts a y.2, run ts h y.2] := f2
  have z : run ts a x.2 = run ts a y.2 := by
    unfold hd0 at k1
    rw [f1, f2] at k1
    exact k1
  refine ⟨v1, v2, z, fun w => ?_⟩
  have e1 : (F.map (·.1))[i]? = some x.1 := by rw [List.getElem?_map, k5]; rfl
  have e2 : (F.map (·.1))[j]? = some x.1 := by rw [List.getElem?_map, k6, f1, z, w, ← f2]; rfl
  obtain ⟨g1, e5⟩ := List.getElem?_eq_some_iff.mp e1
  obtain ⟨g2, e6⟩ := List.getElem?_eq_some_iff.mp e2
  have := (List.getElem_inj hF.nd).mp (e5.trans e6.symm)
  omega
end
/-- told behind one deed, so behind any row -/
def Tells (ts : Ts) (s : Int) : Prop := ∀ x, Rch ts s x → ∀ d, In8 ts d → Told ts x (stp ts x d)
theorem Tells.row {ts : Ts} {s : Int} (t : Tells ts s) : ∀ (u : List Int) {x : Int}, Rch ts s x → VRow ts u → Told ts x (run ts x u)
  | [], x, _, _ => fun r q _ _ e => e
  | d :: u, x, hx, hu => fun r q hr hq e => by
    have hd := hu d List.mem_cons_self
    have h1 := t x hx d hd r q hr hq e
    have hy : Rch ts s (stp ts x d) := hx.trans ⟨[d], fun e he => by rw [List.mem_singleton.mp he]; exact hd, rfl⟩
    exact Tells.row t u hy (fun e he => hu e (List.mem_cons_of_mem _ he)) r q hr hq h1
/-- all joins of the orbit -/
theorem tells_all {ts : Ts} {s : Int} : Tells ts s ↔ ∀ x, Rch ts s x → ∀ h, Rch ts x h → Told ts x h := by
  constructor
  · rintro t x hx h ⟨u, hu, rfl⟩
    exact t.row u hx hu
  · intro t x hx d hd
    exact t x hx _ ⟨[d], fun e he => by rw [List.mem_singleton.mp he]; exact hd, rfl⟩
/-- rows behind others' rows -/
theorem Tells.kept {ts : Ts} {s : Int} (t : Tells ts s) {u z : List Int} (hu : VRow ts u) (hz : VRow ts z) : Told ts (run ts s z) (run ts (run ts s u) z) := fun r q hr hq e => by
  have hs : Rch ts s s := ⟨[], fun d hd => absurd hd (by simp), rfl⟩
  have k := t.row u hs hu (z ++ r) (z ++ q) (hz.app hr) (hz.app hq) (by rw [run_app, run_app]; exact e)
  rw [run_app, run_app] at k
  exact k
/-- deeds that commute on the orbit -/
def Comm (ts : Ts) (s : Int) : Prop := ∀ x, Rch ts s x → ∀ d e, In8 ts d → In8 ts e → stp ts (stp ts x d) e = stp ts (stp ts x e) d
theorem Comm.one {ts : Ts} {s : Int} (c : Comm ts s) {d : Int} (hd : In8 ts d) : ∀ (r : List Int) {x : Int}, Rch ts s x → VRow ts r → run ts (stp ts x d) r = stp ts (run ts x r) d
  | [], x, _, _ => rfl
  | e :: r, x, hx, hr => by
    have he := hr e List.mem_cons_self
    have hy : Rch ts s (stp ts x e) := hx.trans ⟨[e], fun f hf => by rw [List.mem_singleton.mp hf]; exact he, rfl⟩
    show run ts (stp ts (stp ts x d) e) r = stp ts (run ts (stp ts x e) r) d
    rw [c x hx d e hd he]
    exact c.one hd r hy (fun f hf => hr f (List.mem_cons_of_mem _ hf))
theorem Comm.tells {ts : Ts} {s : Int} (c : Comm ts s) : Tells ts s := fun x hx d hd r q hr hq e => by
  rw [c.one hd r hx hr, c.one hd q hx hq, e]
end K1
namespace K1
open PySem PySem.Spec PyProof.Rows L2
def rLen (K : PySem.W.Frag) : List V → Hp → VK → Prop := fun xs H Q => ∃ p ys, xs = [.ref p] ∧ (SqL K H p ys ∨ SqT K H p ys) ∧ Q (.int ys.length) H
theorem clen {X : Cx} {K : PySem.W.Frag} (h : X.K = K) : CallR X (.builtin "len") (rLen K) := by
  subst h
  exact call_len_seq
theorem slT {X : Cx} {K : PySem.W.Frag} (h : X.K = K) : SlR X (rSlT K) := by
  subst h
  exact sl_tup
theorem nilP {σ : L2.St} {H : Hp} {Q : List V → Hp → Prop} (h : Q [] H) : tNil σ H Q := h
theorem neV {x : V} {Q : VK} {H : Hp} (hs : scal x x = true) (q : Q (.bl false) H) : rNe x x H Q := ⟨hs, qbl (by rw [decide_eq_true rfl]; rfl) q⟩
theorem eqVV {x : V} {Q : VK} {H : Hp} (hs : scal x x = true) (q : Q (.bl true) H) : rEq x x H Q := ⟨hs, qbl (by rw [decide_eq_true rfl]) q⟩
theorem cP {v : V} {σ : L2.St} {H : Hp} {Q : VK} (h : Q v H) : tC v σ H Q := h
/-! ### joins one behind another -/
theorem all_one {l : List Int} {x : Int} (nd : l.Nodup) (h : ∀ y ∈ l, y = x) (hx : x ∈ l) : l = [x] := by
  match l, nd, h, hx with
  | [y], _, h, _ => rw [h y List.mem_cons_self]
  | y :: z :: r, nd, h, _ =>
    have e1 := h y List.mem_cons_self
    have e2 := h z (List.mem_cons_of_mem _ List.mem_cons_self)
    exact absurd (e1.trans e2.symm) fun e => (List.nodup_cons.mp nd).1 (by rw [e]; exact List.mem_cons_self)
theorem ends_in {ts : Ts} {G : List KR} {a h t : Int} (hG : Fst (actL ts) ts.length [a, h] G) {x : Int} (hx : x ∈ endsOf G t) : ∃ r : List Int, (∀ y ∈ r, 0 ≤ y ∧ y < (ts.length : Int)) ∧ run ts a r = t ∧ run ts h r = x := by
  obtain ⟨e, he, rfl⟩ := List.mem_map.mp hx
  obtain ⟨h1, h2⟩ := List.mem_filter.mp he
  obtain ⟨k1, k2, _⟩ := hG.mem h1
  have h2 := of_decide_eq_true h2
  rw [k1, pair_0] at h2
  exact ⟨e.2, k2, h2, by rw [k1, pair_1]⟩
theorem ends_of {ts : Ts} {G : List KR} {a h t : Int} (hG : Fst (actL ts) ts.length [a, h] G) {r : List Int} (hr : ∀ y ∈ r, 0 ≤ y ∧ y < (ts.length : Int)) (ht : run ts a r = t) : run ts h r ∈ endsOf G t := by
  obtain ⟨j, r', hj, _⟩ := hG.all r hr
  refine List.mem_map.mpr ⟨_, List.mem_filter.mpr ⟨List.mem_of_getElem? hj, decide_eq_true ?_⟩, ?_⟩
  · show (path (actL ts) [a, h] r).getD 0 0 = t
    rw [pair_0]; exact ht
  · show (path (actL ts) [a, h] r).getD 1 0 = _
    rw [pair_1]
/-- the join is told, and is x -/
def JTold (ts : Ts) (a h t x : Int) : Prop := (∃ r, VRow ts r ∧ run ts a r = t ∧ run ts h r = x) ∧ ∀ r, VRow ts r → run ts a r = t → run ts h r = x
theorem ends_told {ts : Ts} {G : List KR} {a h t x : Int} (hG : Fst (actL ts) ts.length [a, h] G) (j : JTold ts a h t x) : endsOf G t = [x] := by
  obtain ⟨⟨r, hr, h1, h2⟩, all⟩ := j
  refine all_one (ends_nodup hG) (fun y hy => ?_) (by rw [← h2]; exact ends_of hG hr h1)
  obtain ⟨q, hq, k1, k2⟩ := ends_in hG hy
  rw [← k2]
  exact all q hq k1
theorem ends_unt {ts : Ts} {G : List KR} {a h t : Int} (hG : Fst (actL ts) ts.length [a, h] G) (n : ∀ x, ¬ JTold ts a h t x) : (endsOf G t).length ≠ 1 := fun e => by
  obtain ⟨x, ex⟩ : ∃ x, endsOf G t = [x] := by
    match endsOf G t, e with
    | [x], _ => exact ⟨x, rfl⟩
  refine n x ⟨?_, fun r hr h1 => ?_⟩
  · obtain ⟨q, hq, k1, k2⟩ := ends_in hG (x := x) (by rw [ex]; exact List.mem_cons_self)
    exact ⟨q, hq, k1, k2⟩
  · have := ends_of hG hr h1
    rw [ex] at this
    exact List.mem_singleton.mp this
theorem Told.j {ts : Ts} {a h : Int} (t : Told ts a h) {r : List Int} (hr : VRow ts r) : JTold ts a h (run ts a r) (run ts h r) := ⟨⟨r, hr, rfl, rfl⟩, fun q hq e => t q r hq hr e⟩
theorem JTold.rng {ts : Ts} {a h t x : Int} (w : Wf ts) (hh : 0 ≤ h ∧ h < (nS ts : Int)) (j : JTold ts a h t x) : 0 ≤ x ∧ x < (nS ts : Int) := by
  obtain ⟨⟨r, hr, _, rfl⟩, _⟩ := j
  exact w.run r h hr hh
theorem tp_tells {ts : Ts} {st : Int} {r : Option (Int × Int × List Int × List Int)} (t : TPaper ts st r) : r.isNone = true ↔ Tells ts st := by
  cases r with
  | none =>
    refine ⟨fun _ x hx d hd => ?_, fun _ => rfl⟩
    obtain ⟨F, hF, e⟩ := t x hx d hd
    exact (pp_none ⟨F, hF⟩).mp ⟨F, hF, e⟩
  | some z =>
    obtain ⟨x, d, r1, r2⟩ := z
    refine ⟨fun e => (by cases e), fun te => ?_⟩
    obtain ⟨h1, h2, h3, _⟩ := t
    obtain ⟨v1, v2, e1, e2⟩ := pp_some h3
    exact absurd (te x h1 d h2 r1 r2 v1 v2 e1) e2
end K1
namespace K1
open PySem PySem.Spec PyProof.Rows L2
/-- an orbit's states, in order -/
def OrbL (ts : Ts) (s : Int) (ns : List Int) : Prop := ns.Pairwise (· < ·) ∧ ∀ x, x ∈ ns ↔ Rch ts s x
def spTOrb (M CS CR : Addr) : Sp := fun vs H Q E => ∃ m ta ts v, vs = [.ref m, v] ∧ MachAt M H m ta (vts ts) ∧ Wf ts ∧ (∃ (K : PySem.W.Frag) (o : Option (List V)), KV K H v o) ∧ (belowB v (nS ts : Int) = false → Rz CS "state" v H E) ∧
  (∀ s, v = .int s → (0 ≤ s ∧ s < (nS ts : Int)) → (¬ Tells ts s → ∀ H', Same H H' → Rz CR "at" (.int s) H' E) ∧ (Tells ts s → ∀ (ns : List Int) p H', Same H H' → OrbL ts s ns → H' p = some (.tup (vrow ns)) → Q (.ref p) H'))
section
variable {P : Program} {w : World} {K : PySem.W.Frag} {mg : Str → Option Value} {base : Heap}
theorem scTo : FnScope ["machine", "state"] ["machine", "state"] (defScope sTOrb) := ⟨rfl, rfl, rfl, by decide +kernel, rfl, by decide +kernel, by decide +kernel⟩
theorem ok_torb {f fT fO CS CR M cI : Addr} {fd fdT fdO : FuncData} {bm : List Value} {ql : Str} (D : Df K mg "told_orbit" sTOrb ["machine", "state"] f fd) (DT : Df K mg "is_telling" sIsTell ["machine", "state"] fT fdT) (DO : Df K mg "orbit" sOrbit ["machine", "state"] fO fdO) (TX : LAt.Txt K mg "Refused" ql bm CR cI)
    (GT : FnOk P w K mg base (L2.CX P w) 6 fT fdT ["machine", "state"] (spIsTell M CS)) (GO : FnOk P w K mg base (L2.CX P w) 4 fO fdO ["machine", "state"] (spOrbit M CS)) : FnOk P w K mg base (L2.CX P w) 7 f fd ["machine", "state"] (spTOrb M CS CR) := by
  refine D.F.okX scTo (fun vs H Q E h => ?_) (fun cdv A outer s H vs Q E hr h => ?_)
  · obtain ⟨m, ta, ts, v, rfl, _⟩ := h
    rfl
  · obtain ⟨m, ta, ts, v, rfl, hM, hW, kv, q1, q2⟩ := h
    have r4 := hr.mono (show 4 ≤ 6 by decide)
    refine ⟨_, pss_cons (ps_if (pt_not (pt_val (pc DT GT hr (pass1 (takes_of rfl rfl rfl rfl)) (pa_cons (pv 0) (pa_cons (pv 1) pa_nil))))) (pss_one (ps_raise_LAt rfl TX hr (takes_of rfl rfl rfl rfl) (pa_cons (pv 1) pa_nil))) pss_nil)
      (pss_one (ps_ret (pc DO GO r4 (pass1 (takes_of rfl rfl rfl rfl)) (pa_cons (pv 0) (pa_cons (pv 1) pa_nil))))), ?_⟩
    refine ⟨_, rfl, _, rfl, m, ta, ts, v, rfl, hM, hW, kv, q1, fun st e hst r H' sm hT => ⟨_, rfl, ifD (fun e2 => ?_) fun e2 => ?_⟩⟩
    · subst e
      have nt : ¬ Tells ts st := fun te => by
        have := (tp_tells hT).mpr te
        rw [this] at e2
        cases e2
      exact ⟨_, rfl, _, rfl, fun d hd => (q2 st rfl hst).1 nt H' sm d _ (same_new hd) hd upd_same⟩
    · subst e
      have te : Tells ts st := (tp_tells hT).mp (by simpa using e2)
      refine ⟨_, rfl, _, rfl, m, ta, ts, _, rfl, hM.same sm, hW, ⟨K, _, .int _⟩, fun eb => ?_, fun st' e' hst' ns p H2 s2 asc mem hp => ?_⟩
      · exfalso
        have : (decide (0 ≤ st) && decide (st < (nS ts : Int))) = false := eb
        rw [decide_eq_true hst.1, decide_eq_true hst.2] at this
        cases this
      · injection e' with e'
        subst e'
        exact (q2 st rfl hst).2 te ns p H2 (sm.trans s2) ⟨asc, mem⟩ hp
end
end K1
/-! ### a tuple made of a list, its object known -/
namespace L2
open PySem PySem.Spec PyProof.Rows
section
variable {X : Cx}
/-- tuple(xs), xs a list: the new object is a tuple without a dict -/
theorem call_tupleF : CallR X (.type "tuple") (fun xs H Q => ∃ p ys, xs = [.ref p] ∧ SqL X.K H p ys ∧ ∀ (l : Addr) (o : Obj), o.cls = .type "tuple" → o.dict = none → H l = none → Q (.ref l) (upd H l (.frz o (.tup ys)))) := by
  intro pins s σ H xs us Q I r h
  obtain ⟨p, ys, rfl, hq, q⟩ := h
  obtain ⟨u, rfl, rx⟩ := vals1 r
  cases rx
  obtain ⟨its, r', pl, hz⟩ := I.list hq
  have hlen := r'.length
  refine call_tuple_list pl.isList (fun h' kp => ?_) (by simp only [List.size_toArray] <;> omega)
  have I1 : Inv X pins σ H { s with heap := h' } := I.kept (t' := s.toks) kp
  have I2 : Inv X pins σ (upd H h'.objs.size (.frz { cls := .type "tuple", data := .seq its.toArray } (.tup ys))) { s with heap := h'.push { cls := .type "tuple", data := .seq its.toArray } } :=
    I1.laid (t' := s.toks) (fun b o e => Heap.get?_push_of_some _ e) (Nat.le_refl _) (show ObjOk X.prog X.w _ _ _ (.frz _ (.tup ys)) from ⟨Heap.get?_push_size _ rfl, hz, its, r', IsTup.new _ _⟩)
  exact ⟨.ref h'.objs.size, _, I2, rfl, q _ _ rfl rfl (I1.hok.fresh (Nat.le_refl _))⟩
def FrT (H : Hp) (x : V) : Prop := ∃ p ob o', x = .ref p ∧ H p = some (.frz ob o') ∧ ob.cls = .type "tuple" ∧ ob.dict = none
def tBMF (r : V → List V → Hp → VK → Prop) (to : TE) (t : TA) : TE := fun σ H Q => to σ H fun x H1 => FrT H1 x ∧ t σ H1 fun xs H2 => r x xs H2 Q
variable {o e : Expr} {es : List Expr} {to : TE} {t : TA} {name : Str} {apos cpos : Pos} {id : String} {r : V → List V → Hp → VK → Prop}
/-- a method of a tuple whose object is known -/
theorem pe_bmF (pa : PlainAttrs "tuple") (slot : Slot "tuple" name id) (hty : typeOf (.builtin id) = pure (.type "method_descriptor")) (hm : MtR X id r) (ho : PE X o to) (ha : PA X (e :: es) t)
    (hbase : attributeBase o name X.env (eval o X.env) = eval o X.env := by rfl)
    (hfew : ((backTo cpos (starEach (e :: es) X.env)).all (fun x => !x.1) && (backToKw cpos (keywordEach [] X.env)).all (fun x => x.1.isSome)
      && decide ((e :: es).length + ([] : List Keyword).length + (if ([] : List Keyword).isEmpty then 0 else 1) < 30)) = true := by rfl)
    (hline : (apos.endLine == cpos.line) = true := by rfl) (hs : starEach (e :: es) X.env = (false, eval e X.env) :: starEach es X.env := by rfl) (hplain : (backTo cpos (starEach es X.env)).any (·.1) = false := by rfl) :
    PE X (.Call (.Attribute o name apos) (e :: es) [] cpos) (tBMF r to t) := by
  refine ⟨fun pins s σ H Q I h => ?_⟩
  refine wpAny_Call_method_late hbase hfew hline rfl (thn (ho.run pins s σ H _ I h) fun v s1 ⟨x, H1, I1, r1, ty, q1⟩ => ?_)
  obtain ⟨p, ob, o', rfl, hf, hc, hd⟩ := ty
  cases r1
  have hg : s1.heap.get? p = some ob := (I1.hok p _ hf).1
  refine ⟨"tuple", id, pa, slot, hty, ⟨ob, hg, hc⟩, fun a e => (by cases e; exact ⟨ob, hg, hd⟩), ?_⟩
  have hA := ha.run cpos pins s1 σ H1 _ I1 q1
  rw [hs] at hA ⊢
  refine Calls.callWith_builtin (by show (false || (backTo cpos (starEach es X.env)).any (·.1)) = false; rw [hplain] <;> rfl) (Calls.evalArgs_plain ?_)
  exact thn hA fun us s2 ⟨vs, H2, I2, r2, q2⟩ => hm pins s2 σ H2 (.ref p) vs _ us Q I2 rfl r2 q2
end
end L2
namespace K1
open PySem PySem.Spec PyProof.Rows L2
/-- nothing leaves -/
theorem passF {X : Cx} : Passes (L2.CX X.prog X.w) X (fun _ _ _ => False) := passes_call LamX.takes0 fun _ _ _ _ h => h
theorem noBad {n : Nat} {a h t : Int} {v : V} (ha : 0 ≤ a ∧ a < (n : Int)) (hh : 0 ≤ h ∧ h < (n : Int)) (ht : 0 ≤ t ∧ t < (n : Int)) (b : FstBad n [.int a, .int h, .int t] v) : False := by
  obtain ⟨i, e, e2, _⟩ := b
  have hm := List.mem_of_getElem? e
  simp only [List.mem_cons, List.mem_nil_iff, or_false] at hm
  rcases hm with rfl | rfl | rfl
  · rw [belowI ha] at e2; cases e2
  · rw [belowI hh] at e2; cases e2
  · rw [belowI ht] at e2; cases e2
theorem kv3 {K : PySem.W.Frag} {H : Hp} {a h t : Int} : ∀ x ∈ [V.int a, .int h, .int t], ∃ (K' : PySem.W.Frag) (o : Option (List V)), KV K' H x o := fun x hx => by
  simp only [List.mem_cons, List.mem_nil_iff, or_false] at hx
  rcases hx with rfl | rfl | rfl <;> exact ⟨K, _, .int _⟩
theorem JTold.one {ts : Ts} {a h t x y : Int} (j : JTold ts a h t x) (k : JTold ts a h t y) : x = y := by
  obtain ⟨⟨r, hr, e1, e2⟩, _⟩ := j
  rw [← e2]
  exact k.2 r hr e1
/-- a told join, asked -/
theorem joinP {M CS CU m ta : Addr} {ts : Ts} {K : PySem.W.Frag} {a h t x : Int} {H : Hp} {Q : VK} {E : XK} (hM : MachAt M H m ta (vts ts)) (hW : Wf ts) (ha : 0 ≤ a ∧ a < (nS ts : Int)) (hh : 0 ≤ h ∧ h < (nS ts : Int)) (ht : 0 ≤ t ∧ t < (nS ts : Int)) (j : JTold ts a h t x)
    (q : ∀ H', Same H H' → Q (.int x) H') : spJoin M CS CU [.ref m, .int a, .int h, .int t] H Q E := by
  refine ⟨m, ta, ts, _, _, _, rfl, hM, hW, kv3 (K := K), fun v H' _ b => (noBad ha hh ht b).elim, fun a' h' t' z1 z2 z3 _ _ _ F H' s hF => ?_⟩
  injection z1 with z1
  injection z2 with z2
  injection z3 with z3
  subst z1
  subst z2
  subst z3
  have e := ends_told hF j
  refine ⟨fun y hy => ?_, fun ne => absurd (by rw [e]; rfl) ne⟩
  rw [e] at hy
  have hy : [x] = [y] := hy
  injection hy with hy
  subst hy
  exact q H' s
noncomputable def jn (ts : Ts) (a h t : Int) : Int := by
  classical
  exact if ex : ∃ x, JTold ts a h t x then ex.choose else 0
theorem jn_told {ts : Ts} {a h t x : Int} (j : JTold ts a h t x) : jn ts a h t = x := by
  classical
  have ex : ∃ x, JTold ts a h t x := ⟨x, j⟩
  unfold jn
  rw [dif_pos ex]
  exact (ex.choose_spec).one j
theorem Rch.refl {ts : Ts} {s : Int} : Rch ts s s := ⟨[], fun d hd => absurd hd (by simp), rfl⟩
theorem jn_ok {ts : Ts} {s a h t : Int} (te : Tells ts s) (ha : Rch ts s a) (hh : Rch ts a h) (ht : Rch ts a t) : JTold ts a h t (jn ts a h t) := by
  obtain ⟨r, hr, e⟩ := ht
  have j := (tells_all.mp te a ha h hh).j (r := r) hr
  rw [e] at j
  rw [jn_told j]
  exact j
theorem jn_rch {ts : Ts} {a h t : Int} (hh : Rch ts a h) (j : JTold ts a h t (jn ts a h t)) : Rch ts a (jn ts a h t) := by
  obtain ⟨⟨r, hr, _, e⟩, _⟩ := j
  exact hh.trans ⟨r, hr, e⟩
def spJRow (M : Addr) : Sp := fun vs H Q _ => ∃ m ta ts s h p ns, vs = [.ref m, .int s, .int h, .ref p] ∧ MachAt M H m ta (vts ts) ∧ Wf ts ∧ (0 ≤ s ∧ s < (nS ts : Int)) ∧ (0 ≤ h ∧ h < (nS ts : Int)) ∧ H p = some (.tup (vrow ns)) ∧ ns.length ≤ 100 ∧
  (∀ x ∈ ns, (0 ≤ x ∧ x < (nS ts : Int)) ∧ JTold ts s h x (jn ts s h x)) ∧ ∀ p' (ob : Obj) H', Same H H' → ob.cls = .type "tuple" → ob.dict = none → H' p' = some (.frz ob (.tup (vrow (ns.map (jn ts s h))))) → Q (.ref p') H'
section
variable {P : Program} {w : World} {K : PySem.W.Frag} {mg : Str → Option Value} {base : Heap}
abbrev nJR : List Str := ["machine", "state", "here", "states", "there"]
theorem scJR : FnScope nJR ["machine", "state", "here", "states"] (defScope sJRow) := ⟨rfl, rfl, rfl, by decide +kernel, rfl, by decide +kernel, by decide +kernel⟩
theorem ok_jrow {f fJ CS CU M : Addr} {fd fdJ : FuncData} (D : Df K mg "join_row" sJRow ["machine", "state", "here", "states"] f fd) (DJ : Df K mg "join" sJoin ["machine", "archive", "here", "there"] fJ fdJ) (B : Bt mg)
    (GJ : FnOk P w K mg base (L2.CX P w) 5 fJ fdJ ["machine", "archive", "here", "there"] (spJoin M CS CU)) : FnOk P w K mg base CX0 6 f fd ["machine", "state", "here", "states"] (spJRow M) := by
  refine D.F.ok scJR (fun vs H Q E h => ?_) (fun cdv A outer s H vs Q E hr h => ?_)
  · obtain ⟨m, ta, ts, s, h, p, ns, rfl, _⟩ := h
    rfl
  · obtain ⟨m, ta, ts, st, hh, p, ns, rfl, hM, hW, hs, hhr, hp, hl, ok, q⟩ := h
    refine ⟨_, pss_one (ps_ret (pe_callTy call_tupleF (by rfl) B.tuple PyProof.Rows.boot_tuple (pa_cons
        (pe_lc (own := [("there", 4)]) (g := gName 4) (tt := tYes) rfl scJR.nd (pi_tup (pv 3)) (blkOk_by (N := nJR) (sc := defScope sJRow) (by decide +kernel)) (fun _ _ _ _ _ => pg_name (i := 4) scJR.nd rfl (Or.inl rfl)) (fun _ _ _ _ _ => pts_nil)
          (fun _ _ _ _ _ => pc DJ GJ hr passF (pa_cons (pv 0) (pa_cons (pv 1) (pa_cons (pv 2) (pa_cons (pv 4) pa_nil)))))) pa_nil))), ?_⟩
    refine ⟨_, rfl, p, rfl, ⟨_, SqT.of hp⟩, fun D0 hD0 => lc_tup (K := K) (a := p) (xs := vrow ns) (fun k H3 => Same H H3 ∧ H3 D0 = some (.lst ((vrow (ns.map (jn ts st hh))).take k))) ⟨same_new hD0, by rw [upd_same]; rfl⟩ (fun k H3 _ ⟨s3, _⟩ => SqT.of (s3 _ _ hp)) ?_ ?_⟩
    · rintro k z H3 hz ⟨s3, hD3⟩
      obtain ⟨x, hx, rfl⟩ := vrow_at hz
      obtain ⟨hxr, hj⟩ := ok x (List.mem_of_getElem? hx)
      refine ⟨rfl, _, rfl, _, rfl, _, rfl, _, rfl, nilP (joinP (K := K) (hM.same s3) hW hs hhr hxr hj fun H4 s4 => ?_)⟩
      refine ⟨_, s4 _ _ hD3, by rw [List.length_take, vrow, List.length_map, List.length_map, sizeLine_eq]; omega, ?_, ?_⟩
      · intro c o e
        rw [upd_ne (ne_of_none e hD0)]
        exact s4 _ _ (s3 _ _ e)
      · have ez : (vrow (ns.map (jn ts st hh)))[k]? = some (V.int (jn ts st hh x)) := by rw [vrow, List.map_map, List.getElem?_map, hx]; rfl
        rw [upd_same, take_succ ez]
    · rintro H3 ⟨s3, hD3⟩
      have etk : (vrow (ns.map (jn ts st hh))).take (vrow ns).length = vrow (ns.map (jn ts st hh)) := by rw [List.take_of_length_le]; rw [vrow, vrow, List.length_map, List.length_map, List.length_map]; exact Nat.le_refl _
      rw [etk] at hD3
      refine ⟨D0, _, rfl, SqL.of hD3, fun en ob h1 h2 hen => ?_⟩
      exact q en ob _ (s3.trans (same_new hen)) h1 h2 upd_same
end
end K1
namespace K1
open PySem PySem.Spec PyProof.Rows L2
theorem OrbL.rng {ts : Ts} {s : Int} {ns : List Int} (w : Wf ts) (hs : 0 ≤ s ∧ s < (nS ts : Int)) (o : OrbL ts s ns) {x : Int} (hx : x ∈ ns) : 0 ≤ x ∧ x < (nS ts : Int) := ((o.2 x).mp hx).rng w hs
theorem OrbL.nd {ts : Ts} {s : Int} {ns : List Int} (o : OrbL ts s ns) : ns.Nodup := o.1.imp fun {a b} h => by omega
theorem OrbL.len {ts : Ts} {s : Int} {ns : List Int} (w : Wf ts) (hs : 0 ≤ s ∧ s < (nS ts : Int)) (o : OrbL ts s ns) : ns.length ≤ 12 := nodup_le 12 _ o.nd fun x hx => by
  have := o.rng w hs hx
  have := w.s12
  omega
theorem OrbL.one {ts : Ts} {s : Int} {ns ms : List Int} (o : OrbL ts s ns) (p : OrbL ts s ms) : ns = ms := by
  have sub : ∀ (a b : List Int), a.Pairwise (· < ·) → b.Pairwise (· < ·) → (∀ x, x ∈ a ↔ x ∈ b) → a = b := fun a => by
    induction a with
    | nil =>
      intro b _ _ h
      cases b with
      | nil => rfl
      | cons y b => exact absurd ((h y).mpr List.mem_cons_self) (by simp)
    | cons x a ih =>
      intro b ha hb h
      cases b with
      | nil => exact absurd ((h x).mp List.mem_cons_self) (by simp)
      | cons y b =>
        have ha' := List.pairwise_cons.mp ha
        have hb' := List.pairwise_cons.mp hb
        have e : x = y := by
          rcases List.mem_cons.mp ((h x).mp List.mem_cons_self) with e | e
          · exact e
          · rcases List.mem_cons.mp ((h y).mpr List.mem_cons_self) with e' | e'
            · exact e'.symm
            · have := hb'.1 x e
              have := ha'.1 y e'
              omega
        subst e
        refine congrArg (x :: ·) (ih b ha'.2 hb'.2 fun z => ?_)
        constructor
        · intro hz
          rcases List.mem_cons.mp ((h z).mp (List.mem_cons_of_mem _ hz)) with e | e
          · have := ha'.1 z hz
            omega
          · exact e
        · intro hz
          rcases List.mem_cons.mp ((h z).mpr (List.mem_cons_of_mem _ hz)) with e | e
          · have := hb'.1 z hz
            omega
          · exact e
  exact sub ns ms o.1 p.1 fun x => (o.2 x).trans (p.2 x).symm
/-- a tuple of tuples of numbers -/
def RowsF (H : Hp) (as : List Addr) (rs : List (List Int)) : Prop := as.length = rs.length ∧ ∀ (i : Nat) a r, as[i]? = some a → rs[i]? = some r → ∃ ob, H a = some (.frz ob (.tup (vrow r)))
theorem RowsF.same {H H' : Hp} {as : List Addr} {rs : List (List Int)} (h : RowsF H as rs) (s : Same H H') : RowsF H' as rs := ⟨h.1, fun i a r e1 e2 => let ⟨ob, e⟩ := h.2 i a r e1 e2; ⟨ob, s _ _ e⟩⟩
theorem RowsF.snoc {H : Hp} {as : List Addr} {rs : List (List Int)} {a : Addr} {r : List Int} (h : RowsF H as rs) (ha : ∃ ob, H a = some (.frz ob (.tup (vrow r)))) : RowsF H (as ++ [a]) (rs ++ [r]) := by
  refine ⟨by rw [List.length_append, List.length_append, h.1]; rfl, fun i c q e1 e2 => ?_⟩
  by_cases hi : i < as.length
  · rw [List.getElem?_append_left hi] at e1
    rw [List.getElem?_append_left (by rw [← h.1]; exact hi)] at e2
    exact h.2 i c q e1 e2
  · have hl : i = as.length := by
      have := (List.getElem?_eq_some_iff.mp e1).1
      simp only [List.length_append, List.length_cons, List.length_nil] at this
      omega
    subst hl
    rw [List.getElem?_append_right (Nat.le_refl _), Nat.sub_self] at e1
    rw [h.1, List.getElem?_append_right (Nat.le_refl _), Nat.sub_self] at e2
    rw [← Option.some.inj e1, ← Option.some.inj e2]
    exact ha
def TupT (H : Hp) (p : Addr) (rows : List (List Int)) : Prop := ∃ as : List Addr, H p = some (.tup (as.map V.ref)) ∧ RowsF H as rows
theorem TupT.same {H H' : Hp} {p : Addr} {rows : List (List Int)} (h : TupT H p rows) (s : Same H H') : TupT H' p rows := let ⟨as, h1, h2⟩ := h; ⟨as, s _ _ h1, h2.same s⟩
noncomputable def jrows (ts : Ts) (s : Int) (ns : List Int) : List (List Int) := ns.map fun h => ns.map (jn ts s h)
def OTab (H : Hp) (p : Addr) (ts : Ts) (s : Int) (ns : List Int) : Prop := ∃ pn pt, H p = some (.tup [.ref pn, .ref pt]) ∧ H pn = some (.tup (vrow ns)) ∧ TupT H pt (jrows ts s ns)
def spOTab (M CS CR : Addr) : Sp := fun vs H Q E => ∃ m ta ts v, vs = [.ref m, v] ∧ MachAt M H m ta (vts ts) ∧ Wf ts ∧ (∃ (K : PySem.W.Frag) (o : Option (List V)), KV K H v o) ∧ (belowB v (nS ts : Int) = false → Rz CS "state" v H E) ∧
  (∀ s, v = .int s → (0 ≤ s ∧ s < (nS ts : Int)) → (¬ Tells ts s → ∀ H', Same H H' → Rz CR "at" (.int s) H' E) ∧ (Tells ts s → ∀ (ns : List Int) p H', Same H H' → OrbL ts s ns → OTab H' p ts s ns → Q (.ref p) H'))
section
variable {P : Program} {w : World} {K : PySem.W.Frag} {mg : Str → Option Value} {base : Heap}
abbrev nOT : List Str := ["machine", "state", "states", "here"]
theorem scOT : FnScope nOT ["machine", "state"] (defScope sOTab) := ⟨rfl, rfl, rfl, by decide +kernel, rfl, by decide +kernel, by decide +kernel⟩
theorem ok_otab {f fT fR CS CR M : Addr} {fd fdT fdR : FuncData} (D : Df K mg "orbit_table" sOTab ["machine", "state"] f fd) (DT : Df K mg "told_orbit" sTOrb ["machine", "state"] fT fdT) (DR : Df K mg "join_row" sJRow ["machine", "state", "here", "states"] fR fdR) (B : Bt mg)
    (GT : FnOk P w K mg base (L2.CX P w) 7 fT fdT ["machine", "state"] (spTOrb M CS CR)) (GR : FnOk P w K mg base CX0 6 fR fdR ["machine", "state", "here", "states"] (spJRow M)) : FnOk P w K mg base (L2.CX P w) 8 f fd ["machine", "state"] (spOTab M CS CR) := by
  refine D.F.okX scOT (fun vs H Q E h => ?_) (fun cdv A outer s H vs Q E hr h => ?_)
  · obtain ⟨m, ta, ts, v, rfl, _⟩ := h
    rfl
  · obtain ⟨m, ta, ts, v, rfl, hM, hW, kv, q1, q2⟩ := h
    have r6 := hr.mono (show 6 ≤ 7 by decide)
    refine ⟨_, pss_cons (ps_set (i := 2) scOT.nd rfl (.inr rfl) (pc DT GT hr (pass1 (takes_of rfl rfl rfl rfl)) (pa_cons (pv 0) (pa_cons (pv 1) pa_nil))))
      (pss_one (ps_ret (pe_tup (pa_cons (pv 2) (pa_cons (pe_callTy call_tuple_of (by rfl) B.tuple PyProof.Rows.boot_tuple (pa_cons
        (pe_lc (own := [("here", 3)]) (g := gName 3) (tt := tYes) rfl scOT.nd (pi_tup (pv 2)) (blkOk_by (N := nOT) (sc := defScope sOTab) (by decide +kernel)) (fun _ _ _ _ _ => pg_name (i := 3) scOT.nd rfl (Or.inl rfl)) (fun _ _ _ _ _ => pts_nil)
          (fun _ _ _ _ _ => pc DR GR r6 pass0 (pa_cons (pv 0) (pa_cons (pv 1) (pa_cons (pv 3) (pa_cons (pv 2) pa_nil)))))) pa_nil)) pa_nil))))), ?_⟩
    refine ⟨_, rfl, _, rfl, m, ta, ts, v, rfl, hM, hW, kv, q1, fun st e hst => ⟨fun nt H' s1 => (q2 st e hst).1 nt H' s1, fun te ns p H1 s1 on hp => ?_⟩⟩
    subst e
    refine gn ?_
    dsimp only [List.set]
    have q := (q2 st rfl hst).2 te
    have l12 := on.len hW hst
    refine ⟨_, rfl, _, rfl, p, rfl, ⟨_, SqT.of hp⟩, fun D0 hD0 => lc_tup (K := K) (a := p) (xs := vrow ns) (fun k H3 => Same H1 H3 ∧ ∃ as : List Addr, H3 D0 = some (.lst (as.map V.ref)) ∧ RowsF H3 as ((jrows ts st ns).take k)) ⟨same_new hD0, [], by rw [upd_same]; rfl, rfl, fun i a r e => by cases e⟩ (fun k H3 _ ⟨s3, _⟩ => SqT.of (s3 _ _ hp)) ?_ ?_⟩
    · rintro k z H3 hz ⟨s3, as, hD3, hR⟩
      obtain ⟨x, hx, rfl⟩ := vrow_at hz
      have hxR := (on.2 x).mp (List.mem_of_getElem? hx)
      refine ⟨rfl, _, rfl, _, rfl, _, rfl, _, rfl, nilP ⟨m, ta, ts, st, x, p, ns, rfl, (hM.same s1).same s3, hW, hst, hxR.rng hW hst, s3 _ _ hp, by omega, fun y hy => ⟨on.rng hW hst hy, jn_ok te Rch.refl hxR ((on.2 y).mp hy)⟩, fun p' ob H4 s4 _ _ hp' => ?_⟩⟩
      have hk : (jrows ts st ns)[k]? = some (ns.map (jn ts st x)) := by rw [jrows, List.getElem?_map, hx]; rfl
      have la : as.length ≤ 12 := by
        have := hR.1
        rw [List.length_take, jrows, List.length_map] at this
        omega
      refine ⟨_, s4 _ _ hD3, by rw [List.length_map, sizeLine_eq]; omega, ?_, as ++ [p'], ?_, ?_⟩
      · intro c o e
        rw [upd_ne (ne_of_none e hD0)]
        exact s4 _ _ (s3 _ _ e)
      · rw [upd_same, List.map_append]; rfl
      · rw [take_succ hk]
        have hR' := (hR.same s4).snoc ⟨ob, hp'⟩
        refine ⟨hR'.1, fun i a r e1 e2 => ?_⟩
        obtain ⟨ob', z⟩ := hR'.2 i a r e1 e2
        refine ⟨ob', ?_⟩
        rw [upd_ne]
        · exact z
        · intro w0
          rw [w0, s4 _ _ hD3] at z
          cases z
    · rintro H3 ⟨s3, as, hD3, hR⟩
      rw [List.take_of_length_le (by rw [jrows, vrow, List.length_map, List.length_map]; exact Nat.le_refl _)] at hR
      refine ⟨D0, _, rfl, .inl ⟨SqL.of hD3, fun en hen => ?_⟩⟩
      have s4 := same_new (o := HO.tup (as.map V.ref)) hen
      refine ⟨(by show 2 ≤ sizeLine; decide), fun p2 hp2 => ?_⟩
      have s5 := s4.trans (same_new (o := HO.tup [.ref p, .ref en]) hp2)
      exact q ns p2 _ ((s1.trans s3).trans s5) on ⟨p, en, upd_same, s5 _ _ (s3 _ _ hp), as, (same_new hp2) _ _ upd_same, hR.same s5⟩
end
end K1
namespace K1
open PySem PySem.Spec PyProof.Rows L2
theorem vrow_inj : ∀ {a b : List Int}, vrow a = vrow b → a = b
  | [], [], _ => rfl
  | [], _ :: _, h => by cases h
  | _ :: _, [], h => by cases h
  | x :: a, y :: b, h => by
    have h : (V.int x :: vrow a : List V) = V.int y :: vrow b := h
    injection h with h1 h2
    injection h1 with h1
    rw [h1, vrow_inj h2]
theorem inV_row (x : Int) (ns : List Int) : inV (.int x) (vrow ns) = decide (x ∈ ns) := by
  unfold inV vrow
  rw [List.any_map, Bool.eq_iff_iff, List.any_eq_true, decide_eq_true_iff]
  constructor
  · rintro ⟨y, hy, e⟩
    have e : (y == x) = true := e
    rw [beq_iff_eq] at e
    rw [← e]; exact hy
  · intro h
    exact ⟨x, h, by show (x == x) = true; simp⟩
theorem flat_row (ns : List Int) : (vrow ns).all flatV = true := by
  unfold vrow
  rw [List.all_map]
  exact List.all_eq_true.mpr fun _ _ => rfl
theorem asc_at {ns : List Int} (asc : ns.Pairwise (· < ·)) {i j : Nat} {z y : Int} (hi : ns[i]? = some z) (hj : ns[j]? = some y) (h : y < z) : j < i := by
  rcases Nat.lt_trichotomy j i with k | k | k
  · exact k
  · subst k
    rw [hi] at hj
    have := Option.some.inj hj
    omega
  · obtain ⟨g1, e1⟩ := List.getElem?_eq_some_iff.mp hi
    obtain ⟨g2, e2⟩ := List.getElem?_eq_some_iff.mp hj
    have := List.pairwise_iff_getElem.mp asc i j g1 g2 k
    omega
/-- an orbit, asked of a state -/
theorem orbitP {M CS m ta : Addr} {ts : Ts} {K : PySem.W.Frag} {s : Int} {H : Hp} {Q : VK} {E : XK} (hM : MachAt M H m ta (vts ts)) (hW : Wf ts) (hs : 0 ≤ s ∧ s < (nS ts : Int)) (q : ∀ (ns : List Int) p H', Same H H' → OrbL ts s ns → H' p = some (.tup (vrow ns)) → Q (.ref p) H') : spOrbit M CS [.ref m, .int s] H Q E :=
  ⟨m, ta, ts, _, rfl, hM, hW, ⟨K, _, .int _⟩, fun e => (by rw [belowI hs] at e; cases e), fun s' e _ ns p H' s1 asc mem hp => by
    injection e with e
    subst e
    exact q ns p H' s1 ⟨asc, mem⟩ hp⟩
def spGPap (M CS CR : Addr) : Sp := fun vs H Q E => ∃ m ta ts v, vs = [.ref m, v] ∧ MachAt M H m ta (vts ts) ∧ Wf ts ∧ (∃ (K : PySem.W.Frag) (o : Option (List V)), KV K H v o) ∧ (belowB v (nS ts : Int) = false → Rz CS "state" v H E) ∧
  (∀ s, v = .int s → (0 ≤ s ∧ s < (nS ts : Int)) → (¬ Tells ts s → ∀ H', Same H H' → Rz CR "at" (.int s) H' E) ∧
    (Tells ts s → ((∀ x, Rch ts s x → Rch ts x s) → ∀ H', Same H H' → Q .non H') ∧ ∀ x, Rch ts s x → ¬ Rch ts x s → (∀ y, Rch ts s y → y < x → Rch ts y s) → ∀ p H', Same H H' → H' p = some (.tup [.str "lost", .int x]) → Q (.ref p) H'))
section
variable {P : Program} {w : World} {K : PySem.W.Frag} {mg : Str → Option Value} {base : Heap}
abbrev nGP : List Str := ["machine", "state", "one"]
theorem scGP : FnScope nGP ["machine", "state"] (defScope sGPap) := ⟨rfl, rfl, rfl, by decide +kernel, rfl, by decide +kernel, by decide +kernel⟩
theorem ok_gpap {f fT fO CS CR M : Addr} {fd fdT fdO : FuncData} (D : Df K mg "group_paper" sGPap ["machine", "state"] f fd) (DT : Df K mg "told_orbit" sTOrb ["machine", "state"] fT fdT) (DO : Df K mg "orbit" sOrbit ["machine", "state"] fO fdO)
    (GT : FnOk P w K mg base (L2.CX P w) 7 fT fdT ["machine", "state"] (spTOrb M CS CR)) (GO : FnOk P w K mg base (L2.CX P w) 4 fO fdO ["machine", "state"] (spOrbit M CS)) : FnOk P w K mg base (L2.CX P w) 8 f fd ["machine", "state"] (spGPap M CS CR) := by
  refine D.F.okX scGP (fun vs H Q E h => ?_) (fun cdv A outer s H vs Q E hr h => ?_)
  · obtain ⟨m, ta, ts, v, rfl, _⟩ := h
    rfl
  · obtain ⟨m, ta, ts, v, rfl, hM, hW, kv, q1, q2⟩ := h
    have r4 := hr.mono (show 4 ≤ 7 by decide)
    refine ⟨_, pss_cons (ps_for (passes_of rfl) rfl (pi_tup (pc DT GT hr (pass1 (takes_of rfl rfl rfl rfl)) (pa_cons (pv 0) (pa_cons (pv 1) pa_nil)))) (pg_name (i := 2) scGP.nd rfl (.inl rfl))
        (pss_one (ps_if (pt_cmpR op_notIn_seq (pv 1) (pc DO GO r4 passF (pa_cons (pv 0) (pa_cons (pv 2) pa_nil))) rfl) (pss_one (ps_ret (pe_tup (pa_cons pe_str (pa_cons (pv 2) pa_nil))))) pss_nil)))
      (pss_one (ps_ret pe_non)), ?_⟩
    refine ⟨_, rfl, _, rfl, m, ta, ts, v, rfl, hM, hW, kv, q1, fun st e hst => ⟨fun nt H' s1 => (q2 st e hst).1 nt H' s1, fun te ns p H1 s1 on hp => ?_⟩⟩
    subst e
    have q := (q2 st rfl hst).2 te
    refine ⟨p, rfl, ⟨_, SqT.of hp⟩, for_tup (K := K) (a := p) (xs := vrow ns) (fun i σ H' => ∃ v2, σ = [some (.ref m), some (.int st), v2] ∧ Same H1 H' ∧ ∀ (j : Nat) y, j < i → ns[j]? = some y → Rch ts y st) ⟨none, rfl, fun _ _ e => e, fun j y hj => absurd hj (Nat.not_lt_zero _)⟩ (fun i σ H' _ ⟨_, _, s, _⟩ => SqT.of (s _ _ hp)) ?_ ?_⟩
    · rintro i x σ H2 hx ⟨v2, rfl, s2, ok⟩
      obtain ⟨z, hz, rfl⟩ := vrow_at hx
      have hzR := (on.2 z).mp (List.mem_of_getElem? hz)
      have hzr := hzR.rng hW hst
      refine gn ?_
      dsimp only [List.set]
      refine ⟨_, rfl, _, rfl, _, rfl, nilP (orbitP (K := K) ((hM.same s1).same s2) hW hzr fun ms p3 H3 s3 om hp3 => ?_)⟩
      refine ⟨p3, _, rfl, .inr (SqT.of hp3), rfl, flat_row ms, _, rfl, ifD (fun c => ?_) fun c => ?_⟩
      · have c : (!inV (.int st) (vrow ms)) = true := c
        rw [inV_row] at c
        have nr : ¬ Rch ts z st := fun w0 => by
          rw [decide_eq_true ((om.2 st).mpr w0)] at c
          cases c
        refine ⟨_, rfl, (by show 2 ≤ sizeLine; decide), fun p4 hp4 => ?_⟩
        refine q.2 z hzR nr (fun y hy hlt => ?_) p4 _ (((s1.trans s2).trans s3).trans (same_new hp4)) upd_same
        obtain ⟨j, hj⟩ := List.getElem?_of_mem ((on.2 y).mpr hy)
        exact ok j y (asc_at on.1 hz hj hlt) hj
      · have c : (!inV (.int st) (vrow ms)) = false := c
        rw [inV_row] at c
        have yr : Rch ts z st := (om.2 st).mp (by simpa using c)
        refine nxP ⟨_, rfl, s2.trans s3, fun j y hj hy => ?_⟩
        rcases Nat.lt_succ_iff_lt_or_eq.mp hj with w0 | w0
        · exact ok j y w0 hy
        · subst w0
          rw [hz] at hy
          rw [← Option.some.inj hy]; exact yr
    · rintro σ H2 ⟨v2, rfl, s2, ok⟩
      refine q.1 (fun x hx => ?_) H2 (s1.trans s2)
      obtain ⟨j, hj⟩ := List.getElem?_of_mem ((on.2 x).mpr hx)
      exact ok j x (by rw [vrow, List.length_map]; exact (List.getElem?_eq_some_iff.mp hj).1) hj
end
end K1
namespace K1
open PySem PySem.Spec PyProof.Rows L2
/-- t.index(i), t of whole numbers: the first place -/
theorem mt_tupIdx {X : Cx} : MtR X "tuple.index" (fun x xs H Q => ∃ p, ∃ ys : List Int, ∃ (z : Int) (j : Nat), x = .ref p ∧ xs = [.int z] ∧ SqT X.K H p (vrow ys) ∧ ys[j]? = some z ∧ (∀ m, m < j → ys[m]? ≠ some z) ∧ Q (.int (j : Nat)) H) := by
  intro pins s σ H x xs v us Q I rx rs h
  obtain ⟨p, ys, z, j, rfl, rfl, hq, hy, hno, q⟩ := h
  cases rx
  obtain ⟨u, rfl, t, rfl⟩ := vals1 rs
  obtain ⟨its, r, pl, hz⟩ := I.tuple hq
  obtain ⟨⟨cls, dd, dt, sl⟩, ho, hc, n, hd⟩ := pl
  simp only at hc hd
  subst hc
  subst hd
  have hl : its.toArray.size = ys.length := by rw [List.size_toArray, ← r.length, vrow, List.length_map]
  have hj : j < its.toArray.size := by rw [hl]; exact (List.getElem?_eq_some_iff.mp hy).1
  have at' : ∀ (m : Nat) (hm : m < its.toArray.size), ∃ y t', ys[m]? = some y ∧ its.toArray[m] = Value.int y t' := fun m hm => by
    have hm' : m < ys.length := by rw [← hl]; exact hm
    obtain ⟨w, hw, t', hw'⟩ := r.get (i := m) (x := .int ys[m]) (by rw [vrow, List.getElem?_map, List.getElem?_eq_getElem hm']; rfl)
    refine ⟨ys[m], t', List.getElem?_eq_getElem hm', ?_⟩
    have e := (List.getElem?_eq_some_iff.mp hw).2
    rw [← hw', ← e]
    simp
  refine call_meets PySem.F.slot_tuple_index ⟨_, ho, rfl⟩ PySem.F.entry_tuple_index (PySem.F.args_tuple_index_2 _ _) (TI.tuple_indexAt p its.toArray n dd sl (.int z t) (eqU (.int z)) j hj ?_ ?_)
    ⟨ho, fun w hw => mem_eqAt (x := .int z) ⟨t, rfl⟩ rfl r (flat_row ys) w (by simpa using hw), ⟨.int (j : Nat), H, I.tok _, ⟨_, rfl⟩, q⟩⟩
  · obtain ⟨y, t', h1, h2⟩ := at' j hj
    rw [hy] at h1
    cases h1
    rw [h2]
    show (z == z) = true
    exact beq_self_eq_true z
  · intro m hm hmj
    obtain ⟨y, t', h1, h2⟩ := at' m hm
    rw [h2]
    show (y == z) = false
    exact beq_eq_false_iff_ne.mpr fun e => hno m hmj (e ▸ h1)
end K1
namespace K1
open PySem PySem.Spec PyProof.Rows L2
/-- a state to which o leads back -/
def Back (ts : Ts) (s o x : Int) : Prop := Rch ts s o ∧ JTold ts s o x s
theorem Back.rch {ts : Ts} {s o x : Int} (b : Back ts s o x) : Rch ts s x := let ⟨_, ⟨r, hr, e, _⟩, _⟩ := b; ⟨r, hr, e⟩
theorem Back.home {ts : Ts} {s o x : Int} (b : Back ts s o x) : Rch ts o s := let ⟨_, ⟨r, hr, _, e⟩, _⟩ := b; ⟨r, hr, e⟩
theorem Back.one {ts : Ts} {s o x y : Int} (te : Tells ts s) (b : Back ts s o x) (c : Back ts s o y) : x = y := by
  obtain ⟨r, hr, e1, e2⟩ := b.2.1
  obtain ⟨q, hq, e3, e4⟩ := c.2.1
  have t := tells_all.mp te o b.1 s b.home r q hr hq (e2.trans e4.symm)
  rw [← e1, ← e3]
  exact t
theorem Back.jn {ts : Ts} {s o x : Int} (b : Back ts s o x) : jn ts s o x = s := jn_told b.2
def spInv (M CS CR : Addr) : Sp := fun vs H Q E => ∃ m ta ts v u, vs = [.ref m, v, u] ∧ MachAt M H m ta (vts ts) ∧ Wf ts ∧ (∃ (K : PySem.W.Frag) (o : Option (List V)), KV K H v o) ∧ (∃ (K : PySem.W.Frag) (o : Option (List V)), KV K H u o) ∧ (belowB v (nS ts : Int) = false → Rz CS "state" v H E) ∧
  (∀ s, v = .int s → (0 ≤ s ∧ s < (nS ts : Int)) → (¬ Tells ts s → ∀ H', Same H H' → Rz CR "at" (.int s) H' E) ∧
    (Tells ts s → (belowB u (nS ts : Int) = false → ∀ H', Same H H' → Rz CS "state" u H' E) ∧ ∀ o, u = .int o → (0 ≤ o ∧ o < (nS ts : Int)) →
      ((∀ x, ¬ Back ts s o x) → ∀ H', Same H H' → Rz CR "at" (.int o) H' E) ∧ (∀ x, Back ts s o x → ∀ H', Same H H' → Q (.int x) H')))
theorem fst_at {ns : List Int} {s : Int} (h : s ∈ ns) : ∃ j : Nat, ns[j]? = some s ∧ ∀ m, m < j → ns[m]? ≠ some s := by
  induction ns with
  | nil => exact absurd h (by simp)
  | cons y ns ih =>
    by_cases e : y = s
    · exact ⟨0, by rw [e]; rfl, fun m hm => absurd hm (Nat.not_lt_zero _)⟩
    · obtain ⟨j, h1, h2⟩ := ih ((List.mem_cons.mp h).resolve_left fun z => e z.symm)
      refine ⟨j + 1, h1, fun m hm => ?_⟩
      cases m with
      | zero => exact fun z => e (Option.some.inj z)
      | succ m => exact h2 m (by omega)
section
variable {P : Program} {w : World} {K : PySem.W.Frag} {mg : Str → Option Value} {base : Heap}
abbrev nIv : List Str := ["machine", "state", "one", "states", "joins"]
theorem scIv : FnScope nIv ["machine", "state", "one"] (defScope sInv) := ⟨rfl, rfl, rfl, by decide +kernel, rfl, by decide +kernel, by decide +kernel⟩
theorem ok_inv {f fT fN fR CS CR M cI : Addr} {fd fdT fdN fdR : FuncData} {bm : List Value} {ql : Str} (D : Df K mg "inverse_of" sInv ["machine", "state", "one"] f fd) (DT : Df K mg "told_orbit" sTOrb ["machine", "state"] fT fdT) (DN : Df K mg "need_state" sNeedS ["machine", "state"] fN fdN) (DR : Df K mg "join_row" sJRow ["machine", "state", "here", "states"] fR fdR)
    (TX : LAt.Txt K mg "Refused" ql bm CR cI) (GT : FnOk P w K mg base (L2.CX P w) 7 fT fdT ["machine", "state"] (spTOrb M CS CR)) (GN : FnOk P w K mg base (L2.CX P w) 3 fN fdN ["machine", "state"] (spNeed M CS "state" nS)) (GR : FnOk P w K mg base CX0 6 fR fdR ["machine", "state", "here", "states"] (spJRow M)) : FnOk P w K mg base (L2.CX P w) 8 f fd ["machine", "state", "one"] (spInv M CS CR) := by
  refine D.F.okX scIv (fun vs H Q E h => ?_) (fun cdv A outer s H vs Q E hr h => ?_)
  · obtain ⟨m, ta, ts, v, u, rfl, _⟩ := h
    rfl
  · obtain ⟨m, ta, ts, v, u, rfl, hM, hW, kv, ku, q1, q2⟩ := h
    have r3 := hr.mono (show 3 ≤ 7 by decide)
    have r6 := hr.mono (show 6 ≤ 7 by decide)
    refine ⟨_, pss_cons (ps_set (i := 3) scIv.nd rfl (.inl rfl) (pc DT GT hr (pass1 (takes_of rfl rfl rfl rfl)) (pa_cons (pv 0) (pa_cons (pv 1) pa_nil))))
      (pss_cons (ps_expr (pc DN GN r3 (pass1 (takes_of rfl rfl rfl rfl)) (pa_cons (pv 0) (pa_cons (pv 2) pa_nil))))
      (pss_cons (ps_if (pt_cmpR op_notIn_seq (pv 2) (pv 3) rfl) (pss_one (ps_raise_LAt rfl TX hr (takes_of rfl rfl rfl rfl) (pa_cons (pv 2) pa_nil))) pss_nil)
      (pss_cons (ps_set (i := 4) scIv.nd rfl (.inl rfl) (pc DR GR r6 pass0 (pa_cons (pv 0) (pa_cons (pv 1) (pa_cons (pv 2) (pa_cons (pv 3) pa_nil))))))
      (pss_cons (ps_if (pt_cmpR op_notIn_seq (pv 1) (pv 4) rfl) (pss_one (ps_raise_LAt rfl TX hr (takes_of rfl rfl rfl rfl) (pa_cons (pv 2) pa_nil))) pss_nil)
      (pss_one (ps_ret (pe_ix (ixTK (K := K) rfl) (pv 3) (pe_bmF PySem.F.plainAttrs_tuple PySem.F.slot_tuple_index PySem.F.type_tuple_index mt_tupIdx (pv 4) (pa_cons (pv 1) pa_nil)) (fun _ _ => rfl)))))))), ?_⟩
    refine ⟨_, rfl, _, rfl, m, ta, ts, v, rfl, hM, hW, kv, q1, fun st e hst => ⟨fun nt H' s1 => (q2 st e hst).1 nt H' s1, fun te ns p H1 s1 on hp => ?_⟩⟩
    subst e
    obtain ⟨qb, qo⟩ := (q2 st rfl hst).2 te
    refine gn ?_
    dsimp only [List.set]
    obtain ⟨K', o', ku'⟩ := ku
    refine ⟨_, rfl, _, rfl, m, ta, ts, u, rfl, hM.same s1, ⟨K', o', ku'.same s1⟩, fun e => ?_, fun e => qb e H1 s1⟩
    obtain ⟨o, rfl, ho⟩ := belowB_int e
    obtain ⟨qn, qy⟩ := qo o rfl ho
    refine ⟨_, rfl, _, rfl, p, _, rfl, .inr (SqT.of hp), rfl, flat_row ns, _, rfl, ifD (fun c => ?_) fun c => ?_⟩
    · have c : (!inV (.int o) (vrow ns)) = true := c
      rw [inV_row] at c
      have nr : ¬ Rch ts st o := fun w0 => by
        rw [decide_eq_true ((on.2 o).mpr w0)] at c
        cases c
      exact ⟨_, rfl, _, rfl, fun d hd => qn (fun x b => nr b.1) H1 s1 d _ (same_new hd) hd upd_same⟩
    · have c : (!inV (.int o) (vrow ns)) = false := c
      rw [inV_row] at c
      have hoR : Rch ts st o := (on.2 o).mp (by simpa using c)
      have l12 := on.len hW hst
      refine nxP ⟨_, rfl, _, rfl, _, rfl, _, rfl, m, ta, ts, st, o, p, ns, rfl, hM.same s1, hW, hst, ho, hp, by omega, fun y hy => ⟨on.rng hW hst hy, jn_ok te Rch.refl hoR ((on.2 y).mp hy)⟩, fun pj oj H2 s2 oc od hpf => ?_⟩
      have hpj : SqT K H2 pj (vrow (ns.map (jn ts st o))) := .inl (.inr ⟨oj, hpf⟩)
      refine gn ?_
      dsimp only [List.set]
      refine ⟨_, rfl, _, rfl, pj, _, rfl, .inr hpj, rfl, flat_row _, _, rfl, ifD (fun c2 => ?_) fun c2 => ?_⟩
      · have c2 : (!inV (.int st) (vrow (ns.map (jn ts st o)))) = true := c2
        rw [inV_row] at c2
        refine ⟨_, rfl, _, rfl, fun d hd => qn (fun x b => ?_) H2 (s1.trans s2) d _ (same_new hd) hd upd_same⟩
        have : st ∈ ns.map (jn ts st o) := List.mem_map.mpr ⟨x, (on.2 x).mpr b.rch, b.jn⟩
        rw [decide_eq_true this] at c2
        cases c2
      · have c2 : (!inV (.int st) (vrow (ns.map (jn ts st o)))) = false := c2
        rw [inV_row] at c2
        obtain ⟨j, hj, hno⟩ := fst_at (by simpa using c2 : st ∈ ns.map (jn ts st o))
        have hj' := hj
        rw [List.getElem?_map] at hj'
        obtain ⟨x, hx, ex⟩ : ∃ x, ns[j]? = some x ∧ jn ts st o x = st := by
          cases e : ns[j]? with
          | none => rw [e] at hj'; cases hj'
          | some x => rw [e] at hj'; exact ⟨x, rfl, Option.some.inj hj'⟩
        have jt := jn_ok te Rch.refl hoR ((on.2 x).mp (List.mem_of_getElem? hx))
        rw [ex] at jt
        refine nxP ⟨_, rfl, _, rfl, ⟨pj, oj, _, rfl, hpf, oc, od⟩, _, rfl, nilP ⟨pj, _, st, j, rfl, rfl, hpj, hj, hno, p, _, (j : Int), .int x, rfl, rfl, SqT.of (s2 _ _ hp), atI_nat (j := j) (by rw [vrow, List.getElem?_map, hx]; rfl), qy x ⟨hoR, jt⟩ H2 (s1.trans s2)⟩⟩
end
end K1
namespace K1
open PySem PySem.Spec PyProof.Rows L2
def spTJoin (M CS CR : Addr) : Sp := fun vs H Q E => ∃ m ta ts v u a b, vs = [.ref m, v, u, a, b] ∧ MachAt M H m ta (vts ts) ∧ Wf ts ∧ (∃ (K : PySem.W.Frag) (o : Option (List V)), KV K H v o) ∧ (∃ (K : PySem.W.Frag) (o : Option (List V)), KV K H u o) ∧ (belowB v (nS ts : Int) = false → Rz CS "state" v H E) ∧
  (∀ s, v = .int s → (0 ≤ s ∧ s < (nS ts : Int)) → (¬ Tells ts s → ∀ H', Same H H' → Rz CR "at" (.int s) H' E) ∧
    (Tells ts s → (belowB u (nS ts : Int) = false → ∀ H', Same H H' → Rz CS "state" u H' E) ∧ ∀ o, u = .int o → (0 ≤ o ∧ o < (nS ts : Int)) →
      ∃ x h t, Back ts s o x ∧ a = .int h ∧ b = .int t ∧ Rch ts s h ∧ Rch ts s t ∧ (∀ H', Same H H' → Q (.int (jn ts s (jn ts s h x) t)) H')))
section
variable {P : Program} {w : World} {K : PySem.W.Frag} {mg : Str → Option Value} {base : Heap}
abbrev nTJ : List Str := ["machine", "state", "archive", "here", "there", "inverse"]
theorem scTJ : FnScope nTJ ["machine", "state", "archive", "here", "there"] (defScope sTJoin) := ⟨rfl, rfl, rfl, by decide +kernel, rfl, by decide +kernel, by decide +kernel⟩
theorem ok_tjoin {f fI fN fJ CS CR CU M : Addr} {fd fdI fdN fdJ : FuncData} (D : Df K mg "turned_join" sTJoin ["machine", "state", "archive", "here", "there"] f fd) (DI : Df K mg "inverse_of" sInv ["machine", "state", "one"] fI fdI) (DN : Df K mg "need_state" sNeedS ["machine", "state"] fN fdN) (DJ : Df K mg "join" sJoin ["machine", "archive", "here", "there"] fJ fdJ)
    (GI : FnOk P w K mg base (L2.CX P w) 8 fI fdI ["machine", "state", "one"] (spInv M CS CR)) (GN : FnOk P w K mg base (L2.CX P w) 3 fN fdN ["machine", "state"] (spNeed M CS "state" nS)) (GJ : FnOk P w K mg base (L2.CX P w) 5 fJ fdJ ["machine", "archive", "here", "there"] (spJoin M CS CU)) :
    FnOk P w K mg base (L2.CX P w) 9 f fd ["machine", "state", "archive", "here", "there"] (spTJoin M CS CR) := by
  refine D.F.okX scTJ (fun vs H Q E h => ?_) (fun cdv A outer s H vs Q E hr h => ?_)
  · obtain ⟨m, ta, ts, v, u, a, b, rfl, _⟩ := h
    rfl
  · obtain ⟨m, ta, ts, v, u, a, b, rfl, hM, hW, kv, ku, q1, q2⟩ := h
    have r3 := hr.mono (show 3 ≤ 8 by decide)
    have r5 := hr.mono (show 5 ≤ 8 by decide)
    refine ⟨_, pss_cons (ps_set (i := 5) scTJ.nd rfl (.inl rfl) (pc DI GI hr (pass1 (takes_of rfl rfl rfl rfl)) (pa_cons (pv 0) (pa_cons (pv 1) (pa_cons (pv 2) pa_nil)))))
      (pss_cons (ps_expr (pc DN GN r3 passF (pa_cons (pv 0) (pa_cons (pv 3) pa_nil))))
      (pss_cons (ps_expr (pc DN GN r3 passF (pa_cons (pv 0) (pa_cons (pv 4) pa_nil))))
      (pss_one (ps_ret (pc DJ GJ r5 passF (pa_cons (pv 0) (pa_cons (pv 1) (pa_cons (pc DJ GJ r5 passF (pa_cons (pv 0) (pa_cons (pv 1) (pa_cons (pv 3) (pa_cons (pv 5) pa_nil))))) (pa_cons (pv 4) pa_nil))))))))), ?_⟩
    refine ⟨_, rfl, _, rfl, _, rfl, m, ta, ts, v, u, rfl, hM, hW, kv, ku, q1, fun st e hst => ⟨fun nt H' s1 => (q2 st e hst).1 nt H' s1, fun te => ⟨fun eb H' s1 => ((q2 st e hst).2 te).1 eb H' s1, fun o eo ho => ?_⟩⟩⟩
    subst e
    subst eo
    obtain ⟨x, h, t, bk, rfl, rfl, rh, rt, q⟩ := ((q2 st rfl hst).2 te).2 o rfl ho
    have hhr := rh.rng hW hst
    have htr := rt.rng hW hst
    refine ⟨fun no => absurd bk (no x), fun y by' H1 s1 => ?_⟩
    obtain rfl := by'.one te bk
    refine gn ?_
    dsimp only [List.set]
    have hM1 := hM.same s1
    refine ⟨_, rfl, _, rfl, m, ta, ts, .int h, rfl, hM1, ⟨K, _, .int _⟩, fun _ => ?_, fun e => (by rw [belowI hhr] at e; cases e)⟩
    refine ⟨_, rfl, _, rfl, m, ta, ts, .int t, rfl, hM1, ⟨K, _, .int _⟩, fun _ => ?_, fun e => (by rw [belowI htr] at e; cases e)⟩
    have j1 := jn_ok te Rch.refl rh bk.rch
    have ry := jn_rch rh j1
    refine ⟨_, rfl, _, rfl, _, rfl, _, rfl, _, rfl, _, rfl, nilP (joinP (K := K) hM1 hW hst hhr (bk.rch.rng hW hst) j1 fun H2 s2 => ?_)⟩
    exact ⟨_, rfl, nilP (joinP (K := K) (hM1.same s2) hW hst (ry.rng hW hst) htr (jn_ok te Rch.refl ry rt) fun H3 s3 => q H3 ((s1.trans s2).trans s3))⟩
end
end K1
/-! set(xs) of a list of whole numbers, sorted(set(xs)); a dict display with one tuple key; the keys of a dict walked and kept -/
namespace K1
open PySem PySem.Spec PyProof.Rows L2
section
variable {P : Program} {w : World} {A : Around} {E : Value → Shared → Prop} {s : Shared}
theorem call_set_lstI {l : Addr} {items : Array Value} (ns : List Int) {Q : Value → Shared → Prop} (hh : A.handled = none) (hl : s.heap.IsList l items) (hit : IntsAre items.toList ns) (hb : ns.length + 1 < scanBound)
    (h : ∀ (h' : Heap) (tk c : Nat), SetR w h' s.heap.objs.size (fun j => decide (j ∈ ns)) c → c ≤ ns.length → (∀ b o, s.heap.get? b = some o → h'.get? b = some o) → Q (.ref s.heap.objs.size) { s with heap := h', toks := tk }) :
    wpAny (model P w) A (call (.type "set") [.ref l]) Q E s := by
  have hisz : items.size = ns.length := by
    have q := IntsAre.length hit
    rw [Array.length_toList] at q
    exact q
  obtain ⟨c, tl, hmro⟩ := F.called_set.mro
  have hmade := F.called_set.made
  have hsub := F.called_set.sub
  refine wpAny_call (codeAny_of_tree ?_)
  show wpAny _ _ (callAny (.type "set") _) _ _ _
  refine wpAny_pure ⟨Code.quiet_builtin _ (by decide +kernel), codeAny_builtin F.entry_type_call ?_⟩
  rw [Around.under_plain (weight_type_call_type "set" [.ref l] []) rfl]
  have h1 := F.called_set.notType
  have h2 := F.called_set.canCreate
  have hct := F.typeCall_set_1 (.ref l)
  repeat (any_goals (first | assumption | wp_step))

  refine codeAny_mono (code_set_led1 (.ref l) (E := E) (Q₁ := fun obj s₁ => obj = .ref s.heap.objs.size ∧ s₁ = { s with heap := s.heap.push { cls := .type "set", dict := none, data := .set #[] 0 (.fresh 0 0 (!w.params.followText "set-order")) } }) ⟨rfl, rfl⟩) fun r s₁ hr => ?_
  cases r with
  | error e => exact hr
  | ok fl =>
    cases fl with
    | ret obj =>
      obtain ⟨rfl, rfl⟩ := hr
      have hS : (s.heap.push { cls := .type "set", dict := none, data := .set #[] 0 (.fresh 0 0 (!w.params.followText "set-order")) }).get? s.heap.objs.size = some { cls := .type "set", dict := none, data := .set #[] 0 (.fresh 0 0 (!w.params.followText "set-order")) } := Heap.get?_push_size _ rfl
      have hT : Shared.TypeIs { s with heap := s.heap.push { cls := .type "set", dict := none, data := .set #[] 0 (.fresh 0 0 (!w.params.followText "set-order")) } } (.ref s.heap.objs.size) "set" := ⟨_, hS, rfl⟩
      have hli := F.called_set.init.lookup
      have hbi := F.called_set.init.bind (.ref s.heap.objs.size)
      repeat (any_goals (first | assumption | wp_step))

      refine codeAny_mono (codeAny_call_builtin (R := wants (fun r s₂ => r = .none ∧ ∃ h' tk c, s₂ = { s with heap := h', toks := tk } ∧ SetR w h' s.heap.objs.size (fun j => decide (j ∈ ns)) c ∧ c ≤ ns.length ∧
          (∀ b o, s.heap.get? b = some o → h'.get? b = some o)) E) F.called_set.init.plain F.entry_set_init (check_set_init_1 hT ?_)) fun r₂ s₂ hr₂ => ?_
      · obtain ⟨ol, hol, hcl, nl, hdl⟩ := hl
        obtain ⟨ocls, odict, odata, oslots⟩ := ol
        simp only at hcl hdl
        subst hcl; subst hdl
        have hol' : (s.heap.push { cls := .type "set", dict := none, data := .set #[] 0 (.fresh 0 0 (!w.params.followText "set-order")) }).get? l = some { cls := .type "list", dict := odict, data := .seq items nl, slots := oslots } := Heap.get?_push_of_some _ hol
        have hsls := F.sub_list_set
        have hslf := F.sub_list_frozenset
        have hne : (Value.type "list" == Value.type "dict") = false := by decide
        have hl1 : (s.heap.push { cls := .type "set", dict := none, data := .set #[] 0 (.fresh 0 0 (!w.params.followText "set-order")) }).IsList l items := ⟨_, hol', rfl, nl, rfl⟩
        unfold Builtin.«set.__init__» noKeywords Builtin.Frozenset.updateFrom
        generalize hPI : pyIter = PI
        wp_walk
        subst hPI

        refine wpAny_pyIter_list hl1 ?_
        refine wpAny_bind (wpAny_runValue ?_)
        have hlS : l < s.heap.objs.size := Heap.lt_size hol
        have hh3 : A.in1.in1.in1.handled = none := by simp [hh]
        have hz1 : (s.heap.push { cls := .type "set", dict := none, data := .set #[] 0 (.fresh 0 0 (!w.params.followText "set-order")) }).objs.size = s.heap.objs.size + 1 := Heap.size_push ..
        have hneI : l ≠ (s.heap.push { cls := .type "set", dict := none, data := .set #[] 0 (.fresh 0 0 (!w.params.followText "set-order")) }).objs.size := by
          rw [Heap.size_push]; exact Nat.ne_of_lt (Nat.lt_succ_of_lt hlS)
        have hSf : s.heap.objs.size ∉ [(s.heap.push { cls := .type "set", dict := none, data := .set #[] 0 (.fresh 0 0 (!w.params.followText "set-order")) }).objs.size, l] := by
          rw [Heap.size_push]; simp only [List.mem_cons, List.mem_singleton, List.not_mem_nil, or_false, not_or]
          exact ⟨Nat.ne_of_lt (Nat.lt_succ_self _), Nat.ne_of_gt hlS⟩
        have hval : ∀ (i : Nat) (v : Value), items[i]? = some v → ∃ k t, ns[i]? = some k ∧ v = .int k t := fun i v hv => by
          have hi : i < ns.length := by rw [← hisz]; exact (Array.getElem?_eq_some_iff.mp hv).1
          obtain ⟨t, e⟩ := PyProof.Rows.IntsAre.int_at hit i v (by rw [Array.getElem?_toList]; exact hv)
          refine ⟨ns[i], t, List.getElem?_eq_getElem hi, ?_⟩
          rw [e, List.getD_eq_getElem?_getD, List.getElem?_eq_getElem hi] <;> rfl
        refine set_update_ints ((Walks.list hh3 _ l hneI items).toS) s.heap.objs.size
          hSf ns hisz hb hval (items.size - 0) 0 _ (by omega) (Nat.zero_le _)
          ⟨⟨_, Heap.get?_push_size _ rfl, rfl, rfl⟩, (hl1.push _)⟩ ?hS0 ?hR
        case hS0 =>
          have hget : ((s.heap.push { cls := .type "set", dict := none, data := .set #[] 0 (.fresh 0 0 (!w.params.followText "set-order")) }).push { cls := .type "list_iterator", data := .fields #[.ref l, .int 0 0] }).get? s.heap.objs.size
              = some { cls := .type "set", dict := none, data := .set #[] 0 (.fresh 0 0 (!w.params.followText "set-order")) } := Heap.get?_push_of_some _ hS
          exact ⟨0, Nat.le_refl 0, setR_new_at hget⟩
        case hR =>
          intro s' c' hm hc' hS'
          obtain ⟨h', g2, d', tk', os'⟩ := s'
          have eg : g2 = s.gens := hm.gens
          have ed : d' = s.drawn := hm.drawn
          have eo : os' = s.os := hm.os
          subst eg; subst ed; subst eo
          show wpAny _ _ _ _ _ _
          refine wpAny_pure ?_
          show wpAny _ _ (ret Value.none) _ _ _
          rw [hisz] at hc'
          refine wpAny_pure ⟨rfl, h', tk', c', rfl, hS', hc', fun b o e => ?_⟩
          have hb0 : b < s.heap.objs.size := Heap.lt_size e
          have hb1 : b ≠ s.heap.objs.size := Nat.ne_of_lt hb0
          have hb2 : b ≠ (s.heap.push { cls := .type "set", dict := none, data := .set #[] 0 (.fresh 0 0 (!w.params.followText "set-order")) }).objs.size := by
            rw [Heap.size_push]; exact Nat.ne_of_lt (Nat.lt_succ_of_lt hb0)
          exact hm.heap b o (by simp only [List.mem_cons, List.mem_singleton, List.not_mem_nil, or_false, not_or]; exact ⟨hb1, hb2⟩) (Heap.get?_push_of_some _ (Heap.get?_push_of_some _ e))

      · cases r₂ with
        | error e => exact hr₂
        | ok fl₂ =>
          cases fl₂ with
          | ret r =>
            obtain ⟨rfl, h', tk, c', rfl, hS', hc', hk'⟩ := hr₂
            repeat (any_goals (first | assumption | wp_step))
            exact h _ _ _ hS' hc' hk'
          | _ => exact hr₂.elim
    | _ => exact hr.elim

end
/-- set(xs), xs a list of whole numbers -/
def rSetI (K : PySem.W.Frag) (w : World) : List V → Hp → VK → Prop := fun xs H Q => ∃ (a : Addr) (ns : List Int), xs = [.ref a] ∧ SqL K H a (ns.map V.int) ∧ ns.length < 60 ∧
  ∀ p c, H p = none → c ≤ ns.length → Q (.ref p) (upd H p (SetO w p (fun j => decide (j ∈ ns)) c))
theorem cr_setI {X : Cx} (hc : X.calm = true) : CallR X (.type "set") (rSetI X.K X.w) := by
  intro pins s σ H xs us Q I r h
  obtain ⟨a, ns, rfl, hs, h60, q⟩ := h
  rw [Vals.ref1 r]
  obtain ⟨its, rv, pl, hz⟩ := I.list hs
  refine call_set_lstI ns (I.ok.hd hc) pl.isList (by simpa using rv.ints) (by unfold scanBound; omega) fun h' tk c R hcn k => ?_
  refine ⟨.ref _, upd H s.heap.objs.size (SetO X.w s.heap.objs.size (fun j => decide (j ∈ ns)) c), I.laid (t' := tk) k (Nat.le_refl _) (setO_new R), rfl, q _ c (I.hok.fresh (Nat.le_refl _)) hcn⟩
end K1
namespace K1
open PySem PySem.Spec PyProof.Rows L2
/-- set(xs), xs many whole numbers below a small one -/
def rSetB (K : PySem.W.Frag) (w : World) (B : Nat) : List V → Hp → VK → Prop := fun xs H Q => ∃ (a : Addr) (ns : List Int), xs = [.ref a] ∧ SqL K H a (ns.map V.int) ∧ ns.length < 4000 ∧ (∀ x ∈ ns, 0 ≤ x ∧ x < (B : Int)) ∧
  ∀ p c, H p = none → c ≤ B → Q (.ref p) (upd H p (SetO w p (fun j => decide (j ∈ ns)) c))
theorem setR_few {w : World} {h : Heap} {a : Addr} {ns : List Int} {c B : Nat} (R : SetR w h a (fun j => decide (j ∈ ns)) c) (hb : ∀ x ∈ ns, 0 ≤ x ∧ x < (B : Int)) : c ≤ B := by
  obtain ⟨o, es, ep, t, ho, hx, hd, hg, nd, mem, _, _, hn, _⟩ := R
  have := nodup_le B _ nd fun x hx => hb x (of_decide_eq_true ((mem x).mpr hx))
  rw [List.length_map, Array.length_toList] at this
  omega
theorem cr_setB {X : Cx} {K : PySem.W.Frag} {w : World} {B : Nat} (hK : X.K = K) (hw : X.w = w) (hc : X.calm = true) : CallR X (.type "set") (rSetB K w B) := by
  subst hK
  subst hw
  intro pins s σ H xs us Q I r h
  obtain ⟨a, ns, rfl, hs, h4, hb, q⟩ := h
  rw [Vals.ref1 r]
  obtain ⟨its, rv, pl, hz⟩ := I.list hs
  refine call_set_lstI ns (I.ok.hd hc) pl.isList (by simpa using rv.ints) (by unfold scanBound; omega) fun h' tk c R hcn k => ?_
  refine ⟨.ref _, upd H s.heap.objs.size (SetO X.w s.heap.objs.size (fun j => decide (j ∈ ns)) c), I.laid (t' := tk) k (Nat.le_refl _) (setO_new R), rfl, q _ c (I.hok.fresh (Nat.le_refl _)) (setR_few R hb)⟩
theorem piL {X : Cx} {K : PySem.W.Frag} {tg l : Expr} {tl : TE} (h : X.K = K) (hl : PE X l tl) : PI X tg l (iList K tl) := by
  subst h
  exact pi_list hl
theorem vrow_getD {xs : List Int} {i : Nat} (h : i < xs.length) : (vrow xs)[i]? = some (V.int (xs.getD i 0)) := by
  rw [vrow, List.getElem?_map, List.getD_eq_getElem?_getD, List.getElem?_eq_getElem h]; rfl
section
variable {ts : Ts} {F : List KR} {y h : Int}
theorem map_at (hF : Fst (actL ts) ts.length (idL (nS ts)) F) {e : KR} (he : e ∈ F) (hy : 0 ≤ y ∧ y < (nS ts : Int)) : e.1.getD y.toNat 0 = run ts y e.2 := by rw [(hF.mem he).1, idL_to hy.1 hy.2]
theorem thr_rch (hF : Fst (actL ts) ts.length (idL (nS ts)) F) (hy : 0 ≤ y ∧ y < (nS ts : Int)) (x : Int) : x ∈ thr F y.toNat ↔ Rch ts y x := by
  constructor
  · intro hx
    obtain ⟨e, he, rfl⟩ := List.mem_map.mp hx
    exact ⟨e.2, (hF.mem he).2.1, (map_at hF he hy).symm⟩
  · rintro ⟨r, hr, rfl⟩
    obtain ⟨j, r', hj, _⟩ := hF.all r hr
    exact List.mem_map.mpr ⟨_, List.mem_of_getElem? hj, by show (path (actL ts) (idL (nS ts)) r).getD y.toNat 0 = _; rw [idL_to hy.1 hy.2]⟩
theorem told_of (hF : Fst (actL ts) ts.length (idL (nS ts)) F) (hy : 0 ≤ y ∧ y < (nS ts : Int)) (hh : 0 ≤ h ∧ h < (nS ts : Int)) (c : ∀ e ∈ F, ∀ f ∈ F, e.1.getD y.toNat 0 = f.1.getD y.toNat 0 → e.1.getD h.toNat 0 = f.1.getD h.toNat 0) : Told ts y h := fun r q hr hq e => by
  obtain ⟨i, r', hi, _⟩ := hF.all r hr
  obtain ⟨j, q', hj, _⟩ := hF.all q hq
  have z := c _ (List.mem_of_getElem? hi) _ (List.mem_of_getElem? hj)
  have z : (path (actL ts) (idL (nS ts)) r).getD y.toNat 0 = (path (actL ts) (idL (nS ts)) q).getD y.toNat 0 → (path (actL ts) (idL (nS ts)) r).getD h.toNat 0 = (path (actL ts) (idL (nS ts)) q).getD h.toNat 0 := z
  rw [idL_to hy.1 hy.2, idL_to hy.1 hy.2, idL_to hh.1 hh.2, idL_to hh.1 hh.2] at z
  exact z e
theorem told_no (hF : Fst (actL ts) ts.length (idL (nS ts)) F) (hy : 0 ≤ y ∧ y < (nS ts : Int)) (hh : 0 ≤ h ∧ h < (nS ts : Int)) {e f : KR} (he : e ∈ F) (hf : f ∈ F) (k1 : e.1.getD y.toNat 0 = f.1.getD y.toNat 0) (k2 : e.1.getD h.toNat 0 ≠ f.1.getD h.toNat 0) : ¬ Told ts y h := fun t => by
  rw [map_at hF he hy, map_at hF hf hy] at k1
  rw [map_at hF he hh, map_at hF hf hh] at k2
  exact k2 (t _ _ (hF.mem he).2.1 (hF.mem hf).2.1 k1)
end
/-- where the one's ends are, the other's are by the same row -/
def EndsAt (H : Hp) (d : Addr) (ts : Ts) (a h : Int) : Prop := ∃ kvs : List (Key × V), H d = some (.dK kvs) ∧ kvs.length ≤ 1000 ∧ ∀ x v, valV kvs (Sum.inl x) = some v ↔ ∃ r, VRow ts r ∧ run ts a r = x ∧ v = .int (run ts h r)
def spLEnds : Sp := fun vs H Q _ => ∃ q y h F ts, vs = [.ref q, .int y, .int h] ∧ MapsAt H q F ∧ Fst (actL ts) ts.length (idL (nS ts)) F ∧ F.length ≤ 1000 ∧ Wf ts ∧ (0 ≤ y ∧ y < (nS ts : Int)) ∧ (0 ≤ h ∧ h < (nS ts : Int)) ∧
  (¬ Told ts y h → ∀ H', Same H H' → Q .non H') ∧ (Told ts y h → ∀ d H', Same H H' → EndsAt H' d ts y h → Q (.ref d) H')
section
variable {P : Program} {w : World} {K : PySem.W.Frag} {mg : Str → Option Value} {base : Heap}
abbrev nLe : List Str := ["_law_maps_here", "_law_archive", "_law_here", "_law_ends_here", "_law_one", "_law_row"]
theorem scLe : FnScope nLe ["_law_maps_here", "_law_archive", "_law_here"] (defScope sLEnds) := ⟨rfl, rfl, rfl, by decide +kernel, rfl, by decide +kernel, by decide +kernel⟩
theorem ok_lends {f : Addr} {fd : FuncData} (D : Df K mg "_law_ends" sLEnds ["_law_maps_here", "_law_archive", "_law_here"] f fd) (B : Bt mg) : FnOk P w K mg base CX0 1 f fd ["_law_maps_here", "_law_archive", "_law_here"] spLEnds := by
  refine D.F.ok scLe (fun vs H Q E h => ?_) (fun cdv A outer s H vs Q E hr h => ?_)
  · obtain ⟨q, y, h, F, ts, rfl, _⟩ := h
    rfl
  · obtain ⟨q, y, h, F, ts, rfl, hq, hF, hf, hW, hyr, hhr, qq⟩ := h
    have hu := hu_of hr
    refine ⟨_, pss_cons (ps_set (i := 3) scLe.nd rfl (.inl rfl) pe_dnewK)
          (pss_cons (ps_for PassesOwn.never rfl (piL (K := K) rfl (pv 0)) (pg_tup rfl (pgs_cons (pg_name (i := 4) scLe.nd rfl (.inl rfl)) (pgs_cons (pg_name (i := 5) scLe.nd rfl (.inl rfl)) pgs_nil)))
            (pss_one (ps_if (pt_cmpR op_ne (pe_dsetd (pv 3) (pe_ix (ixTK (K := K) rfl) (pv 4) (pv 1) (fun _ _ => rfl)) (pe_ix (ixTK (K := K) rfl) (pv 4) (pv 2) (fun _ _ => rfl)) ⟨by rfl, by rfl, by rfl, by rfl⟩) (pe_ix (ixTK (K := K) rfl) (pv 4) (pv 2) (fun _ _ => rfl)) (nomark _)) (pss_one (ps_ret pe_non)) pss_nil)))
      (pss_one (ps_ret (pv 3)))), ?_⟩
    obtain ⟨mas, hq1, hq2, hq3⟩ := hq
    have n12 := hW.s12
    have hxl : ∀ e ∈ F, e.1.length = nS ts := fun e he => by
      rw [(hF.mem he).1, path_run, List.length_map, idL, gL_len]
    intro d hd
    have s7 := same_new (o := HO.dK []) hd
    have hd7 : (upd H d (.dK [])) d = some (.dK []) := upd_same
    have nd : H d = none := hd
    generalize upd H d (.dK []) = H7 at s7 hd7 ⊢
    have nq : q ≠ d := ne_of_none hq1 nd
    refine ⟨_, rfl, q, rfl, ⟨_, SqL.of (s7 _ _ hq1)⟩, for_list (K := K) (a := q) (xs := mas.map V.ref) (fun j σ H' => ∃ u7 u8, σ = [some (.ref q), some (.int y), some (.int h), some (.ref d), u7, u8] ∧ (∀ c o, H7 c = some o → c ≠ d → H' c = some o) ∧
        (∃ kvs : List (Key × V), H' d = some (.dK kvs) ∧ kvs.length ≤ j ∧ ∀ x v, valV kvs (Sum.inl x) = some v ↔ ∃ (i' : Nat) (e : KR), i' < j ∧ F[i']? = some e ∧ e.1.getD y.toNat 0 = x ∧ v = .int (e.1.getD h.toNat 0)) ∧
        ∀ (i1 i2 : Nat) (e f : KR), i1 < j → i2 < j → F[i1]? = some e → F[i2]? = some f → e.1.getD y.toNat 0 = f.1.getD y.toNat 0 → e.1.getD h.toNat 0 = f.1.getD h.toNat 0)
      ⟨_, _, rfl, fun c o e _ => e, ⟨[], hd7, Nat.le_refl _, fun x v => ⟨fun z => (by cases z), fun ⟨i', e, z, _⟩ => absurd z (Nat.not_lt_zero _)⟩⟩, fun i1 i2 e f z => absurd z (Nat.not_lt_zero _)⟩ (fun i σ H' _ ⟨_, _, _, kp, _⟩ => SqL.of (kp _ _ (s7 _ _ hq1) nq)) ?_ ?_⟩
    · rintro j x3 σ H8 hx3 ⟨u7, u8, rfl, kp, ⟨kvs, hk1, hk2, hk3⟩, cons⟩
      obtain ⟨ma, hma, rfl⟩ : ∃ ma, mas[j]? = some ma ∧ x3 = V.ref ma := by
        rw [List.getElem?_map] at hx3
        cases e : mas[j]? with
        | none => rw [e] at hx3; cases hx3
        | some t => rw [e] at hx3; exact ⟨t, rfl, (Option.some.inj hx3).symm⟩
      have hjF : j < F.length := by rw [← hq2]; exact (List.getElem?_eq_some_iff.mp hma).1
      obtain ⟨e, he⟩ : ∃ e, F[j]? = some e := ⟨F[j], List.getElem?_eq_getElem hjF⟩
      obtain ⟨xb, xc, g1, g2, _⟩ := hq3 j ma e.1 e.2 hma he
      have lx := hxl e (List.mem_of_getElem? he)
      have tupD : ∀ c xs, H c = some (.tup xs) → H8 c = some (.tup xs) := fun c xs g => kp _ _ (s7 _ _ g) fun z => by
        have := g
        rw [z, nd] at this
        cases this
      have t1 := tupD _ _ g1
      have t2 := tupD _ _ g2
      have ay : atI (vrow e.1) y = some (V.int (e.1.getD y.toNat 0)) := at_of (j := y.toNat) (by omega) (vrow_getD (by omega))
      have ah : atI (vrow e.1) h = some (V.int (e.1.getD h.toNat 0)) := at_of (j := h.toNat) (by omega) (vrow_getD (by omega))
      have more : (∀ (i1 : Nat) (f : KR), i1 < j → F[i1]? = some f → f.1.getD y.toNat 0 = e.1.getD y.toNat 0 → f.1.getD h.toNat 0 = e.1.getD h.toNat 0) → ∀ (i1 i2 : Nat) (f g : KR), i1 < j + 1 → i2 < j + 1 → F[i1]? = some f → F[i2]? = some g → f.1.getD y.toNat 0 = g.1.getD y.toNat 0 → f.1.getD h.toNat 0 = g.1.getD h.toNat 0 := fun c i1 i2 f g l1 l2 h1 h2 k => by
        rcases Nat.lt_succ_iff_lt_or_eq.mp l1 with a1 | a1 <;> rcases Nat.lt_succ_iff_lt_or_eq.mp l2 with a2 | a2
        · exact cons i1 i2 f g a1 a2 h1 h2 k
        · subst a2
          rw [he] at h2
          obtain rfl := Option.some.inj h2
          exact c i1 f a1 h1 k
        · subst a1
          rw [he] at h1
          obtain rfl := Option.some.inj h1
          exact (c i2 g a2 h2 k.symm).symm
        · subst a1
          subst a2
          rw [h1] at h2
          rw [Option.some.inj h2]
      refine ⟨ma, _, rfl, SqT.of t1, rfl, _, _, rfl, _, _, rfl, rfl, ?_⟩
      refine ⟨_, rfl, d, rfl, .inl ⟨kvs, .inl hk1⟩, _, rfl, _, rfl, xb, _, y, _, rfl, rfl, SqT.of t2, ay, _, rfl, _, rfl, xb, _, h, _, rfl, rfl, SqT.of t2, ah, kvs, Sum.inl (e.1.getD y.toNat 0), hk1, rfl, by rw [sizeLine_eq]; omega, fun v hv => ?_, fun hn => ?_⟩
      · obtain ⟨i', f, hi', hf', ey, rfl⟩ := (hk3 _ _).mp hv
        refine ⟨_, rfl, _, rfl, xb, _, h, _, rfl, rfl, SqT.of t2, ah, rfl, _, rfl, ifD (fun c => ?_) fun c => ?_⟩
        · have ne : f.1.getD h.toNat 0 ≠ e.1.getD h.toNat 0 := fun z => by
            rw [z] at c
            simp at c
          exact qq.1 (told_no hF hyr hhr (List.mem_of_getElem? hf') (List.mem_of_getElem? he) ey ne) _ (fun c o g => kp _ _ (s7 _ _ g) (ne_of_none g nd))
        · have eq : f.1.getD h.toNat 0 = e.1.getD h.toNat 0 := by
            have q3 : decide (V.int (f.1.getD h.toNat 0) = V.int (e.1.getD h.toNat 0)) = true := by simpa using c
            have q4 := of_decide_eq_true q3
            injection q4
          refine ⟨_, _, rfl, kp, ⟨kvs, hk1, by omega, fun x v => ?_⟩, more fun i1 g l1 h1 k => ?_⟩
          · rw [hk3 x v]
            constructor
            · rintro ⟨i1, g, l1, r⟩
              exact ⟨i1, g, by omega, r⟩
            · rintro ⟨i1, g, l1, h1, k1, k2⟩
              rcases Nat.lt_succ_iff_lt_or_eq.mp l1 with a1 | a1
              · exact ⟨i1, g, a1, h1, k1, k2⟩
              · subst a1
                rw [he] at h1
                obtain rfl := Option.some.inj h1
                exact ⟨i', f, hi', hf', ey.trans k1, by rw [k2, eq]⟩
          · rw [cons i1 i' g f l1 hi' h1 hf' (k.trans ey.symm)]
            exact eq
      · have kpD : ∀ c o, H7 c = some o → c ≠ d → (upd H8 d (.dK (putK kvs (Sum.inl (e.1.getD y.toNat 0)) (.int (e.1.getD h.toNat 0))))) c = some o := fun c o g n => by
          rw [upd_ne n]; exact kp _ _ g n
        have nxb : xb ≠ d := fun z => by rw [z, hk1] at t2; cases t2
        refine ⟨_, rfl, _, rfl, xb, _, h, _, rfl, rfl, SqT.of (by rw [upd_ne nxb]; exact t2), ah, rfl, _, rfl, iteN (by simp) (nxP ?_)⟩
        have new : ∀ (i1 : Nat) (g : KR), i1 < j → F[i1]? = some g → g.1.getD y.toNat 0 ≠ e.1.getD y.toNat 0 := fun i1 g l1 h1 k => by
          have := (hk3 (e.1.getD y.toNat 0) (.int (g.1.getD h.toNat 0))).mpr ⟨i1, g, l1, h1, k, rfl⟩
          rw [hn] at this
          cases this
        refine ⟨_, _, rfl, kpD, ⟨_, upd_same, by rw [putK_new _ hn, List.length_append]; show kvs.length + 1 ≤ j + 1; omega, fun x v => ?_⟩, more fun i1 g l1 h1 k => absurd k (new i1 g l1 h1)⟩
        rw [valV_put]
        by_cases z : x = e.1.getD y.toNat 0
        · subst z
          rw [if_pos rfl]
          constructor
          · intro w
            exact ⟨j, e, Nat.lt_succ_self _, he, rfl, (Option.some.inj w).symm⟩
          · rintro ⟨i1, g, l1, h1, k1, k2⟩
            rcases Nat.lt_succ_iff_lt_or_eq.mp l1 with a1 | a1
            · exact absurd k1 (new i1 g a1 h1)
            · subst a1
              rw [he] at h1
              obtain rfl := Option.some.inj h1
              rw [k2]
        · rw [if_neg (fun w => z (by injection w))]
          rw [hk3 x v]
          constructor
          · rintro ⟨i1, g, l1, r⟩
            exact ⟨i1, g, by omega, r⟩
          · rintro ⟨i1, g, l1, h1, k1, k2⟩
            rcases Nat.lt_succ_iff_lt_or_eq.mp l1 with a1 | a1
            · exact ⟨i1, g, a1, h1, k1, k2⟩
            · subst a1
              rw [he] at h1
              obtain rfl := Option.some.inj h1
              exact absurd k1.symm z
    · rintro σ H8 ⟨u7, u8, rfl, kp, ⟨kvs, hk1, hk2, hk3⟩, cons⟩
      have lm : (mas.map V.ref).length = F.length := by rw [List.length_map, hq2]
      rw [lm] at cons hk2 hk3
      have t : Told ts y h := told_of hF hyr hhr fun e he f hf => by
        obtain ⟨i1, h1⟩ := List.getElem?_of_mem he
        obtain ⟨i2, h2⟩ := List.getElem?_of_mem hf
        exact cons i1 i2 e f (List.getElem?_eq_some_iff.mp h1).1 (List.getElem?_eq_some_iff.mp h2).1 h1 h2
      refine ⟨_, rfl, qq.2 t d H8 (fun c o e => kp _ _ (s7 _ _ e) (ne_of_none e nd)) ⟨kvs, hk1, by omega, fun x v => ?_⟩⟩
      rw [hk3 x v]
      constructor
      · rintro ⟨i', e, hi', he, k1, k2⟩
        have hm := List.mem_of_getElem? he
        rw [map_at hF hm hyr] at k1
        rw [map_at hF hm hhr] at k2
        exact ⟨e.2, (hF.mem hm).2.1, k1, k2⟩
      · rintro ⟨r, hr, k1, k2⟩
        obtain ⟨j, r', hj, _⟩ := hF.all r hr
        refine ⟨j, _, (List.getElem?_eq_some_iff.mp hj).1, hj, ?_, ?_⟩
        · show (path (actL ts) (idL (nS ts)) r).getD y.toNat 0 = x
          rw [idL_to hyr.1 hyr.2]; exact k1
        · rw [k2]
          show V.int _ = V.int ((path (actL ts) (idL (nS ts)) r).getD h.toNat 0)
          rw [idL_to hhr.1 hhr.2]
end
end K1
namespace K1
open PySem PySem.Spec PyProof.Rows L2
theorem MapsAt.same {H H' : Hp} {q : Addr} {F : List KR} (h : MapsAt H q F) (s : Same H H') : MapsAt H' q F :=
  let ⟨as, h1, h2, h3⟩ := h
  ⟨as, s _ _ h1, h2, fun i a x r e1 e2 => let ⟨b, c, g1, g2, g3⟩ := h3 i a x r e1 e2; ⟨b, c, s _ _ g1, s _ _ g2, s _ _ g3⟩⟩
def spLTells : Sp := fun vs H Q _ => ∃ q s F ts, vs = [.ref q, .int s] ∧ MapsAt H q F ∧ Fst (actL ts) ts.length (idL (nS ts)) F ∧ F.length ≤ 1000 ∧ Wf ts ∧ (0 ≤ s ∧ s < (nS ts : Int)) ∧ ∀ (b : Bool) H', Same H H' → (b = true ↔ Tells ts s) → Q (.bl b) H'
section
variable {P : Program} {w : World} {K : PySem.W.Frag} {mg : Str → Option Value} {base : Heap}
abbrev nLt : List Str := ["_law_maps_here", "_law_state", "_law_archive", "_law_here", "_law_one"]
theorem scLt : FnScope nLt ["_law_maps_here", "_law_state"] (defScope sLTells) := ⟨rfl, rfl, rfl, by decide +kernel, rfl, by decide +kernel, by decide +kernel⟩
theorem ok_ltells {f fE : Addr} {fd fdE : FuncData} (D : Df K mg "_law_tells" sLTells ["_law_maps_here", "_law_state"] f fd) (DE : Df K mg "_law_ends" sLEnds ["_law_maps_here", "_law_archive", "_law_here"] fE fdE) (B : Bt mg)
    (GE : FnOk P w K mg base CX0 1 fE fdE ["_law_maps_here", "_law_archive", "_law_here"] spLEnds) : FnOk P w K mg base CX0 2 f fd ["_law_maps_here", "_law_state"] spLTells := by
  refine D.F.ok scLt (fun vs H Q E h => ?_) (fun cdv A outer s H vs Q E hr h => ?_)
  · obtain ⟨q, s, F, ts, rfl, _⟩ := h
    rfl
  · obtain ⟨q, st, F, ts, rfl, hq, hF, hf, hW, hst, qq⟩ := h
    have hu := hu_of hr
    refine ⟨_, pss_cons (ps_for PassesOwn.never rfl (piL (K := K) rfl (pe_callB (cr_sortedSet rfl) (by rfl) B.sorted PyProof.Rows.boot_sorted (pa_cons (pe_callTy (cr_setB (K := K) (w := w) (B := 12) rfl rfl rfl) (by rfl) B.set (by decide +kernel) (pa_cons
          (pe_lc (own := [("_law_one", 4)]) (g := gName 4) (tt := tYes) rfl scLt.nd (piL (K := K) rfl (pv 0)) (blkOk_by (N := nLt) (sc := defScope sLTells) (by decide +kernel)) (fun _ _ _ _ _ => pg_name (i := 4) scLt.nd rfl (Or.inl rfl)) (fun _ _ _ _ _ => pts_nil)
            (fun _ _ _ _ _ => pe_ix (ixTK (K := K) rfl) (pe_ix (ixTK (K := K) rfl) (pv 4) pe_int (fun _ _ => rfl)) (pv 1) (fun _ _ => rfl))) pa_nil)) pa_nil))) (pg_name (i := 2) scLt.nd rfl (.inr rfl))
        (pss_one (ps_for PassesOwn.never rfl (piL (K := K) rfl (pe_callB (cr_sortedSet rfl) (by rfl) B.sorted PyProof.Rows.boot_sorted (pa_cons (pe_callTy (cr_setB (K := K) (w := w) (B := 12) rfl rfl rfl) (by rfl) B.set (by decide +kernel) (pa_cons
          (pe_lc (own := [("_law_one", 4)]) (g := gName 4) (tt := tYes) rfl scLt.nd (piL (K := K) rfl (pv 0)) (blkOk_by (N := nLt) (sc := defScope sLTells) (by decide +kernel)) (fun _ _ _ _ _ => pg_name (i := 4) scLt.nd rfl (Or.inl rfl)) (fun _ _ _ _ _ => pts_nil)
            (fun _ _ _ _ _ => pe_ix (ixTK (K := K) rfl) (pe_ix (ixTK (K := K) rfl) (pv 4) pe_int (fun _ _ => rfl)) (pv 2) (fun _ _ => rfl))) pa_nil)) pa_nil))) (pg_name (i := 3) scLt.nd rfl (.inl rfl))
          (pss_one (ps_if (pt_cmp (pc_isN (pc DE GE hr pass0 (pa_cons (pv 0) (pa_cons (pv 2) (pa_cons (pv 3) pa_nil)))))) (pss_one (ps_ret pe_bl)) pss_nil)))))
      (pss_one (ps_ret pe_bl)), ?_⟩
    obtain ⟨mas, hq1, hq2, hq3⟩ := id hq
    have n12 := hW.s12
    have hxl : ∀ e ∈ F, e.1.length = nS ts := fun e he => by
      rw [(hF.mem he).1, path_run, List.length_map, idL, gL_len]
    have rng : ∀ y : Int, (0 ≤ y ∧ y < (nS ts : Int)) → ∀ x ∈ thr F y.toNat, 0 ≤ x ∧ x < ((12 : Nat) : Int) := fun y hy x hx => by
      have := ((thr_rch hF hy x).mp hx).rng hW hy
      omega
    have sr : Same H H := Same.refl _
    refine ⟨_, rfl, q, rfl, ⟨_, SqL.of (sr _ _ hq1)⟩, fun D1 hD1 => lc_list (K := K) (a := q) (xs := mas.map V.ref) (fun i H' => Same H H' ∧ H' D1 = some (.lst (((thr F st.toNat).take i).map V.int))) ⟨same_new hD1, by rw [upd_same]; rfl⟩ (fun i H' _ ⟨s, _⟩ => SqL.of (s _ _ (sr _ _ hq1))) ?_ ?_⟩
    · rintro i x H' hx ⟨s2, hD2⟩
      obtain ⟨ma, hma, rfl⟩ : ∃ ma, mas[i]? = some ma ∧ x = V.ref ma := by
        rw [List.getElem?_map] at hx
        cases e : mas[i]? with
        | none => rw [e] at hx; cases hx
        | some t => rw [e] at hx; exact ⟨t, rfl, (Option.some.inj hx).symm⟩
      have hiF : i < F.length := by rw [← hq2]; exact (List.getElem?_eq_some_iff.mp hma).1
      obtain ⟨e, he⟩ : ∃ e, F[i]? = some e := ⟨F[i], List.getElem?_eq_getElem hiF⟩
      obtain ⟨xb, xc, g1, g2, _⟩ := hq3 i ma e.1 e.2 hma he
      have lx := hxl e (List.mem_of_getElem? he)
      have ez : (thr F st.toNat)[i]? = some (e.1.getD st.toNat 0) := by rw [thr, List.getElem?_map, he]; rfl
      refine ⟨rfl, _, rfl, ma, _, 0, _, rfl, rfl, SqT.of (s2 _ _ (sr _ _ g1)), atI_nat (j := 0) rfl, _, rfl, xb, _, st, .int (e.1.getD st.toNat 0), rfl, rfl, SqT.of (s2 _ _ (sr _ _ g2)), at_of (j := st.toNat) (by omega) (vrow_getD (by omega)), _, hD2, by rw [List.length_map, List.length_take, sizeLine_eq]; omega, fun d o eo => ?_, ?_⟩
      · rw [upd_ne (ne_of_none eo hD1)]
        exact s2 _ _ eo
      · rw [upd_same, take_succ ez, List.map_append]; rfl
    · rintro H2a ⟨s2a, hD2⟩
      have e1 : (thr F st.toNat).take (mas.map V.ref).length = thr F st.toNat := by rw [List.take_of_length_le]; rw [thr, List.length_map, List.length_map, hq2]; exact Nat.le_refl _
      rw [e1] at hD2
      refine ⟨D1, thr F st.toNat, rfl, SqL.of hD2, by rw [thr, List.length_map]; omega, rng st hst, fun ps c hps hc => ⟨ps, _, c, rfl, upd_same, by omega, fun lots l pw mem hl hl0 => ?_⟩⟩
      have mem' : ∀ x, x ∈ lots ↔ Rch ts st x := fun x => by
        rw [mem x, ← thr_rch hF hst x]
        exact ⟨fun z => of_decide_eq_true z, fun z => decide_eq_true z⟩
      have s3 := (s2a.trans (same_new hps)).trans (same_new (o := HO.lst (lots.map V.int)) hl0)
      have hl3 : (upd (upd H2a ps (SetO w ps (fun j => decide (j ∈ thr F st.toNat)) c)) l (.lst (lots.map V.int))) l = some (.lst (lots.map V.int)) := upd_same
      generalize upd (upd H2a ps (SetO w ps (fun j => decide (j ∈ thr F st.toNat)) c)) l (.lst (lots.map V.int)) = H3 at s3 hl3 ⊢
      refine ⟨l, rfl, ⟨_, SqL.of hl3⟩, for_list (K := K) (a := l) (xs := lots.map V.int) (fun i σ H' => ∃ v2 v3 v4, σ = [some (.ref q), some (.int st), v2, v3, v4] ∧ Same H3 H' ∧ ∀ (j : Nat) y, j < i → lots[j]? = some y → ∀ h, Rch ts y h → Told ts y h) ⟨none, none, none, rfl, fun _ _ e => e, fun j y hj => absurd hj (Nat.not_lt_zero _)⟩ (fun i σ H' _ ⟨_, _, _, _, s, _⟩ => SqL.of (s _ _ hl3)) ?_ ?_⟩
      · rintro i x σ H4 hx ⟨v2, v3, v4, rfl, s4, ok⟩
        obtain ⟨y, hy, rfl⟩ : ∃ z, lots[i]? = some z ∧ x = V.int z := by
          rw [List.getElem?_map] at hx
          cases e : lots[i]? with
          | none => rw [e] at hx; cases hx
          | some z => rw [e] at hx; exact ⟨z, rfl, (Option.some.inj hx).symm⟩
        have hyR := (mem' y).mp (List.mem_of_getElem? hy)
        have hyr := hyR.rng hW hst
        have s34 := s3.trans s4
        refine gn ?_
        dsimp only
        refine ⟨_, rfl, q, rfl, ⟨_, SqL.of (s34 _ _ hq1)⟩, fun D3 hD3 => lc_list (K := K) (a := q) (xs := mas.map V.ref) (fun i H' => Same H4 H' ∧ H' D3 = some (.lst (((thr F y.toNat).take i).map V.int))) ⟨same_new hD3, by rw [upd_same]; rfl⟩ (fun i H' _ ⟨s, _⟩ => SqL.of (s _ _ (s34 _ _ hq1))) ?_ ?_⟩
        · rintro i x H' hx ⟨s2, hD2⟩
          obtain ⟨ma, hma, rfl⟩ : ∃ ma, mas[i]? = some ma ∧ x = V.ref ma := by
            rw [List.getElem?_map] at hx
            cases e : mas[i]? with
            | none => rw [e] at hx; cases hx
            | some t => rw [e] at hx; exact ⟨t, rfl, (Option.some.inj hx).symm⟩
          have hiF : i < F.length := by rw [← hq2]; exact (List.getElem?_eq_some_iff.mp hma).1
          obtain ⟨e, he⟩ : ∃ e, F[i]? = some e := ⟨F[i], List.getElem?_eq_getElem hiF⟩
          obtain ⟨xb, xc, g1, g2, _⟩ := hq3 i ma e.1 e.2 hma he
          have lx := hxl e (List.mem_of_getElem? he)
          have ez : (thr F y.toNat)[i]? = some (e.1.getD y.toNat 0) := by rw [thr, List.getElem?_map, he]; rfl
          refine ⟨rfl, _, rfl, ma, _, 0, _, rfl, rfl, SqT.of (s2 _ _ (s34 _ _ g1)), atI_nat (j := 0) rfl, _, rfl, xb, _, y, .int (e.1.getD y.toNat 0), rfl, rfl, SqT.of (s2 _ _ (s34 _ _ g2)), at_of (j := y.toNat) (by omega) (vrow_getD (by omega)), _, hD2, by rw [List.length_map, List.length_take, sizeLine_eq]; omega, fun d o eo => ?_, ?_⟩
          · rw [upd_ne (ne_of_none eo hD3)]
            exact s2 _ _ eo
          · rw [upd_same, take_succ ez, List.map_append]; rfl
        · rintro H2b ⟨s2b, hD2⟩
          have e1 : (thr F y.toNat).take (mas.map V.ref).length = thr F y.toNat := by rw [List.take_of_length_le]; rw [thr, List.length_map, List.length_map, hq2]; exact Nat.le_refl _
          rw [e1] at hD2
          refine ⟨D3, thr F y.toNat, rfl, SqL.of hD2, by rw [thr, List.length_map]; omega, rng y hyr, fun ps c hps hc => ⟨ps, _, c, rfl, upd_same, by omega, fun lots2 l2 pw2 mem2 hl2 hl20 => ?_⟩⟩
          have mem2' : ∀ x, x ∈ lots2 ↔ Rch ts y x := fun x => by
            rw [mem2 x, ← thr_rch hF hyr x]
            exact ⟨fun z => of_decide_eq_true z, fun z => decide_eq_true z⟩
          have s5 := (s2b.trans (same_new hps)).trans (same_new (o := HO.lst (lots2.map V.int)) hl20)
          have hl5 : (upd (upd H2b ps (SetO w ps (fun j => decide (j ∈ thr F y.toNat)) c)) l2 (.lst (lots2.map V.int))) l2 = some (.lst (lots2.map V.int)) := upd_same
          generalize upd (upd H2b ps (SetO w ps (fun j => decide (j ∈ thr F y.toNat)) c)) l2 (.lst (lots2.map V.int)) = H5 at s5 hl5 ⊢
          have s35 := s34.trans s5
          refine ⟨l2, rfl, ⟨_, SqL.of hl5⟩, for_list (K := K) (a := l2) (xs := lots2.map V.int) (fun i σ H' => ∃ v3 v4, σ = [some (.ref q), some (.int st), some (.int y), v3, v4] ∧ Same H5 H' ∧ ∀ (j : Nat) h, j < i → lots2[j]? = some h → Told ts y h) ⟨_, _, rfl, fun _ _ e => e, fun j h hj => absurd hj (Nat.not_lt_zero _)⟩ (fun i σ H' _ ⟨_, _, _, s, _⟩ => SqL.of (s _ _ hl5)) ?_ ?_⟩
          · rintro k x2 σ H6 hx2 ⟨w3, w4, rfl, s6, ok2⟩
            obtain ⟨h, hh, rfl⟩ : ∃ z, lots2[k]? = some z ∧ x2 = V.int z := by
              rw [List.getElem?_map] at hx2
              cases e : lots2[k]? with
              | none => rw [e] at hx2; cases hx2
              | some z => rw [e] at hx2; exact ⟨z, rfl, (Option.some.inj hx2).symm⟩
            have hhR := (mem2' h).mp (List.mem_of_getElem? hh)
            have hhr := hhR.rng hW hyr
            have s36 := s35.trans s6
            refine gn ?_
            dsimp only
            refine ⟨_, rfl, _, rfl, _, rfl, nilP ⟨q, y, h, F, ts, rfl, hq.same s36, hF, hf, hW, hyr, hhr, fun nt H7 s7 => ?_, fun t d H7 s7 _ => ?_⟩⟩
            · refine ⟨_, rfl, iteT ?_⟩
              exact qq false _ (s36.trans s7) ⟨fun z => (by cases z), fun te => absurd (tells_all.mp te y hyR h hhR) nt⟩
            · refine ⟨_, rfl, iteF (nxP ⟨_, _, rfl, s6.trans s7, fun j z hj hz => ?_⟩)⟩
              rcases Nat.lt_succ_iff_lt_or_eq.mp hj with g | g
              · exact ok2 j z g hz
              · subst g
                rw [hh] at hz
                rw [← Option.some.inj hz]
                exact t
          · rintro σ H6 ⟨w3, w4, rfl, s6, ok2⟩
            refine ⟨_, _, _, rfl, s4.trans (s5.trans s6), fun j z hj hz h hh => ?_⟩
            rcases Nat.lt_succ_iff_lt_or_eq.mp hj with g | g
            · exact ok j z g hz h hh
            · subst g
              rw [hy] at hz
              obtain rfl := Option.some.inj hz
              obtain ⟨j, hj⟩ := List.getElem?_of_mem ((mem2' h).mpr hh)
              exact ok2 j h (by rw [List.length_map]; exact (List.getElem?_eq_some_iff.mp hj).1) hj
      · rintro σ H4 ⟨v2, v3, v4, rfl, s4, ok⟩
        refine qq true _ (s3.trans s4) ⟨fun _ => tells_all.mpr fun x hx h hh => ?_, fun _ => rfl⟩
        obtain ⟨j, hj⟩ := List.getElem?_of_mem ((mem' x).mpr hx)
        exact ok j x (by rw [List.length_map]; exact (List.getElem?_eq_some_iff.mp hj).1) hj h hh
end
end K1
/-! several clauses 'except x as n', the same n -/
namespace K1
open PySem PySem.Spec PyProof.Rows L2
/-- what the clauses wish of an exception of the body, one after the other; slot i is the name's -/
def wAll (K : PySem.W.Frag) (i : Nat) (Wout : WX) (D : Ends) : List (Value × (Addr → Value → Option Addr → TS)) → WX
  | [] => Wout
  | (c, ts) :: r => fun cls d σ H => ∃ b, PySem.W.exmOne K cls c = some b ∧ (b = true → ∀ a, H a = none → ts a cls d { nx := fun σ' H' => D.nx (σ'.set i none) H', rt := D.rt, bk := fun σ' H' => D.bk (σ'.set i none) H', ct := fun σ' H' => D.ct (σ'.set i none) H' } (σ.set i (some (.ref a))) H) ∧
      (b = false → wAll K i Wout D r cls d σ H)
inductive HdsA (X : Cx) (n : Str) : List ExceptHandler → List (Value × (Addr → Value → Option Addr → TS)) → Prop
  | nil : HdsA X n [] []
  | cons {x : Str} {c : Value} {ts : Addr → Value → Option Addr → TS} {b₀ : Stmt} {suite : List Stmt} {np pos' : Pos} {hds : List ExceptHandler} {l : List (Value × (Addr → Value → Option Addr → TS))} (hc : Names X x c)
      (hsu : ∀ (a : Addr) (oe : Obj) (cls : Value) (d : Option Addr) (pn : List (Addr × Obj)), Zc cls d oe → (∃ vs, oe.data = .fields vs) → PSs (X.suite a ((a, oe) :: pn)) (b₀ :: suite) (ts a cls d)) (r : HdsA X n hds l) :
      HdsA X n (.ExceptHandler (some (.Name x np)) (some n) (b₀ :: suite) pos' :: hds) ((c, ts) :: l)
section
variable {X : Cx} {n : Str} {i : Nat} {body : List Stmt} {h₀ : ExceptHandler} {hds : List ExceptHandler} {l : List (Value × (Addr → Value → Option Addr → TS))} {pos : Pos} {tb : WX → TS} {Wout : WX}
theorem ps_try_all (hs : X.stack = X.env :: X.outer) (hf : X.env.frame = some X.env.locals) (hN : X.N.Nodup) (hi : X.N[i]? = some n) (hln : X.env.kindOf n = some .local) (tk : Takes X Wout)
    (hb : ∀ (W : WX) (pn : List (Addr × Obj)) (xe : Value → Shared → Prop), Takes (X.tr pn xe) W → PassesOwn (model X.prog X.w) X.A X.env xe → PSs (X.tr pn xe) body (tb W))
    (hh : HdsA X n (h₀ :: hds) l) : PS X (.Try body (h₀ :: hds) [] [] pos) (fun D σ H => tb (wAll X.K i Wout D l) D σ H) := by
  refine ⟨fun pins s σ H D I h => ?_⟩
  have ok := I.ok
  have hfr : X.A.frames = some (X.env :: X.outer) := by rw [ok.frames, hs]
  have hloc : Loc X.env.scope n := .inl hln
  refine wpAny_Try_except ?_
  refine wpAny_mono ((hb (wAll X.K i Wout D l) (X.pn ++ pins) (fun e s₁ => wpAny (model X.prog X.w) X.A (noteFrame e X.env) (fun _ s₂ => wpAny (model X.prog X.w) X.A (setFlight e none) (fun _ s₃ =>
    wpAny (model X.prog X.w) X.A (handleBy e X.env (h₀ :: hds)) (SP X pins D) X.xe s₃) X.xe s₂) X.xe s₁) (fun u s' xx => ?_) PassesOwn.looking).run [] s σ H D (I.toTry _) h) (fun f s1 hsp => ?_) (fun e s1 he => he)
  · -- the catch
    obtain ⟨a, B, sI, pins', σ', H', cls, d, rfl, J', nb, up, sky, na, os, ag, w⟩ := xx
    have J : Inv X pins σ' H' sI := J'.ofTry ok
    have sky' : Sky B (X.env :: X.outer) a (Zc cls d) X.env.locals s'.heap := by rw [← hs]; exact sky
    show wpAny (model X.prog X.w) X.A (noteFrame (.ref a) X.env) _ _ _
    refine Sky.land Zc.steady hfr hf sky' fun h3 fl3 up3 => ?_
    have J3 : Inv X pins σ' H' { s' with heap := h3 } := J.landed nb fl3.1 (up.trans up3) os ag
    obtain ⟨oe3, vs3, he3, hz3, hd3⟩ := fl3.there
    have notFr : ∀ {h : Heap} {o : Obj} {vs : Array Value}, h.FunFrames B (X.env :: X.outer) → h.get? a = some o → o.data = .fields vs → a ∉ frs (X.env :: X.outer) := fun {h o vs} ff e dd hm => by
      obtain ⟨_, o', e', hnf⟩ := ff.mem hm
      rw [e] at e'; cases e'
      exact hnf _ dd
    have nfr := notFr fl3.2.2.1 he3 hd3
    have nL : a ≠ X.env.locals := fun z => nfr (List.mem_filterMap.mpr ⟨X.env, List.mem_cons_self, by rw [hf, z]⟩)
    have nF : a ∉ X.fs := fun hm => by
      obtain ⟨e, he, q⟩ := List.mem_filterMap.mp hm
      exact nfr (List.mem_filterMap.mpr ⟨e, List.mem_cons_of_mem _ he, q⟩)
    have S3 := J3.suite he3 hd3 na nL nF
    have go : ∀ {hds' : List ExceptHandler} {l' : List (Value × (Addr → Value → Option Addr → TS))}, HdsA X n hds' l' → wAll X.K i Wout D l' cls d σ' H' →
        wpAny (model X.prog X.w) X.A (handleBy (.ref a) X.env hds') (SP X pins D) X.xe { s' with heap := h3 } := by
      intro hds' l' hk
      induction hk with
      | nil =>
        intro w
        refine wpAny_handleBy_nil ?_
        obtain ⟨k1, k2, k3, oe, vs, T, oT, ts', he, hz, hd, h1, hr⟩ := id fl3
        unfold PySem.passOn
        refine wpAny_bind (wpAny_field he hd h1 ?_)
        rw [if_neg (show ¬ ((Value.ref T == Value.none) = true) from by simp)]
        have fin : wpAny (model X.prog X.w) X.A (setFlight (.ref a) X.env.frame) (fun _ s4 => wpAny (model X.prog X.w) X.A (throw (.ref a) : Sem Flow) (SP X pins D) X.xe s4) X.xe { s' with heap := h3 } := by
          rw [hf]
          refine HandSPX.setFlight_upZ fl3 fun h4 hh4 up4 => wpAny_throw (tk _ _ ?_)
          exact ⟨a, B, sI, pins, σ', H', cls, d, rfl, J, nb, (up.trans up3).trans up4, .inr (.inr (by rw [hs]; exact hh4)), na, os, ag, w⟩
        first
          | exact wpAny_bind (wpAny_pure (wpAny_bind fin))
          | exact wpAny_bind fin
      | @cons x c ts b₀ suite np pos' hds2 l2 hc hsu r ih =>
        intro w
        obtain ⟨b, hb1, hyes, hno⟩ := w
        refine wpAny_handleBy_cons (codeAny_handlers_test ?_) (by intro q; cases q)
        have LT : PySem.W.Looks (model X.prog X.w) h3 (typeOf (.ref a)) cls := fun A Q E s k q => wpAny_typeOf_ref (k _ _ he3) (by rw [hz3.1]; exact q)
        have LM := PySem.W.exm_one (M := model X.prog X.w) (J3.kIn) LT hb1
        have test : ∀ {Q : Value → Shared → Prop} {E : Value → Shared → Prop}, Q c { s' with heap := h3 } → wpAny (model X.prog X.w) (X.A.mark (some (.ref a))) (eval (.Name x np) X.env) Q E { s' with heap := h3 } := fun {Q E} q => by
          obtain ⟨hg, hdbg, hm | ⟨hm, hv, hnn⟩⟩ := hc
          · exact ld_glob (X := X.suite a ((a, oe3) :: (X.pn ++ pins))) S3 hg hm q hdbg
          · exact ld_blt (X := X.suite a ((a, oe3) :: (X.pn ++ pins))) S3 hg hm hv q hnn hdbg
        refine test (LM.here ?_)
        cases b with
        | true =>
          refine codeAny_handlers_suite_as ?_
          refine HandSPX.lands_againZ fl3 fun h4 fl4 up4 => ?_
          have J4 : Inv X pins σ' H' { s' with heap := h4 } := J.landed nb fl4.1 ((up.trans up3).trans up4) os ag
          obtain ⟨oe4, vs4, he4, hz4, hd4⟩ := fl4.there
          have S4 := J4.suite he4 hd4 na nL nF
          refine store_ok (X := X.suite a ((a, oe4) :: (X.pn ++ pins))) (v := .ref a) S4 hN hi hloc rfl (fun s5 S5 => ?_) (.inr hln)
          refine wpAny_mono ((hsu a oe4 cls d (X.pn ++ pins) hz4 ⟨_, hd4⟩).run [] s5 _ H' _ S5 (hyes rfl a na)) (fun f s6 hsp => ?_) (fun _ _ z => False.elim z)
          have end_ : ∀ {σ6 : L2.St} {H6 : Hp} {Q : Shared → Prop}, Inv (X.suite a ((a, oe4) :: (X.pn ++ pins))) [] σ6 H6 s6 → (∀ s7, Inv X pins (σ6.set i none) H6 s7 → Q s7) →
              wpAny (model X.prog X.w) X.A (do bindName X.env n .none; unbindBehindTheSuite X.env n pos') (fun _ s7 => Q s7) X.xe s6 := fun {σ6 H6 Q} S6 hq => gone_ok (S6.unsuite ok) hN hi hln hq
          cases f with
          | next =>
            obtain ⟨σ6, H6, S6, q6⟩ := hsp
            exact end_ S6 fun s7 J7 => ⟨_, _, J7, q6⟩
          | brk =>
            obtain ⟨σ6, H6, S6, q6⟩ := hsp
            exact end_ S6 fun s7 J7 => ⟨_, _, J7, q6⟩
          | cont =>
            obtain ⟨σ6, H6, S6, q6⟩ := hsp
            exact end_ S6 fun s7 J7 => ⟨_, _, J7, q6⟩
          | ret u =>
            obtain ⟨v6, σ6, H6, S6, r6, q6⟩ := hsp
            exact end_ S6 fun s7 J7 => ⟨_, _, _, J7, r6, q6⟩
        | false =>
          show wpAny _ X.A (handleBy (.ref a) X.env hds2) _ _ _
          exact ih (hno rfl)
    exact go hh w
  · cases f with
    | next =>
      obtain ⟨σ', H', J', q⟩ := hsp
      exact wpAny_execs_nil ⟨σ', H', J'.ofTry ok, q⟩
    | brk =>
      obtain ⟨σ', H', J', q⟩ := hsp
      exact ⟨σ', H', J'.ofTry ok, q⟩
    | cont =>
      obtain ⟨σ', H', J', q⟩ := hsp
      exact ⟨σ', H', J'.ofTry ok, q⟩
    | ret u =>
      obtain ⟨v, σ', H', J', r, q⟩ := hsp
      exact ⟨v, σ', H', J'.ofTry ok, r, q⟩
end
end K1
namespace K1
open PySem PySem.Spec PyProof.Rows L2
theorem takes_len {X : Cx} {W : WX} (tk : Takes X W) : Takes X (fun cls d σ H => σ.length = X.N.length → W cls d σ H) := fun u s' ⟨a, B, sI, pins', σ', H', cls, d, e, J, nb, up, sky, na, os, ag, w⟩ =>
  tk u s' ⟨a, B, sI, pins', σ', H', cls, d, e, J, nb, up, sky, na, os, ag, w J.len⟩
/-- isinstance(e, N) in a suite, the exception's dict with any fields -/
def rIsF (K : PySem.W.Frag) (C : Addr) (cls : Value) (d : Option Addr) (a : Addr) : List V → Hp → VK → Prop := fun xs H Q => ∃ (dd N : Addr) (fs : List (Str × V)) (b : Bool), cls = .ref C ∧ d = some dd ∧ xs = [.ref a, .ref N] ∧ H dd = some (.xd fs) ∧ PySem.W.kitOne K (.ref C) (.ref N) = some b ∧ Q (.bl b) H
theorem call_isF {X : Cx} {a C : Addr} {cls : Value} {d : Option Addr} {oe : Obj} {pn : List (Addr × Obj)} (T : ExcK X.K C) (hz : Zc cls d oe) (hf : ∃ vs, oe.data = .fields vs) : CallR (X.suite a ((a, oe) :: pn)) (.builtin "isinstance") (rIsF X.K C cls d a) := by
  intro pins s σ H xs us Q I r h
  obtain ⟨dd, N, fs, b, rfl, rfl, rfl, hx, e, q⟩ := h
  obtain ⟨u1, u2, rfl, r1, r2⟩ := vals2 r
  cases r1
  cases r2
  obtain ⟨hget, _⟩ := I.pin (a, oe) (List.mem_append.mpr (.inl List.mem_cons_self))
  obtain ⟨vs, hd⟩ := hf
  have hx' : ObjOk X.prog X.w H s.heap dd (.xd fs) := I.hok dd _ hx
  obtain ⟨mA, hns, hr⟩ := hx'
  obtain ⟨od, ho, hl⟩ := lookIn_ns hns
  have J : PySem.W.InstAt s.heap a oe C (some od) := ⟨hget, hz.1, by unfold PySem.W.notCls; rw [hd] <;> rfl, by rw [hz.2]; exact ho⟩
  exact PySem.W.kia_one (PySem.W.kitx_exc T.cl T.ga T.gt T.sb T.ca T.sp T.tk T.mo) I.kIn J e (fun z => nomatch z) fun tk => ⟨.bl b, H, I.kept (t' := tk) fun _ _ z => z, rfl, q⟩
/-- isinstance(e, N), N a class of the language -/
def rIsT (K : PySem.W.Frag) (C : Addr) (n : String) (cls : Value) (d : Option Addr) (a : Addr) : List V → Hp → VK → Prop := fun xs H Q => ∃ (dd : Addr) (fs : List (Str × V)) (b : Bool), cls = .ref C ∧ d = some dd ∧ xs = [.ref a, .ty n] ∧ H dd = some (.xd fs) ∧ PySem.W.kitOne K (.ref C) (.type n) = some b ∧ Q (.bl b) H
theorem call_isT {X : Cx} {a C : Addr} {n : String} {cls : Value} {d : Option Addr} {oe : Obj} {pn : List (Addr × Obj)} (T : ExcK X.K C) (hz : Zc cls d oe) (hf : ∃ vs, oe.data = .fields vs) : CallR (X.suite a ((a, oe) :: pn)) (.builtin "isinstance") (rIsT X.K C n cls d a) := by
  intro pins s σ H xs us Q I r h
  obtain ⟨dd, fs, b, rfl, rfl, rfl, hx, e, q⟩ := h
  obtain ⟨u1, u2, rfl, r1, r2⟩ := vals2 r
  cases r1
  cases r2
  obtain ⟨hget, _⟩ := I.pin (a, oe) (List.mem_append.mpr (.inl List.mem_cons_self))
  obtain ⟨vs, hd⟩ := hf
  have hx' : ObjOk X.prog X.w H s.heap dd (.xd fs) := I.hok dd _ hx
  obtain ⟨mA, hns, hr⟩ := hx'
  obtain ⟨od, ho, hl⟩ := lookIn_ns hns
  have J : PySem.W.InstAt s.heap a oe C (some od) := ⟨hget, hz.1, by unfold PySem.W.notCls; rw [hd] <;> rfl, by rw [hz.2]; exact ho⟩
  exact PySem.W.kia_one (PySem.W.kitx_exc T.cl T.ga T.gt T.sb T.ca T.sp T.tk T.mo) I.kIn J e (fun z => nomatch z) fun tk => ⟨.bl b, H, I.kept (t' := tk) fun _ _ z => z, rfl, q⟩
/-- what tells the two classes apart -/
structure Exm (K : PySem.W.Frag) (CR CS N : Addr) : Prop where
  rr : PySem.W.exmOne K (.ref CR) (.ref CR) = some true
  rs : PySem.W.exmOne K (.ref CR) (.ref CS) = some false
  ss : PySem.W.exmOne K (.ref CS) (.ref CS) = some true
  ir : PySem.W.kitOne K (.ref CR) (.ref N) = some true
  is : PySem.W.kitOne K (.ref CS) (.type "KeyError") = some true
  xr : ExcK K CR
  xs : ExcK K CS
/-- x is the text that repr gives for v -/
def RS (v : V) (x : Str) : Prop := ∀ (H : Hp) (Q : VK), Q (.str x) H → rReprS [v] H Q
/-- as much, for a tuple of numbers too -/
def RSo (K : PySem.W.Frag) (H0 : Hp) (v : V) (x : Str) : Prop := ∀ (H : Hp) (Q : VK), Same H0 H → Q (.str x) H → rReprS [v] H Q ∨ rRepr K [v] H Q
theorem call_or2 {X : Cx} {c : Value} {r q : List V → Hp → VK → Prop} (a : CallR X c r) (b : CallR X c q) : CallR X c (fun xs H Q => r xs H Q ∨ q xs H Q) := fun pins s σ H xs us Q I rv h => h.elim (a pins s σ H xs us Q I rv) (b pins s σ H xs us Q I rv)
theorem pe_or2 {X : Cx} {e : Expr} {t u : TE} (a : PE X e t) (b : PE X e u) : PE X e (fun σ H Q => t σ H Q ∨ u σ H Q) := ⟨fun pins s σ H Q I h => h.elim (a.run pins s σ H Q I) (b.run pins s σ H Q I)⟩
theorem op_or2 {X : Cx} {f : Value → Value → Sem Value} {r q : R2} (a : OpR X f r) (b : OpR X f q) : OpR X f (fun x y H Q => r x y H Q ∨ q x y H Q) := fun pins s σ H x y v u Q I rx ry h => h.elim (a pins s σ H x y v u Q I rx ry) (b pins s σ H x y v u Q I rx ry)
/-- what the law hears of an error -/
def HE (K : PySem.W.Frag) (CR CS : Addr) (Q : VK) : XK := fun cls d H => ∃ dd : Addr, d = some dd ∧
  ((cls = .ref CR ∧ ∃ v, H dd = some (.xd [("at", v)]) ∧ ∃ x, RSo K H v x ∧ ∀ p H', Same H H' → H' p = some (.tup [.str "refused", .str x, .bl true]) → Q (.ref p) H') ∨
   (cls = .ref CS ∧ ∃ v, H dd = some (.xd [("state", v)]) ∧ ∃ x, RSo K H v x ∧ ∀ p H', Same H H' → H' p = some (.tup [.str "state", .str x, .bl true]) → Q (.ref p) H'))
def TTh (K : PySem.W.Frag) (CR CS : Addr) : (XK → Hp → VK → Prop) → Hp → VK → Prop := fun tl H Q => tl (HE K CR CS Q) H fun v H' => 2 ≤ sizeLine ∧ ∀ p, H' p = none → Q (.ref p) (upd H' p (.tup [.str "told", v]))
theorem scHe : FnScope ["_law_ask", "fault"] ["_law_ask"] (defScope sHeard) := ⟨rfl, rfl, rfl, by decide +kernel, rfl, by decide +kernel, by decide +kernel⟩
theorem call_reprZ {Z : Cx} {a : Addr} {pn : List (Addr × Obj)} (hgd : Z.A.guards = some []) (hu : Z.A.units + 64 < cLine) : CallR (Z.suite a pn) (.builtin "repr") (rRepr Z.K) := call_repr (X := Z.suite a pn) hgd hu
theorem heard_gives {X : Cx} {CR CS N i3 i1 g : Addr} {k : Nat} {b3 b1 : List Value} {q3 q1 : Str} {cdg : Value} {q : Str} (B : Bt X.mg) (hKE : X.mg "KeyError" = none) (T1 : LAt.Txt X.K X.mg "Refused" q1 b1 CR i1)
    (T3 : LState.Txt X.K X.mg "NoState" q3 b3 CS i3) (hN : X.mg "NetError" = some (.ref N)) (ex : Exm X.K CR CS N) (g1 : X.mg "Refused" = some (.ref CR)) (g3 : X.mg "NoState" = some (.ref CS)) (hgd : X.A.guards = some []) (hr : Room (k + 2) X.A) :
    LamX.GivesTo X ["_law_ask", "fault"] "_law_heard" (defScope sHeard) g cdg (defBody sHeard) "_law_ask" q (TTh X.K CR CS) := by
  intro f c' s H Q tl act hc h
  have hu := (hr.deeper (envOfC "_law_heard" (defScope sHeard) s.heap.objs.size g cdg)).units
  generalize hZ : (cxOf C8.CX0 X.prog X.w X.K X.mg X.base ["_law_ask", "fault"] "_law_heard" (defScope sHeard) g cdg X.A X.stack s H C8.E0) = Z at act ⊢
  subst hZ
  refine ⟨_, pss_one (ps_try_all (n := "fault") (i := 1) (tb := fun W D σ H => ∃ Ech : XK, (∀ cls d (σ' : L2.St) H', σ'.length = 2 → Ech cls d H' → W cls d σ' H') ∧ σ[0]? = some (some (.ref f)) ∧ H c' = some (LamX.CodeO c' q) ∧ tl Ech H fun v H1 => 2 ≤ sizeLine ∧ ∀ p, H1 p = none → D.rt (.ref p) (upd H1 p (.tup [.str "told", v])))
      rfl rfl scHe.nd rfl rfl LamX.takes0 (fun W pn xe tk _ => ?_)
      (.cons (c := .ref CS) ⟨rfl, by decide, .inl g3⟩ (fun a oe cls d pn hz hf => pss_one (ps_ret (pe_tup (pa_cons pe_str (pa_cons (pe_callB (call_or2 call_reprS (call_reprZ (Z := cxOf C8.CX0 X.prog X.w X.K X.mg X.base ["_law_ask", "fault"] "_law_heard" (defScope sHeard) g cdg X.A X.stack s H C8.E0) hgd hu)) rfl B.repr (by decide +kernel) (pa_cons (pe_by_LState T3 hz hf (pv 1)) pa_nil)) (pa_cons (pe_callB (call_isT (n := "KeyError") ex.xs hz hf) rfl B.isinstance (by decide +kernel) (pa_cons (pv 1) (pa_cons (pe_bltn (v := .ty "KeyError") rfl hKE (by decide +kernel) rfl) pa_nil))) pa_nil))))))
      (.cons (c := .ref CR) ⟨rfl, by decide, .inl g1⟩ (fun a oe cls d pn hz hf => pss_one (ps_ret (pe_tup (pa_cons pe_str (pa_cons (pe_callB (call_or2 call_reprS (call_reprZ (Z := cxOf C8.CX0 X.prog X.w X.K X.mg X.base ["_law_ask", "fault"] "_law_heard" (defScope sHeard) g cdg X.A X.stack s H C8.E0) hgd hu)) rfl B.repr (by decide +kernel) (pa_cons (pe_by_LAt T1 hz hf (pv 1)) pa_nil)) (pa_cons (pe_callB (call_isF ex.xr hz hf) rfl B.isinstance (by decide +kernel) (pa_cons (pv 1) (pa_cons (pe_glob (v := .ref N) rfl hN rfl) pa_nil))) pa_nil)))))) .nil))), ?_⟩
  · refine ⟨fun pins s' σ H' D I h' => ?_⟩
    obtain ⟨Ech, hW, h1, h2, h3⟩ := h'
    have hp := fun p1 p2 => act (fun cls d σ H => σ.length = 2 → W cls d σ H) pn xe Ech p1 p2 (takes_len tk) (fun cls d σ' H' e hl => hW cls d σ' H' hl e)
    exact (pss_one (ps_ret (pe_tup (pa_cons pe_str (pa_cons (hp _ _) pa_nil))))).run pins s' σ H' D I ⟨h1, h2, h3⟩
  · refine ⟨HE X.K CR CS Q, fun cls d σ' H' hl he => ?_, rfl, hc, h⟩
    obtain ⟨dd, rfl, k⟩ := he
    obtain ⟨v0, v1, rfl⟩ : ∃ v0 v1, σ' = [v0, v1] := by
      match σ', hl with
      | [v0, v1], _ => exact ⟨v0, v1, rfl⟩
    rcases k with ⟨rfl, v, hx, x, rs, k⟩ | ⟨rfl, v, hx, x, rs, k⟩
    · refine ⟨false, ex.rs, fun z => (by cases z), fun _ => ⟨true, ex.rr, fun _ a na => ?_, fun z => (by cases z)⟩⟩
      refine ⟨_, rfl, rfl, rfl, dd, v, rfl, hx, ?_⟩
      unfold tNil
      dsimp only
      exact rs _ _ (Same.refl _) ⟨_, rfl, dd, N, _, true, rfl, rfl, rfl, hx, ex.ir, (by show 3 ≤ sizeLine; decide), fun p hp => k p _ (same_new hp) upd_same⟩
    · refine ⟨true, ex.ss, fun _ a na => ?_, fun z => (by cases z)⟩
      refine ⟨_, rfl, rfl, rfl, dd, v, rfl, hx, ?_⟩
      unfold tNil
      dsimp only
      exact rs _ _ (Same.refl _) ⟨_, rfl, dd, _, true, rfl, rfl, rfl, hx, ex.is, (by show 3 ≤ sizeLine; decide), fun p hp => k p _ (same_new hp) upd_same⟩
structure FunC (K : PySem.W.Frag) (x qual : Str) (st : Stmt) (f : Addr) (fd : FuncData) (cdv : Value) : Prop where
  ex : ∃ (oc : Value) (od : Option Addr) (kV doc pm : Value) (an : Option Addr) (ct : Value) (osl : Array (Option Value)),
    fd = PySem.W.fnOf x qual (defArgs st) (defBody st) (defScope st) .none kV doc pm an cdv ct ∧ K.lookup f = some ⟨oc, od, .func fd, osl⟩ ∧ PySem.W.codeIn K cdv qual = true
  kp : PySem.W.keepIn K (.ref f) = true
theorem FunC.fun {K : PySem.W.Frag} {x qual : Str} {st : Stmt} {f : Addr} {fd : FuncData} {cdv : Value} (F : FunC K x qual st f fd cdv) : Fun K x qual st f fd := by
  obtain ⟨⟨oc, od, kV, doc, pm, an, ct, osl, h1, h2, h3⟩, kp⟩ := F
  exact ⟨⟨oc, od, kV, doc, pm, an, cdv, ct, osl, h1, h2, h3⟩, kp⟩
section
variable {P : Program} {w : World} {K : PySem.W.Frag} {mg : Str → Option Value} {base : Heap}
theorem FunC.ok {x qual : Str} {st : Stmt} {f : Addr} {fd : FuncData} {cdv : Value} {N ps : List Str} {k : Nat} {sp : Sp} (F : FunC K x qual st f fd cdv) (S : FnScope N ps (defScope st)) (len : ∀ vs H Q E, sp vs H Q E → vs.length = ps.length)
    (hbody : ∀ (A : Around) (outer : List Env) (s : Shared) (H : Hp) (vs : List V) (Q : VK) (E : XK), Room k (A.deeper (envOfC qual (defScope st) s.heap.objs.size f cdv)) → sp vs H Q E →
      ∃ t, PSs (cxOf CX0 P w K mg base N qual (defScope st) f cdv A outer s H E).nox (defBody st) t ∧ t { nx := fun _ H' => Q .non H', rt := Q } (start N vs) H) : FnOk P w K mg base CX0 (k + 1) f fd ps sp := by
  obtain ⟨oc, od, kV, doc, pm, an, ct, osl, rfl, lk, hcd⟩ := F.ex
  refine fn_of lk hcd S len fun A outer s H vs Q E hr hsp => ?_
  obtain ⟨t, h, q⟩ := hbody A outer s H vs Q E hr hsp
  exact ⟨t, h.nox, q⟩
end
/-! ### the law's ear -/
structure Hd (K : PySem.W.Frag) (mg : Str → Option Value) (base : Heap) (CR CS : Addr) : Prop where
  B : Bt mg
  ke : mg "KeyError" = none
  df : ∃ g fd, Df K mg "_law_heard" sHeard ["_law_ask"] g fd
  t1 : ∃ q b i, LAt.Txt K mg "Refused" q b CR i
  t3 : ∃ q b i, LState.Txt K mg "NoState" q b CS i
  ex : ∃ N, mg "NetError" = some (.ref N) ∧ Exm K CR CS N
  g1 : mg "Refused" = some (.ref CR)
  g3 : mg "NoState" = some (.ref CS)
theorem pHeard {X : Cx} {c P CR CS : Addr} {k : Nat} {qn : Str} {T : List (Addr × Str)} {params : Arguments} {body : Expr} {scope : Scope} {t : XK → TE} {p lpos pos : Pos} (hd : Hd X.K X.mg X.base CR CS) (TB : LamX.TabB X.base X.mg c P) (hgd : X.A.guards = some []) (hr : Room (k + 2) X.A) (hcode : X.env.code = .ref c)
    (hq : X.env.qual ++ "<lambda>" = qn) (hm : (P, qn) ∈ T) (hun : ∀ p ∈ T, p.1 = P → p.2 = qn) (hg : Gl X "_law_heard") (L : LamX.LamS X.env.scope scope) (hdef : defaultsOf params X.env = ([], []))
    (hbind : ∀ (q : Str) (cl : List (Str × Addr)) (pm cv ctv : Value), bindArgs (PySem.W.kla_fn "<lambda>" q params body scope cl pm cv ctv) ⟨[], []⟩ = pure [])
    (hbody : ∀ (A : Around) (outer : List Env) (s : Shared) (H : Hp) (E : XK) (f c' : Addr), Room k (A.deeper (LamX.lamEnv X scope s.heap.objs.size f c')) → PE (LamX.lamCx X A outer s H E scope f c') body (t E)) :
    PE X (.Call (.Name "_law_heard" p) [.Lambda params body scope lpos] [] pos) (LamX.tLam T (TTh X.K CR CS) t) := by
  obtain ⟨g, fd, D⟩ := hd.df
  obtain ⟨q3, b3, i3, T3⟩ := hd.t3
  obtain ⟨q1, b1, i1, T1⟩ := hd.t1
  obtain ⟨N, hN, ex⟩ := hd.ex
  have hb := D.b
  obtain ⟨oc, od, kV, doc, pm, an, cdv, ct, osl, rfl, lk, hcd⟩ := D.F.ex
  exact LamX.pe_lamcall (a := "_law_ask") hg D.g D.F.kp lk hcd hb scHe rfl (.inl rfl) (heard_gives hd.B hd.ke T1 T3 hN ex hd.g1 hd.g3 hgd hr) TB hcode (by rw [hq]; exact hm) (fun p hp e => by rw [hq]; exact hun p hp e) hr L hdef hbind hbody
/-! ### defs told where nothing is being shown -/
section
variable {P : Program} {w : World} {K : PySem.W.Frag} {mg : Str → Option Value} {base : Heap}
theorem okG {x qual : Str} {st : Stmt} {f : Addr} {fd : FuncData} {N ps : List Str} {k : Nat} {sp : Sp} (F : Fun K x qual st f fd) (S : FnScope N ps (defScope st)) (len : ∀ vs H Q E, sp vs H Q E → vs.length = ps.length)
    (hbody : ∀ (cdv : Value) (A : Around) (outer : List Env) (s : Shared) (H : Hp) (vs : List V) (Q : VK) (E : XK), Room k (A.deeper (envOfC qual (defScope st) s.heap.objs.size f cdv)) → (A.deeper (envOfC qual (defScope st) s.heap.objs.size f cdv)).guards = some [] → sp vs H Q E →
      ∃ t, PSs (cxOf CX0 P w K mg base N qual (defScope st) f cdv A outer s H E).nox (defBody st) t ∧ t { nx := fun _ H' => Q .non H', rt := Q } (start N vs) H) : FnG P w K mg base (k + 1) f fd ps sp := by
  obtain ⟨oc, od, kV, doc, pm, an, cdv, ct, osl, rfl, lk, hcd⟩ := F.ex
  refine ⟨len, fun A outer s H args us vs Q E hr hgd e0 hb r hsp => ?_⟩
  refine LamX.run_ofS lk hcd S hr e0 hb r (len _ _ _ _ hsp) fun hr' => ?_
  obtain ⟨t, h, q⟩ := hbody cdv A outer s H vs Q E hr' hgd hsp
  exact ⟨t, h.nox, q⟩
end
section
variable {X : Cx} {k : Nat} {f : Addr} {fd : FuncData} {ps ks : List Str} {sp : Sp} {x : Str} {st : Stmt} {p pos : Pos} {e : Expr} {es : List Expr} {kws : List Keyword} {t tk : TA}
theorem pe_callG (D : Df X.K X.mg x st ps f fd) (G : FnG X.prog X.w X.K X.mg X.base k f fd ps sp) (hr : Room k X.A) (hgd : X.A.guards = some []) (ha : PA X (e :: es) t) (hg : Gl X x := by rfl)
    (hdb : (x == ("__debug__" : Str)) = false := by decide) (he : starEach (e :: es) X.env = (false, eval e X.env) :: starEach es X.env := by rfl) (hpl : (backTo pos (starEach es X.env)).any (·.1) = false := by rfl) :
    PE X (.Call (.Name x p) (e :: es) [] pos) (fun σ H Q => t σ H fun vs H1 => sp vs H1 Q fun _ _ _ => False) := by
  refine ⟨fun pins s σ H Q I h => ?_⟩
  refine wpAny_Call_Name_kw (ld_glob I hg D.g ?_ hdb)
  refine PySem.W.callWith_K (h₀ := X.base) I.ok.mod.kin D.F.kp (thn (ha.run pos pins s σ H _ I h) fun us s1 ⟨vs, H1, I1, r, q⟩ => ⟨I1.kIn, ?_⟩) he hpl
  have hl : us.length = ps.length := by rw [← r.length]; exact G.len _ _ _ _ q
  refine wpAny_call (codeAny_mono (G.run X.A X.stack s1 H1 ⟨us, []⟩ us vs Q (fun _ _ _ => False) hr hgd I1.env0 (by
    have z := D.b s1 us I1.kIn (by rw [List.append_nil]; exact hl)
    rw [List.append_nil] at z
    exact z) r q) fun r s' hq => ?_)
  cases r with
  | error e => exact (show False from hq).elim
  | ok fl =>
    cases fl with
    | ret u => exact I1.after hq
    | next => exact False.elim hq
    | brk => exact False.elim hq
    | cont => exact False.elim hq
/-! ### f(k = v, ..), every argument by its name -/
theorem pe_callW {CX : CXT} {E : XK} {g : List Value → List Value → List Value} {gV : List V → List V → List V} (D : Df X.K X.mg x st ps f fd) (G : FnOk X.prog X.w X.K X.mg X.base CX k f fd ps sp) (hr : Room k X.A) (hb : KBn X.K fd ps 0 ks g gV) (hx : Passes CX X E) (hkw : PK X kws tk) (hg : Gl X x := by rfl)
    (hall : (backToKw pos (keywordEach kws X.env)).all (·.1.isSome) = true := by rfl) (hks : (backToKw pos (keywordEach kws X.env)).filterMap (·.1) = ks := by rfl) (hdb : (x == ("__debug__" : Str)) = false := by decide)
    (hpl : ((backTo pos (starEach [] X.env)).any (·.1) || (backToKw pos (keywordEach kws X.env)).any (·.1.isNone)) = false := by rfl) :
    PE X (.Call (.Name x p) [] kws pos) (fun σ H Q => tk σ H fun zs H1 => zs.length = ks.length ∧ sp (gV [] zs) H1 Q E) := by
  refine ⟨fun pins s σ H Q I h => ?_⟩
  refine wpAny_Call_Name_kw (ld_glob I hg D.g ?_ hdb)
  refine PySem.W.callWith_KW0 (h₀ := X.base) I.ok.mod.kin D.F.kp hall ?_ hpl
  refine thn (hkw.run pos pins s σ H _ I h) fun ws s2 ⟨zs, H2, I2, rz, l2, q2⟩ => ⟨I2.kIn, ?_⟩
  rw [hks]
  exact run_fnN (us := []) (vs := []) G hr hb hx I2 .nil rz rfl l2 q2
end
section
variable {P : Program} {w : World} {K : PySem.W.Frag} {mg : Str → Option Value} {base : Heap}
theorem FunC.okG {x qual : Str} {st : Stmt} {f : Addr} {fd : FuncData} {cdv : Value} {N ps : List Str} {k : Nat} {sp : Sp} (F : FunC K x qual st f fd cdv) (S : FnScope N ps (defScope st)) (len : ∀ vs H Q E, sp vs H Q E → vs.length = ps.length)
    (hbody : ∀ (A : Around) (outer : List Env) (s : Shared) (H : Hp) (vs : List V) (Q : VK) (E : XK), Room k (A.deeper (envOfC qual (defScope st) s.heap.objs.size f cdv)) → (A.deeper (envOfC qual (defScope st) s.heap.objs.size f cdv)).guards = some [] → sp vs H Q E →
      ∃ t, PSs (cxOf CX0 P w K mg base N qual (defScope st) f cdv A outer s H E).nox (defBody st) t ∧ t { nx := fun _ H' => Q .non H', rt := Q } (start N vs) H) : FnG P w K mg base (k + 1) f fd ps sp := by
  obtain ⟨oc, od, kV, doc, pm, an, ct, osl, rfl, lk, hcd⟩ := F.ex
  refine ⟨len, fun A outer s H args us vs Q E hr hgd e0 hb r hsp => ?_⟩
  refine LamX.run_ofS lk hcd S hr e0 hb r (len _ _ _ _ hsp) fun hr' => ?_
  obtain ⟨t, h, q⟩ := hbody A outer s H vs Q E hr' hgd hsp
  exact ⟨t, h.nox, q⟩
end
/-- f(d = .., c = .., b = .., a = ..) -/
abbrev gR : List Value → List Value → List Value := fun _ ws => ws.reverse
abbrev gRV : List V → List V → List V := fun _ zs => zs.reverse
end K1
namespace K1
open PySem PySem.Spec PyProof.Rows L2
/-! ### the orbit's table -/
section
variable {ts : Ts} {s a b c : Int}
theorem jn_run (te : Tells ts s) (ha : Rch ts s a) {r : List Int} (hr : VRow ts r) : jn ts s a (run ts s r) = run ts a r := jn_told ((tells_all.mp te s Rch.refl a ha).j hr)
theorem Rch.run {r : List Int} (ha : Rch ts s a) (hr : VRow ts r) : Rch ts s (run ts a r) := ha.trans ⟨r, hr, rfl⟩
theorem jn_right (te : Tells ts s) (ha : Rch ts s a) : jn ts s a s = a := jn_run te ha (r := []) fun d hd => absurd hd (by simp)
theorem jn_left (te : Tells ts s) (hb : Rch ts s b) : jn ts s s b = b := by
  obtain ⟨r, hr, rfl⟩ := hb
  exact jn_run te Rch.refl hr
theorem jn_in (te : Tells ts s) (ha : Rch ts s a) (hb : Rch ts s b) : Rch ts s (jn ts s a b) := by
  obtain ⟨r, hr, rfl⟩ := hb
  rw [jn_run te ha hr]
  exact ha.run hr
theorem jn_assoc (te : Tells ts s) (ha : Rch ts s a) (hb : Rch ts s b) (hc : Rch ts s c) : jn ts s (jn ts s a b) c = jn ts s a (jn ts s b c) := by
  obtain ⟨q, hq, rfl⟩ := hb
  obtain ⟨r, hr, rfl⟩ := hc
  have e : K1.run ts (K1.run ts s q) r = K1.run ts s (q ++ r) := (run_app _ _ _ _).symm
  rw [jn_run te ha hq, jn_run te (ha.run hq) hr, jn_run te (Rch.refl.run hq) hr, e, jn_run te ha (VRow.app hq hr), run_app]
theorem jn_deed (te : Tells ts s) (ha : Rch ts s a) {d : Int} (hd : In8 ts d) : jn ts s a (stp ts s d) = stp ts a d := jn_run te ha (r := [d]) fun e he => by rw [List.mem_singleton.mp he]; exact hd
theorem Comm.swap (c : Comm ts s) {r : List Int} (hr : VRow ts r) : ∀ (q : List Int) {x : Int}, Rch ts s x → VRow ts q → K1.run ts x (q ++ r) = K1.run ts (K1.run ts x r) q
  | [], x, _, _ => rfl
  | d :: q, x, hx, hq => by
    have hd := hq d List.mem_cons_self
    have hy : Rch ts s (stp ts x d) := hx.trans ⟨[d], fun e he => by rw [List.mem_singleton.mp he]; exact hd, rfl⟩
    show K1.run ts (stp ts x d) (q ++ r) = K1.run ts (stp ts (K1.run ts x r) d) q
    rw [c.swap hr q hy (fun e he => hq e (List.mem_cons_of_mem _ he)), c.one hd r hx hr]
theorem comm_iff (te : Tells ts s) : Comm ts s ↔ ∀ x y, Rch ts s x → Rch ts s y → jn ts s x y = jn ts s y x := by
  constructor
  · rintro cm x y ⟨q, hq, rfl⟩ ⟨r, hr, rfl⟩
    rw [jn_run te (Rch.refl.run hq) hr, jn_run te (Rch.refl.run hr) hq, ← run_app, cm.swap hr q Rch.refl hq]
  · intro sym x hx d e hd he
    have vd : VRow ts [d] := fun z hz => by rw [List.mem_singleton.mp hz]; exact hd
    have ve : VRow ts [e] := fun z hz => by rw [List.mem_singleton.mp hz]; exact he
    have k := sym (K1.run ts s [d]) (K1.run ts s [e]) (Rch.refl.run vd) (Rch.refl.run ve)
    rw [jn_run te (Rch.refl.run vd) ve, jn_run te (Rch.refl.run ve) vd, ← run_app, ← run_app] at k
    have k1 := jn_run te hx (vd.app ve)
    have k2 := jn_run te hx (ve.app vd)
    rw [k] at k1
    exact k1.symm.trans k2
/-- a state goes back by a row just if it leads home -/
theorem back_iff (te : Tells ts s) {o x : Int} (ho : Rch ts s o) : Back ts s o x ↔ ∃ r, VRow ts r ∧ K1.run ts o r = s ∧ K1.run ts s r = x := by
  constructor
  · rintro ⟨_, ⟨r, hr, e1, e2⟩, _⟩
    exact ⟨r, hr, e2, e1⟩
  · rintro ⟨r, hr, e1, e2⟩
    refine ⟨ho, ?_⟩
    have j := (tells_all.mp te s Rch.refl o ho).j hr
    rw [e1, e2] at j
    exact j
theorem lost_iff (te : Tells ts s) {o : Int} (ho : Rch ts s o) : Rch ts o s ↔ ∃ x, Back ts s o x := by
  constructor
  · rintro ⟨r, hr, e⟩
    exact ⟨_, (back_iff te ho).mpr ⟨r, hr, e, rfl⟩⟩
  · rintro ⟨x, b⟩
    exact b.home
/-- a join turned round -/
theorem turned (te : Tells ts s) {o x h t : Int} (b : Back ts s o x) (hh : Rch ts s h) {r : List Int} (hr : VRow ts r) (et : K1.run ts o r = t) : jn ts s (jn ts s h x) t = K1.run ts h r := by
  obtain ⟨q, hq, e1, e2⟩ := (back_iff te b.1).mp b
  obtain ⟨u, hu, eu⟩ := b.1
  -- x o is at home: told of all rows
  have hx : jn ts s h x = K1.run ts h q := by rw [← e2]; exact jn_run te hh hq
  have et2 : t = K1.run ts s (u ++ r) := by rw [run_app, eu, et]
  rw [hx, et2, jn_run te (hh.run hq) (VRow.app hu hr), ← run_app]
  -- rows q ++ (u ++ r) and r lead the same from o; so from h
  have told := tells_all.mp te o b.1
  have e3 : K1.run ts o (q ++ (u ++ r)) = K1.run ts o r := by rw [run_app, e1, run_app, eu]
  have hho : Rch ts o h := b.home.trans hh
  exact told h hho (q ++ (u ++ r)) r (VRow.app hq (VRow.app hu hr)) hr e3
end
end K1
namespace K1
open PySem PySem.Spec PyProof.Rows L2
def bodyOf : Stmt → List Stmt | .For _ _ b _ _ => b | _ => []
abbrev nTR : List Str := ["_law_tables_here", "_law_maps_here", "_law_machine", "_law_state", "_law_orbit", "_law_told", "_law_due", "_law_here", "_law_ends_here", "_law_table", "_law_unit", "_law_at", "_law_other", "_law_more", "_law_left", "_law_right", "_law_deed", "_law_commutes", "_law_one", "_law_there"]
theorem scTR : FnScope nTR ["_law_tables_here", "_law_maps_here", "_law_machine", "_law_state", "_law_orbit"] (defScope sTabR) := ⟨rfl, rfl, rfl, by decide +kernel, rfl, by decide +kernel, by decide +kernel⟩
abbrev sDue : List Stmt := bodyOf ((defBody sTabR).getD 2 (.Pass ⟨0, 0, 0, 0⟩))
theorem EndsAt.val {H : Hp} {d : Addr} {ts : Ts} {s a x : Int} (te : Tells ts s) (ha : Rch ts s a) (hx : Rch ts s x) (h : EndsAt H d ts s a) : ∃ kvs : List (Key × V), H d = some (.dK kvs) ∧ valV kvs (Sum.inl x) = some (.int (jn ts s a x)) := by
  obtain ⟨kvs, h1, _, h3⟩ := h
  obtain ⟨r, hr, e⟩ := hx
  exact ⟨kvs, h1, (h3 x _).mpr ⟨r, hr, e, by rw [← e, jn_run te ha hr]⟩⟩
section
variable {P : Program} {w : World} {K : PySem.W.Frag} {mg : Str → Option Value} {base : Heap}
theorem tr_here {f fE : Addr} {fdE : FuncData} {cdv : Value} {A : Around} {outer : List Env} {s : Shared} {H₀ : Hp} {E : XK} {k : Nat} (hr : Room (k + 1) (A.deeper (envOfC "_law_table_right" (defScope sTabR) s.heap.objs.size f cdv))) (B : Bt mg) (DE : Df K mg "_law_ends" sLEnds ["_law_maps_here", "_law_archive", "_law_here"] fE fdE)
    (GE : FnOk P w K mg base CX0 1 fE fdE ["_law_maps_here", "_law_archive", "_law_here"] spLEnds) :
    ∃ t, PSs (cxOf CX0 P w K mg base nTR "_law_table_right" (defScope sTabR) f cdv A outer s H₀ E).nox sDue t ∧
      ∀ (D : Ends) (H : Hp) (v0 v2 v5 v7 v8 v9 v10 v11 v12 v13 v14 v15 v16 v17 v18 v19 : Option V) (q lo du : Addr) (ns : List Int) (F : List KR) (ts : Ts) (st x : Int) (as : List Addr), MapsAt H q F → Fst (actL ts) ts.length (idL (nS ts)) F → F.length ≤ 1000 → Wf ts → (0 ≤ st ∧ st < (nS ts : Int)) → Tells ts st → OrbL ts st ns → H lo = some (.lst (vrow ns)) → lo ≠ du → H du = some (.lst (as.map V.ref)) → as.length ≤ 100 → Rch ts st x →
        (∀ H' d pr, (∀ c o, H c = some o → c ≠ du → H' c = some o) → H' du = some (.lst ((as ++ [pr]).map V.ref)) → H' pr = some (.tup (vrow (ns.map (jn ts st x)))) → D.nx [v0, some (.ref q), v2, some (.int st), some (.ref lo), v5, some (.ref du), some (.int x), some (.ref d), v9, v10, v11, v12, v13, v14, v15, v16, v17, v18, v19] H') →
        t D [v0, some (.ref q), v2, some (.int st), some (.ref lo), v5, some (.ref du), some (.int x), v8, v9, v10, v11, v12, v13, v14, v15, v16, v17, v18, v19] H := by
  have r1 := hr.mono (show 1 ≤ k + 1 by omega)
  have hu : (A.deeper (envOfC "_law_table_right" (defScope sTabR) s.heap.objs.size f cdv)).units + 1 < cLine := by have := hr.units; omega
  refine ⟨_, pss_cons (ps_set (i := 8) scTR.nd rfl (.inr rfl) (pc DE GE r1 pass0 (pa_cons (pv 1) (pa_cons (pv 3) (pa_cons (pv 7) pa_nil)))))
    (pss_one (ps_expr (pe_bm PySem.F.plainAttrs_list PySem.F.slot_list_append PySem.F.type_list_append mt_append (pv 6) (pa_cons (pe_callTy call_tuple_of (by rfl) B.tuple PyProof.Rows.boot_tuple (pa_cons
      (pe_lc (own := [("_law_there", 19)]) (g := gName 19) (tt := tYes) rfl scTR.nd (piL (K := K) rfl (pv 4)) (blkOk_by (N := nTR) (sc := defScope sTabR) (by decide +kernel)) (fun _ _ _ _ _ => pg_name (i := 19) scTR.nd rfl (Or.inl rfl)) (fun _ _ _ _ _ => pts_nil)
        (fun _ _ _ _ _ => pe_dget hu (pv 8) (pv 19) (fun _ _ => rfl))) pa_nil)) pa_nil)))),
    fun D H v0 v2 v5 v7 v8 v9 v10 v11 v12 v13 v14 v15 v16 v17 v18 v19 q lo du ns F ts st x as hq hF hf hW hst te on hlo nlo hdu la hx Q => ?_⟩
  have hxr := hx.rng hW hst
  refine ⟨_, rfl, _, rfl, _, rfl, nilP ⟨q, st, x, F, ts, rfl, hq, hF, hf, hW, hst, hxr, fun nt => absurd (tells_all.mp te st Rch.refl x hx) nt, fun _ d H1 s1 hd => ?_⟩⟩
  refine gn ?_
  dsimp only [List.set]
  have l12 := on.len hW hst
  have hlo1 := s1 _ _ hlo
  refine ⟨_, rfl, .inl ⟨rfl, _, SqL.of (s1 _ _ hdu)⟩, _, rfl, lo, rfl, ⟨_, SqL.of hlo1⟩, fun D0 hD0 => lc_list (K := K) (a := lo) (xs := vrow ns) (fun k H3 => Same H1 H3 ∧ H3 D0 = some (.lst ((vrow (ns.map (jn ts st x))).take k))) ⟨same_new hD0, by rw [upd_same]; rfl⟩ (fun k H3 _ ⟨s3, _⟩ => SqL.of (s3 _ _ hlo1)) ?_ ?_⟩
  · rintro k z H3 hz ⟨s3, hD3⟩
    obtain ⟨y, hy, rfl⟩ := vrow_at hz
    obtain ⟨kvs, hd1, hv⟩ := hd.val te hx ((on.2 y).mp (List.mem_of_getElem? hy))
    refine ⟨rfl, _, rfl, _, rfl, d, .int (jn ts st x y), rfl, by rw [← hv]; exact DGet.k (k := Sum.inl y) (s3 _ _ hd1), _, hD3, by rw [List.length_take, vrow, List.length_map, List.length_map, sizeLine_eq]; omega, ?_, ?_⟩
    · intro c o e
      rw [upd_ne (ne_of_none e hD0)]
      exact s3 _ _ e
    · have ez : (vrow (ns.map (jn ts st x)))[k]? = some (V.int (jn ts st x y)) := by rw [vrow, List.map_map, List.getElem?_map, hy]; rfl
      rw [upd_same, take_succ ez]
  · rintro H3 ⟨s3, hD3⟩
    have etk : (vrow (ns.map (jn ts st x))).take (vrow ns).length = vrow (ns.map (jn ts st x)) := by rw [List.take_of_length_le]; rw [vrow, vrow, List.length_map, List.length_map, List.length_map]; exact Nat.le_refl _
    rw [etk] at hD3
    refine ⟨D0, _, rfl, .inl ⟨SqL.of hD3, fun pr hpr => ?_⟩⟩
    have s4 := (s1.trans s3).trans (same_new (o := HO.tup (vrow (ns.map (jn ts st x)))) hpr)
    have hdu4 := s4 _ _ hdu
    have npd : pr ≠ du := fun z => by rw [z, (s1.trans s3) _ _ hdu] at hpr; cases hpr
    refine ⟨du, _, _, rfl, rfl, hdu4, by rw [List.length_map, sizeLine_eq]; omega, ?_⟩
    exact Q _ d pr (fun c o e n => by rw [upd_ne n]; exact s4 _ _ e) (by rw [upd_same, List.map_append]; rfl) (by rw [upd_ne npd]; exact upd_same)
end
end K1
namespace K1
open PySem PySem.Spec PyProof.Rows L2
theorem mtIdx {X : Cx} {K : PySem.W.Frag} (h : X.K = K) : MtR X "list.index" (rIndex K) := by
  subst h
  exact mt_index
theorem op_neR {X : Cx} : OpR X (compareOp .NotEq) rNe := op_ne
abbrev sAt : List Stmt := bodyOf ((defBody sTabR).getD 5 (.Pass ⟨0, 0, 0, 0⟩))
section
variable {P : Program} {w : World} {K : PySem.W.Frag} {mg : Str → Option Value} {base : Heap}
theorem tr_unit {f : Addr} {cdv : Value} {A : Around} {outer : List Env} {s : Shared} {H₀ : Hp} {E : XK} (B : Bt mg) :
    ∃ t, PSs (cxOf CX0 P w K mg base nTR "_law_table_right" (defScope sTabR) f cdv A outer s H₀ E).nox sAt t ∧
      ∀ (D : Ends) (H : Hp) (v1 v2 v5 v6 v7 v8 v12 v13 v14 v15 v16 v17 v18 v19 : Option V) (p lo pt : Addr) (ns : List Int) (ts : Ts) (st : Int) (i u : Nat), TabL H p (vts ts) → Wf ts → (0 ≤ st ∧ st < (nS ts : Int)) → Tells ts st → OrbL ts st ns → H lo = some (.lst (vrow ns)) → TupT H pt (jrows ts st ns) → ns[u]? = some st → i < ns.length →
        (∀ x12 x13 x14 x15 x16, D.nx [some (.ref p), v1, v2, some (.int st), some (.ref lo), v5, v6, v7, v8, some (.ref pt), some (.int (u : Int)), some (.int (i : Int)), x12, x13, x14, x15, x16, v17, v18, v19] H) →
        t D [some (.ref p), v1, v2, some (.int st), some (.ref lo), v5, v6, v7, v8, some (.ref pt), some (.int (u : Int)), some (.int (i : Int)), v12, v13, v14, v15, v16, v17, v18, v19] H := by
  refine ⟨_, pss_cons (ps_if (PW.pt (pw_or (pt_cmpR op_ne (pe_ix (ixTK (K := K) rfl) (pe_ix (ixTK (K := K) rfl) (pv 9) (pv 11) (fun _ _ => rfl)) (pv 10) (fun _ _ => rfl)) (pe_ix (ixLK (K := K) rfl) (pv 4) (pv 11) (fun _ _ => rfl)) (nomark _))
        (pw_or1 (pt_cmpR op_ne (pe_ix (ixTK (K := K) rfl) (pe_ix (ixTK (K := K) rfl) (pv 9) (pv 10) (fun _ _ => rfl)) (pv 11) (fun _ _ => rfl)) (pe_ix (ixLK (K := K) rfl) (pv 4) (pv 11) (fun _ _ => rfl)) (nomark _))))) (pss_one (ps_ret pe_bl)) pss_nil)
    (pss_cons (ps_for PassesOwn.never rfl (pi_range1 (by rfl) B.range (pa_cons (pe_callB (clen (K := K) rfl) (by rfl) B.len PySem.boot_len (pa_cons (pv 4) pa_nil)) pa_nil)) (pg_name (i := 12) scTR.nd rfl (.inl rfl))
        (pss_one (ps_for PassesOwn.never rfl (pi_range1 (by rfl) B.range (pa_cons (pe_callB (clen (K := K) rfl) (by rfl) B.len PySem.boot_len (pa_cons (pv 4) pa_nil)) pa_nil)) (pg_name (i := 13) scTR.nd rfl (.inl rfl))
          (pss_cons (ps_par (i := 14) (j := 15) rfl scTR.nd rfl rfl (by decide) rfl rfl (pa_cons
              (pe_ix (ixTK (K := K) rfl) (pe_ix (ixTK (K := K) rfl) (pv 9) (pe_bm PySem.F.plainAttrs_list PySem.F.slot_list_index PySem.F.type_list_index (mtIdx (K := K) rfl) (pv 4) (pa_cons (pe_ix (ixTK (K := K) rfl) (pe_ix (ixTK (K := K) rfl) (pv 9) (pv 11) (fun _ _ => rfl)) (pv 12) (fun _ _ => rfl)) pa_nil)) (fun _ _ => rfl)) (pv 13) (fun _ _ => rfl)) (pa_cons
              (pe_ix (ixTK (K := K) rfl) (pe_ix (ixTK (K := K) rfl) (pv 9) (pv 11) (fun _ _ => rfl)) (pe_bm PySem.F.plainAttrs_list PySem.F.slot_list_index PySem.F.type_list_index (mtIdx (K := K) rfl) (pv 4) (pa_cons (pe_ix (ixTK (K := K) rfl) (pe_ix (ixTK (K := K) rfl) (pv 9) (pv 12) (fun _ _ => rfl)) (pv 13) (fun _ _ => rfl)) pa_nil)) (fun _ _ => rfl)) pa_nil)) rfl)
          (pss_one (ps_if (pt_cmpR op_ne (pv 14) (pv 15) (nomark _)) (pss_one (ps_ret pe_bl)) pss_nil))))))
    (pss_one (ps_for PassesOwn.never rfl (pi_range1 (by rfl) B.range (pa_cons (pe_callB (clen (K := K) rfl) (by rfl) B.len PySem.boot_len (pa_cons (pv 0) pa_nil)) pa_nil)) (pg_name (i := 16) scTR.nd rfl (.inl rfl))
        (pss_one (ps_if (pt_cmpR op_ne (pe_ix (ixTK (K := K) rfl) (pe_ix (ixLK (K := K) rfl) (pv 0) (pv 16) (fun _ _ => rfl)) (pe_ix (ixLK (K := K) rfl) (pv 4) (pv 11) (fun _ _ => rfl)) (fun _ _ => rfl))
            (pe_ix (ixTK (K := K) rfl) (pe_ix (ixTK (K := K) rfl) (pv 9) (pv 11) (fun _ _ => rfl)) (pe_bm PySem.F.plainAttrs_list PySem.F.slot_list_index PySem.F.type_list_index (mtIdx (K := K) rfl) (pv 4) (pa_cons (pe_ix (ixTK (K := K) rfl) (pe_ix (ixLK (K := K) rfl) (pv 0) (pv 16) (fun _ _ => rfl)) (pv 3) (fun _ _ => rfl)) pa_nil)) (fun _ _ => rfl)) (nomark _)) (pss_one (ps_ret pe_bl)) pss_nil))))),
    fun D H v1 v2 v5 v6 v7 v8 v12 v13 v14 v15 v16 v17 v18 v19 p lo pt ns ts st i u tl hW hst te on hlo hT hu hi Q => ?_⟩
  obtain ⟨as, hp1, hR1, hR2⟩ := hT
  obtain ⟨tas, t1, t2, t3⟩ := tl
  have lta : tas.length = ts.length := by rw [t2, vts, List.length_map]
  have lj : (jrows ts st ns).length = ns.length := by rw [jrows, List.length_map]
  have row : ∀ (j : Nat) (b : Int), ns[j]? = some b → ∃ r, atI (as.map V.ref) (j : Int) = some (.ref r) ∧ SqT K H r (vrow (ns.map (jn ts st b))) := fun j b hj => by
    have hl : j < as.length := by rw [hR1, lj]; exact (List.getElem?_eq_some_iff.mp hj).1
    obtain ⟨r, hr⟩ : ∃ r, as[j]? = some r := ⟨_, List.getElem?_eq_getElem hl⟩
    obtain ⟨ob, e⟩ := hR2 j r (ns.map (jn ts st b)) hr (by rw [jrows, List.getElem?_map, hj]; rfl)
    exact ⟨r, atI_nat (j := j) (by rw [List.getElem?_map, hr]; rfl), .inl (.inr ⟨ob, e⟩)⟩
  have ent : ∀ (b c : Int) (k : Nat), ns[k]? = some c → atI (vrow (ns.map (jn ts st b))) (k : Int) = some (.int (jn ts st b c)) := fun b c k hk => atI_nat (j := k) (by rw [vrow, List.map_map, List.getElem?_map, hk]; rfl)
  have orb : ∀ (k : Nat) (c : Int), ns[k]? = some c → atI (vrow ns) (k : Int) = some (.int c) := fun k c hk => atI_nat (j := k) (by rw [vrow, List.getElem?_map, hk]; rfl)
  have idx : ∀ c, Rch ts st c → ∃ k : Nat, ns[k]? = some c ∧ (vrow ns)[k]? = some (.int c) ∧ eqV (.int c) (.int c) = true ∧ ∀ (m : Nat) (z' : V), m < k → (vrow ns)[m]? = some z' → eqV z' (.int c) = false := fun c hc => by
    obtain ⟨k, h1, h2⟩ := fst_at ((on.2 c).mpr hc)
    refine ⟨k, h1, by rw [vrow, List.getElem?_map, h1]; rfl, by show (c == c) = true; simp, fun m z' hm hz => ?_⟩
    obtain ⟨y, hy, rfl⟩ := vrow_at hz
    show (y == c) = false
    exact beq_eq_false_iff_ne.mpr fun e => h2 m hm (e ▸ hy)
  obtain ⟨a, ha⟩ : ∃ a, ns[i]? = some a := ⟨_, List.getElem?_eq_getElem hi⟩
  have haR := (on.2 a).mp (List.mem_of_getElem? ha)
  have har := haR.rng hW hst
  obtain ⟨ri, gi, si⟩ := row i a ha
  obtain ⟨ru, gu, su⟩ := row u st hu
  have e1 := ent a st u hu
  rw [jn_right te haR] at e1
  have e2 := ent st a i ha
  rw [jn_left te haR] at e2
  have l12 := on.len hW hst
  refine ⟨_, rfl, _, rfl, pt, _, (i : Int), .ref ri, rfl, rfl, SqT.of hp1, gi, _, rfl, ri, _, (u : Int), .int a, rfl, rfl, si, e1, _, rfl, _, rfl, lo, _, (i : Int), .int a, rfl, rfl, SqL.of hlo, orb i a ha, neV rfl ⟨_, rfl, iteF ?_⟩⟩
  refine ⟨_, rfl, _, rfl, pt, _, (u : Int), .ref ru, rfl, rfl, SqT.of hp1, gu, _, rfl, ru, _, (i : Int), .int a, rfl, rfl, su, e2, _, rfl, _, rfl, lo, _, (i : Int), .int a, rfl, rfl, SqL.of hlo, orb i a ha, neV rfl ⟨_, rfl, iteF (nxP ?_)⟩⟩
  have ll : ((vrow ns).length : Int) = (ns.length : Int) := by rw [vrow, List.length_map]
  have lN : ((ns.length : Int)).toNat = ns.length := by omega
  refine ⟨_, rfl, lo, _, rfl, .inl (SqL.of hlo), ?_⟩
  rw [ll]
  refine ⟨(ns.length : Int), rfl, by omega, by omega, for_range (fun j σ H' => H' = H ∧ ∃ x12 x13 x14 x15, σ = [some (.ref p), v1, v2, some (.int st), some (.ref lo), v5, v6, v7, v8, some (.ref pt), some (.int (u : Int)), some (.int (i : Int)), x12, x13, x14, x15, v16, v17, v18, v19]) ⟨rfl, _, _, _, _, rfl⟩ ?_ ?_⟩
  · rintro j σ H1 hj ⟨rfl, x12, x13, x14, x15, rfl⟩
    rw [lN] at hj
    have ej : 0 + (j : Int) = (j : Int) := by omega
    obtain ⟨b, hb⟩ : ∃ b, ns[j]? = some b := ⟨_, List.getElem?_eq_getElem hj⟩
    have hbR := (on.2 b).mp (List.mem_of_getElem? hb)
    obtain ⟨rj, gj, sj⟩ := row j b hb
    refine gn ?_
    dsimp only [List.set]
    rw [ej]
    refine ⟨_, rfl, lo, _, rfl, .inl (SqL.of hlo), ?_⟩
    rw [ll]
    refine ⟨(ns.length : Int), rfl, by omega, by omega, for_range (fun k σ H' => H' = H1 ∧ ∃ x13 x14 x15, σ = [some (.ref p), v1, v2, some (.int st), some (.ref lo), v5, v6, v7, v8, some (.ref pt), some (.int (u : Int)), some (.int (i : Int)), some (.int (j : Int)), x13, x14, x15, v16, v17, v18, v19]) ⟨rfl, _, _, _, rfl⟩ ?_ ?_⟩
    · rintro k σ H2 hk ⟨rfl, x13, x14, x15, rfl⟩
      rw [lN] at hk
      have ek : 0 + (k : Int) = (k : Int) := by omega
      obtain ⟨c, hc⟩ : ∃ c, ns[k]? = some c := ⟨_, List.getElem?_eq_getElem hk⟩
      have hcR := (on.2 c).mp (List.mem_of_getElem? hc)
      obtain ⟨k1, i1, i2, i3, i4⟩ := idx _ (jn_in te haR hbR)
      obtain ⟨k2, m1, m2, m3, m4⟩ := idx _ (jn_in te hbR hcR)
      obtain ⟨r1, g1, s1⟩ := row k1 _ i1
      have f1 := ent (jn ts st a b) c k hc
      have f2 := ent a (jn ts st b c) k2 m1
      rw [← jn_assoc te haR hbR hcR] at f2
      refine gn ?_
      dsimp only [List.set]
      rw [ek]
      refine ⟨_, rfl, _, rfl, .inl ⟨rfl, _, SqL.of hlo⟩, _, rfl, _, rfl, pt, _, (i : Int), .ref ri, rfl, rfl, SqT.of hp1, gi, _, rfl, ri, _, (j : Int), .int (jn ts st a b), rfl, rfl, si, ent a b j hb, lo, vrow ns, .int (jn ts st a b), k1, _, rfl, rfl, SqL.of hlo, rfl, flat_row ns, i2, i3, i4, pt, _, (k1 : Int), .ref r1, rfl, rfl, SqT.of hp1, g1, _, rfl, r1, _, (k : Int), _, rfl, rfl, s1, f1, ?_⟩
      refine ⟨_, rfl, _, rfl, pt, _, (i : Int), .ref ri, rfl, rfl, SqT.of hp1, gi, _, rfl, .inl ⟨rfl, _, SqL.of hlo⟩, _, rfl, _, rfl, pt, _, (j : Int), .ref rj, rfl, rfl, SqT.of hp1, gj, _, rfl, rj, _, (k : Int), .int (jn ts st b c), rfl, rfl, sj, ent b c k hc, lo, vrow ns, .int (jn ts st b c), k2, _, rfl, rfl, SqL.of hlo, rfl, flat_row ns, m2, m3, m4, ri, _, (k2 : Int), _, rfl, rfl, si, f2, _, _, rfl, ?_⟩
      exact ⟨_, rfl, _, rfl, neV rfl ⟨_, rfl, iteF (nxP ⟨rfl, _, _, _, rfl⟩)⟩⟩
    · rintro σ H2 ⟨rfl, x13, x14, x15, rfl⟩
      exact ⟨rfl, _, _, _, _, rfl⟩
  · rintro σ H1 ⟨rfl, x12, x13, x14, x15, rfl⟩
    have lT : ((tas.map V.ref).length : Int) = (ts.length : Int) := by rw [List.length_map, lta]
    have t8 := hW.t8
    refine ⟨_, rfl, p, _, rfl, .inl (SqL.of t1), ?_⟩
    rw [lT]
    refine ⟨(ts.length : Int), rfl, by omega, by omega, for_range (fun k σ H' => H' = H1 ∧ ∃ x16, σ = [some (.ref p), v1, v2, some (.int st), some (.ref lo), v5, v6, v7, v8, some (.ref pt), some (.int (u : Int)), some (.int (i : Int)), x12, x13, x14, x15, x16, v17, v18, v19]) ⟨rfl, _, rfl⟩ ?_ ?_⟩
    · rintro k σ H2 hk ⟨rfl, x16, rfl⟩
      have hd8 : In8 ts (k : Int) := ⟨by omega, by omega⟩
      have ek : 0 + (k : Int) = (k : Int) := by omega
      obtain ⟨t, w1, w2, w3⟩ := hW.at_ hd8 har
      obtain ⟨t', w1', w2', w3'⟩ := hW.at_ hd8 hst
      obtain rfl : t = t' := Option.some.inj (w1.symm.trans w1')
      have hkl : k < tas.length := by omega
      obtain ⟨td, htd⟩ : ∃ t, tas[k]? = some t := ⟨_, List.getElem?_eq_getElem hkl⟩
      have ekn : ((k : Int)).toNat = k := by omega
      rw [ekn] at w1
      have hT := t3 _ td (vrow t) htd (by rw [vts, List.getElem?_map, w1]; rfl)
      have dR : Rch ts st (stp ts st (k : Int)) := ⟨[(k : Int)], fun e he => by rw [List.mem_singleton.mp he]; exact hd8, rfl⟩
      obtain ⟨k1, i1, i2, i3, i4⟩ := idx _ dR
      have f1 := ent a (stp ts st (k : Int)) k1 i1
      rw [jn_deed te haR hd8] at f1
      have gt : atI (tas.map V.ref) (k : Int) = some (.ref td) := atI_nat (j := k) (by rw [List.getElem?_map, htd]; rfl)
      have ga : atI (vrow t) a = some (.int (stp ts a (k : Int))) := at_of (j := a.toNat) (by omega) (by rw [vrow, List.getElem?_map, w2]; rfl)
      have gs : atI (vrow t) st = some (.int (stp ts st (k : Int))) := at_of (j := st.toNat) (by omega) (by rw [vrow, List.getElem?_map, w2']; rfl)
      refine gn ?_
      dsimp only [List.set]
      rw [ek]
      refine ⟨_, rfl, _, rfl, p, _, (k : Int), .ref td, rfl, rfl, SqL.of t1, gt, _, rfl, _, rfl, lo, _, (i : Int), .int a, rfl, rfl, SqL.of hlo, orb i a ha, td, _, a, _, rfl, rfl, SqT.of hT, ga, ?_⟩
      refine ⟨_, rfl, _, rfl, pt, _, (i : Int), .ref ri, rfl, rfl, SqT.of hp1, gi, _, rfl, .inl ⟨rfl, _, SqL.of hlo⟩, _, rfl, _, rfl, p, _, (k : Int), .ref td, rfl, rfl, SqL.of t1, gt, _, rfl, td, _, st, _, rfl, rfl, SqT.of hT, gs, lo, vrow ns, _, k1, _, rfl, rfl, SqL.of hlo, rfl, flat_row ns, i2, i3, i4, ri, _, (k1 : Int), _, rfl, rfl, si, f1, neV rfl ⟨_, rfl, iteF (nxP ⟨rfl, _, rfl⟩)⟩⟩
    · rintro σ H2 ⟨rfl, x16, rfl⟩
      exact Q _ _ _ _ _
end
end K1
namespace K1
open PySem PySem.Spec PyProof.Rows L2
abbrev sCom : List Stmt := bodyOf ((defBody sTabR).getD 7 (.Pass ⟨0, 0, 0, 0⟩))
/-- deeds that commute at one state -/
def CommAt (ts : Ts) (x : Int) : Prop := ∀ d e, In8 ts d → In8 ts e → e < d → stp ts (stp ts x e) d = stp ts (stp ts x d) e
theorem comm_at {ts : Ts} {s : Int} {ns : List Int} (on : OrbL ts s ns) : Comm ts s ↔ ∀ x ∈ ns, CommAt ts x := by
  constructor
  · exact fun c x hx d e hd he _ => c x ((on.2 x).mp hx) e d he hd
  · intro h x hx d e hd he
    rcases Int.lt_trichotomy d e with g | g | g
    · exact h x ((on.2 x).mpr hx) e d he hd g
    · rw [g]
    · exact (h x ((on.2 x).mpr hx) d e hd he g).symm
section
variable {P : Program} {w : World} {K : PySem.W.Frag} {mg : Str → Option Value} {base : Heap}
theorem tr_comm {f : Addr} {cdv : Value} {A : Around} {outer : List Env} {s : Shared} {H₀ : Hp} {E : XK} (B : Bt mg) :
    ∃ t, PSs (cxOf CX0 P w K mg base nTR "_law_table_right" (defScope sTabR) f cdv A outer s H₀ E).nox sCom t ∧
      ∀ (D : Ends) (H : Hp) (v1 v2 v3 v4 v5 v6 v8 v9 v10 v11 v12 v13 v14 v15 v16 v18 v19 : Option V) (p : Addr) (ts : Ts) (x : Int) (b : Bool) (C : Prop), TabL H p (vts ts) → Wf ts → (0 ≤ x ∧ x < (nS ts : Int)) → (b = true ↔ C) →
        (∀ x12 x18 (b' : Bool), (b' = true ↔ C ∧ CommAt ts x) → D.nx [some (.ref p), v1, v2, v3, v4, v5, v6, some (.int x), v8, v9, v10, v11, x12, v13, v14, v15, v16, some (.bl b'), x18, v19] H) →
        t D [some (.ref p), v1, v2, v3, v4, v5, v6, some (.int x), v8, v9, v10, v11, v12, v13, v14, v15, v16, some (.bl b), v18, v19] H := by
  refine ⟨_, pss_one (ps_for PassesOwn.never rfl (pi_range1 (by rfl) B.range (pa_cons (pe_callB (clen (K := K) rfl) (by rfl) B.len PySem.boot_len (pa_cons (pv 0) pa_nil)) pa_nil)) (pg_name (i := 18) scTR.nd rfl (.inl rfl))
      (pss_one (ps_for PassesOwn.never rfl (pi_range1 (by rfl) B.range (pa_cons (pv 18) pa_nil)) (pg_name (i := 12) scTR.nd rfl (.inl rfl))
        (pss_one (ps_set (i := 17) scTR.nd rfl (.inl rfl) (pe_and (pv 17) (pe_one (pe_cmpR op_eq
          (pe_ix (ixTK (K := K) rfl) (pe_ix (ixLK (K := K) rfl) (pv 0) (pv 18) (fun _ _ => rfl)) (pe_ix (ixTK (K := K) rfl) (pe_ix (ixLK (K := K) rfl) (pv 0) (pv 12) (fun _ _ => rfl)) (pv 7) (fun _ _ => rfl)) (fun _ _ => rfl))
          (pe_ix (ixTK (K := K) rfl) (pe_ix (ixLK (K := K) rfl) (pv 0) (pv 12) (fun _ _ => rfl)) (pe_ix (ixTK (K := K) rfl) (pe_ix (ixLK (K := K) rfl) (pv 0) (pv 18) (fun _ _ => rfl)) (pv 7) (fun _ _ => rfl)) (fun _ _ => rfl)) (nomark _))))))))),
    fun D H v1 v2 v3 v4 v5 v6 v8 v9 v10 v11 v12 v13 v14 v15 v16 v18 v19 p ts x b C tl hW hx hb Q => ?_⟩
  obtain ⟨tas, t1, t2, t3⟩ := tl
  have lta : tas.length = ts.length := by rw [t2, vts, List.length_map]
  have lT : ((tas.map V.ref).length : Int) = (ts.length : Int) := by rw [List.length_map, lta]
  have t8 := hW.t8
  have tab : ∀ (k : Nat), k < ts.length → ∃ td, atI (tas.map V.ref) (k : Int) = some (.ref td) ∧ ∀ y, (0 ≤ y ∧ y < (nS ts : Int)) → ∃ t, H td = some (.tup (vrow t)) ∧ atI (vrow t) y = some (.int (stp ts y (k : Int))) ∧ (0 ≤ stp ts y (k : Int) ∧ stp ts y (k : Int) < (nS ts : Int)) := fun k hk => by
    have hkl : k < tas.length := by omega
    obtain ⟨td, htd⟩ : ∃ t, tas[k]? = some t := ⟨_, List.getElem?_eq_getElem hkl⟩
    have ekn : ((k : Int)).toNat = k := by omega
    refine ⟨td, atI_nat (j := k) (by rw [List.getElem?_map, htd]; rfl), fun y hy => ?_⟩
    obtain ⟨t, w1, w2, w3⟩ := hW.at_ (show In8 ts (k : Int) from ⟨by omega, by omega⟩) hy
    rw [ekn] at w1
    exact ⟨t, t3 _ td (vrow t) htd (by rw [vts, List.getElem?_map, w1]; rfl), at_of (j := y.toNat) (by omega) (by rw [vrow, List.getElem?_map, w2]; rfl), w3⟩
  refine ⟨_, rfl, p, _, rfl, .inl (SqL.of t1), ?_⟩
  rw [lT]
  refine ⟨(ts.length : Int), rfl, by omega, by omega, for_range (fun k σ H' => H' = H ∧ ∃ x12 x18 b', (b' = true ↔ C ∧ ∀ d e, In8 ts d → In8 ts e → e < d → d < (k : Int) → stp ts (stp ts x e) d = stp ts (stp ts x d) e) ∧ σ = [some (.ref p), v1, v2, v3, v4, v5, v6, some (.int x), v8, v9, v10, v11, x12, v13, v14, v15, v16, some (.bl b'), x18, v19]) ⟨rfl, _, _, b, ?_, rfl⟩ ?_ ?_⟩
  · rw [hb]
    exact ⟨fun c => ⟨c, fun d e hd _ _ h => by have := hd.1; omega⟩, fun c => c.1⟩
  · rintro k σ H1 hk ⟨rfl, x12, x18, b1, hb1, rfl⟩
    have hk' : k < ts.length := by omega
    have ek : 0 + (k : Int) = (k : Int) := by omega
    obtain ⟨tk, gk, fk⟩ := tab k hk'
    refine gn ?_
    dsimp only [List.set]
    rw [ek]
    refine ⟨_, rfl, (k : Int), rfl, by omega, by omega, for_range (fun j σ H' => H' = H1 ∧ ∃ x12 b', (b' = true ↔ (C ∧ ∀ d e, In8 ts d → In8 ts e → e < d → d < (k : Int) → stp ts (stp ts x e) d = stp ts (stp ts x d) e) ∧ ∀ e, In8 ts e → e < (j : Int) → stp ts (stp ts x e) (k : Int) = stp ts (stp ts x (k : Int)) e) ∧ σ = [some (.ref p), v1, v2, v3, v4, v5, v6, some (.int x), v8, v9, v10, v11, x12, v13, v14, v15, v16, some (.bl b'), some (.int (k : Int)), v19]) ⟨rfl, _, b1, ?_, rfl⟩ ?_ ?_⟩
    · rw [hb1]
      exact ⟨fun c => ⟨c, fun e he h => by have := he.1; omega⟩, fun c => c.1⟩
    · rintro j σ H2 hj ⟨rfl, x12, b2, hb2, rfl⟩
      have hj' : j < k := by omega
      have ej : 0 + (j : Int) = (j : Int) := by omega
      obtain ⟨tj, gj, fj⟩ := tab j (by omega)
      obtain ⟨t5, h1, h2, h3⟩ := fj x hx
      obtain ⟨t6, h4, h5, _⟩ := fk _ h3
      obtain ⟨t7, h6, h7, h8⟩ := fk x hx
      obtain ⟨t9, h9, h10, _⟩ := fj _ h8
      refine gn ?_
      dsimp only [List.set]
      rw [ej]
      refine ⟨_, rfl, b2, rfl, ?_⟩
      have step : ∀ b' : Bool, (b' = true ↔ b2 = true ∧ stp ts (stp ts x (j : Int)) (k : Int) = stp ts (stp ts x (k : Int)) (j : Int)) → (b' = true ↔ (C ∧ ∀ d e, In8 ts d → In8 ts e → e < d → d < (k : Int) → stp ts (stp ts x e) d = stp ts (stp ts x d) e) ∧ ∀ e, In8 ts e → e < ((j + 1 : Nat) : Int) → stp ts (stp ts x e) (k : Int) = stp ts (stp ts x (k : Int)) e) := fun b' hb' => by
        rw [hb', hb2]
        constructor
        · rintro ⟨⟨c1, c2⟩, c3⟩
          refine ⟨c1, fun e he h => ?_⟩
          by_cases z : e = (j : Int)
          · rw [z]; exact c3
          · exact c2 e he (by omega)
        · rintro ⟨c1, c2⟩
          exact ⟨⟨c1, fun e he h => c2 e he (by omega)⟩, c2 (j : Int) ⟨by omega, by omega⟩ (by omega)⟩
      cases b2 with
      | false =>
        rw [if_neg (by decide)]
        exact gn ⟨rfl, _, false, step false ⟨fun z => (by cases z), fun z => (by cases z.1)⟩, rfl⟩
      | true =>
        rw [if_pos rfl]
        refine ⟨_, rfl, _, rfl, p, _, (k : Int), .ref tk, rfl, rfl, SqL.of t1, gk, _, rfl, _, rfl, p, _, (j : Int), .ref tj, rfl, rfl, SqL.of t1, gj, _, rfl, tj, _, x, _, rfl, rfl, SqT.of h1, h2, tk, _, _, _, rfl, rfl, SqT.of h4, h5, ?_⟩
        refine ⟨_, rfl, _, rfl, p, _, (j : Int), .ref tj, rfl, rfl, SqL.of t1, gj, _, rfl, _, rfl, p, _, (k : Int), .ref tk, rfl, rfl, SqL.of t1, gk, _, rfl, tk, _, x, _, rfl, rfl, SqT.of h6, h7, tj, _, _, _, rfl, rfl, SqT.of h9, h10, rfl, ?_⟩
        refine gn ⟨rfl, _, _, step _ ?_, rfl⟩
        rw [decide_eq_true_iff]
        constructor
        · intro z
          injection z with z
          exact ⟨rfl, z⟩
        · rintro ⟨_, z⟩
          rw [z]
    · rintro σ H2 ⟨rfl, x12, b2, hb2, rfl⟩
      refine ⟨rfl, _, _, b2, ?_, rfl⟩
      rw [hb2]
      constructor
      · rintro ⟨⟨c1, c2⟩, c3⟩
        refine ⟨c1, fun d e hd he h1 h2 => ?_⟩
        by_cases z : d = (k : Int)
        · rw [z]
          exact c3 e he (by omega)
        · exact c2 d e hd he h1 (by omega)
      · rintro ⟨c1, c2⟩
        exact ⟨⟨c1, fun d e hd he h1 h2 => c2 d e hd he h1 (by omega)⟩, fun e he h => c2 (k : Int) e ⟨by omega, by omega⟩ he (by omega) (by omega)⟩
  · rintro σ H1 ⟨rfl, x12, x18, b1, hb1, rfl⟩
    refine Q _ _ b1 ?_
    rw [hb1]
    constructor
    · rintro ⟨c1, c2⟩
      exact ⟨c1, fun d e hd he h => c2 d e hd he h (by have := hd.2; omega)⟩
    · rintro ⟨c1, c2⟩
      exact ⟨c1, fun d e hd he h _ => c2 d e hd he h⟩
end
end K1
namespace K1
open PySem PySem.Spec PyProof.Rows L2
/-! ### the table as data -/
def dRows (rows : List (List Int)) : List PyData := rows.map fun r => PyData.tuple (dI r)
def tabD (ns : List Int) (rows : List (List Int)) : PyData := .tuple [.tuple (dI ns), .tuple (dRows rows)]
theorem pl_row {r : List Int} (hl : r.length ≤ 12) (h : ∀ x ∈ r, 0 ≤ x ∧ x < 12) : Pl (.tuple (dI r)) 1 780 :=
  (Pl.tuple (pla_ints r fun i hi => by have := h i hi; omega)).mono (Nat.le_refl _) (by omega)
theorem pl_rows : ∀ (rows : List (List Int)), (∀ r ∈ rows, r.length ≤ 12 ∧ ∀ x ∈ r, 0 ≤ x ∧ x < 12) → PlA (dRows rows) 1 (rows.length * 800)
  | [], _ => PlA.nil.mono (by omega) (by simp)
  | r :: rows, h => by
    have h1 := pl_row (h r List.mem_cons_self).1 (h r List.mem_cons_self).2
    have h2 := pl_rows rows fun q hq => h q (List.mem_cons_of_mem _ hq)
    exact (PlA.cons h1 h2).mono (by omega) (by simp only [List.length_cons]; omega)
theorem pl_tab {ns : List Int} {rows : List (List Int)} (hl : ns.length ≤ 12) (hn : ∀ x ∈ ns, 0 ≤ x ∧ x < 12) (hr : rows.length ≤ 12) (h : ∀ r ∈ rows, r.length ≤ 12 ∧ ∀ x ∈ r, 0 ≤ x ∧ x < 12) : Pl (tabD ns rows) 3 20000 :=
  (Pl.tuple (PlA.cons (pl_row hl hn) (PlA.cons (Pl.tuple (pl_rows rows h)) PlA.nil))).mono (by decide) (by omega)
theorem dp_rows {K : PySem.W.Frag} {H : Hp} : ∀ (as : List Addr) (rows : List (List Int)), as.length = rows.length → (∀ (i : Nat) a r, as[i]? = some a → rows[i]? = some r → SqT K H a (vrow r)) → DpAll K H (as.map V.ref) (dRows rows)
  | [], [], _, _ => .nil
  | [], _ :: _, h, _ => by cases h
  | _ :: _, [], h, _ => by cases h
  | a :: as, r :: rows, hl, h => .cons (.tup (h 0 a r rfl rfl) (dp_ints r)) (dp_rows as rows (by simpa using hl) fun i b q e1 e2 => h (i + 1) b q e1 e2)
theorem OTab.dp {K : PySem.W.Frag} {H : Hp} {p : Addr} {ts : Ts} {s : Int} {ns : List Int} (h : OTab H p ts s ns) : Dp K H (.ref p) (tabD ns (jrows ts s ns)) := by
  obtain ⟨pn, pt, h1, h2, as, h3, h4, h5⟩ := h
  exact .tup (SqT.of h1) (.cons (.tup (SqT.of h2) (dp_ints ns)) (.cons (.tup (SqT.of h3) (dp_rows as _ h4 fun i a r e1 e2 => let ⟨ob, e⟩ := h5 i a r e1 e2; .inl (.inr ⟨ob, e⟩))) .nil))
theorem OTab.same {H H' : Hp} {p : Addr} {ts : Ts} {s : Int} {ns : List Int} (h : OTab H p ts s ns) (sm : Same H H') : OTab H' p ts s ns := let ⟨pn, pt, h1, h2, h3⟩ := h; ⟨pn, pt, sm _ _ h1, sm _ _ h2, h3.same sm⟩
/-- all but a list stays -/
def Kp (c : Addr) (H H' : Hp) : Prop := ∀ q o, H q = some o → q ≠ c → H' q = some o
theorem Kp.no {c : Addr} {H H' : Hp} (k : Kp c H H') {ys : List V} (hc : H c = some (.lst ys)) {q : Addr} {o : HO} (e : H q = some o) (n : ∀ ws, o ≠ .lst ws) : H' q = some o := k _ _ e fun z => by
  rw [z, hc] at e
  exact n ys (Option.some.inj e).symm
theorem OTab.kp {H H' : Hp} {p c : Addr} {ts : Ts} {s : Int} {ns : List Int} (h : OTab H p ts s ns) (k : Kp c H H') {ys : List V} (hc : H c = some (.lst ys)) : OTab H' p ts s ns := by
  obtain ⟨pn, pt, h1, h2, as, h3, h4, h5⟩ := h
  exact ⟨pn, pt, k.no hc h1 fun ws z => (by cases z), k.no hc h2 fun ws z => (by cases z), as, k.no hc h3 fun ws z => (by cases z), h4, fun i a r e1 e2 => let ⟨ob, e⟩ := h5 i a r e1 e2; ⟨ob, k.no hc e fun ws z => (by cases z)⟩⟩
theorem MachAt.kp {M m ta c : Addr} {H H' : Hp} {ts : List (List V)} {ys : List V} (h : MachAt M H m ta ts) (hc : H c = some (.lst ys)) (k : Kp c H H') : MachAt M H' m ta ts :=
  let ⟨⟨dx, t0, h0, h1⟩, as, k1, k2, k3⟩ := h
  ⟨⟨dx, t0, h0, k.no hc h1 fun ws z => (by cases z)⟩, as, k.no hc k1 (fun ws z => (by cases z)), k2, fun i b t e1 e2 => k.no hc (k3 i b t e1 e2) fun ws z => (by cases z)⟩
theorem TabL.kp {H H' : Hp} {p c : Addr} {ts : Ts} {ys : List V} (h : TabL H p (vts ts)) (hc : H c = some (.lst ys)) (n : p ≠ c) (k : Kp c H H') : TabL H' p (vts ts) :=
  let ⟨as, h1, h2, h3⟩ := h
  ⟨as, k _ _ h1 n, h2, fun i b t e1 e2 => k.no hc (h3 i b t e1 e2) fun ws z => (by cases z)⟩
theorem MapsAt.kp {H H' : Hp} {q c : Addr} {F : List KR} {ys : List V} (h : MapsAt H q F) (hc : H c = some (.lst ys)) (n : q ≠ c) (k : Kp c H H') : MapsAt H' q F :=
  let ⟨as, h1, h2, h3⟩ := h
  ⟨as, k _ _ h1 n, h2, fun i a x r e1 e2 => let ⟨b, d, g1, g2, g3⟩ := h3 i a x r e1 e2; ⟨b, d, k.no hc g1 fun ws z => (by cases z), k.no hc g2 fun ws z => (by cases z), k.no hc g3 fun ws z => (by cases z)⟩⟩
theorem RowsAt.kp {H H' : Hp} {as : List Addr} {rows : List (List Int)} {c : Addr} {ys : List V} (h : RowsAt H as rows) (hc : H c = some (.lst ys)) (k : Kp c H H') : RowsAt H' as rows := ⟨h.1, fun i a r e1 e2 => k.no hc (h.2 i a r e1 e2) fun ws z => (by cases z)⟩
/-! ### the promises, asked of a state -/
def spIsEx (M CS CR : Addr) : Sp := fun vs H Q E => ∃ m ta ts v, vs = [.ref m, v] ∧ MachAt M H m ta (vts ts) ∧ Wf ts ∧ (∃ (K : PySem.W.Frag) (o : Option (List V)), KV K H v o) ∧ (belowB v (nS ts : Int) = false → Rz CS "state" v H E) ∧
  (∀ s, v = .int s → (0 ≤ s ∧ s < (nS ts : Int)) → (¬ Tells ts s → ∀ H', Same H H' → Rz CR "at" (.int s) H' E) ∧ (Tells ts s → ∀ (b : Bool) H', Same H H' → (b = true ↔ Comm ts s) → Q (.bl b) H'))
section
variable {M CS CR m ta : Addr} {ts : Ts} {s : Int} {H : Hp} {Q : VK} {E : XK}
theorem otabP {K : PySem.W.Frag} (hM : MachAt M H m ta (vts ts)) (hW : Wf ts) (hs : 0 ≤ s ∧ s < (nS ts : Int)) (te : Tells ts s) (q : ∀ (ns : List Int) p H', Same H H' → OrbL ts s ns → OTab H' p ts s ns → Q (.ref p) H') : spOTab M CS CR [.ref m, .int s] H Q E :=
  ⟨m, ta, ts, _, rfl, hM, hW, ⟨K, _, .int _⟩, fun e => (by rw [belowI hs] at e; cases e), fun s' e _ => by
    injection e with e
    subst e
    exact ⟨fun nt => absurd te nt, fun _ => q⟩⟩
theorem isexP {K : PySem.W.Frag} (hM : MachAt M H m ta (vts ts)) (hW : Wf ts) (hs : 0 ≤ s ∧ s < (nS ts : Int)) (te : Tells ts s) (q : ∀ (b : Bool) H', Same H H' → (b = true ↔ Comm ts s) → Q (.bl b) H') : spIsEx M CS CR [.ref m, .int s] H Q E :=
  ⟨m, ta, ts, _, rfl, hM, hW, ⟨K, _, .int _⟩, fun e => (by rw [belowI hs] at e; cases e), fun s' e _ => by
    injection e with e
    subst e
    exact ⟨fun nt => absurd te nt, fun _ => q⟩⟩
end
section
variable {K : PySem.W.Frag} {f : Addr} {fd : FuncData}
theorem kb_otab (F : Fun K "orbit_table" "orbit_table" sOTab f fd) : KBn K fd ["machine", "state"] 0 ["state", "machine"] gR gRV := by
  obtain ⟨oc, od, kV, doc, pm, an, cdv, ct, osl, rfl, lk, hcd⟩ := F.ex
  refine ⟨fun s us ws _ h0 h1 => .of_eq ?_, fun _ r => r.reverse⟩
  match us, ws, h0, h1 with
  | [], [_, _], _, _ => rfl
theorem kb_isex (F : Fun K "is_exchanging" "is_exchanging" sIsEx f fd) : KBn K fd ["machine", "state"] 0 ["state", "machine"] gR gRV := by
  obtain ⟨oc, od, kV, doc, pm, an, cdv, ct, osl, rfl, lk, hcd⟩ := F.ex
  refine ⟨fun s us ws _ h0 h1 => .of_eq ?_, fun _ r => r.reverse⟩
  match us, ws, h0, h1 with
  | [], [_, _], _, _ => rfl
end
theorem neDK {X : Cx} {K : PySem.W.Frag} (h : X.K = K) (hu : X.A.units + 64 < cLine) : OpR X (compareOp .NotEq) (rNeD K) := by
  subst h
  exact op_neD hu
end K1
namespace K1
open PySem PySem.Spec PyProof.Rows L2
theorem reprP {K : PySem.W.Frag} {p : Addr} {d : PyData} {n w : Nat} {H : Hp} {Q : VK} (hd : Dp K H (.ref p) d) (pl : Pl d n w) (hn : n ≤ 40) (hw : w ≤ 100000) (q : Q (.str d.shown) H) : rRepr K [.ref p] H Q := ⟨p, d, rfl, hd, pl.sh, pl.nd, Nat.le_trans pl.dp hn, pl.short hw, q⟩
theorem neDP {K : PySem.W.Frag} {x y : V} {d : PyData} {n w : Nat} {H : Hp} {Q : VK} (h1 : Dp K H x d) (h2 : Dp K H y d) (pl : Pl d n w) (hn : n ≤ 40) (q : Q (.bl false) H) : rNeD K x y H Q := ⟨d, d, h1, h2, pl.shaped hn, pl.shaped hn, qbl (by rw [SeqAt.eqv_refl _ pl.lay]; rfl) q⟩
def spTabR (M : Addr) : Sp := fun vs H Q _ => ∃ p q m st lo ta F ts ns, vs = [.ref p, .ref q, .ref m, .int st, .ref lo] ∧ TabL H p (vts ts) ∧ MapsAt H q F ∧ Fst (actL ts) ts.length (idL (nS ts)) F ∧ F.length ≤ 1000 ∧ Wf ts ∧ MachAt M H m ta (vts ts) ∧ (0 ≤ st ∧ st < (nS ts : Int)) ∧ Tells ts st ∧ OrbL ts st ns ∧ H lo = some (.lst (vrow ns)) ∧ ∀ H', Same H H' → Q (.bl true) H'
section
variable {P : Program} {w : World} {K : PySem.W.Frag} {mg : Str → Option Value} {base : Heap}
theorem ok_tabR {f fO fE fX CS CR M : Addr} {fd fdO fdE fdX : FuncData} (D : Df K mg "_law_table_right" sTabR ["_law_tables_here", "_law_maps_here", "_law_machine", "_law_state", "_law_orbit"] f fd) (DO : Df K mg "orbit_table" sOTab ["machine", "state"] fO fdO) (DE : Df K mg "_law_ends" sLEnds ["_law_maps_here", "_law_archive", "_law_here"] fE fdE) (DX : Df K mg "is_exchanging" sIsEx ["machine", "state"] fX fdX) (B : Bt mg)
    (GO : FnOk P w K mg base (L2.CX P w) 8 fO fdO ["machine", "state"] (spOTab M CS CR)) (GE : FnOk P w K mg base CX0 1 fE fdE ["_law_maps_here", "_law_archive", "_law_here"] spLEnds) (GX : FnOk P w K mg base (L2.CX P w) 9 fX fdX ["machine", "state"] (spIsEx M CS CR)) :
    FnG P w K mg base 10 f fd ["_law_tables_here", "_law_maps_here", "_law_machine", "_law_state", "_law_orbit"] (spTabR M) := by
  refine K1.okG D.F scTR (fun vs H Q E h => ?_) (fun cdv A outer s H vs Q E hr hgd h => ?_)
  · obtain ⟨p, q, m, st, lo, ta, F, ts, ns, rfl, _⟩ := h
    rfl
  · obtain ⟨p, q, m, st, lo, ta, F, ts, ns, rfl, tl, hq, hF, hf, hW, hM, hst, te, on, hlo, qq⟩ := h
    have hu : (A.deeper (envOfC "_law_table_right" (defScope sTabR) s.heap.objs.size f cdv)).units + 64 < cLine := hr.units
    have r8 := hr.mono (show 8 ≤ 9 by decide)
    obtain ⟨td_, htd, qd⟩ := tr_here (P := P) (w := w) (base := base) (outer := outer) (s := s) (f := f) (cdv := cdv) (H₀ := H) (E := E) hr B DE GE
    obtain ⟨ta_, hta, qa⟩ := tr_unit (P := P) (w := w) (K := K) (mg := mg) (base := base) (A := A) (outer := outer) (s := s) (f := f) (cdv := cdv) (H₀ := H) (E := E) B
    obtain ⟨tc_, htc, qc⟩ := tr_comm (P := P) (w := w) (K := K) (mg := mg) (base := base) (A := A) (outer := outer) (s := s) (f := f) (cdv := cdv) (H₀ := H) (E := E) B
    refine ⟨_, pss_cons (ps_set (i := 5) scTR.nd rfl (.inl rfl) (pc DO GO r8 passF (pa_cons (pv 2) (pa_cons (pv 3) pa_nil))))
      (pss_cons (ps_set (i := 6) scTR.nd rfl (.inl rfl) (pe_lst pa_nil))
      (pss_cons (ps_for PassesOwn.never rfl (piL (K := K) rfl (pv 4)) (pg_name (i := 7) scTR.nd rfl (.inl rfl)) htd)
      (pss_cons (ps_if (PW.pt (pw_or (pt_cmpR op_ne (pe_callB (call_repr hgd hu) (by rfl) B.repr (by decide +kernel) (pa_cons (pv 5) pa_nil)) (pe_callB (call_repr hgd hu) (by rfl) B.repr (by decide +kernel) (pa_cons (pe_tup (pa_cons (pe_callTy call_tuple_of (by rfl) B.tuple PyProof.Rows.boot_tuple (pa_cons (pv 4) pa_nil)) (pa_cons (pe_callTy call_tuple_of (by rfl) B.tuple PyProof.Rows.boot_tuple (pa_cons (pv 6) pa_nil)) pa_nil))) pa_nil)) (nomark _))
          (pw_or1 (pt_cmpR (neDK (K := K) rfl hu) (pe_callW DO GO r8 (kb_otab DO.F) passF (pk_cons (pv 3) (pk_cons (pv 2) pk_nil))) (pv 5) (nomark _))))) (pss_one (ps_ret pe_bl)) pss_nil)
      (pss_cons (ps_par (i := 9) (j := 10) rfl scTR.nd rfl rfl (by decide) rfl rfl (pa_cons (pe_ix (ixTK (K := K) rfl) (pv 5) pe_int (fun _ _ => rfl)) (pa_cons (pe_bm PySem.F.plainAttrs_list PySem.F.slot_list_index PySem.F.type_list_index (mtIdx (K := K) rfl) (pv 4) (pa_cons (pv 3) pa_nil)) pa_nil)) rfl)
      (pss_cons (ps_for PassesOwn.never rfl (pi_range1 (by rfl) B.range (pa_cons (pe_callB (clen (K := K) rfl) (by rfl) B.len PySem.boot_len (pa_cons (pv 4) pa_nil)) pa_nil)) (pg_name (i := 11) scTR.nd rfl (.inl rfl)) hta)
      (pss_cons (ps_set (i := 17) scTR.nd rfl (.inl rfl) pe_bl)
      (pss_cons (ps_for PassesOwn.never rfl (piL (K := K) rfl (pv 4)) (pg_name (i := 7) scTR.nd rfl (.inl rfl)) htc)
      (pss_one (ps_ret (pe_cmpR op_eq (pe_callB (call_repr hgd hu) (by rfl) B.repr (by decide +kernel) (pa_cons (pe_lst (pa_cons (pc DX GX hr passF (pa_cons (pv 2) (pa_cons (pv 3) pa_nil))) (pa_cons (pe_callW DX GX hr (kb_isex DX.F) passF (pk_cons (pv 3) (pk_cons (pv 2) pk_nil))) pa_nil))) pa_nil)) (pe_callB (call_repr hgd hu) (by rfl) B.repr (by decide +kernel) (pa_cons (pe_lst (pa_cons (pv 17) (pa_cons (pv 17) pa_nil))) pa_nil)) (nomark _))))))))))), ?_⟩
    refine ⟨_, rfl, _, rfl, nilP (otabP (K := K) hM hW hst te fun ns' pt0 H1 s1 on' ot1 => ?_)⟩
    obtain rfl := on.one on'
    refine gn ?_
    dsimp only [List.set]
    refine ⟨(by show 0 ≤ sizeLine; decide), fun du hdu => ?_⟩
    refine gn ?_
    dsimp only [List.set]
    have sD : Same H1 (upd H1 du (.lst [])) := same_new hdu
    have hdu2 : (upd H1 du (.lst [])) du = some (.lst []) := upd_same
    generalize upd H1 du (.lst []) = H2 at sD hdu2 ⊢
    have sm2 := s1.trans sD
    have nlo : lo ≠ du := ne_of_none (s1 _ _ hlo) hdu
    have nq : q ≠ du := by
      obtain ⟨_, e, _⟩ := hq
      exact ne_of_none (s1 _ _ e) hdu
    have np : p ≠ du := by
      obtain ⟨_, e, _⟩ := tl
      exact ne_of_none (s1 _ _ e) hdu
    have l12 := on.len hW hst
    have lj : (jrows ts st ns).length = ns.length := by rw [jrows, List.length_map]
    refine ⟨_, rfl, lo, rfl, ⟨_, SqL.of (sm2 _ _ hlo)⟩, for_list (K := K) (a := lo) (xs := vrow ns) (fun i σ H' => ∃ v7 v8 as, σ = [some (.ref p), some (.ref q), some (.ref m), some (.int st), some (.ref lo), some (.ref pt0), some (.ref du), v7, v8, none, none, none, none, none, none, none, none, none, none, none] ∧ Kp du H2 H' ∧ H' du = some (.lst (as.map V.ref)) ∧ RowsAt H' as ((jrows ts st ns).take i)) ⟨none, none, [], rfl, fun _ _ e _ => e, hdu2, rfl, fun i a r e => by cases e⟩ (fun i σ H' _ ⟨_, _, _, _, k, _⟩ => SqL.of (k _ _ (sm2 _ _ hlo) nlo)) ?_ ?_⟩
    · rintro i z σ H3 hz ⟨v7, v8, as, rfl, kp, hdu3, hR⟩
      obtain ⟨x, hx, rfl⟩ := vrow_at hz
      have hxR := (on.2 x).mp (List.mem_of_getElem? hx)
      have la : as.length ≤ 12 := by
        have := hR.1
        rw [List.length_take] at this
        omega
      refine gn ?_
      dsimp only [List.set]
      refine qd _ H3 _ _ _ none _ _ _ _ _ _ _ _ _ _ _ _ q lo du ns F ts st x as ((hq.same sm2).kp hdu2 nq kp) hF hf hW hst te on (kp _ _ (sm2 _ _ hlo) nlo) nlo hdu3 (by omega) hxR fun H4 d pr k1 k2 k3 => ⟨_, _, as ++ [pr], rfl, fun c o e n => k1 _ _ (kp _ _ e n) n, k2, ?_⟩
      have hk : (jrows ts st ns)[i]? = some (ns.map (jn ts st x)) := by rw [jrows, List.getElem?_map, hx]; rfl
      rw [take_succ hk]
      exact (hR.kp hdu3 k1).snoc k3
    · rintro σ H3 ⟨v7, v8, as, rfl, kp, hdu3, hR⟩
      rw [List.take_of_length_le (by rw [lj, vrow, List.length_map]; exact Nat.le_refl _)] at hR
      have keep : Same H H3 := fun c o e => kp _ _ (sm2 _ _ e) (ne_of_none (s1 _ _ e) hdu)
      have ot3 : OTab H3 pt0 ts st ns := (ot1.same sD).kp kp hdu2
      have hlo3 := keep _ _ hlo
      have n12 := hW.s12
      have rr : ∀ x ∈ ns, 0 ≤ x ∧ x < 12 := fun x hx => by
        have := on.rng hW hst hx
        omega
      have pl := pl_tab (rows := jrows ts st ns) l12 rr (by omega) fun r hr => by
        obtain ⟨x, hx, rfl⟩ := List.mem_map.mp hr
        refine ⟨by rw [List.length_map]; exact l12, fun y hy => ?_⟩
        obtain ⟨z, hz, rfl⟩ := List.mem_map.mp hy
        exact rr _ ((on.2 _).mpr (jn_in te ((on.2 x).mp hx) ((on.2 z).mp hz)))
      refine ⟨_, rfl, nilP (reprP ot3.dp pl (by decide) (by decide) ?_)⟩
      refine ⟨_, rfl, lo, _, rfl, .inl ⟨SqL.of hlo3, fun pa hpa => ?_⟩⟩
      have sa := same_new (o := HO.tup (vrow ns)) hpa
      have hpa3 : (upd H3 pa (.tup (vrow ns))) pa = some (.tup (vrow ns)) := upd_same
      generalize upd H3 pa (.tup (vrow ns)) = H4 at sa hpa3 ⊢
      refine ⟨_, rfl, du, _, rfl, .inl ⟨SqL.of (sa _ _ hdu3), fun pb hpb => ?_⟩⟩
      have sb := same_new (o := HO.tup (as.map V.ref)) hpb
      have hpb3 : (upd H4 pb (.tup (as.map V.ref))) pb = some (.tup (as.map V.ref)) := upd_same
      generalize upd H4 pb (.tup (as.map V.ref)) = H5 at sb hpb3 ⊢
      refine ⟨(by show 2 ≤ sizeLine; decide), fun px hpx => ?_⟩
      have sx := same_new (o := HO.tup [.ref pa, .ref pb]) hpx
      have hpx3 : (upd H5 px (.tup [.ref pa, .ref pb])) px = some (.tup [.ref pa, .ref pb]) := upd_same
      generalize upd H5 px (.tup [.ref pa, .ref pb]) = H6 at sx hpx3 ⊢
      have dp2 : Dp K H6 (.ref px) (tabD ns (jrows ts st ns)) := .tup (SqT.of hpx3) (.cons (.tup (SqT.of (sx _ _ (sb _ _ hpa3))) (dp_ints ns)) (.cons (.tup (SqT.of (sx _ _ hpb3)) (dp_rows as _ hR.1 fun i a r e1 e2 => SqT.of (sx _ _ (sb _ _ (sa _ _ (hR.2 i a r e1 e2)))))) .nil))
      refine nilP (reprP dp2 pl (by decide) (by decide) (neV rfl ⟨_, rfl, iteF ?_⟩))
      have s6 : Same H H6 := ((keep.trans sa).trans sb).trans sx
      have ot6 : OTab H6 pt0 ts st ns := ot3.same ((sa.trans sb).trans sx)
      refine ⟨_, rfl, _, rfl, nilP ⟨rfl, otabP (K := K) (hM.same s6) hW hst te fun ns' p7 H7 s7 on7 ot7 => ?_⟩⟩
      obtain rfl := on.one on7
      have ot67 := ot6.same s7
      refine ⟨_, rfl, neDP ot7.dp ot67.dp pl (by decide) ⟨_, rfl, iteF (nxP ?_)⟩⟩
      have sE : Same H H7 := s6.trans s7
      have hlo7 := sE _ _ hlo
      obtain ⟨u, hu1, hu2⟩ := fst_at ((on.2 st).mpr Rch.refl)
      obtain ⟨pn, pt, g1, g2, g3⟩ := id ot67
      refine ⟨_, rfl, pt0, _, 1, .ref pt, rfl, rfl, SqT.of g1, atI_nat (j := 1) rfl, _, rfl, .inl ⟨rfl, _, SqL.of hlo7⟩, _, rfl, lo, vrow ns, .int st, u, .int st, rfl, rfl, SqL.of hlo7, rfl, flat_row ns, by rw [vrow, List.getElem?_map, hu1]; rfl, by show (st == st) = true; simp, fun k z hk hz => ?_, _, _, rfl, ?_⟩
      · obtain ⟨y, hy, rfl⟩ := vrow_at hz
        show (y == st) = false
        exact beq_eq_false_iff_ne.mpr fun e => hu2 k hk (e ▸ hy)
      have ll : ((vrow ns).length : Int) = (ns.length : Int) := by rw [vrow, List.length_map]
      have tl7 := tl.same sE
      dsimp only [List.set]
      refine ⟨_, rfl, lo, _, rfl, .inl (SqL.of hlo7), ?_⟩
      rw [ll]
      refine ⟨(ns.length : Int), rfl, by omega, by omega, for_range (fun i σ H' => H' = H7 ∧ ∃ v11 v12 v13 v14 v15 v16, σ = [some (.ref p), some (.ref q), some (.ref m), some (.int st), some (.ref lo), some (.ref pt0), some (.ref du), v7, v8, some (.ref pt), some (.int (u : Int)), v11, v12, v13, v14, v15, v16, none, none, none]) ⟨rfl, _, _, _, _, _, _, rfl⟩ ?_ ?_⟩
      · rintro i σ H8 hi ⟨rfl, v11, v12, v13, v14, v15, v16, rfl⟩
        have ei : 0 + (i : Int) = (i : Int) := by omega
        refine gn ?_
        dsimp only [List.set]
        rw [ei]
        exact qa _ H8 _ _ _ _ _ _ _ _ _ _ _ _ _ _ p lo pt ns ts st i u tl7 hW hst te on hlo7 g3 hu1 (by omega) fun x12 x13 x14 x15 x16 => ⟨rfl, _, _, _, _, _, _, rfl⟩
      · rintro σ H8 ⟨rfl, v11, v12, v13, v14, v15, v16, rfl⟩
        dsimp only
        refine gn ?_
        dsimp only [List.set]
        refine ⟨_, rfl, lo, rfl, ⟨_, SqL.of hlo7⟩, for_list (K := K) (a := lo) (xs := vrow ns) (fun i σ H' => H' = H8 ∧ ∃ w7 w12 w18 b, (b = true ↔ ∀ (j : Nat) y, j < i → ns[j]? = some y → CommAt ts y) ∧ σ = [some (.ref p), some (.ref q), some (.ref m), some (.int st), some (.ref lo), some (.ref pt0), some (.ref du), w7, v8, some (.ref pt), some (.int (u : Int)), v11, w12, v13, v14, v15, v16, some (.bl b), w18, none]) ⟨rfl, _, _, _, true, ⟨fun _ j y hj => absurd hj (Nat.not_lt_zero _), fun _ => rfl⟩, rfl⟩ (fun i σ H' _ ⟨e, _⟩ => by rw [e]; exact SqL.of hlo7) ?_ ?_⟩
        · rintro i z σ H9 hz ⟨rfl, w7, w12, w18, b, hb, rfl⟩
          obtain ⟨x, hx, rfl⟩ := vrow_at hz
          refine gn ?_
          dsimp only [List.set]
          refine qc _ H9 _ _ _ _ _ _ _ _ _ _ _ _ _ _ _ _ _ p ts x b _ tl7 hW (on.rng hW hst (List.mem_of_getElem? hx)) hb fun x12 x18 b' hb' => ⟨rfl, _, _, _, b', ?_, rfl⟩
          rw [hb']
          constructor
          · rintro ⟨c1, c2⟩ j y hj hy
            rcases Nat.lt_succ_iff_lt_or_eq.mp hj with g | g
            · exact c1 j y g hy
            · subst g
              rw [hx] at hy
              rw [← Option.some.inj hy]
              exact c2
          · exact fun c => ⟨fun j y hj hy => c j y (by omega) hy, c i x (Nat.lt_succ_self _) hx⟩
        · rintro σ H9 ⟨rfl, w7, w12, w18, b, hb, rfl⟩
          have hbC : b = true ↔ Comm ts st := by
            rw [hb, comm_at on]
            constructor
            · intro c x hx
              obtain ⟨j, hj⟩ := List.getElem?_of_mem hx
              exact c j x (by rw [vrow, List.length_map]; exact (List.getElem?_eq_some_iff.mp hj).1) hj
            · exact fun c j y _ hy => c y (List.mem_of_getElem? hy)
          have hM9 := hM.same sE
          refine ⟨_, rfl, _, rfl, nilP (isexP (K := K) hM9 hW hst te fun b1 Ha sa' hb1 => ?_)⟩
          refine ⟨_, rfl, _, rfl, nilP ⟨rfl, isexP (K := K) (hM9.same sa') hW hst te fun b2 Hb sb' hb2 => ?_⟩⟩
          have e1 : b1 = b := Bool.eq_iff_iff.mpr (hb1.trans hbC.symm)
          have e2 : b2 = b := Bool.eq_iff_iff.mpr (hb2.trans hbC.symm)
          subst e1
          subst e2
          have plb : Pl (.list [.bool b2, .bool b2]) 1 10 := (Pl.list (PlA.cons (Pl.bl b2) (PlA.cons (Pl.bl b2) PlA.nil))).mono (by decide) (by decide)
          refine ⟨(by show 2 ≤ sizeLine; decide), fun l1 hl1 => nilP (reprP (.lst (SqL.of upd_same) (.cons (.bl b2) (.cons (.bl b2) .nil))) plb (by decide) (by decide) ?_)⟩
          refine ⟨_, rfl, _, rfl, (by show 2 ≤ sizeLine; decide), fun l2 hl2 => nilP (reprP (.lst (SqL.of upd_same) (.cons (.bl b2) (.cons (.bl b2) .nil))) plb (by decide) (by decide) (eqVV rfl (qq _ ((((sE.trans sa').trans sb').trans (same_new hl1)).trans (same_new hl2)))))⟩
end
end K1
namespace K1
open PySem PySem.Spec PyProof.Rows L2
/-! ### a table and the table turned over -/
theorem eqvAll_ints : ∀ a b : List Int, PyData.eqvAll (dI a) (dI b) = decide (a = b)
  | [], [] => by show PyData.eqvAll [] [] = _; simp only [PyData.eqvAll]; rfl
  | [], y :: b => by show PyData.eqvAll [] (PyData.int y :: dI b) = _; simp only [PyData.eqvAll]; rfl
  | x :: a, [] => by show PyData.eqvAll (PyData.int x :: dI a) [] = _; simp only [PyData.eqvAll]; rfl
  | x :: a, y :: b => by
    show PyData.eqvAll (PyData.int x :: dI a) (PyData.int y :: dI b) = _
    simp only [PyData.eqvAll, eqvAll_ints a b]
    have e : PyData.eqv (.int x) (.int y) = decide (x = y) := by
      simp only [PyData.eqv]
      by_cases z : x = y
      · rw [z]; simp
      · simp [z]
    rw [e, Bool.eq_iff_iff]
    simp
theorem eqv_tupI (a b : List Int) : PyData.eqv (.tuple (dI a)) (.tuple (dI b)) = decide (a = b) := by
  simp only [PyData.eqv]
  exact eqvAll_ints a b
theorem eqvAll_rows : ∀ a b : List (List Int), PyData.eqvAll (dRows a) (dRows b) = decide (a = b)
  | [], [] => by show PyData.eqvAll [] [] = _; simp only [PyData.eqvAll]; rfl
  | [], y :: b => by show PyData.eqvAll [] (PyData.tuple (dI y) :: dRows b) = _; simp only [PyData.eqvAll]; rfl
  | x :: a, [] => by show PyData.eqvAll (PyData.tuple (dI x) :: dRows a) [] = _; simp only [PyData.eqvAll]; rfl
  | x :: a, y :: b => by
    show PyData.eqvAll (PyData.tuple (dI x) :: dRows a) (PyData.tuple (dI y) :: dRows b) = _
    simp only [PyData.eqvAll, eqvAll_rows a b, eqv_tupI]
    rw [Bool.eq_iff_iff]
    simp
theorem eqv_rows (a b : List (List Int)) : PyData.eqv (.tuple (dRows a)) (.tuple (dRows b)) = decide (a = b) := by
  simp only [PyData.eqv]
  exact eqvAll_rows a b
/-- what zip(*rows) tells of the table -/
noncomputable def jcols (ts : Ts) (s : Int) (ns : List Int) : List (List Int) := ns.map fun t => ns.map fun h => jn ts s h t
theorem cols_iff {ts : Ts} {s : Int} {ns : List Int} (te : Tells ts s) (on : OrbL ts s ns) : jrows ts s ns = jcols ts s ns ↔ Comm ts s := by
  rw [comm_iff te]
  constructor
  · intro e x y hx hy
    obtain ⟨i, hi⟩ := List.getElem?_of_mem ((on.2 x).mpr hx)
    obtain ⟨j, hj⟩ := List.getElem?_of_mem ((on.2 y).mpr hy)
    have e1 : (jrows ts s ns)[i]? = some (ns.map (jn ts s x)) := by rw [jrows, List.getElem?_map, hi]; rfl
    have e2 : (jcols ts s ns)[i]? = some (ns.map fun h => jn ts s h x) := by rw [jcols, List.getElem?_map, hi]; rfl
    rw [e, e2] at e1
    have e3 := Option.some.inj e1
    have f1 : (ns.map fun h => jn ts s h x)[j]? = some (jn ts s y x) := by rw [List.getElem?_map, hj]; rfl
    have f2 : (ns.map (jn ts s x))[j]? = some (jn ts s x y) := by rw [List.getElem?_map, hj]; rfl
    rw [e3, f2] at f1
    exact Option.some.inj f1
  · intro c
    unfold jrows jcols
    refine List.map_congr_left fun x hx => List.map_congr_left fun y hy => ?_
    exact c x y ((on.2 x).mp hx) ((on.2 y).mp hy)
theorem jcols_at {ts : Ts} {s : Int} {ns : List Int} {i j : Nat} {x y : Int} (hi : ns[i]? = some x) (hj : ns[j]? = some y) : ∃ r, (jrows ts s ns)[j]? = some r ∧ r[i]? = some (jn ts s y x) := ⟨ns.map (jn ts s y), by rw [jrows, List.getElem?_map, hj]; rfl, by rw [List.getElem?_map, hi]; rfl⟩
end K1
namespace K1
open PySem PySem.Spec PyProof.Rows L2
/-! ### a lambda that captures, as a value -/
def LamO (f c' : Addr) (q : Str) (cl : List (Str × Addr)) (params : Arguments) (body : Expr) (scope : Scope) : HO := .ext fun h => ∃ (od : Option Addr) (sl : Array (Option Value)) (pm ctv : Value), h.get? f = some (⟨.type "function", od, .func (PySem.W.kla_fn "<lambda>" q params body scope cl pm (.ref c') ctv), sl⟩ : Obj)
theorem lamO_ne {f c' : Addr} {q : Str} {cl : List (Str × Addr)} {params : Arguments} {body : Expr} {scope : Scope} (ps : Array Value) : LamO f c' q cl params body scope ≠ .tbl ps := fun z => by
  unfold LamO at z
  cases z
section
variable {X : Cx} {pins : List (Addr × Obj)} {σ : L2.St} {H : Hp} {s : Shared} {params : Arguments} {body : Expr} {scope : Scope}
theorem lamO_at {f c' : Addr} {q : Str} {cl : List (Str × Addr)} (hok : HOk X.prog X.w H s.heap) (e : H f = some (LamO f c' q cl params body scope)) : ∃ (od : Option Addr) (sl : Array (Option Value)) (pm ctv : Value), s.heap.get? f = some (⟨.type "function", od, .func (PySem.W.kla_fn "<lambda>" q params body scope cl pm (.ref c') ctv), sl⟩ : Obj) := by
  obtain ⟨z, _, _⟩ := (show ObjOk X.prog X.w H s.heap f (LamO f c' q cl params body scope) from hok f _ e)
  exact z
theorem inv_lam {q : Str} {cl : List (Str × Addr)} {c' : Addr} {pm ctv : Value} {t' : Nat} (I : Inv X pins σ H s) :
    Inv X pins σ (upd H s.heap.objs.size (LamO s.heap.objs.size c' q cl params body scope)) { s with heap := s.heap.push (PySem.W.kla_obj "<lambda>" q params body scope cl pm c' ctv), toks := t' } := by
  refine I.laid (a := s.heap.objs.size) (fun b u e => Heap.get?_push_of_some _ e) (Nat.le_refl _) ?_
  have e : (s.heap.push (PySem.W.kla_obj "<lambda>" q params body scope cl pm c' ctv)).get? s.heap.objs.size = some (PySem.W.kla_obj "<lambda>" q params body scope cl pm c' ctv) := Heap.get?_push_size _ rfl
  exact ⟨⟨_, _, pm, ctv, e⟩, ⟨_, e⟩, fun h1 h2 ⟨od, sl, p, t, z⟩ st => ⟨od, sl, p, t, st _ z⟩⟩
/-- it is made: its code object is new, or found in the table -/
theorem lam_make3 {cl : List (Str × Addr)} {T : List (Addr × Str)} {c P : Addr} {pos : Pos} {E : Value → Shared → Prop} {Q : Value → Shared → Prop} (I : Inv X pins σ H s) (TB : LamX.TabB X.base X.mg c P) (hcode : X.env.code = .ref c)
    (hm : (P, X.env.qual ++ "<lambda>") ∈ T) (hu : ∀ p ∈ T, p.1 = P → p.2 = X.env.qual ++ "<lambda>") (hT : LamX.Tabs T H) (hdef : defaultsOf params X.env = ([], [])) (hfree : ∀ y ∈ scope.names, y.2 = .free → ∃ c, X.env.cells.lookup y.1 = some c)
    (hcl : cloFrom X.env.cells scope.names [] = cl)
    (h : ∀ (f c' : Addr) (H1 : Hp) (s' : Shared), Inv X pins σ H1 s' → LamX.ExtN H H1 → LamX.Tabs T H1 → H f = none → H1 f = some (LamO f c' (X.env.qual ++ "<lambda>") cl params body scope) → H1 c' = some (LamX.CodeO c' (X.env.qual ++ "<lambda>")) → Q (.ref f) s') :
    wpAny (model X.prog X.w) X.A (eval (.Lambda params body scope pos) X.env) Q E s := by
  obtain ⟨ps, hP, ht, ha⟩ := hT _ hm
  refine PySem.W.kla_eval hdef ?_
  have bP : s.heap.BuiltinsAt X.mg P := TB.bm.keeps I.bk
  have hP' : s.heap.get? P = some { cls := .none, data := .fields ps } := I.hok P _ hP
  cases hc : codeAmong pos ps.toList with
  | none =>
    refine PySem.W.kla_makeFunction (mg := X.mg) (c := c) (P := P) (ps := ps) (closure_ok hfree) I.ok.glob (I.mod.glob.keeps I.bk) hcode (TB.code.keeps I.bk) hP' ht hc TB.gP bP fun c' ctv h' tk hx hge hlt hrec htb => ?_
    obtain ⟨c2, oc, vs, t, e2, hoc, hd, hv⟩ := hrec
    cases e2
    have nC : H c' = none := I.hok.fresh hge
    have I1 := LamX.inv_table (t' := tk) (more := #[rawInt pos.line, rawInt pos.col, .ref c']) (h' := h') I hP (fun b o hb e => hx b o hb e) htb hge ⟨oc, vs, t, hoc, hd, hv⟩
    have hE : LamX.ExtN H (upd (upd H P (.tbl (ps ++ #[rawInt pos.line, rawInt pos.col, .ref c']))) c' (LamX.CodeO c' (X.env.qual ++ "<lambda>"))) := fun b o e n => by
      rw [upd_ne (ne_of_none e nC), upd_ne (fun z => n ps (Option.some.inj (e.symm.trans (by rw [z]; exact hP))))]
      exact e
    have eL : (ps ++ #[rawInt pos.line, rawInt pos.col, .ref c']).toList = ps.toList ++ [rawInt pos.line, rawInt pos.col, .ref c'] := by simp
    have T1 : LamX.Tabs T (upd (upd H P (.tbl (ps ++ #[rawInt pos.line, rawInt pos.col, .ref c']))) c' (LamX.CodeO c' (X.env.qual ++ "<lambda>"))) := fun p hp => by
      by_cases hb : p.1 = P
      · rw [hu p hp hb, hb]
        refine ⟨_, by rw [upd_ne (ne_of_none hP nC), upd_same], by rw [eL]; exact PySem.TriplesOk_snoc _ _ _ _ ht, fun p' cv hcv => ?_⟩
        rw [eL] at hcv
        rcases LamX.among_app _ ht hcv with z | z
        · obtain ⟨c0, e1, e2⟩ := ha p' cv z
          exact ⟨c0, e1, hE _ _ e2 LamX.codeO_ne⟩
        · exact ⟨c', z, upd_same⟩
      · obtain ⟨ps', a1, a2, a3⟩ := hT p hp
        refine ⟨ps', by rw [upd_ne (ne_of_none a1 nC), upd_ne hb]; exact a1, a2, fun p' cv hcv => ?_⟩
        obtain ⟨c0, e1, e2⟩ := a3 p' cv hcv
        exact ⟨c0, e1, hE _ _ e2 LamX.codeO_ne⟩
    have nF := I1.hok.fresh (Nat.le_refl _)
    have I2 := inv_lam (cl := cl) (q := X.env.qual ++ "<lambda>") (c' := c') (params := params) (body := body) (scope := scope) (pm := (X.mg "__name__").getD .none) (ctv := ctv) (t' := tk) I1
    rw [hcl]
    refine h h'.objs.size c' _ _ I2 (fun b o e n => ?_) (T1.ext fun b o e => ?_) (I.hok.fresh (Nat.le_trans hge (Nat.le_of_lt hlt))) upd_same ?_
    · have e1 := hE b o e n
      exact (upd_ne (ne_of_none e1 nF)).trans e1
    · exact (upd_ne (ne_of_none e nF)).trans e
    · have e1 : (upd (upd H P (.tbl (ps ++ #[rawInt pos.line, rawInt pos.col, .ref c']))) c' (LamX.CodeO c' (X.env.qual ++ "<lambda>"))) c' = some (LamX.CodeO c' (X.env.qual ++ "<lambda>")) := upd_same
      exact (upd_ne (ne_of_none e1 nF)).trans e1
  | some cv =>
    obtain ⟨c', e, hco⟩ := ha pos cv hc
    subst e
    refine PySem.W.kla_makeFunctionHit (mg := X.mg) (c := c) (P := P) (ps := ps) (closure_ok hfree) I.ok.glob (I.mod.glob.keeps I.bk) hcode (TB.code.keeps I.bk) hP' ht hc bP fun ctv h' tk hx hsz => ?_
    have I1 : Inv X pins σ H { s with heap := h', toks := tk } := I.kept fun b o e => hx b o e
    have nF : H h'.objs.size = none := I.hok.fresh hsz
    have I2 := inv_lam (cl := cl) (q := X.env.qual ++ "<lambda>") (c' := c') (params := params) (body := body) (scope := scope) (pm := (X.mg "__name__").getD .none) (ctv := ctv) (t' := tk) I1
    rw [hcl]
    refine h h'.objs.size c' _ _ I2 (fun b o e n => (upd_ne (ne_of_none e nF)).trans e) (hT.ext fun b o e => (upd_ne (ne_of_none e nF)).trans e) nF upd_same ((upd_ne (ne_of_none hco nF)).trans hco)
end
section
variable {X : Cx} {params : Arguments} {body : Expr} {scope : Scope}
/-- a lambda that captures, made -/
theorem pe_lamC {c P : Addr} {qn : Str} {pos : Pos} {T : List (Addr × Str)} (TB : LamX.TabB X.base X.mg c P) (hcode : X.env.code = .ref c) (hq : X.env.qual ++ "<lambda>" = qn) (hm : (P, qn) ∈ T) (hun : ∀ p ∈ T, p.1 = P → p.2 = qn) (hdef : defaultsOf params X.env = ([], [])) (L : LamX.LamS X.env.scope scope) :
    PE X (.Lambda params body scope pos) (fun _ H Q => LamX.Tabs T H ∧ ∀ (f c' : Addr) (H1 : Hp), LamX.ExtN H H1 → LamX.Tabs T H1 → H f = none → H1 f = some (LamO f c' qn (cloFrom X.env.cells scope.names []) params body scope) → H1 c' = some (LamX.CodeO c' qn) → Q (.ref f) H1) := by
  subst hq
  refine ⟨fun pins s σ H Q I h => ?_⟩
  obtain ⟨hT, h⟩ := h
  exact lam_make3 I TB hcode hm hun hT hdef (L.has I.ok) rfl fun f c' H1 s' I1 eN T1 hn hf hc => ⟨.ref f, H1, I1, rfl, h f c' H1 eN T1 hn hf hc⟩
end
section
variable {X : Cx} {pins : List (Addr × Obj)} {σ : L2.St} {H : Hp} {s : Shared}
/-- a() within a def that got it as an argument: its body is read as in the function that made it -/
theorem pe_actV {CXg : CXT} {Eg : XK} {Ng : List Str} {qg q : Str} {cl : List (Str × Addr)} {sg : Scope} {g f c' : Addr} {cdg : Value} {params : Arguments} {body : Expr} {scope : Scope} {k i : Nat} {a : Str} {pn : List (Addr × Obj)} {xe : Value → Shared → Prop} {W : WX} {E : XK} {tb : TE} {p1 p2 : Pos}
    (I : Inv X pins σ H s) (L : LamX.LamS X.env.scope scope) (hq : X.env.qual ++ "<lambda>" = q) (hcl : cloFrom X.env.cells scope.names [] = cl)
    (hbind : ∀ (pm cv ctv : Value), bindArgs (PySem.W.kla_fn "<lambda>" q params body scope cl pm cv ctv) ⟨[], []⟩ = pure [])
    (tk : Takes ((cxOf CXg X.prog X.w X.K X.mg X.base Ng qg sg g cdg X.A X.stack s H Eg).tr pn xe) W) (hW : ∀ cls d σ' H', E cls d H' → W cls d σ' H') (hr : Room (k + 1) (X.A.deeper (envOfC qg sg s.heap.objs.size g cdg)))
    (hbody : ∀ (A : Around) (outer : List Env) (s : Shared) (H : Hp), Room k (A.deeper (LamX.lamEnv X scope s.heap.objs.size f c')) → PE (LamX.lamCx X A outer s H E scope f c') body tb)
    (hN : Ng[i]? = some a) (hv : Vis sg a) (hd : (a == ("__debug__" : Str)) = false := by decide) (hcd : (a == ("__classdict__" : Str)) = false := by decide) :
    PE ((cxOf CXg X.prog X.w X.K X.mg X.base Ng qg sg g cdg X.A X.stack s H Eg).tr pn xe) (.Call (.Name a p1) [] [] p2)
      (fun σZ HZ Q => σZ[i]? = some (some (.ref f)) ∧ HZ f = some (LamO f c' q cl params body scope) ∧ HZ c' = some (LamX.CodeO c' q) ∧ tb σ HZ Q) := by
  subst hq
  subst hcl
  refine ⟨fun pinsZ sZ σZ HZ Q IZ h => ?_⟩
  obtain ⟨hs, hf, hc, ht⟩ := h
  refine wpAny_Call_Name_kw (thn ((pe_var (pos := p1) (i := i) hN hv hd hcd).run pinsZ sZ σZ HZ (fun v H1 => v = .ref f ∧ H1 = HZ) IZ ⟨.ref f, hs, rfl, rfl⟩) fun u s1 ⟨v, H1, I1, r1, q1⟩ => ?_)
  obtain ⟨ev, eH⟩ := q1
  subst ev
  rw [eH] at I1
  obtain rfl : u = Value.ref f := r1
  obtain ⟨od, sl, pm, ctv, of1⟩ := lamO_at I1.hok hf
  refine PySem.W.callWith_F0 ⟨_, _, _, _, of1⟩ ?_
  have un : Un (frs X.stack) [] H HZ s.heap s1.heap := I1.base
  obtain ⟨⟨oc, vs, t, hoc, hdc, hvc⟩, _, _⟩ := I1.hok c' _ hc
  have rc : codeAny (model X.prog X.w) (X.A.deeper (envOfC qg sg s.heap.objs.size g cdg)) (.call (.ref f) ⟨[], []⟩) (CR (L2.CX X.prog X.w) (envOfC qg sg s.heap.objs.size g cdg :: X.stack) X.prog X.w HZ s1 Q E) s1 := by
    refine PySem.W.kla_callFunE hr.depth of1 rfl L.co L.gen rfl ⟨c', oc, vs, t, rfl, hoc, hdc, hvc⟩ ?_
    rw [hbind]
    refine wpAny_pure (wpAny_newFunctionEnv (fun y hy => (L.own y hy).2) (fun y hy => absurd hy (by simp)) (fun h₁ hns hsb => ⟨I1.nolimit.fresh _ hsb, ?_⟩) L.kind)
    show codeAny _ _ (.expr body (LamX.lamEnv X scope s1.heap.objs.size f c')) _ _
    have kp : ∀ b o, s1.heap.get? b = some o → h₁.get? b = some o := fun b o e => hsb.extBut b o (Nat.ne_of_lt (Heap.lt_size e)) (Heap.get?_push_of_some _ e)
    have J : Inv (LamX.lamCx X (X.A.deeper (envOfC qg sg s.heap.objs.size g cdg)) (envOfC qg sg s.heap.objs.size g cdg :: X.stack) s1 HZ E scope f c') [] σ HZ { s1 with heap := h₁, toks := s1.toks + ([] : List (Str × Value)).length } :=
      LamX.lam_start2 I L I1.env0 hr.hd un hns kp
    refine PySem.W.kla_codeExpr (wpAny_mono ((hbody _ _ s1 HZ (hr.deeper _)).run [] _ _ HZ Q J ht) (fun v s' hq => ?_) fun e s' hq => hq)
    obtain ⟨w', H', J', rv, q⟩ := hq
    exact ⟨w', H', J'.os, J'.bare, J'.base, J'.hok, rv, q⟩
  have hx : Passes (L2.CX X.prog X.w) ((cxOf CXg X.prog X.w X.K X.mg X.base Ng qg sg g cdg X.A X.stack s H Eg).tr pn xe) E := passes_call tk hW
  refine wpAny_call (codeAny_mono rc fun r s' hq => ?_)
  cases r with
  | error e => exact hx pinsZ σZ HZ s1 e s' I1 hq
  | ok fl =>
    cases fl with
    | ret u => exact I1.after hq
    | next => exact False.elim hq
    | brk => exact False.elim hq
    | cont => exact False.elim hq
end
end K1
namespace K1
open PySem PySem.Spec PyProof.Rows L2
/-- _law_heard(_law_ask), a slot that holds such a lambda -/
theorem pe_heardV {X : Cx} {CR CS : Addr} {k i : Nat} {q : Str} {cl : List (Str × Addr)} {params : Arguments} {body : Expr} {scope : Scope} {t : XK → TE} {p px pos : Pos} (hd : Hd X.K X.mg X.base CR CS) (hgd : X.A.guards = some []) (hr : Room (k + 2) X.A)
    (hg : Gl X "_law_heard") (hN : X.N[i]? = some "_law_ask") (hv : Vis X.env.scope "_law_ask") (L : LamX.LamS X.env.scope scope) (hq : X.env.qual ++ "<lambda>" = q) (hcl : cloFrom X.env.cells scope.names [] = cl)
    (hbind : ∀ (pm cv ctv : Value), bindArgs (PySem.W.kla_fn "<lambda>" q params body scope cl pm cv ctv) ⟨[], []⟩ = pure [])
    (hbody : ∀ (A : Around) (outer : List Env) (s : Shared) (H : Hp) (E : XK) (f c' : Addr), Room k (A.deeper (LamX.lamEnv X scope s.heap.objs.size f c')) → PE (LamX.lamCx X A outer s H E scope f c') body (t E)) :
    PE X (.Call (.Name "_law_heard" p) [.Name "_law_ask" px] [] pos) (fun σ H Q => ∃ f c', σ[i]? = some (some (.ref f)) ∧ H c' = some (LamX.CodeO c' q) ∧ TTh X.K CR CS (fun E H' Q' => H' f = some (LamO f c' q cl params body scope) ∧ t E σ H' Q') H Q) := by
  obtain ⟨g, fd, D⟩ := hd.df
  obtain ⟨q3, b3, i3, T3⟩ := hd.t3
  obtain ⟨q1, b1, i1, T1⟩ := hd.t1
  obtain ⟨N, hNe, ex⟩ := hd.ex
  have hb := D.b
  obtain ⟨oc, od, kV, doc, pm, an, cdv, ct, osl, rfl, lk, hcd'⟩ := D.F.ex
  refine ⟨fun pins s σ H Q I h => ?_⟩
  obtain ⟨f, c', hs, hc, hT⟩ := h
  refine wpAny_Call_Name_kw (ld_glob I hg D.g ?_ (by decide))
  refine PySem.W.callWith_K (h₀ := X.base) I.ok.mod.kin D.F.kp ?_ (by rfl) (by rfl)
  have ha := (pa_cons (pe_var (pos := px) (i := i) hN hv (by decide) (by decide)) pa_nil (by rfl)).run pos pins s σ H (fun vs H1 => vs = [.ref f] ∧ H1 = H) I ⟨.ref f, hs, rfl, rfl⟩
  refine thn ha fun us s1 ⟨vs, H1, I1, r, e1, e2⟩ => ?_
  subst e1
  rw [e2] at I1
  obtain ⟨u, rfl, ru⟩ := vals1 r
  obtain rfl : u = Value.ref f := ru
  refine ⟨I1.kIn, ?_⟩
  have rc : codeAny (model X.prog X.w) X.A (.call (.ref g) ⟨[.ref f], []⟩) (L2.CR C8.CX0 X.stack X.prog X.w H s1 Q C8.E0) s1 := by
    refine LamX.run_ofS (N := ["_law_ask", "fault"]) (ps := ["_law_ask"]) (us := [.ref f]) (vs := [.ref f]) lk hcd' scHe hr I1.env0 (hb s1 [.ref f] I1.kIn rfl) (.cons rfl .nil) rfl fun hr' => ?_
    obtain ⟨t', ht', hq'⟩ := heard_gives (q := q) hd.B hd.ke T1 T3 hNe ex hd.g1 hd.g3 hgd hr f c' s1 H Q (fun E H' Q' => H' f = some (LamO f c' q cl params body scope) ∧ t E σ H' Q')
      (fun W pn xe E p1 p2 tk hW => ⟨fun pinsZ sZ σZ HZ QZ IZ hZ => (pe_actV (i := 0) (p1 := p1) (p2 := p2) I1 L hq hcl hbind tk hW hr' (fun A outer s H hr2 => hbody A outer s H E f c' hr2) rfl (.inl rfl)).run pinsZ sZ σZ HZ QZ IZ ⟨hZ.1, hZ.2.2.1, hZ.2.1, hZ.2.2.2⟩⟩) hc hT
    exact ⟨t', ht'.nox, hq'⟩
  refine wpAny_call (codeAny_mono rc fun r s2 hq => ?_)
  cases r with
  | error e => exact (show False from hq).elim
  | ok fl =>
    cases fl with
    | ret u => exact I1.after hq
    | next => exact False.elim hq
    | brk => exact False.elim hq
    | cont => exact False.elim hq
end K1
namespace K1
open PySem PySem.Spec PyProof.Rows L2
abbrev qUR : Str := "_law_untelling_right.<locals>.<lambda>"
abbrev nUR : List Str := ["_law_machine", "_law_state", "_law_asks", "_law_ask"]
theorem scUR : FnScope nUR ["_law_machine", "_law_state"] (defScope sUntR) := ⟨rfl, rfl, rfl, by decide +kernel, rfl, by decide +kernel, by decide +kernel⟩
def spUntR (M : Addr) (T : List (Addr × Str)) : Sp := fun vs H Q _ => ∃ m st ta ts, vs = [.ref m, .int st] ∧ Wf ts ∧ MachAt M H m ta (vts ts) ∧ (0 ≤ st ∧ st < (nS ts : Int)) ∧ ¬ Tells ts st ∧ LamX.Tabs T H ∧ ∀ H', LamX.ExtN H H' → LamX.Tabs T H' → Q (.bl true) H'
/-- the k-th lambda of the text, its parts -/
def lamIn : Stmt → Expr
  | .Assign _ (.List (e :: _) _) _ => e
  | .Expr (.Call _ (e :: _) _ _) _ => e
  | _ => .Constant .none 0 ⟨0, 0, 0, 0⟩
def lamP : Expr → Arguments
  | .Lambda p _ _ _ => p
  | _ => { posonlyargs := [], args := [], vararg := none, kwonlyargs := [], kw_defaults := [], kwarg := none, defaults := [] }
def lamB : Expr → Expr
  | .Lambda _ b _ _ => b
  | e => e
def lamS : Expr → Scope
  | .Lambda _ _ s _ => s
  | _ => defScope sUntR
abbrev lamU (k : Nat) : Expr := lamIn ((defBody sUntR).getD k (.Pass ⟨0, 0, 0, 0⟩))
end K1
/-! ### zip of any number of tuples, drawn -/
namespace ZN
open PySem PySem.Spec PyProof.Rows
/-- the iterators b, b + 1, .. of the tuples ls, whose items are rows: the j-th stands at p j -/
structure Itr (h : Heap) (b : Nat) (ls : List Addr) (rows : List (List Value)) (p : Nat → Nat) : Prop where
  it : ∀ (j : Nat) l, ls[j]? = some l → h.IsTupleIter (b + j) l (p j)
  tu : ∀ (j : Nat) l r, ls[j]? = some l → rows[j]? = some r → h.IsTuple l r.toArray
/-- what is drawn at place i -/
def col (rows : List (List Value)) (i : Nat) : List Value := rows.map fun r => r.getD i .none
theorem Itr.over {h h' : Heap} {b : Nat} {ls : List Addr} {rows : List (List Value)} {p : Nat → Nat} (I : Itr h b ls rows p) {x : Addr} (hx : Heap.ExtBut x h h') (h1 : b + ls.length ≤ x) (hb : ∀ l ∈ ls, l < b) : Itr h' b ls rows p := by
  refine ⟨fun j l e => (I.it j l e).extBut hx fun z => ?_, fun j l r e1 e2 => (I.tu j l r e1 e2).extBut hx fun z => ?_⟩
  · have := (List.getElem?_eq_some_iff.mp e).1
    subst z
    exact absurd h1 (by show ¬ (b + ls.length ≤ b + j); omega)
  · have := hb l (List.mem_of_getElem? e1)
    subst z
    exact absurd (Nat.lt_of_lt_of_le this (Nat.le_trans (Nat.le_add_right _ _) h1)) (Nat.lt_irrefl _)
theorem Itr.ext {h h' : Heap} {b : Nat} {ls : List Addr} {rows : List (List Value)} {p : Nat → Nat} (I : Itr h b ls rows p) (hx : ∀ c o, c < b + ls.length → h.get? c = some o → h'.get? c = some o) (hb : ∀ l ∈ ls, l < b) : Itr h' b ls rows p := by
  refine ⟨fun j l e => ?_, fun j l r e1 e2 => ?_⟩
  · have := (List.getElem?_eq_some_iff.mp e).1
    obtain ⟨o, ho, z⟩ := I.it j l e
    exact ⟨o, hx _ _ (by omega) ho, z⟩
  · have := hb l (List.mem_of_getElem? e1)
    obtain ⟨o, ho, z⟩ := I.tu j l r e1 e2
    exact ⟨o, hx _ _ (Nat.lt_of_lt_of_le this (Nat.le_add_right _ _)) ho, z⟩
theorem Itr.congr {h : Heap} {b : Nat} {ls : List Addr} {rows : List (List Value)} {p q : Nat → Nat} (I : Itr h b ls rows p) (e : ∀ j, j < ls.length → p j = q j) : Itr h b ls rows q :=
  ⟨fun j l hl => by rw [← e j (List.getElem?_eq_some_iff.mp hl).1]; exact I.it j l hl, I.tu⟩
section
variable {prog : Program} {w : World} {A : Around} {E : Value → Shared → Prop} {s : Shared} {b : Nat} {ls : List Addr} {rows : List (List Value)} {p : Nat → Nat}
theorem draw_item {j : Nat} {l : Addr} {r : List Value} {x : Value} {Q : Value → Shared → Prop} (I : Itr s.heap b ls rows p) (hb : ∀ l ∈ ls, l < b) (hl : ls[j]? = some l) (hr : rows[j]? = some r) (hx : r[p j]? = some x)
    (hQ : ∀ h', Itr h' b ls rows (fun q => if q = j then p j + 1 else p q) → Heap.SameBut (b + j) s.heap h' → Q x { s with heap := h' }) : wpAny (model prog w) A (Builtin.SmallTypes.nextOf (.ref (b + j : Nat))) Q E s := by
  refine wpAny_nextOf_tuple_item (I.it j l hl) (I.tu j l r hl hr) (x := x) (by simpa using hx) fun h' hi hs => hQ h' ⟨fun q l' e => ?_, fun q l' r' e1 e2 => (I.tu q l' r' e1 e2).extBut hs.extBut fun z => ?_⟩ hs
  · by_cases hq : q = j
    · subst hq
      rw [hl] at e
      cases e
      rw [if_pos rfl]
      exact hi
    · rw [if_neg hq]
      exact (I.it q l' e).extBut hs.extBut fun z => hq (Nat.add_left_cancel z)
  · have := hb l' (List.mem_of_getElem? e1)
    subst z
    exact absurd this (by show ¬ (b + j < b); omega)
theorem draw_end {j : Nat} {l : Addr} {r : List Value} {Q : Value → Shared → Prop} (hh : A.handled = none) (I : Itr s.heap b ls rows p) (hl : ls[j]? = some l) (hr : rows[j]? = some r) (hx : r[p j]? = none)
    (hE : ∀ h' e, Heap.ExtBut (b + j : Nat) s.heap h' → (∃ o, h'.get? e = some o ∧ o.cls = .type "StopIteration") → E (.ref e) { s with heap := h' }) : wpAny (model prog w) A (Builtin.SmallTypes.nextOf (.ref (b + j : Nat))) Q E s :=
  wpAny_nextOf_tuple_end hh (I.it j l hl) (I.tu j l r hl hr) (by simpa using hx) hE
/-- the iterators as values -/
abbrev itv (b n : Nat) : List Value := (List.range n).map fun j => Value.ref (b + j : Nat)
theorem itv_cons {b n k : Nat} {x : Value} {rest : List Value} (h : x :: rest = (itv b n).drop k) : k < n ∧ x = .ref (b + k : Nat) ∧ rest = (itv b n).drop (k + 1) := by
  have hk : k < (itv b n).length := by
    rcases Nat.lt_or_ge k (itv b n).length with z | z
    · exact z
    · rw [List.drop_of_length_le z] at h
      cases h
  rw [List.drop_eq_getElem_cons hk] at h
  injection h with h1 h2
  refine ⟨by simpa [itv] using hk, ?_, h2⟩
  rw [h1]
  simp [itv]
theorem itv_nil {b n k : Nat} (h : [] = (itv b n).drop k) : n ≤ k := by
  have := congrArg List.length h
  simp [itv] at this
  omega
theorem zi_cons {b n k q : Nat} {x : Value} {rest : List (Value × Nat)} (h : (x, q) :: rest = ((itv b n).zipIdx).drop k) : k < n ∧ x = .ref (b + k : Nat) ∧ q = k ∧ rest = ((itv b n).zipIdx).drop (k + 1) := by
  have hk : k < ((itv b n).zipIdx).length := by
    rcases Nat.lt_or_ge k ((itv b n).zipIdx).length with z | z
    · exact z
    · rw [List.drop_of_length_le z] at h
      cases h
  rw [List.drop_eq_getElem_cons hk] at h
  injection h with h1 h2
  simp [itv] at h1
  exact ⟨by simpa [itv] using hk, h1.1, h1.2, h2⟩
theorem zi_nil {b n k : Nat} (h : [] = ((itv b n).zipIdx).drop k) : n ≤ k := by
  have := congrArg List.length h
  simp [itv] at this
  omega
theorem col_take {rows : List (List Value)} {i k : Nat} {r : List Value} (h : rows[k]? = some r) : (col rows i).take (k + 1) = (col rows i).take k ++ [r.getD i .none] := by
  have : (col rows i)[k]? = some (r.getD i .none) := by simp [col, h]
  rw [List.take_add_one, this]
  rfl
/-- later draws: a new tuple is made -/
theorem next_later {n i T : Nat} {f : Bool} {oT : Obj} {Q : Value → Shared → Prop} (hn : ls.length = n) (hm : rows.length = n) (hb : ∀ l ∈ ls, l < b) (hz : IsZipHeld s.heap (b + n + 2 : Nat) (b + n : Nat) (b + n + 1 : Nat) T f) (hT : s.heap.get? T = some oT)
    (hTI : s.heap.get? (b + n : Nat) = some { cls := .type "tuple", data := .seq (itv b n).toArray }) (I : Itr s.heap b ls rows fun _ => i) (hi : ∀ r ∈ rows, i < r.length) (h64 : n ≤ sizeLine) (h0 : 0 < n)
    (hQ : ∀ h', IsZipHeld h' (b + n + 2 : Nat) (b + n : Nat) (b + n + 1 : Nat) T true → Itr h' b ls rows (fun _ => i + 1) → h'.get? s.heap.objs.size = some { cls := .type "tuple", data := .seq (col rows i).toArray } → h'.objs.size = s.heap.objs.size + 1 →
      (∀ c o, (c < b ∨ c = (b + n : Nat) ∨ b + n + 2 < c) → s.heap.get? c = some o → h'.get? c = some o) → Q (.ref s.heap.objs.size) { s with heap := h' }) :
    wpAny (model prog w) A (Builtin.«zip.__next__» ⟨[.ref (b + n + 2 : Nat)], []⟩) (fun fin s' => ∃ v, fin = .done (.ret v) ∧ Q v s') E s := by
  obtain ⟨hp, g, d, tk, os⟩ := s
  show wpAny _ _ (field (.ref (b + n + 2 : Nat)) 2 >>= _) _ _ _
  refine wpAny_bind (wpAny_field hz rfl (x := .bool false) rfl ?_)
  show wpAny _ _ (field (.ref (b + n + 2 : Nat)) 3 >>= _) _ _ _
  refine wpAny_bind (wpAny_field hz rfl (x := .ref (b + n : Nat)) rfl ?_)
  refine wpAny_bind (wpAny_seqItems hTI rfl ?_)
  have hne : (itv b n).toArray.isEmpty = false := by
    cases n with
    | zero => exact absurd h0 (Nat.lt_irrefl _)
    | succ n => simp [itv, List.range_succ]
  simp only [hne, Bool.false_eq_true, if_false]
  refine wpAny_bind (wpAny_tupleHeld_zip hz hT fun h₁ hz₁ hs₁ => ?_)
  simp only [Bool.false_eq_true, if_false]
  refine wpAny_bind ?_
  rw [← Array.forIn_toList]
  have I₁ : Itr h₁ b ls rows fun _ => i := I.over hs₁.extBut (by rw [hn]; omega) hb
  refine wpAny_forIn_list _ (fun rest x s' => ∃ k h', k ≤ n ∧ rest = (itv b n).drop k ∧ x = (none, ((col rows i).take k).toArray) ∧ s' = ⟨h', g, d, tk, os⟩ ∧ Itr h' b ls rows (fun q => if q < k then i + 1 else i) ∧ h'.objs.size = h₁.objs.size ∧ ∀ c o, (c < b ∨ b + n ≤ c) → h₁.get? c = some o → h'.get? c = some o) _ ?_ ?_ _ _ ⟨0, h₁, Nat.zero_le _, ?_, rfl, rfl, I₁.congr fun j _ => rfl, rfl, fun c o _ e => e⟩
  · rintro x rest ⟨x1, x2⟩ s' ⟨k, h', hk, hr, he, rfl, I', hs', hkp⟩
    obtain ⟨hkn, rfl, rfl⟩ := itv_cons hr
    obtain ⟨rfl, rfl⟩ := Prod.mk.inj he
    have hl : ls[k]? = some ls[k] := List.getElem?_eq_getElem (by omega)
    have hrk : rows[k]? = some rows[k] := List.getElem?_eq_getElem (by omega)
    have hx : rows[k][i]? = some (rows[k].getD i .none) := by
      have := hi rows[k] (List.getElem_mem _)
      rw [List.getD_eq_getElem?_getD, List.getElem?_eq_getElem this]
      rfl
    refine wpAny_bind (wpAny_holding ?_)
    show wpAny _ _ (Builtin.SmallTypes.nextOf (.ref (b + k : Nat)) >>= _) _ _ _
    refine wpAny_bind (draw_item (s := ⟨h', g, d, tk, os⟩) I' hb hl hrk (x := rows[k].getD i .none) (by rw [if_neg (Nat.lt_irrefl k)]; exact hx) fun h'' I'' hs'' => wpAny_pure (wpAny_pure ?_))
    refine ⟨k + 1, h'', hkn, rfl, ?_, rfl, I''.congr fun j hj => ?_, hs''.1.trans hs', fun c o hc e => hs''.extBut c o ?_ (hkp c o hc e)⟩
    · show (none, ((col rows i).take k).toArray.push _) = _
      rw [col_take hrk]
      simp
    · by_cases hj : j = k
      · subst hj
        simp
      · rw [if_neg hj]
        by_cases h2 : j < k
        · rw [if_pos h2, if_pos (Nat.lt_succ_of_lt h2)]
        · rw [if_neg h2, if_neg (by omega)]
    · intro z
      subst z
      rcases hc with z | z
      · exact absurd z (by show ¬ (b + k < b); omega)
      · exact absurd z (by show ¬ (b + n ≤ b + k); omega)
  · rintro ⟨x1, x2⟩ s' ⟨k, h', hk, hr, he, rfl, I', hs', hkp⟩
    have hkn : k = n := Nat.le_antisymm hk (itv_nil hr)
    subst hkn
    obtain ⟨rfl, rfl⟩ := Prod.mk.inj he
    have ht : (col rows i).take k = col rows i := List.take_of_length_le (by simp [col, hm])
    rw [ht]
    show wpAny _ _ (newTuple (col rows i) >>= _) _ _ _
    have hsz : h'.objs.size = hp.objs.size := hs'.trans hs₁.1
    have hlc : (col rows i).length ≤ sizeLine := by simp [col, hm, h64]
    refine wpAny_bind (wpAny_newTuple (wpAny_pure ⟨_, rfl, ?_⟩) hlc)
    show Q (.ref h'.objs.size) _
    rw [hsz]
    refine hQ _ (Heap.get?_push_of_some _ (hkp _ _ (.inr (by omega)) hz₁)) ?_ ?_ ?_ fun c o hc e => Heap.get?_push_of_some _ (hkp c o (by omega) (hs₁.extBut c o (fun z => by have z' : (c : Nat) = b + k + 2 := z; omega) e))
    · exact (I'.congr (q := fun _ => i + 1) fun j hj => if_pos (hn ▸ hj)).ext (fun c o _ e => Heap.get?_push_of_some _ e) hb
    · have := Heap.get?_push_size h' (o := { cls := .type "tuple", data := .seq (col rows i).toArray }) rfl
      rw [hsz] at this
      exact this
    · show (h'.push _).objs.size = hp.objs.size + 1
      rw [Heap.size_push, hsz]
  · simp
/-- the end: the first iterator has no more -/
theorem next_end {n i T : Nat} {f : Bool} {oT : Obj} {Q : Fin → Shared → Prop} (hh : A.handled = none) (hn : ls.length = n) (hm : rows.length = n) (hb : ∀ l ∈ ls, l < b) (hz : IsZipHeld s.heap (b + n + 2 : Nat) (b + n : Nat) (b + n + 1 : Nat) T f) (hT : s.heap.get? T = some oT)
    (hTI : s.heap.get? (b + n : Nat) = some { cls := .type "tuple", data := .seq (itv b n).toArray }) (I : Itr s.heap b ls rows fun _ => i) (hi : ∀ r ∈ rows, r.length ≤ i) (h0 : 0 < n)
    (hE : ∀ h' e, (∀ c o, (c < b ∨ b + n + 2 < c) → s.heap.get? c = some o → h'.get? c = some o) → (∃ o, h'.get? e = some o ∧ o.cls = .type "StopIteration") → E (.ref e) { s with heap := h' }) :
    wpAny (model prog w) A (Builtin.«zip.__next__» ⟨[.ref (b + n + 2 : Nat)], []⟩) Q E s := by
  obtain ⟨hp, g, d, tk, os⟩ := s
  show wpAny _ _ (field (.ref (b + n + 2 : Nat)) 2 >>= _) _ _ _
  refine wpAny_bind (wpAny_field hz rfl (x := .bool false) rfl ?_)
  show wpAny _ _ (field (.ref (b + n + 2 : Nat)) 3 >>= _) _ _ _
  refine wpAny_bind (wpAny_field hz rfl (x := .ref (b + n : Nat)) rfl ?_)
  refine wpAny_bind (wpAny_seqItems hTI rfl ?_)
  have hne : (itv b n).toArray.isEmpty = false := by
    cases n with
    | zero => exact absurd h0 (Nat.lt_irrefl _)
    | succ n => simp [itv, List.range_succ]
  simp only [hne, Bool.false_eq_true, if_false]
  refine wpAny_bind (wpAny_tupleHeld_zip hz hT fun h₁ hz₁ hs₁ => ?_)
  simp only [Bool.false_eq_true, if_false]
  refine wpAny_bind ?_
  rw [← Array.forIn_toList]
  have I₁ : Itr h₁ b ls rows fun _ => i := I.over hs₁.extBut (by rw [hn]; omega) hb
  have e1 : (itv b n).toArray.toList = .ref (b + 0 : Nat) :: (itv b n).drop 1 := by
    cases n with
    | zero => exact absurd h0 (Nat.lt_irrefl _)
    | succ n =>
      rw [List.toList_toArray]
      have : (itv b (n + 1))[0]? = some (.ref (b + 0 : Nat)) := by simp [itv]
      cases hc : itv b (n + 1) with
      | nil => rw [hc] at this; cases this
      | cons y ys =>
        rw [hc] at this
        cases this
        rfl
  rw [e1, List.forIn_cons]
  have hl : ls[0]? = some ls[0] := List.getElem?_eq_getElem (by omega)
  have hrk : rows[0]? = some rows[0] := List.getElem?_eq_getElem (by omega)
  refine wpAny_bind (wpAny_bind (wpAny_holding ?_))
  show wpAny _ _ (Builtin.SmallTypes.nextOf (.ref (b + 0 : Nat)) >>= _) _ _ _
  refine wpAny_bind (draw_end (s := ⟨h₁, g, d, tk, os⟩) hh I₁ hl hrk (List.getElem?_eq_none (hi _ (List.getElem_mem _))) fun h₂ e hs₂ he => ?_)
  refine hE h₂ e (fun c o hc x => hs₂ c o (fun z => ?_) (hs₁.extBut c o (fun z => ?_) x)) he
  · have z' : (c : Nat) = b + 0 := z
    omega
  · have z' : (c : Nat) = b + n + 2 := z
    omega
/-- the first draw: the tuple that it owns is filled, a copy handed out -/
theorem next_first {n : Nat} {vs : List Value} {Q : Value → Shared → Prop} (hn : ls.length = n) (hm : rows.length = n) (hb : ∀ l ∈ ls, l < b) (hz : IsZip s.heap (b + n + 2 : Nat) (b + n : Nat) (b + n + 1 : Nat) .none) 
    (hTI : s.heap.get? (b + n : Nat) = some { cls := .type "tuple", data := .seq (itv b n).toArray }) (hv : vs.length = n) (hTO : s.heap.get? (b + n + 1 : Nat) = some { cls := .type "tuple", data := .seq vs.toArray }) (I : Itr s.heap b ls rows fun _ => 0) (hi : ∀ r ∈ rows, 0 < r.length) (h64 : n ≤ sizeLine) (h0 : 0 < n)
    (hQ : ∀ h', IsZipHeld h' (b + n + 2 : Nat) (b + n : Nat) (b + n + 1 : Nat) s.heap.objs.size false → Itr h' b ls rows (fun _ => 1) → h'.get? s.heap.objs.size = some { cls := .type "tuple", data := .seq (col rows 0).toArray } → h'.objs.size = s.heap.objs.size + 1 →
      (∀ c o, (c < b ∨ c = (b + n : Nat) ∨ b + n + 2 < c) → s.heap.get? c = some o → h'.get? c = some o) → Q (.ref s.heap.objs.size) { s with heap := h' }) :
    wpAny (model prog w) A (Builtin.«zip.__next__» ⟨[.ref (b + n + 2 : Nat)], []⟩) (fun fin s' => ∃ v, fin = .done (.ret v) ∧ Q v s') E s := by
  obtain ⟨hp, g, d, tk, os⟩ := s
  show wpAny _ _ (field (.ref (b + n + 2 : Nat)) 2 >>= _) _ _ _
  refine wpAny_bind (wpAny_field hz rfl (x := .bool false) rfl ?_)
  show wpAny _ _ (field (.ref (b + n + 2 : Nat)) 3 >>= _) _ _ _
  refine wpAny_bind (wpAny_field hz rfl (x := .ref (b + n : Nat)) rfl ?_)
  refine wpAny_bind (wpAny_seqItems hTI rfl ?_)
  have hne : (itv b n).toArray.isEmpty = false := by
    cases n with
    | zero => exact absurd h0 (Nat.lt_irrefl _)
    | succ n => simp [itv, List.range_succ]
  simp only [hne, Bool.false_eq_true, if_false]
  refine wpAny_bind ?_
  unfold Builtin.SmallTypes.ownedTupleIsFree
  refine wpAny_bind (wpAny_field hz rfl (x := .none) rfl (wpAny_pure ?_))
  simp only [if_true]
  refine wpAny_bind (wpAny_rule ?_)
  refine wpAny_bind (wpAny_field hz rfl (x := .ref (b + n + 1 : Nat)) rfl ?_)
  refine wpAny_bind (wpAny_setField_rec hz (by simp) fun h₁ hz₁ hs₁ => ?_)
  replace hz₁ : IsZip h₁ (b + n + 2 : Nat) (b + n : Nat) (b + n + 1 : Nat) .ellipsis := hz₁
  refine wpAny_bind ?_
  have I₁ : Itr h₁ b ls rows fun _ => 0 := I.over hs₁.extBut (by rw [hn]; omega) hb
  refine wpAny_forIn_list _ (fun rest x s' => ∃ k h' ws, k ≤ n ∧ rest = ((itv b n).zipIdx).drop k ∧ x = (none, ()) ∧ s' = ⟨h', g, d, tk, os⟩ ∧ Itr h' b ls rows (fun q => if q < k then 1 else 0) ∧ h'.objs.size = h₁.objs.size ∧
    h'.get? (b + n + 1 : Nat) = some { cls := .type "tuple", data := .seq ((col rows 0).take k ++ ws).toArray } ∧ k + ws.length = n ∧ ∀ c o, (c < b ∨ c = (b + n : Nat) ∨ b + n + 2 ≤ c) → h₁.get? c = some o → h'.get? c = some o) _ ?_ ?_ _ _ ⟨0, h₁, vs, Nat.zero_le _, ?_, rfl, rfl, I₁.congr fun j _ => rfl, rfl, ?_, ?_, fun c o _ e => e⟩
  · rintro ⟨x, k⟩ rest ⟨x1, x2⟩ s' ⟨k0, h', ws, hk, hr, he, rfl, I', hs', hTO', hws, hkp⟩
    obtain ⟨hkn, rfl, rfl, rfl⟩ := zi_cons hr
    cases ws with
    | nil => exact absurd hws (by simp; omega)
    | cons w0 ws =>
    have hl : ls[k]? = some ls[k] := List.getElem?_eq_getElem (by omega)
    have hrk : rows[k]? = some rows[k] := List.getElem?_eq_getElem (by omega)
    have hx : rows[k][0]? = some (rows[k].getD 0 .none) := by
      have := hi rows[k] (List.getElem_mem _)
      rw [List.getD_eq_getElem?_getD, List.getElem?_eq_getElem this]
      rfl
    refine wpAny_bind (wpAny_onRaise ?_)
    show wpAny _ _ (Builtin.SmallTypes.nextOf (.ref (b + k : Nat)) >>= _) _ _ _
    refine wpAny_bind (draw_item (s := ⟨h', g, d, tk, os⟩) I' hb hl hrk (x := rows[k].getD 0 .none) (by rw [if_neg (Nat.lt_irrefl k)]; exact hx) fun h'' I'' hs'' => wpAny_pure ?_)
    have hTO'' := hs''.extBut _ _ (fun z => by have z' : (b + n + 1 : Nat) = b + k := z; omega) hTO'
    refine wpAny_bind (wpAny_seqItems hTO'' rfl ?_)
    have hlen : ((col rows 0).take k).length = k := by
      rw [List.length_take]
      simp [col, hm]
      omega
    have hzz : ((col rows 0).take k ++ w0 :: ws).toArray.size ≤ sizeLine := by
      simp only [List.size_toArray, List.length_append, hlen, List.length_cons] at hws ⊢
      omega
    refine wpAny_bind (wpAny_updateSeq hTO'' rfl ?_ hzz (by rw [Array.size_setIfInBounds]; exact Nat.le_succ_of_le hzz))
    refine wpAny_bind (wpAny_letGo (wpAny_pure ?_))
    have su : Heap.SameBut (b + n + 1 : Nat) h'' (h''.update (b + n + 1 : Nat) (Obj.mapSeq fun x => x.setIfInBounds k (rows[k].getD 0 .none))) := Heap.SameBut.update ..
    refine ⟨k + 1, _, ws, hkn, rfl, rfl, rfl, (I''.congr fun j hj => ?_).over su.extBut (by rw [hn]; omega) hb, su.1.trans (hs''.1.trans hs'), ?_, by simp at hws; omega, fun c o hc e => su.extBut c o ?_ (hs''.extBut c o ?_ (hkp c o hc e))⟩
    · by_cases hj : j = k
      · subst hj
        simp
      · rw [if_neg hj]
        by_cases h2 : j < k
        · rw [if_pos h2, if_pos (Nat.lt_succ_of_lt h2)]
        · rw [if_neg h2, if_neg (by omega)]
    · rw [Heap.get?_update_self _ hTO'' rfl, col_take hrk]
      dsimp only [Obj.mapSeq]
      rw [if_pos (show ((((col rows 0).take k ++ w0 :: ws).toArray.setIfInBounds k (rows[k].getD 0 .none)).size == ((col rows 0).take k ++ w0 :: ws).toArray.size) = true by rw [Array.size_setIfInBounds]; exact beq_self_eq_true _), List.append_assoc]
      have e3 : ((col rows 0).take k ++ w0 :: ws).toArray.setIfInBounds k (rows[k].getD 0 .none) = ((col rows 0).take k ++ ([rows[k].getD 0 .none] ++ ws)).toArray := by
        rw [List.setIfInBounds_toArray]
        congr 1
        rw [List.set_append_right _ _ (by omega), hlen, Nat.sub_self]
        rfl
      rw [e3]
    · intro z
      have z' : (c : Nat) = b + n + 1 := z
      omega
    · intro z
      have z' : (c : Nat) = b + k := z
      omega
  · rintro ⟨x1, x2⟩ s' ⟨k, h', ws, hk, hr, he, rfl, I', hs', hTO', hws, hkp⟩
    have hkn : k = n := Nat.le_antisymm hk (zi_nil hr)
    subst hkn
    obtain ⟨rfl, _⟩ := Prod.mk.inj he
    cases ws with
    | cons w0 ws => exact absurd hws (by simp)
    | nil =>
    have ht : (col rows 0).take k ++ [] = col rows 0 := by rw [List.append_nil]; exact List.take_of_length_le (by simp [col, hm])
    rw [ht] at hTO'
    have hlc : (col rows 0).length ≤ sizeLine := by simp [col, hm, h64]
    refine wpAny_bind (wpAny_seqItems hTO' rfl ?_)
    show wpAny _ _ (newTuple (col rows 0) >>= _) _ _ _
    have hsz : h'.objs.size = hp.objs.size := hs'.trans hs₁.1
    refine wpAny_bind (wpAny_newTuple ?_ hlc)
    show wpAny _ _ (Builtin.SmallTypes.ownedTupleHandOut (.ref (b + k + 2 : Nat)) (.ref h'.objs.size) >>= _) _ _ _
    refine wpAny_bind ?_
    unfold Builtin.SmallTypes.ownedTupleHandOut
    have hz₅ : IsZip h' (b + k + 2 : Nat) (b + k : Nat) (b + k + 1 : Nat) .ellipsis := hkp _ _ (.inr (.inr (Nat.le_refl _))) hz₁
    have hz₆ : IsZip (h'.push { cls := .type "tuple", data := .seq (col rows 0).toArray }) (b + k + 2 : Nat) (b + k : Nat) (b + k + 1 : Nat) .ellipsis := Heap.get?_push_of_some _ hz₅
    refine wpAny_bind (wpAny_setField_rec hz₆ (by simp) fun h₇ hz₇ hs₇ => ?_)
    replace hz₇ : IsZip h₇ (b + k + 2 : Nat) (b + k : Nat) (b + k + 1 : Nat) (rawInt h'.objs.size) := hz₇
    refine wpAny_setField_rec hz₇ (by simp) fun h₈ hz₈ hs₈ => ?_
    replace hz₈ : IsZip h₈ (b + k + 2 : Nat) (b + k : Nat) (b + k + 1 : Nat) (rawInt h'.objs.size) := hz₈
    have hzlt : (b + k + 2 : Nat) < h'.objs.size := Heap.lt_size hz₅
    have up : ∀ c o, c ≠ (b + k + 2 : Nat) → h'.get? c = some o → h₈.get? c = some o := fun c o c1 e => hs₈.extBut _ _ c1 (hs₇.extBut _ _ c1 (Heap.get?_push_of_some _ e))
    have hT₈ : h₈.get? h'.objs.size = some { cls := .type "tuple", data := .seq (col rows 0).toArray } := hs₈.extBut _ _ (Nat.ne_of_gt hzlt) (hs₇.extBut _ _ (Nat.ne_of_gt hzlt) (Heap.get?_push_size _ rfl))
    have hz8 : h₈.objs.size = h'.objs.size + 1 := by rw [hs₈.1, hs₇.1, Heap.size_push]
    rw [hsz] at hz₈ hT₈ hz8
    refine wpAny_pure ⟨_, rfl, ?_⟩
    show Q (.ref h'.objs.size) _
    rw [hsz]
    refine hQ h₈ hz₈ ?_ hT₈ hz8 fun c o hc e => up c o (fun z => ?_) (hkp c o (by omega) (hs₁.extBut c o (fun z => ?_) e))
    · refine (I'.congr (q := fun _ => 1) fun j hj => if_pos (hn ▸ hj)).ext (fun c o hc e => up c o (fun z => ?_) e) hb
      have z' : (c : Nat) = b + k + 2 := z
      omega
    · have z' : (c : Nat) = b + k + 2 := z
      omega
    · have z' : (c : Nat) = b + k + 2 := z
      omega
  · rfl
  · exact hs₁.extBut _ _ (fun z => by have z' : (b + n + 1 : Nat) = b + n + 2 := z; omega) hTO
  · simpa using hv
end
end ZN
namespace ZN
open PySem PySem.Spec PyProof.Rows
/-- a zip that has been drawn i times -/
structure ZSt (h : Heap) (b n : Nat) (ls : List Addr) (rows : List (List Value)) (i : Nat) : Prop where
  ti : h.get? (b + n : Nat) = some { cls := .type "tuple", data := .seq (itv b n).toArray }
  itr : Itr h b ls rows fun _ => i
  st : (i = 0 ∧ IsZip h (b + n + 2 : Nat) (b + n : Nat) (b + n + 1 : Nat) .none ∧ ∃ vs : List Value, vs.length = n ∧ h.get? (b + n + 1 : Nat) = some { cls := .type "tuple", data := .seq vs.toArray }) ∨
    (0 < i ∧ ∃ (T : Nat) (f : Bool) (oT : Obj), IsZipHeld h (b + n + 2 : Nat) (b + n : Nat) (b + n + 1 : Nat) T f ∧ h.get? T = some oT ∧ b + n + 2 < T)
theorem ZSt.zip {h : Heap} {b n i : Nat} {ls : List Addr} {rows : List (List Value)} (Z : ZSt h b n ls rows i) : ∃ o, h.get? (b + n + 2 : Nat) = some o ∧ o.cls = .type "zip" := by
  rcases Z.st with ⟨_, z, _⟩ | ⟨_, T, f, oT, z, _⟩
  · exact ⟨_, z, rfl⟩
  · exact ⟨_, z, rfl⟩
/-- it stays where all that it is made of stays -/
theorem ZSt.ext {h h' : Heap} {b n i : Nat} {ls : List Addr} {rows : List (List Value)} (Z : ZSt h b n ls rows i) (hn : ls.length = n) (hb : ∀ l ∈ ls, l < b) {S : Nat} (hS : b + n + 2 < S) (hx : ∀ c o, c ≠ S → h.get? c = some o → h'.get? c = some o)
    (hT : ∀ (T : Nat) o, h.get? T = some o → b + n + 2 < T → T = S → ∃ o', h'.get? T = some o') : ZSt h' b n ls rows i := by
  have lo : ∀ c : Nat, c ≤ b + n + 2 → c ≠ S := fun c hc e => by omega
  refine ⟨hx _ _ (lo _ (by omega)) Z.ti, Z.itr.ext (fun c o hc e => hx c o (lo c (by rw [hn] at hc; omega)) e) hb, ?_⟩
  rcases Z.st with ⟨e, z, vs, h1, h2⟩ | ⟨e, T, f, oT, z, h1, h2⟩
  · exact .inl ⟨e, hx _ _ (lo _ (by omega)) z, vs, h1, hx _ _ (lo _ (by omega)) h2⟩
  · by_cases hTS : T = S
    · obtain ⟨o', ho'⟩ := hT T oT h1 h2 hTS
      exact .inr ⟨e, T, f, o', hx _ _ (lo _ (by omega)) z, ho', h2⟩
    · exact .inr ⟨e, T, f, oT, hx _ _ (lo _ (by omega)) z, hx _ _ hTS h1, h2⟩
section
variable {prog : Program} {w : World} {A : Around} {E : Value → Shared → Prop} {s : Shared} {b n m i : Nat} {ls : List Addr} {rows : List (List Value)}
theorem pn_item {Q : Option Value → Shared → Prop} (hn : ls.length = n) (hm : rows.length = n) (hb : ∀ l ∈ ls, l < b) (Z : ZSt s.heap b n ls rows i) (hi : ∀ r ∈ rows, i < r.length) (h64 : n ≤ sizeLine) (h0 : 0 < n)
    (hQ : ∀ h', ZSt h' b n ls rows (i + 1) → h'.get? s.heap.objs.size = some { cls := .type "tuple", data := .seq (col rows i).toArray } → h'.objs.size = s.heap.objs.size + 1 →
      (∀ c o, (c < b ∨ b + n + 2 < c) → s.heap.get? c = some o → h'.get? c = some o) → Q (some (.ref s.heap.objs.size)) { s with heap := h' }) :
    wpAny (model prog w) A (pyNext (.ref (b + n + 2 : Nat))) Q E s := by
  obtain ⟨oz, hoz, hcz⟩ := Z.zip
  have hT : s.TypeIs (.ref (b + n + 2 : Nat)) "zip" := ⟨oz, hoz, hcz⟩
  have hlt : (b + n + 2 : Nat) < s.heap.objs.size := Heap.lt_size hoz
  unfold pyNext
  rcases Z.st with ⟨e, z, vs, h1, h2⟩ | ⟨e, T, f, oT, z, h1, h2⟩
  · subst e
    exact wpAny_bind (wpAny_attempt (wpAny_callSpecial?_slot (name := Str.ofString "__next__") hT F.slot_zip_next
      (wpAny_call_entry F.slot_zip_next hT F.entry_zip_next
        (next_first hn hm hb z Z.ti h1 h2 Z.itr hi h64 h0 fun h' a1 a2 a3 a4 a5 => wpAny_pure (hQ h' ⟨a5 _ _ (.inr (.inl rfl)) Z.ti, a2, .inr ⟨Nat.lt_succ_self _, _, false, _, a1, a3, hlt⟩⟩ a3 a4 fun c o hc e => a5 c o (by omega) e)) (F.args_zip_next_1 _))))
  · exact wpAny_bind (wpAny_attempt (wpAny_callSpecial?_slot (name := Str.ofString "__next__") hT F.slot_zip_next
      (wpAny_call_entry F.slot_zip_next hT F.entry_zip_next
        (next_later hn hm hb z h1 Z.ti Z.itr hi h64 h0 fun h' a1 a2 a3 a4 a5 => wpAny_pure (hQ h' ⟨a5 _ _ (.inr (.inl rfl)) Z.ti, a2, .inr ⟨Nat.succ_pos _, T, true, oT, a1, a5 _ _ (.inr (.inr h2)) h1, h2⟩⟩ a3 a4 fun c o hc e => a5 c o (by omega) e)) (F.args_zip_next_1 _))))
theorem pn_end {Q : Option Value → Shared → Prop} (hh : A.handled = none) (hn : ls.length = n) (hm : rows.length = n) (hb : ∀ l ∈ ls, l < b) (Z : ZSt s.heap b n ls rows i) (hi : ∀ r ∈ rows, r.length ≤ i) (h1 : 0 < i) (h0 : 0 < n)
    (hQ : ∀ h', (∀ c o, (c < b ∨ b + n + 2 < c) → s.heap.get? c = some o → h'.get? c = some o) → Q none { s with heap := h' }) :
    wpAny (model prog w) A (pyNext (.ref (b + n + 2 : Nat))) Q E s := by
  obtain ⟨oz, hoz, hcz⟩ := Z.zip
  have hT : s.TypeIs (.ref (b + n + 2 : Nat)) "zip" := ⟨oz, hoz, hcz⟩
  unfold pyNext
  rcases Z.st with ⟨e, z, vs, h1', h2⟩ | ⟨e, T, f, oT, z, h1', h2⟩
  · omega
  · have hh' : A.in1.handled = none := hh
    refine wpAny_bind (wpAny_attempt (wpAny_callSpecial?_slot (name := Str.ofString "__next__") hT F.slot_zip_next
      (wpAny_call_entry F.slot_zip_next hT F.entry_zip_next (next_end hh' hn hm hb z h1' Z.ti Z.itr hi h0 fun h' e hk he => ?_) (F.args_zip_next_1 _))))
    obtain ⟨o, ho, hc⟩ := he
    refine wpAny_bind (wpAny_isInstance (T := "StopIteration") (b := true) ⟨o, ho, hc⟩ isSubtype_stop ?_)
    exact wpAny_pure (hQ _ hk)
/-- the tuples drawn so far -/
def Cols (h : Heap) (lo S : Nat) (rows : List (List Value)) (i : Nat) (acc : Array Value) : Prop := acc.size = i ∧ ∀ (j : Nat) v, acc[j]? = some v → ∃ a : Nat, v = .ref a ∧ lo < a ∧ a ≠ S ∧ h.get? a = some { cls := .type "tuple", data := .seq (col rows j).toArray }
theorem Cols.ext {h h' : Heap} {lo S : Nat} {rows : List (List Value)} {acc : Array Value} (C : Cols h lo S rows i acc) (hx : ∀ c o, lo < c → c ≠ S → h.get? c = some o → h'.get? c = some o) : Cols h' lo S rows i acc :=
  ⟨C.1, fun j v e => let ⟨a, e1, e2, e3, e4⟩ := C.2 j v e; ⟨a, e1, e2, e3, hx _ _ e2 e3 e4⟩⟩
theorem zip_loop {R : Result → Shared → Prop} (hh : A.handled = none) (hn : ls.length = n) (hm : rows.length = n) (hb : ∀ l ∈ ls, l < b) (hr : ∀ r ∈ rows, r.length = m) (hm0 : 0 < m) (h64 : n ≤ sizeLine) (hm64 : m ≤ sizeLine) (h0 : 0 < n) {S : Nat} (hS : b + n + 2 < S) (res : Value) :
    ∀ (k i : Nat) (s : Shared) (acc : Array Value) (c : Nat), m - i = k → i ≤ m → ZSt s.heap b n ls rows i → s.heap.get? S = some { cls := .type "list", dict := none, data := .seq acc c, slots := #[] } → Cols s.heap (b + n + 2) S rows i acc →
    (∀ h' acc' c', (∀ c o, (c < b ∨ b + n + 2 < c) → c ≠ S → s.heap.get? c = some o → h'.get? c = some o) → h'.get? S = some { cls := .type "list", dict := none, data := .seq acc' c', slots := #[] } → Cols h' (b + n + 2) S rows m acc' → R (.ok (.ret res)) { s with heap := h' }) →
    codeAny (model prog w) A (.builtin "list.extend.loop" ⟨[.ref S, .ref (b + n + 2 : Nat), res], []⟩) R s := by
  intro k
  induction k with
  | zero =>
    intro i s acc c hk hi hZ hSS hC hR
    have him : i = m := by omega
    subst him
    refine codeAny_builtin F.entry_extend_loop ?_
    rw [Around.under_plainId F.plain_extend_loop _]
    show wpAny _ A.in1 (pyNext (.ref (b + n + 2 : Nat)) >>= _) _ _ s
    have hh' : A.in1.handled = none := hh
    refine wpAny_bind (pn_end hh' hn hm hb hZ (fun r q => Nat.le_of_eq (hr r q)) hm0 h0 fun h' hk => ?_)
    exact wpAny_pure (hR h' acc c (fun c o hc _ e => hk c o hc e) (hk _ _ (.inr hS) hSS) (hC.ext fun c o hc _ e => hk c o (.inr hc) e))
  | succ k ih =>
    intro i s acc c hk hi hZ hSS hC hR
    have hlt : i < m := by omega
    refine codeAny_builtin F.entry_extend_loop ?_
    rw [Around.under_plainId F.plain_extend_loop _]
    show wpAny _ A.in1 (pyNext (.ref (b + n + 2 : Nat)) >>= _) _ _ s
    have hlS : S < s.heap.objs.size := Heap.lt_size hSS
    refine wpAny_bind (pn_item hn hm hb hZ (fun r q => by rw [hr r q]; exact hlt) h64 h0 fun h' Z' hT' hsz hk => ?_)
    have hS' := hk _ _ (.inr hS) hSS
    show wpAny _ A.in1 (updateSeq S (·.push (.ref s.heap.objs.size)) >>= _) _ _ _
    refine wpAny_bind ?_
    have kp : ∀ c o, c ≠ S → h'.get? c = some o → (h'.update S (Obj.mapSeq (·.push (.ref s.heap.objs.size)))).get? c = some o := fun c o hc e => (Heap.get?_update_other _ _ (fun z : S = c => hc z.symm)).trans e
    refine wpAny_updateSeq hS' rfl (wpAny_pure ⟨plainId_quiet F.plain_extend_loop _, ih (i + 1) _ (acc.push (.ref s.heap.objs.size)) _ (by omega) hlt (Z'.ext hn hb hS kp fun T o e _ z => by subst z; exact ⟨_, Heap.get?_update_self _ hS' rfl⟩) (Heap.get?_update_self _ hS' rfl) ?_ fun h'' acc' c' hx'' hS'' hC'' => ?_⟩)
      (by rw [hC.1]; omega) (by show (acc.push _).size ≤ sizeLine + 1; rw [Array.size_push, hC.1]; omega)
    · refine ⟨by rw [Array.size_push, hC.1], fun j v e => ?_⟩
      rw [Array.getElem?_push] at e
      split at e
      · rename_i z
        cases e
        rw [hC.1] at z
        subst z
        exact ⟨_, rfl, Nat.lt_trans hS hlS, Nat.ne_of_gt hlS, kp _ _ (Nat.ne_of_gt hlS) hT'⟩
      · obtain ⟨a, e1, e2, e3, e4⟩ := hC.2 j v e
        exact ⟨a, e1, e2, e3, kp _ _ e3 (hk _ _ (.inr e2) e4)⟩
    · exact hR h'' acc' c' (fun c o hc hcS e => hx'' c o hc hcS (kp _ _ hcS (hk c o hc e))) hS'' hC''
/-! ### list(zip), as collect does it -/
theorem nolen_zip : typeLookup (.type "zip") "__len__" = pure none := by rw [typeLookup_type, builtinLookup_eq_fast]; kernel_rfl
theorem nohint_zip : typeLookup (.type "zip") "__length_hint__" = pure none := by rw [typeLookup_type, builtinLookup_eq_fast]; kernel_rfl
theorem zip_pyIter {z : Addr} {o : Obj} {Q : Value → Shared → Prop} (hz : s.heap.get? z = some o) (hc : o.cls = .type "zip") (h : Q (.ref z) s) : wpAny (model prog w) A (pyIter (.ref z)) Q E s := by
  have hT : s.TypeIs (.ref z) "zip" := ⟨_, hz, hc⟩
  refine wpAny_pyIter_slot hT F.slot_zip_iter (wpAny_call_entry F.slot_zip_iter hT F.entry_zip_iter ?_ (F.args_zip_iter_1 _))
  show wpAny _ _ (ret (.ref z)) _ _ s
  exact wpAny_pure ⟨_, rfl, "zip", _, hT, F.slot_zip_next.lookup, h⟩
theorem zip_collect {Q : List Value → Shared → Prop} (hh : A.handled = none) (hn : ls.length = n) (hm : rows.length = n) (hb : ∀ l ∈ ls, l < b) (hr : ∀ r ∈ rows, r.length = m) (hm0 : 0 < m) (h64 : n ≤ sizeLine) (hm64 : m ≤ sizeLine) (h0 : 0 < n) (hZ : ZSt s.heap b n ls rows 0)
    (hQ : ∀ h' acc S, s.heap.objs.size ≤ S → (∀ c o, (c < b ∨ b + n + 2 < c) → s.heap.get? c = some o → h'.get? c = some o) → Cols h' (b + n + 2) S rows m acc → Q acc.toList { s with heap := h' }) : wpAny (model prog w) A (collect (.ref (b + n + 2 : Nat))) Q E s := by
  obtain ⟨oz, hoz, hcz⟩ := hZ.zip
  have hlt : (b + n + 2 : Nat) < s.heap.objs.size := Heap.lt_size hoz
  unfold collect
  refine wpAny_bind (wpAny_runValue (codeAny_builtin F.entry_proto_collect ?_))
  rw [Around.under_plainId F.plain_proto_collect _]
  show wpAny _ A.in1 (newList [] >>= fun l => again (.builtin "list.__iadd__" ⟨[l, .ref (b + n + 2 : Nat)], []⟩)) _ _ s
  refine wpAny_bind (wpAny_newObj_type ?_)
  refine wpAny_pure ⟨plainId_quiet F.plain_list_iadd _, codeAny_builtin F.entry_list_iadd ?_⟩
  rw [Around.under_plainId F.plain_list_iadd _]
  have hS₁ : (s.heap.push { cls := .type "list", data := .seq ([] : List Value).toArray }).get? s.heap.objs.size = some { cls := .type "list", data := .seq ([] : List Value).toArray } := Heap.get?_push_size _ rfl
  have Z₁ : ZSt (s.heap.push { cls := .type "list", data := .seq ([] : List Value).toArray }) b n ls rows 0 := hZ.ext hn hb hlt (fun c o _ e => Heap.get?_push_of_some _ e) fun T o e _ _ => ⟨_, Heap.get?_push_of_some _ e⟩
  obtain ⟨oz1, hoz1, hcz1⟩ := Z₁.zip
  have hT1 : (⟨s.heap.push { cls := .type "list", data := .seq ([] : List Value).toArray }, s.gens, s.drawn, s.toks, s.os⟩ : Shared).TypeIs (.ref (b + n + 2 : Nat)) "zip" := ⟨oz1, hoz1, hcz1⟩
  show wpAny _ A.in1 (Builtin.List.listExtendWith (.ref s.heap.objs.size) (.ref (b + n + 2 : Nat)) (.ref s.heap.objs.size)) _ _ _
  unfold Builtin.List.listExtendWith
  refine wpAny_bind (wpAny_typeOf hT1 ?_)
  have h1 : Builtin.List.listSameRef (.ref s.heap.objs.size) (.ref (b + n + 2 : Nat)) = false := by
    have : s.heap.objs.size ≠ b + n + 2 := Nat.ne_of_gt hlt
    simp [Builtin.List.listSameRef, this]
  have h2 : (Value.type "zip" == Value.type "list") = false := by decide
  have h3 : (Value.type "zip" == Value.type "tuple") = false := by decide
  simp only [h1, h2, h3, Bool.or_false, Bool.false_eq_true, if_false]
  refine wpAny_bind (zip_pyIter hoz1 hcz1 ?_)
  refine wpAny_bind (wpAny_holding ?_)
  unfold Builtin.List.listLengthHint
  refine wpAny_bind (wpAny_specialOf hT1 nolen_zip ?_)
  show wpAny _ A.in1 (specialOf (Value.ref (b + n + 2 : Nat)) (Str.ofString "__length_hint__") >>= _) _ _ _
  refine wpAny_bind (wpAny_specialOf hT1 nohint_zip ?_)
  refine wpAny_pure ?_
  show wpAny _ A.in1 (rule "list.extend.makes-room" >>= fun _ => Builtin.List.listTouch (.ref s.heap.objs.size) >>= fun _ =>
    again (.builtin "list.extend.loop" ⟨[.ref s.heap.objs.size, .ref (b + n + 2 : Nat), .ref s.heap.objs.size], []⟩)) _ _ _
  refine wpAny_bind (wpAny_rule ?_)
  refine wpAny_bind ?_
  show wpAny _ A.in1 (updateSeq s.heap.objs.size (·.push .none) >>= fun _ => updateSeq s.heap.objs.size (·.pop)) _ _ _
  refine wpAny_bind (wpAny_updateSeq hS₁ rfl ?_)
  have hS₂ := Heap.get?_update_self (Obj.mapSeq (·.push Value.none)) hS₁ rfl
  refine wpAny_updateSeq hS₂ rfl ?_
  have hS₃ := Heap.get?_update_self (Obj.mapSeq (·.pop)) hS₂ rfl
  have oth : ∀ c o, c ≠ s.heap.objs.size → (s.heap.push { cls := .type "list", data := .seq ([] : List Value).toArray }).get? c = some o →
      (((s.heap.push { cls := .type "list", data := .seq ([] : List Value).toArray }).update s.heap.objs.size (Obj.mapSeq (·.push Value.none))).update s.heap.objs.size (Obj.mapSeq (·.pop))).get? c = some o :=
    fun c o hc e => (Heap.get?_update_other _ _ (Ne.symm hc)).trans ((Heap.get?_update_other _ _ (Ne.symm hc)).trans e)
  have hh' : A.in1.handled = none := hh
  have Z₃ := Z₁.ext hn hb hlt oth fun T o e _ z => by subst z; exact ⟨_, hS₃⟩
  refine wpAny_pure ⟨plainId_quiet F.plain_extend_loop _, zip_loop hh hn hm hb hr hm0 h64 hm64 h0 hlt _ m 0 _ _ _ rfl (Nat.zero_le _) Z₃ hS₃ ⟨rfl, fun j v e => by have e' : (#[] : Array Value)[j]? = some v := e; simp at e'⟩ fun h' acc' c' hx hS' hC => ?_⟩
  show wpAny _ A (load s.heap.objs.size >>= _) _ _ _
  refine wpAny_bind (wpAny_load hS' ?_)
  refine wpAny_pure (hQ h' acc' _ (Nat.le_refl _) (fun c o hc e => ?_) hC)
  have hcS : c ≠ s.heap.objs.size := Nat.ne_of_lt (Heap.lt_size e)
  exact hx c o hc hcS (oth c o hcS (Heap.get?_push_of_some _ e))
/-! ### tuple(zip) -/
theorem new_tuple_zip (hn : ls.length = n) (hm : rows.length = n) (hb : ∀ l ∈ ls, l < b) (hr : ∀ r ∈ rows, r.length = m) (hm0 : 0 < m) (h64 : n ≤ sizeLine) (hm64 : m ≤ sizeLine) (h0 : 0 < n) :
    MeetsIn prog w (Builtin.«tuple.__new__» ⟨[.type "tuple", .ref (b + n + 2 : Nat)], []⟩)
      (fun A R s => A.handled = none ∧ ZSt s.heap b n ls rows 0 ∧ ∀ h' acc S, s.heap.objs.size ≤ S → (∀ c o, (c < b ∨ b + n + 2 < c) → s.heap.get? c = some o → h'.get? c = some o) → Cols h' (b + n + 2) S rows m acc → R (.ok (.ret (.ref h'.objs.size))) { s with heap := h'.push { cls := .type "tuple", data := .seq acc } }) :=
  .of_wp fun A R s h => by
    obtain ⟨hh, hZ, h⟩ := h
    obtain ⟨hp, g, d, tk, os⟩ := s
    obtain ⟨o, ho, hc⟩ := hZ.zip
    have hsub := sub_tuple_self
    have hinit := init_tuple_lookup
    have hmh := madeHere_tuple
    have hT : Shared.TypeIs ⟨hp, g, d, tk, os⟩ (.ref (b + n + 2 : Nat)) "zip" := ⟨o, ho, hc⟩
    have hh' : A.in1.handled = none := hh
    wp_walk using AutoSeq1.wpAny_loadPart' ho, wpAny_typeOf hT, zip_collect hh' hn hm hb hr hm0 h64 hm64 h0 hZ
    intro h' acc S hS hk hC
    show wpAny _ _ (Builtin.Tuple.tupleExact acc.toList.toArray >>= fun v => ret v) _ _ _
    unfold Builtin.Tuple.tupleExact
    have e : acc.toList.toArray = acc := by simp
    rw [e]
    refine wpAny_bind (wpAny_newObj_type ?_ (by show acc.size ≤ sizeLine; rw [hC.1]; exact hm64))
    exact wpAny_pure ⟨_, rfl, h h' acc S hS hk hC⟩
theorem call_tuple_zip {Q : Value → Shared → Prop} (hh : A.handled = none) (hn : ls.length = n) (hm : rows.length = n) (hb : ∀ l ∈ ls, l < b) (hr : ∀ r ∈ rows, r.length = m) (hm0 : 0 < m) (h64 : n ≤ sizeLine) (hm64 : m ≤ sizeLine) (h0 : 0 < n) (hZ : ZSt s.heap b n ls rows 0)
    (hQ : ∀ h' acc S, s.heap.objs.size ≤ S → (∀ c o, (c < b ∨ b + n + 2 < c) → s.heap.get? c = some o → h'.get? c = some o) → Cols h' (b + n + 2) S rows m acc → Q (.ref h'.objs.size) { s with heap := h'.push { cls := .type "tuple", data := .seq acc } }) :
    wpAny (model prog w) A (call (.type "tuple") [.ref (b + n + 2 : Nat)]) Q E s :=
  callType_newIn F.called_tuple (by decide) (F.typeCall_tuple_1 _) (F.newCall_tuple_1 _) (fun obj => F.args_object_init_2 obj _) F.entry_tuple_new
    (new_tuple_zip hn hm hb hr hm0 h64 hm64 h0) ⟨hh, hZ, fun h' acc S hS hk hC => ⟨⟨_, Heap.get?_push_size _ rfl, rfl⟩, hQ h' acc S hS hk hC⟩⟩
/-! ### zip(*ts) -/
/-- the heap with the first k iterators -/
def itH (h : Heap) : List Addr → Heap
  | [] => h
  | l :: ls => itH (h.push { cls := .type "tuple_iterator", data := .fields #[.ref l, .int 0 0] }) ls
theorem itH_size : ∀ (h : Heap) (ls : List Addr), (itH h ls).objs.size = h.objs.size + ls.length
  | h, [] => rfl
  | h, l :: ls => by
    show (itH (h.push _) ls).objs.size = _
    rw [itH_size, Heap.size_push, List.length_cons]
    omega
theorem itH_keep : ∀ (ls : List Addr) (h : Heap) {c : Addr} {o : Obj}, h.get? c = some o → (itH h ls).get? c = some o
  | [], h, _, _, e => e
  | l :: ls, h, _, _, e => itH_keep ls _ (Heap.get?_push_of_some _ e)
theorem itH_at : ∀ (ls : List Addr) (h : Heap) (j : Nat) (l : Addr), ls[j]? = some l → (itH h ls).IsTupleIter (h.objs.size + j) l 0
  | [], h, j, l, e => by simp at e
  | l' :: ls, h, 0, l, e => by
    cases e
    exact ⟨_, itH_keep ls _ (Heap.get?_push_size _ rfl), rfl, rfl⟩
  | l' :: ls, h, j + 1, l, e => by
    have := itH_at ls (h.push { cls := .type "tuple_iterator", data := .fields #[.ref l', .int 0 0] }) j l (by simpa using e)
    rw [Heap.size_push] at this
    have e2 : h.objs.size + (j + 1) = h.objs.size + 1 + j := by omega
    rw [e2]
    exact this
theorem itH_app : ∀ (xs ys : List Addr) (h : Heap), itH h (xs ++ ys) = itH (itH h xs) ys
  | [], _, _ => rfl
  | x :: xs, ys, h => itH_app xs ys _
theorem iterAll_tups {Q : List Value → Shared → Prop} (hn : ls.length = n) (hT : ∀ l, l ∈ ls → ∃ its : Array Value, s.heap.IsTuple l its) (hQ : Q (itv s.heap.objs.size n) { s with heap := itH s.heap ls }) :
    wpAny (model prog w) A (Builtin.SmallTypes.iterAll (ls.map Value.ref)) Q E s := by
  obtain ⟨hp, g, d, tk, os⟩ := s
  unfold Builtin.SmallTypes.iterAll
  refine wpAny_bind (wpAny_forIn_list _ (fun rest x s' => ∃ k, k ≤ n ∧ rest = (ls.drop k).map Value.ref ∧ x = (itv hp.objs.size k).toArray ∧ s' = ⟨itH hp (ls.take k), g, d, tk, os⟩) _ ?_ ?_ _ _ ⟨0, Nat.zero_le _, rfl, rfl, rfl⟩)
  · rintro x rest acc s' ⟨k, hk, hr, rfl, rfl⟩
    have hkl : k < ls.length := by
      rcases Nat.lt_or_ge k ls.length with z | z
      · exact z
      · rw [List.drop_of_length_le z] at hr
        cases hr
    rw [List.drop_eq_getElem_cons hkl] at hr
    injection hr with h1 h2
    subst h1 h2
    obtain ⟨its, o, ho, hc, n', hd⟩ := hT ls[k] (List.getElem_mem _)
    refine wpAny_bind (wpAny_holding (wpAny_pyIter_tuple (items := its) ⟨o, itH_keep _ _ ho, hc, n', hd⟩ (wpAny_pure ⟨k + 1, by omega, rfl, ?_, ?_⟩)))
    · simp [itv, List.range_succ, itH_size, Nat.min_eq_left (Nat.le_of_lt hkl)]
    · have e : ls.take (k + 1) = ls.take k ++ [ls[k]] := by rw [List.take_add_one, List.getElem?_eq_getElem hkl]; rfl
      rw [e, itH_app]
      rfl
  · rintro acc s' ⟨k, hk, hr, rfl, rfl⟩
    have hkl : ls.length ≤ k := by
      have := congrArg List.length hr
      simp at this
      omega
    have e : k = n := by omega
    subst e
    refine wpAny_pure ?_
    rw [List.take_of_length_le hkl]
    simpa using hQ
abbrev zipO (h : Heap) (b n : Nat) : Heap := ((h.push { cls := .type "tuple", data := .seq (itv b n).toArray }).push { cls := .type "tuple", data := .seq ((itv b n).map fun _ => Value.none).toArray }).push { cls := .type "zip", data := .fields #[.none, .bool false, .bool false, .ref (b + n : Nat), .ref (b + n + 1 : Nat)] }
theorem new_zip (hn : ls.length = n) (h64 : n ≤ sizeLine) :
    MeetsIn prog w (Builtin.«zip.__new__» ⟨.type "zip" :: ls.map Value.ref, []⟩)
      (fun A R s => (∀ l, l ∈ ls → ∃ its : Array Value, s.heap.IsTuple l its) ∧ R (.ok (.ret (.ref (s.heap.objs.size + n + 2 : Nat)))) { s with heap := zipO (itH s.heap ls) s.heap.objs.size n }) :=
  .of_wp fun A R s h => by
    obtain ⟨hT, h⟩ := h
    obtain ⟨hp, g, d, tk, os⟩ := s
    unfold Builtin.«zip.__new__»
    have hnc : Builtin.SmallTypes.newClass "zip" ⟨.type "zip" :: ls.map Value.ref, []⟩ = pure (.type "zip", ls.map Value.ref) := by
      unfold Builtin.SmallTypes.newClass
      simp only [isType, sub_zip, pure_bind, Bool.not_true, Bool.false_eq_true, if_false]
    refine wpAny_bind (wpAny_of_eq hnc ?_)
    show wpAny _ _ (Builtin.SmallTypes.iterAll (ls.map Value.ref) >>= _) _ _ _
    refine wpAny_bind (iterAll_tups hn hT ?_)
    have z0 : (itH hp ls).objs.size = hp.objs.size + n := by rw [itH_size, hn]
    refine wpAny_bind (wpAny_newTuple ?_ (by simp [itv, h64]))
    refine wpAny_bind (wpAny_newTuple ?_ (by simp [itv, h64]))
    show wpAny _ _ (newObj (.type "zip") (.fields #[.none, .bool false, .bool false, .ref (itH hp ls).objs.size, .ref ((itH hp ls).push _).objs.size]) >>= _) _ _ _
    refine wpAny_bind (wpAny_newObj_type (wpAny_pure ⟨_, rfl, ?_⟩))
    have z1 : ((itH hp ls).push { cls := .type "tuple", data := .seq (itv hp.objs.size n).toArray }).objs.size = hp.objs.size + n + 1 := by rw [Heap.size_push, z0]
    have z2 : (((itH hp ls).push { cls := .type "tuple", data := .seq (itv hp.objs.size n).toArray }).push { cls := .type "tuple", data := .seq ((itv hp.objs.size n).map fun _ => Value.none).toArray }).objs.size = hp.objs.size + n + 2 := by rw [Heap.size_push, z1]
    show R (.ok (.ret (.ref (((itH hp ls).push _).push _).objs.size))) ⟨(((itH hp ls).push _).push _).push { cls := .type "zip", data := .fields #[.none, .bool false, .bool false, .ref (itH hp ls).objs.size, .ref ((itH hp ls).push _).objs.size] }, g, d, tk, os⟩
    rw [z2, z1, z0]
    exact h
/-- as many arguments as a table has rows -/
structure ZipN (us : List Value) : Prop where
  tc : checkTypeCall "zip" ⟨us, []⟩ = pure ()
  nc : checkBuiltinCall "zip.__new__" ⟨.type "zip" :: us, []⟩ = pure ()
  ao : ∀ obj, argsOk "object.__init__" ⟨obj :: us, []⟩
theorem zipN : ∀ us : List Value, us.length ≤ 12 → 0 < us.length → ZipN us
  | [], _, h => absurd h (Nat.lt_irrefl _)
  | [a], _, _ => ⟨by kernel_rfl, by kernel_rfl, fun obj => F.args_object_init_2 obj _⟩
  | [a, b], _, _ => ⟨by kernel_rfl, by kernel_rfl, fun obj => F.args_object_init_3 obj _ _⟩
  | [a, b, c], _, _ => ⟨by kernel_rfl, by kernel_rfl, fun obj => by unfold argsOk; rw [signature?_of (id := "object.__init__") (n := ['_', '_', 't', 'i', 'n', 'i', '_', '_']) (o := ['t', 'c', 'e', 'j', 'b', 'o']) (by kernel_rfl) F.owner_object]; kernel_rfl⟩
  | [a, b, c, d], _, _ => ⟨by kernel_rfl, by kernel_rfl, fun obj => by unfold argsOk; rw [signature?_of (id := "object.__init__") (n := ['_', '_', 't', 'i', 'n', 'i', '_', '_']) (o := ['t', 'c', 'e', 'j', 'b', 'o']) (by kernel_rfl) F.owner_object]; kernel_rfl⟩
  | [a, b, c, d, e], _, _ => ⟨by kernel_rfl, by kernel_rfl, fun obj => by unfold argsOk; rw [signature?_of (id := "object.__init__") (n := ['_', '_', 't', 'i', 'n', 'i', '_', '_']) (o := ['t', 'c', 'e', 'j', 'b', 'o']) (by kernel_rfl) F.owner_object]; kernel_rfl⟩
  | [a, b, c, d, e, f], _, _ => ⟨by kernel_rfl, by kernel_rfl, fun obj => by unfold argsOk; rw [signature?_of (id := "object.__init__") (n := ['_', '_', 't', 'i', 'n', 'i', '_', '_']) (o := ['t', 'c', 'e', 'j', 'b', 'o']) (by kernel_rfl) F.owner_object]; kernel_rfl⟩
  | [a, b, c, d, e, f, g], _, _ => ⟨by kernel_rfl, by kernel_rfl, fun obj => by unfold argsOk; rw [signature?_of (id := "object.__init__") (n := ['_', '_', 't', 'i', 'n', 'i', '_', '_']) (o := ['t', 'c', 'e', 'j', 'b', 'o']) (by kernel_rfl) F.owner_object]; kernel_rfl⟩
  | [a, b, c, d, e, f, g, h], _, _ => ⟨by kernel_rfl, by kernel_rfl, fun obj => by unfold argsOk; rw [signature?_of (id := "object.__init__") (n := ['_', '_', 't', 'i', 'n', 'i', '_', '_']) (o := ['t', 'c', 'e', 'j', 'b', 'o']) (by kernel_rfl) F.owner_object]; kernel_rfl⟩
  | [a, b, c, d, e, f, g, h, i], _, _ => ⟨by kernel_rfl, by kernel_rfl, fun obj => by unfold argsOk; rw [signature?_of (id := "object.__init__") (n := ['_', '_', 't', 'i', 'n', 'i', '_', '_']) (o := ['t', 'c', 'e', 'j', 'b', 'o']) (by kernel_rfl) F.owner_object]; kernel_rfl⟩
  | [a, b, c, d, e, f, g, h, i, j], _, _ => ⟨by kernel_rfl, by kernel_rfl, fun obj => by unfold argsOk; rw [signature?_of (id := "object.__init__") (n := ['_', '_', 't', 'i', 'n', 'i', '_', '_']) (o := ['t', 'c', 'e', 'j', 'b', 'o']) (by kernel_rfl) F.owner_object]; kernel_rfl⟩
  | [a, b, c, d, e, f, g, h, i, j, k], _, _ => ⟨by kernel_rfl, by kernel_rfl, fun obj => by unfold argsOk; rw [signature?_of (id := "object.__init__") (n := ['_', '_', 't', 'i', 'n', 'i', '_', '_']) (o := ['t', 'c', 'e', 'j', 'b', 'o']) (by kernel_rfl) F.owner_object]; kernel_rfl⟩
  | [a, b, c, d, e, f, g, h, i, j, k, l], _, _ => ⟨by kernel_rfl, by kernel_rfl, fun obj => by unfold argsOk; rw [signature?_of (id := "object.__init__") (n := ['_', '_', 't', 'i', 'n', 'i', '_', '_']) (o := ['t', 'c', 'e', 'j', 'b', 'o']) (by kernel_rfl) F.owner_object]; kernel_rfl⟩
  | _ :: _ :: _ :: _ :: _ :: _ :: _ :: _ :: _ :: _ :: _ :: _ :: _ :: _, h, _ => absurd h (by simp only [List.length_cons]; omega)
theorem call_zipN {Q : Value → Shared → Prop} (hn : ls.length = n) (hm : rows.length = n) (h12 : n ≤ 12) (h0 : 0 < n) (hT : ∀ (j : Nat) l r, ls[j]? = some l → rows[j]? = some r → s.heap.IsTuple l r.toArray)
    (hQ : ∀ h', (∀ l ∈ ls, l < s.heap.objs.size) → ZSt h' s.heap.objs.size n ls rows 0 → (∀ c o, s.heap.get? c = some o → h'.get? c = some o) → Q (.ref (s.heap.objs.size + n + 2 : Nat)) { s with heap := h' }) :
    wpAny (model prog w) A (call (.type "zip") (ls.map Value.ref)) Q E s := by
  have N := zipN (ls.map Value.ref) (by simpa [hn] using h12) (by simpa [hn] using h0)
  have h64 : n ≤ sizeLine := Nat.le_trans h12 (by decide)
  have hT2 : ∀ l, l ∈ ls → ∃ its : Array Value, s.heap.IsTuple l its := fun l hl => by
    obtain ⟨j, hj⟩ := List.getElem?_of_mem hl
    have hj' := (List.getElem?_eq_some_iff.mp hj).1
    exact ⟨_, hT j l _ hj (List.getElem?_eq_getElem (by omega))⟩
  have hlt : ∀ l ∈ ls, l < s.heap.objs.size := fun l hl => by
    obtain ⟨its, o, ho, _⟩ := hT2 l hl
    exact Heap.lt_size ho
  refine callType_newIn F.called_zip (by decide) N.tc N.nc N.ao F.entry_zip_new (new_zip hn h64) ?_
  have z0 : (itH s.heap ls).objs.size = s.heap.objs.size + n := by rw [itH_size, hn]
  have z1 : ((itH s.heap ls).push { cls := .type "tuple", data := .seq (itv s.heap.objs.size n).toArray }).objs.size = s.heap.objs.size + n + 1 := by rw [Heap.size_push, z0]
  have z2 : (((itH s.heap ls).push { cls := .type "tuple", data := .seq (itv s.heap.objs.size n).toArray }).push { cls := .type "tuple", data := .seq ((itv s.heap.objs.size n).map fun _ => Value.none).toArray }).objs.size = s.heap.objs.size + n + 2 := by rw [Heap.size_push, z1]
  have g0 : (zipO (itH s.heap ls) s.heap.objs.size n).get? (s.heap.objs.size + n + 2 : Nat) = some { cls := .type "zip", data := .fields #[.none, .bool false, .bool false, .ref (s.heap.objs.size + n : Nat), .ref (s.heap.objs.size + n + 1 : Nat)] } := by
    rw [← z2]
    exact Heap.get?_push_size _ rfl
  have g1 : (zipO (itH s.heap ls) s.heap.objs.size n).get? (s.heap.objs.size + n + 1 : Nat) = some { cls := .type "tuple", data := .seq ((itv s.heap.objs.size n).map fun _ => Value.none).toArray } := by
    refine Heap.get?_push_of_some _ ?_
    rw [← z1]
    exact Heap.get?_push_size _ rfl
  have g2 : (zipO (itH s.heap ls) s.heap.objs.size n).get? (s.heap.objs.size + n : Nat) = some { cls := .type "tuple", data := .seq (itv s.heap.objs.size n).toArray } := by
    refine Heap.get?_push_of_some _ (Heap.get?_push_of_some _ ?_)
    rw [← z0]
    exact Heap.get?_push_size _ rfl
  have up : ∀ c o, (itH s.heap ls).get? c = some o → (zipO (itH s.heap ls) s.heap.objs.size n).get? c = some o := fun c o e => Heap.get?_push_of_some _ (Heap.get?_push_of_some _ (Heap.get?_push_of_some _ e))
  refine ⟨hT2, ⟨_, g0, rfl⟩, hQ _ hlt ⟨g2, ⟨fun j l e => ?_, fun j l r e1 e2 => ?_⟩, .inl ⟨rfl, g0, _, ?_, g1⟩⟩ fun c o e => up _ _ (itH_keep _ _ e)⟩
  · obtain ⟨o, ho, z⟩ := itH_at ls s.heap j l e
    exact ⟨o, up _ _ ho, z⟩
  · obtain ⟨o, ho, z⟩ := hT j l r e1 e2
    exact ⟨o, up _ _ (itH_keep _ _ ho), z⟩
  · simp [itv]
end
end ZN
namespace ZN
open PySem PySem.Spec PyProof.Rows L2
def colV (rows : List (List V)) (i : Nat) : List V := rows.map fun r => r.getD i .non
/-- what was new, all of it, is tracked from now on -/
def putAll (H : Hp) (q : Addr) (cs : List Addr) (f : Nat → List V) : Hp := fun a => match H a with
  | some o => some o
  | none => if a = q then some (.tup (cs.map V.ref)) else match cs.findIdx? (fun c => decide (c = a)) with
    | some j => some (.tup (f j))
    | none => none
theorem putAll_old {H : Hp} {q : Addr} {cs : List Addr} {f : Nat → List V} {a : Addr} {o : HO} (h : H a = some o) : putAll H q cs f a = some o := by
  simp only [putAll, h]
theorem putAll_q {H : Hp} {q : Addr} {cs : List Addr} {f : Nat → List V} (h : H q = none) : putAll H q cs f q = some (.tup (cs.map V.ref)) := by
  simp only [putAll, h, if_true]
theorem putAll_new {H : Hp} {q : Addr} {cs : List Addr} {f : Nat → List V} {a : Addr} {o : HO} (h : H a = none) (e : putAll H q cs f a = some o) : (a = q ∧ o = .tup (cs.map V.ref)) ∨ ∃ j, cs[j]? = some a ∧ o = .tup (f j) := by
  simp only [putAll, h] at e
  split at e
  · exact .inl ⟨by assumption, (Option.some.inj e).symm⟩
  · split at e
    · rename_i j hj
      obtain ⟨hlt, h1, _⟩ := List.findIdx?_eq_some_iff_getElem.mp hj
      exact .inr ⟨j, by rw [List.getElem?_eq_getElem hlt, of_decide_eq_true h1], (Option.some.inj e).symm⟩
    · cases e
theorem putAll_at {H : Hp} {q : Addr} {cs : List Addr} {f : Nat → List V} {a : Addr} {j : Nat} (h : H a = none) (hq : a ≠ q) (hj : cs[j]? = some a) (hf : ∀ i, cs[i]? = some a → f i = f j) : putAll H q cs f a = some (.tup (f j)) := by
  simp only [putAll, h, if_neg hq]
  cases hc : cs.findIdx? (fun c => decide (c = a)) with
  | none =>
    rw [List.findIdx?_eq_none_iff] at hc
    have := hc a (List.mem_of_getElem? hj)
    simp at this
  | some i =>
    obtain ⟨hlt, h1, _⟩ := List.findIdx?_eq_some_iff_getElem.mp hc
    simp only
    rw [hf i (by rw [List.getElem?_eq_getElem hlt, of_decide_eq_true h1])]
section
variable {X : Cx} {pins : List (Addr × Obj)} {σ : L2.St} {H H' : Hp} {s : Shared} {h' : Heap}
theorem inv_all {t' : Nat} (I : Inv X pins σ H s) (k : ∀ b u, s.heap.get? b = some u → h'.get? b = some u) (old : ∀ a o, H a = some o → H' a = some o)
    (new : ∀ a o, H a = none → H' a = some o → s.heap.objs.size ≤ a ∧ ObjOk X.prog X.w H' h' a o) : Inv X pins σ H' { s with heap := h', toks := t' } := by
  refine I.un ⟨fun b u q _ _ _ => k b u q, fun b u q _ _ _ => ⟨u.slots, k b u q⟩, fun b u q n _ => ?_, fun b u q _ => ⟨u, k b u q⟩, fun b xs q => old _ _ q, fun b u xs q => old _ _ q, fun b ps q => ⟨#[], by rw [old _ _ q]; simp⟩⟩ fun b u e => ?_
  · cases e : H' b with
    | none => rfl
    | some o => exact absurd (Nat.lt_of_lt_of_le (Heap.lt_size q) (new b o n e).1) (Nat.lt_irrefl _)
  · cases n : H b with
    | none => exact (new b u n e).2
    | some o =>
      have e2 := old b o n
      rw [e] at e2
      cases e2
      exact (I.hok b u n).stay (fun c v _ q => k c v q) (fun c q => old _ _ q) fun c xs q => old _ _ q
end
theorem vals_getD : ∀ {xs : List V} {us : List Value} (i : Nat), Vals xs us → L2.RelV (xs.getD i .non) (us.getD i .none)
  | _, _, _, .nil => rfl
  | _, _, 0, .cons r _ => by simpa using r
  | _, _, i + 1, .cons _ t => by simpa using vals_getD i t
/-- the values of the rows -/
theorem vals_col {rows : List (List V)} {us : List (List Value)} (hl : rows.length = us.length) (h : ∀ (j : Nat) r u, rows[j]? = some r → us[j]? = some u → Vals r u) (i : Nat) : Vals (colV rows i) (col us i) := by
  induction rows generalizing us with
  | nil =>
    cases us with
    | nil => exact .nil
    | cons u us => cases hl
  | cons r rows ih =>
    cases us with
    | nil => cases hl
    | cons u us => exact .cons (vals_getD i (h 0 r u rfl rfl)) (ih (by simpa using hl) fun j a b e1 e2 => h (j + 1) a b e1 e2)
theorem callWith_typeS {M : Model} {A : Around} {E : Value → Shared → Prop} {s : Shared} {pos : Pos} {T : String} {env : Env} {e : Expr} {p : Pos} {Q : Value → Shared → Prop} (h : wpAny M A (eval e env) (fun v s₁ => PySem.W.StarOf M A E v (fun vs s₂ => wpAny M A (call (.type T) vs) Q E s₂) s₁) E s)
    (he : starEach [.Starred e p] env = [(true, eval e env)] := by rfl) : wpAny M A (callWith pos (.type T) [] (backTo pos (starEach [.Starred e p] env)) []) Q E s := by
  rw [he]
  have h2 := PySem.W.ks_lone (f := .type T) (pos := pos) (Q := fun a s₂ => wpAny M A (call (.type T) ([] ++ a.pos) a.kw) Q E s₂) h
  show wpAny _ _ (callWith pos (.type T) [] [(true, (do let v ← eval e env; standAt pos; pure v))] []) _ _ _
  unfold callWith
  refine wpAny_bind (wpAny_holding (wpAny_mono h2 (fun a s₁ h₁ => wpAny_bind (wpAny_standAt ?_)) fun _ _ x => x))
  refine wpAny_bind (wpAny_pure ?_)
  exact wpAny_bind (wpAny_mono (wpAny_operateT h₁) (fun r s₂ hr => wpAny_bind (wpAny_holding (wpAny_point (wpAny_pure hr)))) fun _ _ x => x)
theorem refs_vals : ∀ (as : List Addr) (us : List Value), Vals (as.map V.ref) us → us = as.map Value.ref
  | [], _, .nil => rfl
  | a :: as, _, .cons r t => by
    rw [refs_vals as _ t]
    cases r
    rfl
theorem vals_refs : ∀ (as : List Addr), Vals (as.map V.ref) (as.map Value.ref)
  | [] => .nil
  | a :: as => .cons rfl (vals_refs as)
/-- tuple(zip(*e)), e a tuple of tuples of one length -/
def tTurn (K : PySem.W.Frag) (te : TE) : TE := fun σ H Q => te σ H fun y H1 => ∃ (p : Addr) (as : List Addr) (rows : List (List V)) (m : Nat), y = .ref p ∧ SqT K H1 p (as.map V.ref) ∧ as.length = rows.length ∧ 0 < rows.length ∧ rows.length ≤ 12 ∧ 0 < m ∧ m ≤ sizeLine ∧
  (∀ (j : Nat) a r, as[j]? = some a → rows[j]? = some r → SqT K H1 a r ∧ r.length = m) ∧
  ∀ (q : Addr) (cs : List Addr) (H2 : Hp), Same H1 H2 → cs.length = m → (∀ (i : Nat) c, cs[i]? = some c → H2 c = some (.tup (colV rows i))) → H2 q = some (.tup (cs.map V.ref)) → Q (.ref q) H2
section
variable {X : Cx} {te : TE} {e : Expr} {p1 p2 p3 pos2 pos : Pos}
theorem pe_turn (hh : X.A.handled = none) (he : PE X e te) (hgt : Gl X "tuple") (hmt : X.mg "tuple" = none) (hgz : Gl X "zip") (hmz : X.mg "zip" = none) (hvt : bootBuiltins "tuple" = some (.type "tuple") := by decide +kernel) (hvz : bootBuiltins "zip" = some (.type "zip") := by decide +kernel)
    (hs1 : starEach [.Call (.Name "zip" p1) [.Starred e p2] [] pos2] X.env = [(false, eval (.Call (.Name "zip" p1) [.Starred e p2] [] pos2) X.env)] := by rfl) (hs2 : starEach [.Starred e p2] X.env = [(true, eval e X.env)] := by rfl) :
    PE X (.Call (.Name "tuple" p3) [.Call (.Name "zip" p1) [.Starred e p2] [] pos2] [] pos) (tTurn X.K te) := by
  refine ⟨fun pins s σ H Q I h => ?_⟩
  refine wpAny_Call_Name_kw (ld_blt I hgt hmt hvt ?_ (by decide) (by decide))
  refine PyProof.Rows.callWith_type1 ?_ hs1 rfl
  rw [hs1]
  refine Calls.spliced_cons ?_
  refine wpAny_Call_Name_kw (ld_blt I hgz hmz hvz ?_ (by decide) (by decide))
  refine callWith_typeS (thn (he.run pins s σ H _ I h) fun v s1 ⟨y, H1, I1, r1, p, as, rows, m, ey, hp, hl, h0, h12, hm0, hm64, hrow, q⟩ => ?_) hs2
  subst ey
  obtain rfl : v = Value.ref p := r1
  refine StX.star_any I1 (.inl hp) fun us s2 I2 rv => ?_
  obtain rfl := refs_vals _ _ rv
  -- the rows as they stand
  have hex : ∃ us : List (List Value), rows.length = us.length ∧ ∀ (j : Nat) a r u, as[j]? = some a → rows[j]? = some r → us[j]? = some u → Vals r u ∧ s2.heap.IsTuple a u.toArray ∧ u.length = m := by
    have : ∀ (as : List Addr) (rows : List (List V)), as.length = rows.length → (∀ (j : Nat) a r, as[j]? = some a → rows[j]? = some r → SqT X.K H1 a r ∧ r.length = m) → ∃ us : List (List Value), rows.length = us.length ∧ ∀ (j : Nat) a r u, as[j]? = some a → rows[j]? = some r → us[j]? = some u → Vals r u ∧ s2.heap.IsTuple a u.toArray ∧ u.length = m := by
      intro as
      induction as with
      | nil =>
        intro rows hl _
        cases rows with
        | nil => exact ⟨[], rfl, fun j a r u e1 _ _ => by simp at e1⟩
        | cons _ _ => cases hl
      | cons a as ih =>
        intro rows hl hrow
        cases rows with
        | nil => cases hl
        | cons r rows =>
          obtain ⟨us, e1, e2⟩ := ih rows (by simpa using hl) fun j a r g1 g2 => hrow (j + 1) a r g1 g2
          obtain ⟨hq, hm⟩ := hrow 0 a r rfl rfl
          obtain ⟨its, r1, ⟨o, ho, hc, n, hd⟩, _⟩ := I2.tuple hq
          refine ⟨its :: us, by simp [e1], fun j b x u g1 g2 g3 => ?_⟩
          cases j with
          | zero =>
            cases g1
            cases g2
            cases g3
            exact ⟨r1, ⟨o, ho, hc, n, hd⟩, r1.length.symm.trans hm⟩
          | succ j => exact e2 j b x u g1 g2 g3
    exact this as rows hl hrow
  obtain ⟨us, hul, hus⟩ := hex
  have hasl : as.length = us.length := hl.trans hul
  have atj : ∀ (j : Nat) a u, as[j]? = some a → us[j]? = some u → ∃ r, rows[j]? = some r := fun j a u e1 _ => ⟨_, List.getElem?_eq_getElem (by rw [← hl]; exact (List.getElem?_eq_some_iff.mp e1).1)⟩
  have hT : ∀ (j : Nat) l r, as[j]? = some l → us[j]? = some r → s2.heap.IsTuple l r.toArray := fun j l u e1 e2 => by
    obtain ⟨r, e3⟩ := atj j l u e1 e2
    exact (hus j l r u e1 e3 e2).2.1
  have hrl : ∀ u ∈ us, u.length = m := fun u hu => by
    obtain ⟨j, hj⟩ := List.getElem?_of_mem hu
    have hj2 := (List.getElem?_eq_some_iff.mp hj).1
    have e1 : as[j]? = some as[j] := List.getElem?_eq_getElem (by omega)
    obtain ⟨r, e3⟩ := atj j _ u e1 hj
    exact (hus j _ r u e1 e3 hj).2.2
  refine call_zipN (ls := as) (rows := us) (n := us.length) hasl rfl (by omega) (by omega) hT fun h2 hlt Z hk => ?_
  refine Calls.spliced_nil ?_
  have h64 : us.length ≤ sizeLine := Nat.le_trans (show us.length ≤ 12 by omega) (by decide)
  refine call_tuple_zip (s := { s2 with heap := h2 }) hh hasl rfl hlt hrl hm0 h64 hm64 (by omega) Z fun h3 acc S hS hk3 hC => ?_
  -- all of it tracked
  have kp : ∀ b u, s2.heap.get? b = some u → (h3.push { cls := .type "tuple", data := .seq acc }).get? b = some u := fun b u e => Heap.get?_push_of_some _ (hk3 b u (.inl (Heap.lt_size e)) (hk b u e))
  have hacc : ∃ cs : List Addr, cs.map Value.ref = acc.toList := by
    have : ∀ l : List Value, (∀ v ∈ l, ∃ a : Addr, v = .ref a) → ∃ cs : List Addr, cs.map Value.ref = l := by
      intro l
      induction l with
      | nil => exact fun _ => ⟨[], rfl⟩
      | cons v l ih =>
        intro h
        obtain ⟨a, rfl⟩ := h v List.mem_cons_self
        obtain ⟨cs, e⟩ := ih fun v hv => h v (List.mem_cons_of_mem _ hv)
        exact ⟨a :: cs, by rw [List.map_cons, e]⟩
    refine this acc.toList fun v hv => ?_
    obtain ⟨j, hj⟩ := List.getElem?_of_mem hv
    obtain ⟨a, e, _⟩ := hC.2 j v (by simpa using hj)
    exact ⟨a, e⟩
  obtain ⟨cs, hcs⟩ := hacc
  have hcl : cs.length = m := by
    have := congrArg List.length hcs
    simp at this
    rw [this]
    exact hC.1
  have hcj : ∀ (j : Nat) c, cs[j]? = some c → s2.heap.objs.size ≤ c ∧ c < h3.objs.size ∧ h3.get? c = some { cls := .type "tuple", data := .seq (col us j).toArray } := fun j c e => by
    have e1 : acc[j]? = some (.ref c) := by
      have : acc.toList[j]? = some (.ref c) := by rw [← hcs, List.getElem?_map, e]; rfl
      simpa using this
    obtain ⟨a, e2, e3, _, e4⟩ := hC.2 j _ e1
    cases e2
    exact ⟨Nat.le_of_lt (Nat.lt_of_le_of_lt (Nat.le_trans (Nat.le_add_right _ us.length) (Nat.le_add_right _ 2)) e3), Heap.lt_size e4, e4⟩
  have fresh : ∀ a, s2.heap.objs.size ≤ a → H1 a = none := fun a ha => I2.hok.fresh ha
  have hsz3 : s2.heap.objs.size ≤ h3.objs.size := by
    have hx : ∃ c : Addr, cs[0]? = some c := by
      rcases cs with _ | ⟨c, l⟩
      · exact absurd hcl (by simp; omega)
      · exact ⟨c, rfl⟩
    obtain ⟨c, hc⟩ := hx
    have := hcj 0 c hc
    exact Nat.le_of_lt (Nat.lt_of_le_of_lt this.1 this.2.1)
  have hvc : ∀ i, Vals (colV rows i) (col us i) := vals_col hul fun j r u e1 e2 => by
    have hjl : j < as.length := by rw [hl]; exact (List.getElem?_eq_some_iff.mp e1).1
    have e3 := List.getElem?_eq_getElem hjl
    exact (hus j _ r u e3 e1 e2).1
  have hlc : ∀ i, (colV rows i).length ≤ sizeLine := fun i => by
    simp only [colV, List.length_map]
    omega
  have hf : ∀ (j : Nat) c, cs[j]? = some c → ∀ i, cs[i]? = some c → colV rows i = colV rows j := fun j c e i e' => by
    have a1 := (hcj j c e).2.2
    have a2 := (hcj i c e').2.2
    rw [a1] at a2
    injection a2 with a2
    injection a2 with _ _ a2 _
    injection a2 with a2 _
    have a3 : col us j = col us i := by simpa using congrArg Array.toList a2
    have v1 := hvc i
    rw [← a3] at v1
    exact v1.inj (hvc j)
  have I3 : Inv X pins σ (putAll H1 h3.objs.size cs (colV rows)) { s2 with heap := h3.push { cls := .type "tuple", data := .seq acc }, toks := s2.toks } := by
    refine inv_all I2 kp (fun a o e => putAll_old e) fun a o n e => ?_
    rcases putAll_new n e with ⟨rfl, rfl⟩ | ⟨j, hj, rfl⟩
    · refine ⟨hsz3, by rw [List.length_map, hcl]; exact hm64, cs.map Value.ref, vals_refs cs, ⟨_, Heap.get?_push_size _ rfl, rfl, 0, ?_⟩⟩
      show Data.seq acc 0 = _
      rw [hcs]
    · obtain ⟨b1, b2, b3⟩ := hcj j a hj
      exact ⟨b1, hlc j, col us j, hvc j, ⟨_, Heap.get?_push_of_some _ b3, rfl, 0, rfl⟩⟩
  refine ⟨.ref h3.objs.size, _, I3, rfl, q _ cs _ (fun a o e => putAll_old e) hcl (fun i c e => ?_) (putAll_q (fresh _ hsz3))⟩
  obtain ⟨b1, b2, b3⟩ := hcj i c e
  exact putAll_at (fresh _ b1) (Nat.ne_of_lt b2) e (hf i c e)
end
end ZN
namespace K1
open PySem PySem.Spec PyProof.Rows L2
abbrev nIE : List Str := ["machine", "state", "table"]
theorem scIE : FnScope nIE ["machine", "state"] (defScope sIsEx) := ⟨rfl, rfl, rfl, by decide +kernel, rfl, by decide +kernel, by decide +kernel⟩
theorem colV_at {ts : Ts} {s : Int} {ns : List Int} {i : Nat} {x : Int} (h : ns[i]? = some x) : ZN.colV ((jrows ts s ns).map vrow) i = vrow (ns.map fun h => jn ts s h x) := by
  unfold ZN.colV jrows vrow
  rw [List.map_map, List.map_map, List.map_map]
  refine List.map_congr_left fun y hy => ?_
  show ((ns.map (jn ts s y)).map V.int).getD i .non = V.int (jn ts s y x)
  rw [List.getD_eq_getElem?_getD, List.getElem?_map, List.getElem?_map, h]
  rfl
section
variable {P : Program} {w : World} {K : PySem.W.Frag} {mg : Str → Option Value} {base : Heap}
theorem ok_isex {f fO CS CR M : Addr} {fd fdO : FuncData} (D : Df K mg "is_exchanging" sIsEx ["machine", "state"] f fd) (DO : Df K mg "orbit_table" sOTab ["machine", "state"] fO fdO) (B : Bt mg) (hz : mg "zip" = none)
    (GO : FnOk P w K mg base (L2.CX P w) 8 fO fdO ["machine", "state"] (spOTab M CS CR)) : FnOk P w K mg base (L2.CX P w) 9 f fd ["machine", "state"] (spIsEx M CS CR) := by
  refine D.F.okX scIE (fun vs H Q E h => ?_) (fun cdv A outer s H vs Q E hr h => ?_)
  · obtain ⟨m, ta, ts, v, rfl, _⟩ := h
    rfl
  · obtain ⟨m, ta, ts, v, rfl, hM, hW, kv, q1, q2⟩ := h
    have hu : (A.deeper (envOfC "is_exchanging" (defScope sIsEx) s.heap.objs.size f cdv)).units + 64 < cLine := hr.units
    refine ⟨_, pss_cons (ps_set (i := 2) scIE.nd rfl (.inl rfl) (pe_ix (ixTK (K := K) rfl) (pc DO GO hr (pass1 (takes_of rfl rfl rfl rfl)) (pa_cons (pv 0) (pa_cons (pv 1) pa_nil))) pe_int (fun _ _ => rfl)))
      (pss_one (ps_ret (pe_cmpR (op_eqD hu) (pv 2) (ZN.pe_turn hr.hd (pv 2) (by rfl) B.tuple (by rfl) hz) (nomark _)))), ?_⟩
    refine ⟨_, rfl, _, rfl, m, ta, ts, v, rfl, hM, hW, kv, q1, fun st e hst => ⟨fun nt H' s1 => (q2 st e hst).1 nt H' s1, fun te ns p H1 s1 on ot => ?_⟩⟩
    subst e
    have q := (q2 st rfl hst).2 te
    have l12 := on.len hW hst
    have hne : 0 < ns.length := List.length_pos_of_mem ((on.2 st).mpr Rch.refl)
    obtain ⟨pn, pt, g1, g2, as, g3, gl, g4⟩ := id ot
    refine ⟨p, _, 1, .ref pt, rfl, rfl, SqT.of g1, atI_nat (j := 1) rfl, ?_⟩
    refine gn ?_
    dsimp only [List.set]
    have jl : (jrows ts st ns).length = ns.length := by rw [jrows, List.length_map]
    refine ⟨_, rfl, _, rfl, pt, as, (jrows ts st ns).map vrow, ns.length, rfl, SqT.of g3, by rw [List.length_map]; exact gl, by rw [List.length_map, jl]; exact hne, by rw [List.length_map, jl]; exact l12, hne, Nat.le_trans l12 (by decide), fun j a r e1 e2 => ?_, fun pq cs H2 s2 hcl hcs hpq => ?_⟩
    · rw [List.getElem?_map] at e2
      cases e3 : (jrows ts st ns)[j]? with
      | none => rw [e3] at e2; cases e2
      | some r0 =>
        rw [e3] at e2
        cases e2
        obtain ⟨ob, h⟩ := g4 j a r0 e1 e3
        refine ⟨.inl (.inr ⟨ob, h⟩), ?_⟩
        have : r0 ∈ jrows ts st ns := List.mem_of_getElem? e3
        obtain ⟨x, _, rfl⟩ := List.mem_map.mp this
        rw [vrow, List.length_map, List.length_map]
    · have rr : ∀ x ∈ ns, 0 ≤ x ∧ x < 12 := fun x hx => by
        have := on.rng hW hst hx
        have := hW.s12
        omega
      have jr : ∀ x y, x ∈ ns → y ∈ ns → 0 ≤ jn ts st x y ∧ jn ts st x y < 12 := fun x y hx hy => rr _ ((on.2 _).mpr (jn_in te ((on.2 x).mp hx) ((on.2 y).mp hy)))
      have pl1 : Pl (.tuple (dRows (jrows ts st ns))) 2 20000 := (Pl.tuple (pl_rows (jrows ts st ns) fun r hr => by
        obtain ⟨x, hx, rfl⟩ := List.mem_map.mp hr
        exact ⟨by rw [List.length_map]; exact l12, fun y hy => by obtain ⟨z, hz, rfl⟩ := List.mem_map.mp hy; exact jr x z hx hz⟩)).mono (by decide) (by rw [jl]; omega)
      have jcl : (jcols ts st ns).length = ns.length := by rw [jcols, List.length_map]
      have pl2 : Pl (.tuple (dRows (jcols ts st ns))) 2 20000 := (Pl.tuple (pl_rows (jcols ts st ns) fun r hr => by
        obtain ⟨x, hx, rfl⟩ := List.mem_map.mp hr
        exact ⟨by rw [List.length_map]; exact l12, fun y hy => by obtain ⟨z, hz, rfl⟩ := List.mem_map.mp hy; exact jr z x hz hx⟩)).mono (by decide) (by rw [jcl]; omega)
      have d1 : Dp K H2 (.ref pt) (.tuple (dRows (jrows ts st ns))) := .tup (SqT.of (s2 _ _ g3)) (dp_rows as _ gl fun i a r e1 e2 => let ⟨ob, e⟩ := g4 i a r e1 e2; .inl (.inr ⟨ob, s2 _ _ e⟩))
      have d2 : Dp K H2 (.ref pq) (.tuple (dRows (jcols ts st ns))) := .tup (SqT.of hpq) (dp_rows cs _ (by rw [jcl]; exact hcl) fun i a r e1 e2 => by
        rw [jcols, List.getElem?_map] at e2
        cases e3 : ns[i]? with
        | none => rw [e3] at e2; cases e2
        | some x =>
          rw [e3] at e2
          cases e2
          have := hcs i a e1
          rw [colV_at e3] at this
          exact SqT.of this)
      refine ⟨_, _, d1, d2, pl1.shaped (by decide), pl2.shaped (by decide), q _ H2 (s1.trans s2) ?_⟩
      rw [eqv_rows, decide_eq_true_iff]
      exact cols_iff te on
end
end K1
/-! ### a list comprehension whose test may look back at the def that it stands in -/
namespace K1
open PySem PySem.Spec PyProof.Rows L2
/-- what a block's state says of the def's own -/
def BackB (X : Cx) (pins : List (Addr × Obj)) (σ : L2.St) (s : Shared) (H : Hp) (scope : Scope) (C : Addr) (cl : List (Str × Addr)) (fp : List Addr) : Prop :=
  ∀ (pb : List (Addr × Obj)) (τ : L2.St) (G : Hp) (z : Shared), Inv (X.blk s H scope (compEnvC scope cl C X.env) fp) pb τ G z → Inv X pins σ G z
/-- [elt for target in iter if test] -/
theorem pe_lcI {X : Cx} {elt tg iter : Expr} {ifs : List Expr} {scope : Scope} {own : List (Str × Nat)} {pos : Pos} {wi : TI} {g : TG} {tt : L2.St → TT} {te : TE} (hcalm : X.calm = true) (hnd : X.N.Nodup) (hit : PI X tg iter wi) (hok : BlkOk X.N X.env.scope scope own)
    (hgt : ∀ (s : Shared) (H : Hp) (C : Addr) (cl : List (Str × Addr)) (fp : List Addr), PG (X.blk s H scope (compEnvC scope cl C X.env) fp) tg g)
    (htt : ∀ (pins : List (Addr × Obj)) (σ : L2.St) (s : Shared) (H : Hp) (C : Addr) (cl : List (Str × Addr)) (fp : List Addr), BackB X pins σ s H scope C cl fp → PTs (X.blk s H scope (compEnvC scope cl C X.env) fp) ifs (tt σ))
    (hte : ∀ (s : Shared) (H : Hp) (C : Addr) (cl : List (Str × Addr)) (fp : List Addr), PE (X.blk s H scope (compEnvC scope cl C X.env) fp) elt te) (hfo : ∀ x, foldedSetIterable iter X.env x = pure x := by intro _; rfl) :
    PE X (.ListComp elt [⟨tg, iter, ifs, 0⟩] scope pos) (fun σ H Q => tLc wi g (tt σ) te (own.map (·.2)) σ H Q) := by
  refine ⟨fun pins s σ H Q I0 hq => ?_⟩
  rw [eval_ListComp]
  have hcells : ∀ y ∈ scope.names, y.2 = .free → ∃ c, X.env.cells.lookup y.1 = some c := fun y hy e => (hok.free y hy e).elim (fun k => I0.ok.has _ (.inl k)) fun k => I0.ok.has _ (.inr k)
  refine wpAny_comprehension_free (cl := cloFrom X.env.cells scope.names []) rfl hfo (closure_ok hcells) hok.kind (fun y hy e => by rw [hok.uniq y hy, e]) (thn (hit.run pins s σ H _ I0 hq) fun vi si hvi => thn hvi fun vt st hst => ?_)
  obtain ⟨it, fp, tn, J, Ha, e, Ia, T, stA, fA, more⟩ := hst
  subst e
  refine wpAny_newObj_type (newEnv_comp ?_) (by show (0 : Nat) ≤ sizeLine; decide)
  have dNew : Ha st.heap.objs.size = none := Ia.hok.fresh (Nat.le_refl _)
  obtain ⟨W, ⟨n0, w0⟩, turn⟩ := more st.heap.objs.size dNew
  have Ib : Inv X pins σ (upd Ha st.heap.objs.size (.lst [])) { st with heap := st.heap.push { cls := .type "list", data := .seq ([] : List Value).toArray } } :=
    Ia.laid (t' := st.toks) (fun b o e => Heap.get?_push_of_some _ e) (Nat.le_refl _) ⟨Nat.zero_le _, [], 0, .nil, Heap.get?_push_size _ rfl⟩
  have fpLt : ∀ b ∈ fp, b < st.heap.objs.size := fun b hb => let ⟨_, e, _⟩ := T.obj _ _ stA b hb; Heap.lt_size e
  have fB : ∀ b ∈ fp, FpOk X pins (upd Ha st.heap.objs.size (.lst [])) b ∧ b < (st.heap.push { cls := .type "list", data := .seq ([] : List Value).toArray }).objs.size := fun b hb =>
    ⟨⟨by rw [upd_ne (Nat.ne_of_lt (fpLt b hb))]; exact (fA b hb).1, (fA b hb).2⟩, by rw [Heap.size_push]; exact Nat.lt_succ_of_lt (fpLt b hb)⟩
  have stB : tn 0 (st.heap.push { cls := .type "list", data := .seq ([] : List Value).toArray }) := T.keep _ _ _ stA fun b _ o e => Heap.get?_push_of_some _ e
  generalize st.heap.push ({ cls := .type "list", data := .seq ([] : List Value).toArray } : Obj) = hB at Ib fB stB ⊢
  generalize hD : st.heap.objs.size = D at dNew w0 turn Ib fB ⊢
  generalize upd Ha D (.lst []) = Hb at w0 Ib fB
  have Ic := block_start Ib hok hnd fB
  have back : BackB X pins σ { st with heap := hB } Hb scope hB.objs.size (cellsFrom (hB.objs.size + 1) scope.names (cloFrom X.env.cells scope.names [])) fp := fun pb τ G z IZ =>
    Ib.call' (ch := fp) IZ.os IZ.base IZ.hok IZ.bare fun b hb => let f := (fB b hb).1; ⟨f.2.2.2.1, f.2.1, f.2.2.2.2.1, f.2.2.2.2.2⟩
  have pT := htt pins σ { st with heap := hB } Hb hB.objs.size (cellsFrom (hB.objs.size + 1) scope.names (cloFrom X.env.cells scope.names [])) fp back
  have pG := hgt { st with heap := hB } Hb hB.objs.size (cellsFrom (hB.objs.size + 1) scope.names (cloFrom X.env.cells scope.names [])) fp
  have pE := hte { st with heap := hB } Hb hB.objs.size (cellsFrom (hB.objs.size + 1) scope.names (cloFrom X.env.cells scope.names [])) fp
  show codeAny _ _ (.compStart (.ListComp elt [⟨tg, iter, ifs, 0⟩] scope pos) 0 (.ref it) (.ref D) (compEnvC scope (cellsFrom (hB.objs.size + 1) scope.names (cloFrom X.env.cells scope.names [])) hB.objs.size X.env))
    (compPost (model X.prog X.w) X.A X.xe none (EP X pins σ Q) (.ref D) hB.objs.size) { st with heap := pushCells (hB.push { cls := .type "dict", data := .dict #[] }) scope.names }
  have fN : ∀ b ∈ fp, Hb b = none := fun b hb => (fB b hb).1.1
  have eL : (compEnvC scope (cellsFrom (hB.objs.size + 1) scope.names (cloFrom X.env.cells scope.names [])) hB.objs.size X.env).locals = hB.objs.size := rfl
  have stC : tn 0 (pushCells (hB.push { cls := .type "dict", data := .dict #[] }) scope.names) := T.keep _ _ _ stB fun b _ o e => pushCells_keeps _ _ _ _ (Heap.get?_push_of_some _ e)
  unfold BackB at back
  generalize compEnvC scope (cellsFrom (hB.objs.size + 1) scope.names (cloFrom X.env.cells scope.names [])) hB.objs.size X.env = ce at Ic pT pG pE back eL ⊢
  have fStat : ∀ {τ : L2.St} {G : Hp} {z : Shared}, Inv (X.blk { st with heap := hB } Hb scope ce fp) [] τ G z → (∀ b ∈ fp, G b = none) → ∀ b ∈ fp, FpOk (X.blk { st with heap := hB } Hb scope ce fp) [] G b := fun {τ G z} IZ hn b hb =>
    ⟨hn b hb, (IZ.ok.exf b hb).1, IZ.ok.exfs b hb, .inl hb, fun x c e => (IZ.ok.exf b hb).2 x c e, fun p hp => absurd (show p ∈ ([] : List (Addr × Obj)) ++ [] from hp) (by simp)⟩
  have round : codeAny (model X.prog X.w) X.A (.compLoop (.ListComp elt [⟨tg, iter, ifs, 0⟩] scope pos) 0 (.ref it) (.ref D) ce) (compPost (model X.prog X.w) X.A X.xe none (EP X pins σ Q) (.ref D) hB.objs.size) { st with heap := pushCells (hB.push { cls := .type "dict", data := .dict #[] }) scope.names } := by
    refine compLoop_any (fun n z => ∃ i G, Inv (X.blk { st with heap := hB } Hb scope ce fp) [] (wipe σ (own.map (·.2))) G z ∧ tn i z.heap ∧ (∀ b ∈ fp, G b = none) ∧ W i n G) ?_ n0 ⟨0, Hb, Ic, stC, fN, w0⟩
    rintro n z1 ⟨i, G1, I1, t1, f1, w1⟩
    rcases turn i n G1 w1 with ⟨stop, fin⟩ | ⟨go, Nx, hNx, step⟩
    · refine thnF (T.done (X.blk { st with heap := hB } Hb scope ce fp) rfl rfl rfl hcalm i [] z1 _ G1 (fun _ _ => False) I1 (fStat I1 f1) t1 stop) fun r z2 ⟨er, I2⟩ => ?_
      subst er
      have nC : G1 hB.objs.size = none := by
        have q : G1 ce.locals = none := I2.free
        rwa [eL] at q
      obtain ⟨m, ns, _⟩ := I2.loc
      have ns : z2.heap.Ns ce.locals m := ns
      rw [eL] at ns
      have I3 := back _ _ _ _ I2
      refine ⟨m, ns, fun h'' sb => ?_⟩
      obtain ⟨f0, f1, f2, f3, f4, f5⟩ := Ib.fpOk (Nat.le_refl _) nC
      exact ⟨.ref D, G1, I3.turned (t' := z2.toks) (fun b o hb e => (sb.2 b hb).trans e) f0 f1 f3 f4 f5, rfl, fin⟩
    · refine thnF (T.item (X.blk { st with heap := hB } Hb scope ce fp) rfl rfl rfl hcalm i [] z1 _ G1 (fun _ _ => False) I1 (fStat I1 f1) t1 go) fun r z2 ⟨u, er, h2⟩ => ?_
      subst er
      refine thnF h2 fun _ z3 ⟨x, G3, I3, r3, y3, t3, f3⟩ => ?_
      have I3p := I3.pinned (fStat I3 f3) (T.obj _ _ t3)
      refine thnF (pG.run _ z3 _ G3 x u _ I3p r3 (step x G3 y3)) fun _ z4 ⟨τ, G4, I4, wp4, q4⟩ => ?_
      refine thnF (pT.run _ z4 τ G4 _ I4 q4) fun b z5 ⟨G5, I5, q5⟩ => ?_
      have again_ : ∀ {z' : Shared} {G' : Hp}, Inv (X.blk { st with heap := hB } Hb scope ce fp) ([] ++ pinsAt fp z3.heap) τ G' z' → Nx G' → ∃ m, m < n ∧ ∃ i G, Inv (X.blk { st with heap := hB } Hb scope ce fp) [] (wipe σ (own.map (·.2))) G z' ∧ tn i z'.heap ∧ (∀ b ∈ fp, G b = none) ∧ W i m G := fun {z' G'} IZ nx => by
        obtain ⟨m, hm, w'⟩ := hNx G' nx
        have pins_ : ∀ b ∈ fp, ∀ o, z3.heap.get? b = some o → z'.heap.get? b = some o ∧ G' b = none := fun b hb o e => by
          have p := IZ.pin (b, o) (List.mem_append_right _ (List.mem_append_right _ (mem_pinsAt hb e)))
          exact ⟨p.1, p.2.1⟩
        refine ⟨m, hm, i + 1, G', (IZ.unpinned (pins := [])).weak (by rw [← wp4, wipe_length]) (fun j v e => ?_), T.keep _ _ _ t3 fun b hb o e => (pins_ b hb o e).1, fun b hb => ?_, w'⟩
        · rw [← wp4] at e
          exact (wipe_some e).1
        · obtain ⟨o, e, _⟩ := T.obj _ _ t3 b hb
          exact (pins_ b hb o e).2
      cases b with
      | false =>
        simp only [Bool.false_eq_true, if_false] at q5 ⊢
        exact again_ I5 q5
      | true =>
        simp only [if_true] at q5 ⊢
        refine thnF (pE.run _ z5 τ G5 _ I5 q5) fun v z6 ⟨y, G6, I6, r6, acc, hacc, hsz, nx⟩ => ?_
        exact app_ok (X := X.blk { st with heap := hB } Hb scope ce fp) I6 hacc hsz r6 fun z7 I7 => again_ I7 nx
  exact codeAny_compStart_list round (T.self X.A 0 _ _ _ stC round)
end K1
namespace K1
open PySem PySem.Spec PyProof.Rows L2
/-- _law_heard(_law_ask) in a comprehension's test, a slot that holds a lambda of the def around -/
theorem pe_heardI {X : Cx} {CR CS : Addr} {k i : Nat} {q : Str} {cl : List (Str × Addr)} {params : Arguments} {body : Expr} {scope : Scope} {t : XK → TE} {p px pos : Pos} {pins0 : List (Addr × Obj)} {σ0 : L2.St} {s0 : Shared} {H0 : Hp} {sc0 : Scope} {C0 : Addr} {cl0 : List (Str × Addr)} {fp0 : List Addr}
    (bk : BackB X pins0 σ0 s0 H0 sc0 C0 cl0 fp0) (hd : Hd X.K X.mg X.base CR CS) (hgd : X.A.guards = some []) (hr : Room (k + 2) X.A)
    (hg : Gl (X.blk s0 H0 sc0 (compEnvC sc0 cl0 C0 X.env) fp0) "_law_heard") (hN : X.N[i]? = some "_law_ask") (hv : Vis (X.blk s0 H0 sc0 (compEnvC sc0 cl0 C0 X.env) fp0).env.scope "_law_ask") (L : LamX.LamS X.env.scope scope) (hq : X.env.qual ++ "<lambda>" = q) (hcl : cloFrom X.env.cells scope.names [] = cl)
    (hbind : ∀ (pm cv ctv : Value), bindArgs (PySem.W.kla_fn "<lambda>" q params body scope cl pm cv ctv) ⟨[], []⟩ = pure [])
    (hbody : ∀ (A : Around) (outer : List Env) (s : Shared) (H : Hp) (E : XK) (f c' : Addr), Room k (A.deeper (LamX.lamEnv X scope s.heap.objs.size f c')) → PE (LamX.lamCx X A outer s H E scope f c') body (t E)) :
    PE (X.blk s0 H0 sc0 (compEnvC sc0 cl0 C0 X.env) fp0) (.Call (.Name "_law_heard" p) [.Name "_law_ask" px] [] pos) (fun σ H Q => ∃ f c', σ[i]? = some (some (.ref f)) ∧ H c' = some (LamX.CodeO c' q) ∧ TTh X.K CR CS (fun E H' Q' => H' f = some (LamO f c' q cl params body scope) ∧ t E σ0 H' Q') H Q) := by
  obtain ⟨g, fd, D⟩ := hd.df
  obtain ⟨q3, b3, i3, T3⟩ := hd.t3
  obtain ⟨q1, b1, i1, T1⟩ := hd.t1
  obtain ⟨N, hNe, ex⟩ := hd.ex
  have hb := D.b
  obtain ⟨oc, od, kV, doc, pm, an, cdv, ct, osl, rfl, lk, hcd'⟩ := D.F.ex
  refine ⟨fun pins s σ H Q I h => ?_⟩
  obtain ⟨f, c', hs, hc, hT⟩ := h
  refine wpAny_Call_Name_kw (ld_glob I hg D.g ?_ (by decide))
  refine PySem.W.callWith_K (h₀ := X.base) I.ok.mod.kin D.F.kp ?_ (by rfl) (by rfl)
  have ha := (pa_cons (pe_var (X := X.blk s0 H0 sc0 (compEnvC sc0 cl0 C0 X.env) fp0) (pos := px) (i := i) hN hv (by decide) (by decide)) pa_nil (by rfl)).run pos pins s σ H (fun vs H1 => vs = [.ref f] ∧ H1 = H) I ⟨.ref f, hs, rfl, rfl⟩
  refine thn ha fun us s1 ⟨vs, H1, I1, r, e1, e2⟩ => ?_
  subst e1
  rw [e2] at I1
  obtain ⟨u, rfl, ru⟩ := vals1 r
  obtain rfl : u = Value.ref f := ru
  have J1 := bk _ _ _ _ I1
  refine ⟨I1.kIn, ?_⟩
  have rc : codeAny (model X.prog X.w) X.A (.call (.ref g) ⟨[.ref f], []⟩) (L2.CR C8.CX0 X.stack X.prog X.w H s1 Q C8.E0) s1 := by
    refine LamX.run_ofS (N := ["_law_ask", "fault"]) (ps := ["_law_ask"]) (us := [.ref f]) (vs := [.ref f]) lk hcd' scHe hr J1.env0 (hb s1 [.ref f] J1.kIn rfl) (.cons rfl .nil) rfl fun hr' => ?_
    obtain ⟨t', ht', hq'⟩ := heard_gives (q := q) hd.B hd.ke T1 T3 hNe ex hd.g1 hd.g3 hgd hr f c' s1 H Q (fun E H' Q' => H' f = some (LamO f c' q cl params body scope) ∧ t E σ0 H' Q')
      (fun W pn xe E p1 p2 tk hW => ⟨fun pinsZ sZ σZ HZ QZ IZ hZ => (pe_actV (i := 0) (p1 := p1) (p2 := p2) J1 L hq hcl hbind tk hW hr' (fun A outer s H hr2 => hbody A outer s H E f c' hr2) rfl (.inl rfl)).run pinsZ sZ σZ HZ QZ IZ ⟨hZ.1, hZ.2.2.1, hZ.2.1, hZ.2.2.2⟩⟩) hc hT
    exact ⟨t', ht'.nox, hq'⟩
  refine wpAny_call (codeAny_mono rc fun r s2 hq => ?_)
  cases r with
  | error e => exact (show False from hq).elim
  | ok fl =>
    cases fl with
    | ret u => exact I1.after hq
    | next => exact False.elim hq
    | brk => exact False.elim hq
    | cont => exact False.elim hq
end K1
namespace K1
open PySem PySem.Spec PyProof.Rows L2
/-- the last expression of the text, its parts -/
def retL : Stmt → Expr
  | .Return (some (.Compare l _ _ _)) _ => l
  | _ => .Constant .none 0 ⟨0, 0, 0, 0⟩
def lcSc : Expr → Scope
  | .ListComp _ _ sc _ => sc
  | _ => defScope sUntR
def lcTest : Expr → Expr
  | .ListComp _ [⟨_, _, [t], _⟩] _ _ => t
  | e => e
def cmpL : Expr → Expr
  | .Compare l _ _ _ => l
  | e => e
abbrev lcU : Expr := retL ((defBody sUntR).getD 5 (.Pass ⟨0, 0, 0, 0⟩))
abbrev cxU (P : Program) (w : World) (K : PySem.W.Frag) (mg : Str → Option Value) (base : Heap) (f c : Addr) (A : Around) (outer : List Env) (s : Shared) (H : Hp) (E : XK) : Cx :=
  (cxOf CX0 P w K mg base nUR "_law_untelling_right" (defScope sUntR) f (.ref c) A outer s H E).nox
abbrev clU (X : Cx) (k : Nat) : List (Str × Addr) := cloFrom X.env.cells (lamS (lamU k)).names []
/-- what is heard of the k-th lambda -/
def tU (X : Cx) (CR CS : Addr) (k : Nat) (t : XK → TE) (σ0 : L2.St) : TE := fun σ H Q => ∃ f c', σ[3]? = some (some (.ref f)) ∧ H c' = some (LamX.CodeO c' qUR) ∧ TTh X.K CR CS (fun E H' Q' => H' f = some (LamO f c' qUR (clU X k) (lamP (lamU k)) (lamB (lamU k)) (lamS (lamU k))) ∧ t E σ0 H' Q') H Q
section
variable {P : Program} {w : World} {K : PySem.W.Frag} {mg : Str → Option Value} {base : Heap}
theorem ur_heard {f c CR CS CU M : Addr} {A : Around} {outer : List Env} {s : Shared} {H₀ : Hp} {E₀ : XK} {fO fX fG fI fT : Addr} {fdO fdX fdG fdI fdT : FuncData} (hr : Room 12 (A.deeper (envOfC "_law_untelling_right" (defScope sUntR) s.heap.objs.size f (.ref c)))) (hgd : (A.deeper (envOfC "_law_untelling_right" (defScope sUntR) s.heap.objs.size f (.ref c))).guards = some [])
    (hd : Hd K mg base CR CS)
    (DO : Df K mg "orbit_table" sOTab ["machine", "state"] fO fdO) (GO : FnOk P w K mg base (L2.CX P w) 8 fO fdO ["machine", "state"] (spOTab M CS CR)) (DX : Df K mg "is_exchanging" sIsEx ["machine", "state"] fX fdX) (GX : FnOk P w K mg base (L2.CX P w) 9 fX fdX ["machine", "state"] (spIsEx M CS CR))
    (DG : Df K mg "group_paper" sGPap ["machine", "state"] fG fdG) (GG : FnOk P w K mg base (L2.CX P w) 8 fG fdG ["machine", "state"] (spGPap M CS CR)) (DI : Df K mg "inverse_of" sInv ["machine", "state", "one"] fI fdI) (GI : FnOk P w K mg base (L2.CX P w) 8 fI fdI ["machine", "state", "one"] (spInv M CS CR))
    (DT : Df K mg "turned_join" sTJoin ["machine", "state", "archive", "here", "there"] fT fdT) (GT : FnOk P w K mg base (L2.CX P w) 9 fT fdT ["machine", "state", "archive", "here", "there"] (spTJoin M CS CR)) :
    ∃ t0 t1 t2 t3 t4 : XK → TE, (∀ (pins : List (Addr × Obj)) (σ : L2.St) (s0 : Shared) (H0 : Hp) (C : Addr) (cl : List (Str × Addr)) (fp : List Addr) (bk : BackB (cxU P w K mg base f c A outer s H₀ E₀) pins σ s0 H0 (lcSc lcU) C cl fp), PE ((cxU P w K mg base f c A outer s H₀ E₀).blk s0 H0 (lcSc lcU) (compEnvC (lcSc lcU) cl C (cxU P w K mg base f c A outer s H₀ E₀).env) fp) (cmpL (lcTest lcU)) (fun σ' H Q => tU (cxU P w K mg base f c A outer s H₀ E₀) CR CS 0 t0 σ σ' H Q ∨ tU (cxU P w K mg base f c A outer s H₀ E₀) CR CS 1 t1 σ σ' H Q ∨ tU (cxU P w K mg base f c A outer s H₀ E₀) CR CS 2 t2 σ σ' H Q ∨ tU (cxU P w K mg base f c A outer s H₀ E₀) CR CS 3 t3 σ σ' H Q ∨ tU (cxU P w K mg base f c A outer s H₀ E₀) CR CS 4 t4 σ σ' H Q)) ∧
      (∀ E (v0 v1 : V) r H Q, spOTab M CS CR [v0, v1] H Q E → t0 E (some v0 :: some v1 :: r) H Q) ∧ (∀ E (v0 v1 : V) r H Q, spIsEx M CS CR [v0, v1] H Q E → t1 E (some v0 :: some v1 :: r) H Q) ∧ (∀ E (v0 v1 : V) r H Q, spGPap M CS CR [v0, v1] H Q E → t2 E (some v0 :: some v1 :: r) H Q) ∧
      (∀ E (v0 v1 : V) r H Q, spInv M CS CR [v0, v1, .non] H Q E → t3 E (some v0 :: some v1 :: r) H Q) ∧ (∀ E (v0 v1 : V) r H Q, spTJoin M CS CR [v0, v1, .non, .non, .non] H Q E → t4 E (some v0 :: some v1 :: r) H Q) := by
  refine ⟨_, _, _, _, _, fun pins σ s0 H0 C cl fp bk => pe_or2 (pe_heardI (X := cxU P w K mg base f c A outer s H₀ E₀) (k := 10) (i := 3) (q := qUR) (cl := clU (cxU P w K mg base f c A outer s H₀ E₀) 0) (params := lamP (lamU 0)) (body := lamB (lamU 0)) (scope := lamS (lamU 0)) bk hd hgd hr (by rfl) rfl (.inl rfl) (LamX.lamS_by (by rfl)) rfl rfl (fun _ _ _ => rfl)
      (fun A outer s H E f c' hr2 => pc DO GO (hr2.mono (show 8 ≤ 10 by decide)) (pass1 (E := E) (takes_of rfl rfl rfl rfl)) (pa_cons (pv 0) (pa_cons (pv 1) pa_nil))))
    (pe_or2 (pe_heardI (X := cxU P w K mg base f c A outer s H₀ E₀) (k := 10) (i := 3) (q := qUR) (cl := clU (cxU P w K mg base f c A outer s H₀ E₀) 1) (params := lamP (lamU 1)) (body := lamB (lamU 1)) (scope := lamS (lamU 1)) bk hd hgd hr (by rfl) rfl (.inl rfl) (LamX.lamS_by (by rfl)) rfl rfl (fun _ _ _ => rfl)
      (fun A outer s H E f c' hr2 => pc DX GX (hr2.mono (show 9 ≤ 10 by decide)) (pass1 (E := E) (takes_of rfl rfl rfl rfl)) (pa_cons (pv 0) (pa_cons (pv 1) pa_nil))))
    (pe_or2 (pe_heardI (X := cxU P w K mg base f c A outer s H₀ E₀) (k := 10) (i := 3) (q := qUR) (cl := clU (cxU P w K mg base f c A outer s H₀ E₀) 2) (params := lamP (lamU 2)) (body := lamB (lamU 2)) (scope := lamS (lamU 2)) bk hd hgd hr (by rfl) rfl (.inl rfl) (LamX.lamS_by (by rfl)) rfl rfl (fun _ _ _ => rfl)
      (fun A outer s H E f c' hr2 => pc DG GG (hr2.mono (show 8 ≤ 10 by decide)) (pass1 (E := E) (takes_of rfl rfl rfl rfl)) (pa_cons (pv 0) (pa_cons (pv 1) pa_nil))))
    (pe_or2 (pe_heardI (X := cxU P w K mg base f c A outer s H₀ E₀) (k := 10) (i := 3) (q := qUR) (cl := clU (cxU P w K mg base f c A outer s H₀ E₀) 3) (params := lamP (lamU 3)) (body := lamB (lamU 3)) (scope := lamS (lamU 3)) bk hd hgd hr (by rfl) rfl (.inl rfl) (LamX.lamS_by (by rfl)) rfl rfl (fun _ _ _ => rfl)
      (fun A outer s H E f c' hr2 => pc DI GI (hr2.mono (show 8 ≤ 10 by decide)) (pass1 (E := E) (takes_of rfl rfl rfl rfl)) (pa_cons (pv 0) (pa_cons (pv 1) (pa_cons pe_non pa_nil)))))
    (pe_heardI (X := cxU P w K mg base f c A outer s H₀ E₀) (k := 10) (i := 3) (q := qUR) (cl := clU (cxU P w K mg base f c A outer s H₀ E₀) 4) (params := lamP (lamU 4)) (body := lamB (lamU 4)) (scope := lamS (lamU 4)) bk hd hgd hr (by rfl) rfl (.inl rfl) (LamX.lamS_by (by rfl)) rfl rfl (fun _ _ _ => rfl)
      (fun A outer s H E f c' hr2 => pc DT GT (hr2.mono (show 9 ≤ 10 by decide)) (pass1 (E := E) (takes_of rfl rfl rfl rfl)) (pa_cons (pv 0) (pa_cons (pv 1) (pa_cons pe_non (pa_cons pe_non (pa_cons pe_non pa_nil)))))))))), ?_, ?_, ?_, ?_, ?_⟩
  · exact fun E v0 v1 r H Q h => ⟨_, rfl, _, rfl, nilP h⟩
  · exact fun E v0 v1 r H Q h => ⟨_, rfl, _, rfl, nilP h⟩
  · exact fun E v0 v1 r H Q h => ⟨_, rfl, _, rfl, nilP h⟩
  · exact fun E v0 v1 r H Q h => ⟨_, rfl, _, rfl, h⟩
  · exact fun E v0 v1 r H Q h => ⟨_, rfl, _, rfl, h⟩
end
end K1
namespace K1
open PySem PySem.Spec PyProof.Rows L2
/-! ### what stays behind a heard call: all but the source and the tables of code -/
section
variable {b : Addr} {T : List (Addr × Str)} {H H1 H2 : Hp}
def Rl (b : Addr) (T : List (Addr × Str)) (H H' : Hp) : Prop := BoxO H' b ∧ LamX.Tabs T H' ∧ ∀ c o, H c = some o → c ≠ b → (∀ ps, o ≠ .tbl ps) → H' c = some o
theorem Rl.refl (hb : BoxO H b) (t : LamX.Tabs T H) : Rl b T H H := ⟨hb, t, fun _ _ e _ _ => e⟩
theorem Rl.trans (a : Rl b T H H1) (c : Rl b T H1 H2) : Rl b T H H2 := ⟨c.1, c.2.1, fun d o e n1 n2 => c.2.2 d o (a.2.2 d o e n1 n2) n1 n2⟩
theorem Rl.same (a : Rl b T H H1) (s : Same H1 H2) : Rl b T H H2 := ⟨a.1.same s, a.2.1.ext s, fun c o e n1 n2 => s _ _ (a.2.2 c o e n1 n2)⟩
theorem Rl.new {p : Addr} {o : HO} (a : Rl b T H H1) (hp : H1 p = none) : Rl b T H (upd H1 p o) := a.same (same_new hp)
theorem tabs_bx (t : LamX.Tabs T H1) (hb : BoxO H1 b) (x : Bx b H1 H2) : LamX.Tabs T H2 := fun p hp => by
  obtain ⟨ps, h1, h2, h3⟩ := t p hp
  refine ⟨ps, x.2 _ _ h1 (hb.ne h1 fun xs => by intro z; cases z), h2, fun pos cv hc => ?_⟩
  obtain ⟨c, e1, e2⟩ := h3 pos cv hc
  exact ⟨c, e1, x.2 _ _ e2 (hb.ne e2 fun xs => by intro z; unfold LamX.CodeO at z; cases z)⟩
theorem Rl.bx (a : Rl b T H H1) (x : Bx b H1 H2) : Rl b T H H2 := ⟨x.1, tabs_bx a.2.1 a.1 x, fun c o e n1 n2 => x.2 _ _ (a.2.2 c o e n1 n2) n1⟩
theorem BoxO.ext (h : BoxO H1 b) (e : LamX.ExtN H1 H2) : BoxO H2 b := let ⟨x, y, q⟩ := h; ⟨x, y, e _ _ q (fun ps z => by cases z)⟩
theorem Rl.ext (a : Rl b T H H1) (e : LamX.ExtN H1 H2) (t : LamX.Tabs T H2) : Rl b T H H2 := ⟨a.1.ext e, t, fun c o q n1 n2 => e _ _ (a.2.2 c o q n1 n2) n2⟩
theorem Rl.tup {c : Addr} {xs : List V} (a : Rl b T H H1) (hb : BoxO H b) (h : H c = some (.tup xs)) : H1 c = some (.tup xs) := a.2.2 _ _ h (hb.ne h fun xs => by intro z; cases z) (fun ps z => by cases z)
theorem Rl.lst {c : Addr} {xs : List V} (a : Rl b T H H1) (n : c ≠ b) (h : H c = some (.lst xs)) : H1 c = some (.lst xs) := a.2.2 _ _ h n (fun ps z => by cases z)
theorem Rl.tabL {p : Addr} {ts : List (List V)} (a : Rl b T H H1) (hb : BoxO H b) (n : p ≠ b) (h : TabL H p ts) : TabL H1 p ts :=
  let ⟨as, h1, h2, h3⟩ := h
  ⟨as, a.lst n h1, h2, fun i c t e1 e2 => a.tup hb (h3 i c t e1 e2)⟩
theorem Rl.mach {M m ta : Addr} {ts : List (List V)} (a : Rl b T H H1) (hb : BoxO H b) (h : MachAt M H m ta ts) : MachAt M H1 m ta ts :=
  let ⟨⟨dx, t0, h0, h1⟩, as, k1, k2, k3⟩ := h
  ⟨⟨dx, t0, h0, a.2.2 _ _ h1 (hb.ne h1 fun xs => by intro z; cases z) (fun ps z => by cases z)⟩, as, a.tup hb k1, k2, fun i c t e1 e2 => a.tup hb (k3 i c t e1 e2)⟩
theorem BoxO.nn {p : Addr} (h : BoxO H b) (hp : H p = none) : p ≠ b := (Bx.refl h).ne hp
end
theorem TabL.mv {K : PySem.W.Frag} {H : Hp} {p : Addr} {ts : Ts} (h : TabL H p (vts ts)) : Mv K H (.ref p) (some ((vts ts).map some)) := by
  obtain ⟨as, h1, h2, h3⟩ := h
  refine .yes (xs := as.map V.ref) (.lst h1) ⟨by rw [List.length_map, List.length_map, h2], fun i x r e1 e2 => ?_⟩
  rw [List.getElem?_map] at e1 e2
  cases ea : as[i]? with
  | none => rw [ea] at e1; cases e1
  | some a =>
    cases et : (vts ts)[i]? with
    | none => rw [et] at e2; cases e2
    | some t =>
      rw [ea] at e1
      rw [et] at e2
      obtain rfl : V.ref a = x := Option.some.inj e1
      obtain rfl : some t = r := Option.some.inj e2
      refine ⟨.tup (h3 i a t ea et), fun ys e y hy => ?_⟩
      obtain rfl : t = ys := Option.some.inj e
      rw [vts, List.getElem?_map] at et
      cases e3 : ts[i]? with
      | none => rw [e3] at et; cases et
      | some t' =>
        rw [e3] at et
        obtain rfl : vrow t' = t := Option.some.inj et
        obtain ⟨j, _, rfl⟩ := List.mem_map.mp hy
        exact ⟨_, .int j⟩
theorem isTab_row {t : List Int} {n : Nat} (hl : t.length = n) (h : ∀ i ∈ t, 0 ≤ i ∧ i < (n : Int)) : isTab (some (vrow t)) (n : Int) = true := by
  show (seqB (some (vrow t)) (n : Int) (n : Int) && decide (fnb (vrow t) (n : Int) = V.non)) = true
  have e1 : seqB (some (vrow t)) (n : Int) (n : Int) = true := by
    show (decide ((n : Int) ≤ ((vrow t).length : Int)) && decide (((vrow t).length : Int) ≤ (n : Int))) = true
    rw [vrow, List.length_map, hl]
    simp
  rw [e1, fnb_all fun x hx => ?_]; rfl
  obtain ⟨i, hi, rfl⟩ := List.mem_map.mp hx
  obtain ⟨h1, h2⟩ := h i hi
  show (decide (0 ≤ i) && decide (i < (n : Int))) = true
  rw [decide_eq_true h1, decide_eq_true h2]; rfl
theorem chk_wf {ts : Ts} (w : Wf ts) : chkAt (some ((vts ts).map some)) = none := by
  have h1 := w.t1; have h8 := w.t8; have s1 := w.s1; have s12 := w.s12
  have e0 : ((vts ts).map some)[0]? = some (some (vrow ts[0])) := by
    rw [vts, List.map_map, List.getElem?_map, List.getElem?_eq_getElem (by omega)]; rfl
  have el : (vrow ts[0]).length = nS ts := by
    rw [vrow, List.length_map]
    exact (w.row _ (List.getElem_mem _)).1
  show (if ((vts ts).map some).length < 1 ∨ 8 < ((vts ts).map some).length then some (-1) else _) = _
  rw [if_neg (by simp only [vts, List.length_map]; omega), e0]
  show (if (vrow ts[0]).length < 1 ∨ 12 < (vrow ts[0]).length then some 0 else _) = _
  rw [if_neg (by omega), find_none fun j y _ hy => ?_]; rfl
  rw [vts, List.map_map, List.getElem?_map] at hy
  cases e : ts[j]? with
  | none => rw [e] at hy; cases hy
  | some t =>
    rw [e] at hy
    obtain rfl : some (vrow t) = y := Option.some.inj hy
    obtain ⟨r1, r2⟩ := w.row t (List.mem_of_getElem? e)
    rw [el, isTab_row r1 r2]; rfl
theorem mkS {H H' : Hp} {m dx : Addr} {o1 o2 : HO} (hm : H m = none) (hd : H dx = none) (k : ∀ b u, (upd (upd H dx o1) m o2) b = some u → b ≠ m → H' b = some u) : Same H H' := fun c o e =>
  k c o (by rw [upd_ne (ne_of_none e hm), upd_ne (ne_of_none e hd)]; exact e) (ne_of_none e hm)
theorem TabL.row {H : Hp} {p : Addr} {ts : Ts} (h : TabL H p (vts ts)) {i : Nat} {t : List Int} (e : ts[i]? = some t) : ∃ (as : List Addr) (a : Addr), H p = some (.lst (as.map V.ref)) ∧ as.length = ts.length ∧ as[i]? = some a ∧ H a = some (.tup (vrow t)) := by
  obtain ⟨as, h1, h2, h3⟩ := h
  have la : as.length = ts.length := by rw [h2, vts, List.length_map]
  have hi : i < as.length := by rw [la]; exact (List.getElem?_eq_some_iff.mp e).1
  exact ⟨as, as[i], h1, la, List.getElem?_eq_getElem hi, h3 i _ _ (List.getElem?_eq_getElem hi) (by rw [vts, List.getElem?_map, e]; rfl)⟩
theorem map_some : ∀ {a b : List (List V)}, a.map some = b.map some → a = b
  | [], [], _ => rfl
  | [], _ :: _, h => by cases h
  | _ :: _, [], h => by cases h
  | x :: a, y :: b, h => by
    rw [List.map_cons, List.map_cons] at h
    injection h with h1 h2
    rw [Option.some.inj h1, map_some h2]
theorem kindsR {K : PySem.W.Frag} {H : Hp} {row : List Int} : ∀ ys, some (vrow row) = some ys → Kinds K H ys := fun ys e y hy => by
  obtain rfl := Option.some.inj e
  obtain ⟨j, _, rfl⟩ := List.mem_map.mp hy
  exact ⟨_, .int j⟩
/-- tables as lists of lists -/
def TabLL (H : Hp) (p : Addr) (ts : List (List V)) : Prop := ∃ as : List Addr, H p = some (.lst (as.map V.ref)) ∧ as.length = ts.length ∧ ∀ (i : Nat) a t, as[i]? = some a → ts[i]? = some t → H a = some (.lst t)
theorem TabLL.same {H H' : Hp} {p : Addr} {ts : List (List V)} (h : TabLL H p ts) (s : Same H H') : TabLL H' p ts := let ⟨as, h1, h2, h3⟩ := h; ⟨as, s _ _ h1, h2, fun i a t e1 e2 => s _ _ (h3 i a t e1 e2)⟩
theorem TabLL.mv {K : PySem.W.Frag} {H : Hp} {p : Addr} {ts : Ts} (h : TabLL H p (vts ts)) : Mv K H (.ref p) (some ((vts ts).map some)) := by
  obtain ⟨as, h1, h2, h3⟩ := h
  refine .yes (xs := as.map V.ref) (.lst h1) ⟨by rw [List.length_map, List.length_map, h2], fun i x r e1 e2 => ?_⟩
  rw [List.getElem?_map] at e1 e2
  cases ea : as[i]? with
  | none => rw [ea] at e1; cases e1
  | some a =>
    cases et : (vts ts)[i]? with
    | none => rw [et] at e2; cases e2
    | some t =>
      rw [ea] at e1
      rw [et] at e2
      obtain rfl : V.ref a = x := Option.some.inj e1
      obtain rfl : some t = r := Option.some.inj e2
      refine ⟨.lst (h3 i a t ea et), fun ys e y hy => ?_⟩
      obtain rfl : t = ys := Option.some.inj e
      rw [vts, List.getElem?_map] at et
      cases e3 : ts[i]? with
      | none => rw [e3] at et; cases et
      | some t' =>
        rw [e3] at et
        obtain rfl : vrow t' = t := Option.some.inj et
        obtain ⟨j, _, rfl⟩ := List.mem_map.mp hy
        exact ⟨_, .int j⟩
theorem MapsAt.rl {b q : Addr} {T : List (Addr × Str)} {H H1 : Hp} {F : List KR} (h : MapsAt H q F) (hb : BoxO H b) (n : q ≠ b) (r : Rl b T H H1) : MapsAt H1 q F :=
  let ⟨as, h1, h2, h3⟩ := h
  ⟨as, r.lst n h1, h2, fun i a x y e1 e2 => let ⟨c, d, g1, g2, g3⟩ := h3 i a x y e1 e2; ⟨c, d, r.tup hb g1, r.tup hb g2, r.tup hb g3⟩⟩
/-! ### what is no state -/
def OddV (n : Int) (H : Hp) (v : V) : Prop := v ∈ [V.int n, .int (-1), .non, .bl true, .str "0"] ∨ ∃ p, v = .ref p ∧ H p = some (.tup [.int 0])
theorem OddV.keep {n : Int} {H H' : Hp} {v : V} (o : OddV n H v) (k : ∀ p xs, H p = some (.tup xs) → H' p = some (.tup xs)) : OddV n H' v := o.elim .inl fun ⟨p, e, h⟩ => .inr ⟨p, e, k _ _ h⟩
theorem OddV.bad {n : Int} {H : Hp} {v : V} (o : OddV n H v) : belowB v n = false := by
  rcases o with o | ⟨p, rfl, _⟩
  · simp only [List.mem_cons, List.mem_nil_iff, or_false] at o
    rcases o with rfl | rfl | rfl | rfl | rfl
    · show (decide (0 ≤ n) && decide (n < n)) = false
      rw [decide_eq_false (show ¬ n < n by omega), Bool.and_false]
    all_goals rfl
  · rfl
theorem OddV.kv {n : Int} {H : Hp} {v : V} (o : OddV n H v) (K : PySem.W.Frag) : ∃ (K' : PySem.W.Frag) (o : Option (List V)), KV K' H v o := by
  rcases o with o | ⟨p, rfl, h⟩
  · simp only [List.mem_cons, List.mem_nil_iff, or_false] at o
    rcases o with rfl | rfl | rfl | rfl | rfl
    · exact ⟨K, _, .int _⟩
    · exact ⟨K, _, .int _⟩
    · exact ⟨K, _, .non⟩
    · exact ⟨K, _, .bl _⟩
    · exact ⟨K, _, .str _⟩
  · exact ⟨K, _, .tup h⟩
theorem tx_ok : ∀ i : Fin 13, PyData.strOk (Str.ofString (toString ((i : Nat) : Int))) = true := by decide +kernel
theorem tx_lim {lim : Int} (h0 : 0 ≤ lim) (h1 : lim ≤ 12) : PyData.strOk (Str.ofString (toString lim)) = true := by
  have z := tx_ok ⟨lim.toNat, by omega⟩
  have e : ((lim.toNat : Nat) : Int) = lim := by omega
  simp only [e] at z
  exact z
theorem log_sm {i : Int} (h1 : i.natAbs ≤ 1000) : i.natAbs.log2 < 1920 := by
  by_cases z : i.natAbs = 0
  · rw [z]; decide
  · have : i.natAbs.log2 < 10 := (Nat.log2_lt z).mpr (by omega)
    omega
theorem OddV.txt {n : Int} {H : Hp} {v : V} (K : PySem.W.Frag) (h0 : 0 ≤ n) (h1 : n ≤ 12) (o : OddV n H v) : ∃ x, PyData.strOk x = true ∧ ∀ (H' : Hp) (Q : VK), OddV n H' v → Q (.str x) H' → rReprS [v] H' Q ∨ rRepr K [v] H' Q := by
  rcases o with o | ⟨p, rfl, h⟩
  · simp only [List.mem_cons, List.mem_nil_iff, or_false] at o
    rcases o with rfl | rfl | rfl | rfl | rfl
    · exact ⟨toString n, tx_lim h0 h1, fun H' Q _ q => .inl ⟨_, rfl, .inr (.inr (.inl ⟨n, rfl, log_sm (by omega), q⟩))⟩⟩
    · exact ⟨toString (-1 : Int), by decide +kernel, fun H' Q _ q => .inl ⟨_, rfl, .inr (.inr (.inl ⟨-1, rfl, log_sm (by decide), q⟩))⟩⟩
    · exact ⟨"None", by decide +kernel, fun H' Q _ q => .inl ⟨_, rfl, .inl ⟨rfl, q⟩⟩⟩
    · exact ⟨"True", by decide +kernel, fun H' Q _ q => .inl ⟨_, rfl, .inr (.inl ⟨true, rfl, q⟩)⟩⟩
    · exact ⟨reprText "0", by decide +kernel, fun H' Q _ q => .inl ⟨_, rfl, .inr (.inr (.inr ⟨"0", rfl, by decide +kernel, q⟩))⟩⟩
  · refine ⟨(PyData.tuple (dI [0])).shown, by decide +kernel, fun H' Q o q => ?_⟩
    rcases o with o | ⟨p', e, h'⟩
    · simp at o
    · injection e with e
      subst e
      exact .inr (reprP (dp_tup (t := [0]) h') (pl_row (r := [0]) (by decide) (fun x hx => by rw [List.mem_singleton.mp hx]; decide)) (by decide) (by decide) q)
theorem ear {K : PySem.W.Frag} {Q : VK} {p p2 : Addr} {H : Hp} {vs : List V} {ds : List PyData} (h1 : H p = some (.tup vs)) (h2 : H p2 = some (.tup vs)) (hd : DpAll K H vs ds) (lay : PyData.canLay0 (.tuple ds) = true) (sh : SeqAt.shaped (.tuple ds) = true) (q : Q (.bl false) H) : rNeD K (.ref p) (.ref p2) H Q :=
  ⟨_, _, .tup (SqT.of h1) hd, .tup (SqT.of h2) hd, sh, sh, qbl (by rw [SeqAt.eqv_refl _ lay]; rfl) q⟩
theorem earS {K : PySem.W.Frag} {Q : VK} {p p2 : Addr} {H : Hp} {y x : Str} {b : Bool} (hy : PyData.strOk y = true) (hx : PyData.strOk x = true) (h1 : H p = some (.tup [.str y, .str x, .bl b])) (h2 : H p2 = some (.tup [.str y, .str x, .bl b])) (q : Q (.bl false) H) : rNeD K (.ref p) (.ref p2) H Q := by
  have lay : PyData.canLay0 (.tuple [.str y, .str x, .bool b]) = true := by simp only [PyData.canLay0, PyData.canLayAll0, Bool.and_self, hx, hy]
  have sh : SeqAt.shaped (.tuple [.str y, .str x, .bool b]) = true := by
    unfold SeqAt.shaped
    rw [lay]
    simp only [PyData.depth, PyData.depthAll]
    exact (by decide : (true && decide (max 0 (max 0 (max 0 0)) + 1 ≤ 64)) = true)
  exact ear h1 h2 (.cons (.str y) (.cons (.str x) (.cons (.bl b) .nil))) lay sh q
theorem earSI {K : PySem.W.Frag} {Q : VK} {p p2 : Addr} {H : Hp} {x : Str} {i : Int} (hx : PyData.strOk x = true) (h1 : H p = some (.tup [.str x, .int i])) (h2 : H p2 = some (.tup [.str x, .int i])) (q : Q (.bl false) H) : rNeD K (.ref p) (.ref p2) H Q := by
  have lay : PyData.canLay0 (.tuple [.str x, .int i]) = true := by simp only [PyData.canLay0, PyData.canLayAll0, Bool.and_self, hx]
  have sh : SeqAt.shaped (.tuple [.str x, .int i]) = true := by
    unfold SeqAt.shaped
    rw [lay]
    simp only [PyData.depth, PyData.depthAll]
    exact (by decide : (true && decide (max 0 (max 0 0) + 1 ≤ 64)) = true)
  exact ear h1 h2 (.cons (.str x) (.cons (.int i) .nil)) lay sh q
theorem sqL_rl {K : PySem.W.Frag} {H H1 H2 : Hp} {a b : Addr} {T : List (Addr × Str)} {xs : List V} (h : SqL K H a xs) (hb : H b = none) (s : Same H H1) (r : Rl b T H1 H2) : SqL K H2 a xs := by
  rcases h with (h | ⟨ob, h⟩) | h
  · exact .inl (.inl (r.2.2 _ _ (s _ _ h) (ne_of_none h hb) fun ps z => by cases z))
  · exact .inl (.inr ⟨ob, r.2.2 _ _ (s _ _ h) (ne_of_none h hb) fun ps z => by cases z⟩)
  · exact .inr h
theorem sqL_same {K : PySem.W.Frag} {H H1 : Hp} {a : Addr} {xs : List V} (h : SqL K H a xs) (s : Same H H1) : SqL K H1 a xs := by
  rcases h with (h | ⟨ob, h⟩) | h
  · exact .inl (.inl (s _ _ h))
  · exact .inl (.inr ⟨ob, s _ _ h⟩)
  · exact .inr h
theorem same_bx {H1 H2 H3 : Hp} {b : Addr} (s : Same H1 H2) (hb : H1 b = none) (x : Bx b H2 H3) : Same H1 H3 := fun c o e => x.2 _ _ (s c o e) (ne_of_none e hb)
end K1
namespace K1
open PySem PySem.Spec PyProof.Rows L2
/-- the asks made so far -/
structure AskS (X : Cx) (T : List (Addr × Str)) (H0 : Hp) (la : Addr) (n : Nat) (fs cs : List Addr) (H : Hp) : Prop where
  fr : ∀ b o, H0 b = some o → (∀ ps, o ≠ .tbl ps) → b ≠ la
  eN : LamX.ExtN H0 H
  tb : LamX.Tabs T H
  li : H la = some (.lst (fs.map V.ref))
  lf : fs.length = n
  lc : cs.length = n
  at_ : ∀ (k : Nat) f c, fs[k]? = some f → cs[k]? = some c → H f = some (LamO f c qUR (clU X k) (lamP (lamU k)) (lamB (lamU k)) (lamS (lamU k))) ∧ H c = some (LamX.CodeO c qUR)
theorem lamO_lst {f c : Addr} {q : Str} {cl : List (Str × Addr)} {params : Arguments} {body : Expr} {scope : Scope} (xs : List V) : LamO f c q cl params body scope ≠ .lst xs := fun z => by
  unfold LamO at z
  cases z
theorem codeO_lst {c : Addr} {q : Str} (xs : List V) : LamX.CodeO c q ≠ .lst xs := fun z => by
  unfold LamX.CodeO at z
  cases z
theorem tabs_upd {T : List (Addr × Str)} {H : Hp} {la : Addr} {xs ys : List V} (t : LamX.Tabs T H) (hl : H la = some (.lst xs)) : LamX.Tabs T (upd H la (.lst ys)) := fun p hp => by
  obtain ⟨ps, h1, h2, h3⟩ := t p hp
  refine ⟨ps, by rw [upd_ne (ne_of h1 hl (by intro z; cases z))]; exact h1, h2, fun pos cv hc => ?_⟩
  obtain ⟨c, e1, e2⟩ := h3 pos cv hc
  exact ⟨c, e1, by rw [upd_ne (ne_of e2 hl (codeO_lst xs))]; exact e2⟩
theorem AskS.snoc {X : Cx} {T : List (Addr × Str)} {H0 H H1 : Hp} {la f c : Addr} {n : Nat} {fs cs : List Addr} (a : AskS X T H0 la n fs cs H) (eN : LamX.ExtN H H1) (t1 : LamX.Tabs T H1) (hf : H1 f = some (LamO f c qUR (clU X n) (lamP (lamU n)) (lamB (lamU n)) (lamS (lamU n)))) (hc : H1 c = some (LamX.CodeO c qUR)) :
    AskS X T H0 la (n + 1) (fs ++ [f]) (cs ++ [c]) (upd H1 la (.lst (fs.map V.ref ++ [.ref f]))) := by
  have h1 : H1 la = some (.lst (fs.map V.ref)) := eN _ _ a.li (fun ps z => by cases z)
  refine ⟨a.fr, fun b o e n => ?_, tabs_upd t1 h1, by rw [upd_same, List.map_append]; rfl, by rw [List.length_append, a.lf]; rfl, by rw [List.length_append, a.lc]; rfl, fun k g d e1 e2 => ?_⟩
  · rw [upd_ne (a.fr b o e n)]
    exact eN _ _ (a.eN _ _ e n) n
  · by_cases hk : k < n
    · rw [List.getElem?_append_left (by rw [a.lf]; exact hk)] at e1
      rw [List.getElem?_append_left (by rw [a.lc]; exact hk)] at e2
      obtain ⟨g1, g2⟩ := a.at_ k g d e1 e2
      have g1' := eN _ _ g1 lamO_ne
      have g2' := eN _ _ g2 LamX.codeO_ne
      exact ⟨by rw [upd_ne (ne_of g1' h1 (lamO_lst _))]; exact g1', by rw [upd_ne (ne_of g2' h1 (codeO_lst _))]; exact g2'⟩
    · have hkn : k = n := by
        have := (List.getElem?_eq_some_iff.mp e1).1
        rw [List.length_append, a.lf] at this
        have : k < n + 1 := this
        omega
      subst hkn
      rw [← a.lf, List.getElem?_append_right (Nat.le_refl _), Nat.sub_self] at e1
      rw [← a.lc, List.getElem?_append_right (Nat.le_refl _), Nat.sub_self] at e2
      cases e1
      cases e2
      exact ⟨by rw [upd_ne (ne_of hf h1 (lamO_lst _))]; exact hf, by rw [upd_ne (ne_of hc h1 (codeO_lst _))]; exact hc⟩
theorem MachAt.extN {M m ta : Addr} {H H' : Hp} {ts : List (List V)} (h : MachAt M H m ta ts) (e : LamX.ExtN H H') : MachAt M H' m ta ts :=
  let ⟨⟨dx, t0, h0, h1⟩, as, k1, k2, k3⟩ := h
  ⟨⟨dx, t0, h0, e _ _ h1 fun ps z => (by cases z)⟩, as, e _ _ k1 (fun ps z => by cases z), k2, fun i b t e1 e2 => e _ _ (k3 i b t e1 e2) fun ps z => by cases z⟩
theorem AskS.same {X : Cx} {T : List (Addr × Str)} {H0 H H1 : Hp} {la : Addr} {n : Nat} {fs cs : List Addr} (a : AskS X T H0 la n fs cs H) (s : Same H H1) : AskS X T H0 la n fs cs H1 :=
  ⟨a.fr, fun b o e n => s _ _ (a.eN b o e n), a.tb.ext s, s _ _ a.li, a.lf, a.lc, fun k f c e1 e2 => let ⟨g1, g2⟩ := a.at_ k f c e1 e2; ⟨s _ _ g1, s _ _ g2⟩⟩
theorem st_ref : PyData.strOk "refused" = true := by decide +kernel
section
variable {P : Program} {w : World} {K : PySem.W.Frag} {mg : Str → Option Value} {base : Heap}
theorem ok_untR {f c CR CS CU M Pt : Addr} {fd : FuncData} {T : List (Addr × Str)} {fO fX fG fI fT : Addr} {fdO fdX fdG fdI fdT : FuncData} (F : FunC K "_law_untelling_right" "_law_untelling_right" sUntR f fd (.ref c)) (TB : LamX.TabB base mg c Pt) (hmT : (Pt, qUR) ∈ T) (hun : ∀ p ∈ T, p.1 = Pt → p.2 = qUR) (B : Bt mg) (hd : Hd K mg base CR CS)
    (DO : Df K mg "orbit_table" sOTab ["machine", "state"] fO fdO) (GO : FnOk P w K mg base (L2.CX P w) 8 fO fdO ["machine", "state"] (spOTab M CS CR)) (DX : Df K mg "is_exchanging" sIsEx ["machine", "state"] fX fdX) (GX : FnOk P w K mg base (L2.CX P w) 9 fX fdX ["machine", "state"] (spIsEx M CS CR))
    (DG : Df K mg "group_paper" sGPap ["machine", "state"] fG fdG) (GG : FnOk P w K mg base (L2.CX P w) 8 fG fdG ["machine", "state"] (spGPap M CS CR)) (DI : Df K mg "inverse_of" sInv ["machine", "state", "one"] fI fdI) (GI : FnOk P w K mg base (L2.CX P w) 8 fI fdI ["machine", "state", "one"] (spInv M CS CR))
    (DT : Df K mg "turned_join" sTJoin ["machine", "state", "archive", "here", "there"] fT fdT) (GT : FnOk P w K mg base (L2.CX P w) 9 fT fdT ["machine", "state", "archive", "here", "there"] (spTJoin M CS CR)) :
    FnG P w K mg base 13 f fd ["_law_machine", "_law_state"] (spUntR M T) := by
  refine F.okG scUR (fun vs H Q E h => ?_) (fun A outer s H vs Q E hr hgd h => ?_)
  · obtain ⟨m, st, ta, ts, rfl, _⟩ := h
    rfl
  · obtain ⟨m, st, ta, ts, rfl, hW, hM, hst, nt, hT, qq⟩ := h
    have hu : (A.deeper (envOfC "_law_untelling_right" (defScope sUntR) s.heap.objs.size f (.ref c))).units + 64 < cLine := hr.units
    obtain ⟨t0, t1, t2, t3, t4, hrd, q0, q1, q2, q3, q4⟩ := ur_heard (P := P) (w := w) (K := K) (mg := mg) (base := base) (f := f) (c := c) (CU := CU) (A := A) (outer := outer) (s := s) (H₀ := H) (E₀ := E) hr hgd hd DO GO DX GX DG GG DI GI DT GT
    have lam := fun (k : Nat) (ps : Pos) => pe_lamC (pos := ps) (X := cxU P w K mg base f c A outer s H E) (qn := qUR) (T := T) (params := lamP (lamU k)) (body := lamB (lamU k)) (scope := lamS (lamU k)) TB rfl rfl hmT hun
    refine ⟨_, pss_cons (ps_set (i := 2) scUR.nd rfl (.inl rfl) (pe_lst (pa_cons (lam 0 _ rfl (LamX.lamS_by (by rfl))) pa_nil)))
      (pss_cons (ps_expr (pe_bm PySem.F.plainAttrs_list PySem.F.slot_list_append PySem.F.type_list_append mt_append (pv 2) (pa_cons (lam 1 _ rfl (LamX.lamS_by (by rfl))) pa_nil)))
      (pss_cons (ps_expr (pe_bm PySem.F.plainAttrs_list PySem.F.slot_list_append PySem.F.type_list_append mt_append (pv 2) (pa_cons (lam 2 _ rfl (LamX.lamS_by (by rfl))) pa_nil)))
      (pss_cons (ps_expr (pe_bm PySem.F.plainAttrs_list PySem.F.slot_list_append PySem.F.type_list_append mt_append (pv 2) (pa_cons (lam 3 _ rfl (LamX.lamS_by (by rfl))) pa_nil)))
      (pss_cons (ps_expr (pe_bm PySem.F.plainAttrs_list PySem.F.slot_list_append PySem.F.type_list_append mt_append (pv 2) (pa_cons (lam 4 _ rfl (LamX.lamS_by (by rfl))) pa_nil)))
      (pss_one (ps_ret (pe_cmpR (op_eqD hu) (pe_lcI (own := [("_law_ask", 3)]) (g := gName 3) rfl scUR.nd (piL (K := K) rfl (pv 2)) (blkOk_by (N := nUR) (sc := defScope sUntR) (by decide +kernel)) (fun _ _ _ _ _ => pg_name (i := 3) scUR.nd rfl (Or.inl rfl))
          (fun pins σ s0 H0 C cl fp bk => pts_one (pt_cmpR (neDK (K := K) rfl hu) (hrd pins σ s0 H0 C cl fp bk) (pe_tup (pa_cons pe_str (pa_cons (pe_callB call_reprS (by rfl) B.repr (by decide +kernel) (pa_cons (pv 1) pa_nil)) (pa_cons pe_bl pa_nil)))) (nomark _)))
          (fun _ _ _ _ _ => pv 3)) (pe_lst pa_nil) (nomark _)))))))), ?_⟩


    refine ⟨hT, fun f0 c0 H1 eN t1' h0 hf hc => ⟨(by show 1 ≤ sizeLine; decide), fun la hla => ?_⟩⟩
    refine gn ?_
    dsimp only [List.set]
    have nl : ∀ b o, H b = some o → (∀ ps, o ≠ .tbl ps) → b ≠ la := fun b o e n => ne_of_none (eN b o e n) hla
    have a1 : AskS (cxU P w K mg base f c A outer s H E) T H la 1 [f0] [c0] (upd H1 la (.lst [.ref f0])) := by
      refine ⟨nl, fun b o e n => by rw [upd_ne (nl b o e n)]; exact eN b o e n, t1'.ext (same_new hla), upd_same, rfl, rfl, fun k g d e1 e2 => ?_⟩
      cases k with
      | zero =>
        cases e1
        cases e2
        exact ⟨(same_new hla) _ _ hf, (same_new hla) _ _ hc⟩
      | succ k => cases e1
    clear h0 hf hc t1' eN
    generalize upd H1 la (.lst [V.ref f0]) = G1 at a1 ⊢
    refine ⟨_, rfl, .inl ⟨rfl, _, SqL.of a1.li⟩, a1.tb, fun f1 c1 H2 e2 t2' _ hf hc => ⟨la, _, _, rfl, rfl, e2 _ _ a1.li (fun ps z => by cases z), (by show 1 < sizeLine; decide), ?_⟩⟩
    have a2 := a1.snoc e2 t2' hf hc
    clear hf hc t2' e2
    generalize upd H2 la (.lst (List.map V.ref [f0] ++ [V.ref f1])) = G2 at a2 ⊢
    refine ⟨_, rfl, .inl ⟨rfl, _, SqL.of a2.li⟩, a2.tb, fun f2 c2 H3 e3 t3' _ hf hc => ⟨la, _, _, rfl, rfl, e3 _ _ a2.li (fun ps z => by cases z), (by show 2 < sizeLine; decide), ?_⟩⟩
    have a3 := a2.snoc e3 t3' hf hc
    clear hf hc t3' e3
    generalize upd H3 la _ = G3 at a3 ⊢
    refine ⟨_, rfl, .inl ⟨rfl, _, SqL.of a3.li⟩, a3.tb, fun f3 c3 H4 e4 t4' _ hf hc => ⟨la, _, _, rfl, rfl, e4 _ _ a3.li (fun ps z => by cases z), (by show 3 < sizeLine; decide), ?_⟩⟩
    have a4 := a3.snoc e4 t4' hf hc
    clear hf hc t4' e4
    generalize upd H4 la _ = G4 at a4 ⊢
    refine ⟨_, rfl, .inl ⟨rfl, _, SqL.of a4.li⟩, a4.tb, fun f4 c4 H5 e5 t5' _ hf hc => ⟨la, _, _, rfl, rfl, e5 _ _ a4.li (fun ps z => by cases z), (by show 4 < sizeLine; decide), ?_⟩⟩
    have a5 := a4.snoc e5 t5' hf hc
    clear hf hc t5' e5
    generalize upd H5 la _ = G5 at a5 ⊢
    have st12 : st.natAbs ≤ 1000 := by
      have := hW.s12
      omega
    have stx : PyData.strOk (toString st) = true := tx_lim (by omega) (by have := hW.s12; omega)
    refine ⟨_, rfl, la, rfl, ⟨_, SqL.of a5.li⟩, fun D0 hD0 => lc_list (K := K) (a := la) (xs := [f0, f1, f2, f3, f4].map V.ref) (fun i H' => Same G5 H' ∧ H' D0 = some (.lst [])) ⟨same_new hD0, upd_same⟩ (fun i H' _ ⟨sm, _⟩ => SqL.of ((a5.same sm).li)) ?_ ?_⟩
    · rintro i z H6 hz ⟨s6, hD6⟩
      have a6 := a5.same s6
      refine ⟨rfl, ?_⟩
      have key : ∀ (Qc : VK), (∀ p G, Same H6 G → G p = some (.tup [.str "refused", .str (toString st), .bl true]) → Qc (.ref p) G) → ∀ H', Same H6 H' → Rz CR "at" (.int st) H' (HE K CR CS Qc) := fun Qc qc H' sm d H'' s2 _ hx =>
        ⟨d, rfl, .inl ⟨rfl, .int st, hx, toString st, fun H3 Q3 s3 q3 => .inl ⟨_, rfl, .inr (.inr (.inl ⟨st, rfl, log_sm st12, q3⟩))⟩, fun p H3 s3 hp => qc p H3 (sm.trans (s2.trans s3)) hp⟩⟩
      have hM6 : MachAt M H6 m ta (vts ts) := hM.extN a6.eN
      have bI := belowI hst
      have kI : ∃ (K' : PySem.W.Frag) (o : Option (List V)), KV K' H6 (.int st) o := ⟨K, _, .int _⟩
      have kN : ∃ (K' : PySem.W.Frag) (o : Option (List V)), KV K' H6 .non o := ⟨K, _, .non⟩
      match i, hz with
      | 0, hz =>
        cases hz
        obtain ⟨gf, gc⟩ := a6.at_ 0 f0 c0 rfl rfl
        refine .inl ⟨f0, c0, rfl, gc, gf, q0 _ _ _ _ _ _ ⟨m, ta, ts, _, rfl, hM6, hW, kI, fun e => (by rw [bI] at e; cases e), fun s' e _ => ?_⟩⟩
        injection e with e
        subst e
        refine ⟨fun _ => key _ fun p G sg hp => ?_, fun te => absurd te nt⟩
        exact ⟨_, rfl, ⟨_, rfl, .inr (.inr (.inl ⟨st, rfl, log_sm st12, (by show 3 ≤ sizeLine; decide), fun p2 hp2 => earS st_ref stx ((same_new hp2) _ _ hp) upd_same ⟨_, rfl, iteF ⟨(s6.trans sg).trans (same_new hp2), (same_new hp2) _ _ (sg _ _ hD6)⟩⟩⟩))⟩⟩
      | 1, hz =>
        cases hz
        obtain ⟨gf, gc⟩ := a6.at_ 1 f1 c1 rfl rfl
        refine .inr (.inl ⟨f1, c1, rfl, gc, gf, q1 _ _ _ _ _ _ ⟨m, ta, ts, _, rfl, hM6, hW, kI, fun e => (by rw [bI] at e; cases e), fun s' e _ => ?_⟩⟩)
        injection e with e
        subst e
        refine ⟨fun _ => key _ fun p G sg hp => ?_, fun te => absurd te nt⟩
        exact ⟨_, rfl, ⟨_, rfl, .inr (.inr (.inl ⟨st, rfl, log_sm st12, (by show 3 ≤ sizeLine; decide), fun p2 hp2 => earS st_ref stx ((same_new hp2) _ _ hp) upd_same ⟨_, rfl, iteF ⟨(s6.trans sg).trans (same_new hp2), (same_new hp2) _ _ (sg _ _ hD6)⟩⟩⟩))⟩⟩
      | 2, hz =>
        cases hz
        obtain ⟨gf, gc⟩ := a6.at_ 2 f2 c2 rfl rfl
        refine .inr (.inr (.inl ⟨f2, c2, rfl, gc, gf, q2 _ _ _ _ _ _ ⟨m, ta, ts, _, rfl, hM6, hW, kI, fun e => (by rw [bI] at e; cases e), fun s' e _ => ?_⟩⟩))
        injection e with e
        subst e
        refine ⟨fun _ => key _ fun p G sg hp => ?_, fun te => absurd te nt⟩
        exact ⟨_, rfl, ⟨_, rfl, .inr (.inr (.inl ⟨st, rfl, log_sm st12, (by show 3 ≤ sizeLine; decide), fun p2 hp2 => earS st_ref stx ((same_new hp2) _ _ hp) upd_same ⟨_, rfl, iteF ⟨(s6.trans sg).trans (same_new hp2), (same_new hp2) _ _ (sg _ _ hD6)⟩⟩⟩))⟩⟩
      | 3, hz =>
        cases hz
        obtain ⟨gf, gc⟩ := a6.at_ 3 f3 c3 rfl rfl
        refine .inr (.inr (.inr (.inl ⟨f3, c3, rfl, gc, gf, q3 _ _ _ _ _ _ ⟨m, ta, ts, _, _, rfl, hM6, hW, kI, kN, fun e => (by rw [bI] at e; cases e), fun s' e _ => ?_⟩⟩)))
        injection e with e
        subst e
        refine ⟨fun _ => key _ fun p G sg hp => ?_, fun te => absurd te nt⟩
        exact ⟨_, rfl, ⟨_, rfl, .inr (.inr (.inl ⟨st, rfl, log_sm st12, (by show 3 ≤ sizeLine; decide), fun p2 hp2 => earS st_ref stx ((same_new hp2) _ _ hp) upd_same ⟨_, rfl, iteF ⟨(s6.trans sg).trans (same_new hp2), (same_new hp2) _ _ (sg _ _ hD6)⟩⟩⟩))⟩⟩
      | 4, hz =>
        cases hz
        obtain ⟨gf, gc⟩ := a6.at_ 4 f4 c4 rfl rfl
        refine .inr (.inr (.inr (.inr ⟨f4, c4, rfl, gc, gf, q4 _ _ _ _ _ _ ⟨m, ta, ts, _, _, _, _, rfl, hM6, hW, kI, kN, fun e => (by rw [bI] at e; cases e), fun s' e _ => ?_⟩⟩)))
        injection e with e
        subst e
        refine ⟨fun _ => key _ fun p G sg hp => ?_, fun te => absurd te nt⟩
        exact ⟨_, rfl, ⟨_, rfl, .inr (.inr (.inl ⟨st, rfl, log_sm st12, (by show 3 ≤ sizeLine; decide), fun p2 hp2 => earS st_ref stx ((same_new hp2) _ _ hp) upd_same ⟨_, rfl, iteF ⟨(s6.trans sg).trans (same_new hp2), (same_new hp2) _ _ (sg _ _ hD6)⟩⟩⟩))⟩⟩
      | i + 5, hz => cases hz
    · rintro H6 ⟨s6, hD6⟩
      refine ⟨(by show 0 ≤ sizeLine; decide), fun l hl => ?_⟩
      have sl := same_new (o := HO.lst []) hl
      refine ⟨.list [], .list [], .lst (SqL.of (sl _ _ hD6)) .nil, .lst (SqL.of upd_same) .nil, by decide +kernel, by decide +kernel, qbl (by decide +kernel) (qq _ ?_ ?_)⟩
      · exact fun b o e n => sl _ _ (s6 _ _ (a5.eN b o e n))
      · exact (a5.tb.ext s6).ext sl
end
end K1
namespace K1
open PySem PySem.Spec PyProof.Rows L2
/-! ### ways back, by all maps -/
/-- where the maps that lead o to s lead s -/
def LB (F : List KR) (o s : Nat) (t : Int) : List Int := (F.filter fun e => decide (e.1.getD o 0 = t)).map fun e => e.1.getD s 0
section
variable {ts : Ts} {F : List KR} {s o : Int}
theorem back_one (te : Tells ts s) {x y : Int} (hx : Back ts s o x) (hy : Back ts s o y) : x = y := by
  obtain ⟨q, hq, e1, e2⟩ := (back_iff te hx.1).mp hx
  obtain ⟨r, hr, e3, e4⟩ := (back_iff te hy.1).mp hy
  have told := tells_all.mp te o hx.1
  rw [← e2, ← e4]
  exact told s ⟨q, hq, e1⟩ q r hq hr (e1.trans e3.symm)
theorem lb_mem (hF : Fst (actL ts) ts.length (idL (nS ts)) F) (hs : 0 ≤ s ∧ s < (nS ts : Int)) (ho : 0 ≤ o ∧ o < (nS ts : Int)) (x : Int) : x ∈ LB F o.toNat s.toNat s ↔ ∃ r, VRow ts r ∧ run ts o r = s ∧ run ts s r = x := by
  constructor
  · intro hx
    obtain ⟨e, he, rfl⟩ := List.mem_map.mp hx
    obtain ⟨h1, h2⟩ := List.mem_filter.mp he
    have h2 := of_decide_eq_true h2
    rw [map_at hF h1 ho] at h2
    exact ⟨e.2, (hF.mem h1).2.1, h2, (map_at hF h1 hs).symm⟩
  · rintro ⟨r, hr, e1, rfl⟩
    obtain ⟨j, r', hj, _⟩ := hF.all r hr
    refine List.mem_map.mpr ⟨_, List.mem_filter.mpr ⟨List.mem_of_getElem? hj, decide_eq_true ?_⟩, ?_⟩
    · show (path (actL ts) (idL (nS ts)) r).getD o.toNat 0 = s
      rw [idL_to ho.1 ho.2]
      exact e1
    · show (path (actL ts) (idL (nS ts)) r).getD s.toNat 0 = _
      rw [idL_to hs.1 hs.2]
theorem lb_back (te : Tells ts s) (hF : Fst (actL ts) ts.length (idL (nS ts)) F) (hs : 0 ≤ s ∧ s < (nS ts : Int)) (ho : Rch ts s o) (hor : 0 ≤ o ∧ o < (nS ts : Int)) (x : Int) : x ∈ LB F o.toNat s.toNat s ↔ Back ts s o x := by rw [lb_mem hF hs hor x, back_iff te ho]
theorem lb_take {i : Nat} {e : KR} (h : F[i]? = some e) (o s : Nat) (t : Int) : LB (F.take (i + 1)) o s t = LB (F.take i) o s t ++ (if e.1.getD o 0 = t then [e.1.getD s 0] else []) := by
  rw [take_succ h]
  unfold LB
  rw [List.filter_append, List.map_append]
  congr 1
  by_cases c : e.1.getD o 0 = t
  · rw [if_pos c, List.filter_cons_of_pos (by simpa using c)]
    rfl
  · rw [if_neg c, List.filter_cons_of_neg (by simpa using c)]
    rfl
theorem lb_len (o s : Nat) (t : Int) (i : Nat) : (LB (F.take i) o s t).length ≤ i := by
  unfold LB
  rw [List.length_map]
  refine Nat.le_trans (List.length_filter_le _ _) ?_
  rw [List.length_take]
  exact Nat.min_le_left _ _
/-- there are as many maps as states where all states are of the orbit -/
theorem maps_many (te : Tells ts s) (hW : Wf ts) (hF : Fst (actL ts) ts.length (idL (nS ts)) F) (hs : 0 ≤ s ∧ s < (nS ts : Int)) (all : ∀ x, (0 ≤ x ∧ x < (nS ts : Int)) → Rch ts s x) : F.length = nS ts := by
  have nd : (thr F s.toNat).Nodup := by
    unfold thr
    refine List.pairwise_iff_getElem.mpr fun i j hi' hj' hij e => ?_
    have hj := hj'
    rw [List.length_map] at hj
    have hi : i < F.length := by omega
    rw [List.getElem_map, List.getElem_map] at e
    have m1 := List.getElem_mem hi
    have m2 := List.getElem_mem hj
    rw [map_at hF m1 hs, map_at hF m2 hs] at e
    have k1 := (hF.mem m1)
    have k2 := (hF.mem m2)
    have eq : F[i].1 = F[j].1 := by
      have l1 : F[i].1.length = nS ts := by rw [k1.1, path_run, List.length_map, idL, gL_len]
      have l2 : F[j].1.length = nS ts := by rw [k2.1, path_run, List.length_map, idL, gL_len]
      refine List.ext_getElem (l1.trans l2.symm) fun n h1 h2 => ?_
      have hn : 0 ≤ (n : Int) ∧ (n : Int) < (nS ts : Int) := by omega
      have a1 := map_at hF m1 hn
      have a2 := map_at hF m2 hn
      have told := tells_all.mp te s Rch.refl (n : Int) (all n hn) F[i].2 F[j].2 k1.2.1 k2.2.1 e
      rw [← told, ← a1] at a2
      have z : (n : Int).toNat = n := by omega
      rw [z, List.getD_eq_getElem?_getD, List.getD_eq_getElem?_getD, List.getElem?_eq_getElem h1, List.getElem?_eq_getElem h2] at a2
      exact a2.symm
    refine List.pairwise_iff_getElem.mp hF.nd i j (by rw [List.length_map]; exact hi) (by rw [List.length_map]; exact hj) hij ?_
    rw [List.getElem_map, List.getElem_map]
    exact eq
  have l1 : (thr F s.toNat).length = F.length := by rw [thr, List.length_map]
  have le1 : (thr F s.toNat).length ≤ nS ts := nodup_le _ _ nd fun x hx => ((thr_rch hF hs x).mp hx).rng hW hs
  have le2 := sub_len (a := idL (nS ts)) (b := thr F s.toNat) (by
    unfold idL gL
    refine List.pairwise_iff_getElem.mpr fun i j hi hj hij e => ?_
    rw [List.getElem_map, List.getElem_map, List.getElem_range, List.getElem_range] at e
    have e : (i : Int) = (j : Int) := e
    omega) fun x hx => by
      obtain ⟨z, hz, hz2, e⟩ := gL_mem hx
      have e : x = z := e
      rw [e]
      exact (thr_rch hF hs z).mpr (all z ⟨hz, hz2⟩)
  rw [idL, gL_len] at le2
  omega
end
end K1
namespace K1
open PySem PySem.Spec PyProof.Rows L2
abbrev qBR : Str := "_law_back_right.<locals>.<lambda>"
abbrev nBR : List Str := ["_law_box_here", "_law_maps_here", "_law_machine", "_law_state", "_law_orbit", "_law_one", "_law_lost", "_law_backs", "_law_due", "_law_here", "_law_there", "_law_ends_here", "_law_one_map", "_law_row"]
theorem scBR : FnScope nBR ["_law_box_here", "_law_maps_here", "_law_machine", "_law_state", "_law_orbit"] (defScope sBackR) := ⟨rfl, rfl, rfl, by decide +kernel, rfl, by decide +kernel, by decide +kernel⟩
abbrev sBTurn : List Stmt := bodyOf ((defBody sBackR).getD 4 (.Pass ⟨0, 0, 0, 0⟩))
theorem eqv_nil (r : List Int) : PyData.eqv (.list (dI r)) (.list []) = decide (r = []) := by
  simp only [PyData.eqv]
  exact eqvAll_ints r []
theorem eqNil {K : PySem.W.Frag} {H : Hp} {l e : Addr} {lots : List Int} {Q : VK} (hl : H l = some (.lst (lots.map V.int))) (he : H e = some (.lst [])) (h8 : ∀ x ∈ lots, 0 ≤ x ∧ x < 1000) (q : Q (.bl (decide (lots = []))) H) : rEqD K (.ref l) (.ref e) H Q :=
  ⟨.list (dI lots), .list [], .lst (SqL.of hl) (dp_ints lots), .lst (SqL.of he) .nil, (Pl.list (pla_ints lots fun i hi => by have := h8 i hi; omega)).shaped (by decide), (Pl.list PlA.nil).shaped (by decide), qbl (eqv_nil lots) q⟩
theorem neNil {K : PySem.W.Frag} {H : Hp} {l e : Addr} {lots : List Int} {Q : VK} (hl : H l = some (.lst (lots.map V.int))) (he : H e = some (.lst [])) (h8 : ∀ x ∈ lots, 0 ≤ x ∧ x < 1000) (q : Q (.bl (!decide (lots = []))) H) : rNeD K (.ref l) (.ref e) H Q :=
  ⟨.list (dI lots), .list [], .lst (SqL.of hl) (dp_ints lots), .lst (SqL.of he) .nil, (Pl.list (pla_ints lots fun i hi => by have := h8 i hi; omega)).shaped (by decide), (Pl.list PlA.nil).shaped (by decide), qbl (by rw [eqv_nil]) q⟩
theorem eqDK {X : Cx} {K : PySem.W.Frag} (h : X.K = K) (hu : X.A.units + 64 < cLine) : OpR X (compareOp .Eq) (rEqD K) := by
  subst h
  exact op_eqD hu
section
variable {K : PySem.W.Frag} {f : Addr} {fd : FuncData}
theorem kb_inv (F : Fun K "inverse_of" "inverse_of" sInv f fd) : KBn K fd ["machine", "state", "one"] 0 ["one", "state", "machine"] gR gRV := by
  obtain ⟨oc, od, kV, doc, pm, an, cdv, ct, osl, rfl, lk, hcd⟩ := F.ex
  refine ⟨fun s us ws _ h0 h1 => .of_eq ?_, fun _ r => r.reverse⟩
  match us, ws, h0, h1 with
  | [], [_, _, _], _, _ => rfl
theorem kb_tjoin (F : Fun K "turned_join" "turned_join" sTJoin f fd) : KBn K fd ["machine", "state", "archive", "here", "there"] 0 ["there", "here", "archive", "state", "machine"] gR gRV := by
  obtain ⟨oc, od, kV, doc, pm, an, cdv, ct, osl, rfl, lk, hcd⟩ := F.ex
  refine ⟨fun s us ws _ h0 h1 => .of_eq ?_, fun _ r => r.reverse⟩
  match us, ws, h0, h1 with
  | [], [_, _, _, _, _], _, _ => rfl
theorem kb_gpap (F : Fun K "group_paper" "group_paper" sGPap f fd) : KBn K fd ["machine", "state"] 0 ["state", "machine"] gR gRV := by
  obtain ⟨oc, od, kV, doc, pm, an, cdv, ct, osl, rfl, lk, hcd⟩ := F.ex
  refine ⟨fun s us ws _ h0 h1 => .of_eq ?_, fun _ r => r.reverse⟩
  match us, ws, h0, h1 with
  | [], [_, _], _, _ => rfl
end
theorem st_tld : PyData.strOk "told" = true := by decide +kernel
/-- the defs that _law_back_right calls -/
structure Db (P : Program) (w : World) (K : PySem.W.Frag) (mg : Str → Option Value) (base : Heap) (M CR CS CU : Addr) : Prop where
  B : Bt mg
  T : McT K mg M
  hd : Hd K mg base CR CS
  pick : ∃ f fd, Df K mg "_law_pick" sPick ["_law_box_here", "_law_some"] f fd ∧ FnOk P w K mg base CX0 2 f fd ["_law_box_here", "_law_some"] spPick
  ends : ∃ f fd, Df K mg "_law_ends" sLEnds ["_law_maps_here", "_law_archive", "_law_here"] f fd ∧ FnOk P w K mg base CX0 1 f fd ["_law_maps_here", "_law_archive", "_law_here"] spLEnds
  join : ∃ f fd, Df K mg "join" sJoin ["machine", "archive", "here", "there"] f fd ∧ FnOk P w K mg base (L2.CX P w) 5 f fd ["machine", "archive", "here", "there"] (spJoin M CS CU)
  gpap : ∃ f fd, Df K mg "group_paper" sGPap ["machine", "state"] f fd ∧ FnOk P w K mg base (L2.CX P w) 8 f fd ["machine", "state"] (spGPap M CS CR)
  inv : ∃ f fd, Df K mg "inverse_of" sInv ["machine", "state", "one"] f fd ∧ FnOk P w K mg base (L2.CX P w) 8 f fd ["machine", "state", "one"] (spInv M CS CR)
  tjoin : ∃ f fd, Df K mg "turned_join" sTJoin ["machine", "state", "archive", "here", "there"] f fd ∧ FnOk P w K mg base (L2.CX P w) 9 f fd ["machine", "state", "archive", "here", "there"] (spTJoin M CS CR)
section
variable {P : Program} {w : World} {K : PySem.W.Frag} {mg : Str → Option Value} {base : Heap}
theorem br_turn {f M CU CR CS c Pb : Addr} {T : List (Addr × Str)} {A : Around} {outer : List Env} {s : Shared} {H₀ : Hp} {E : XK} (hr : Room 11 (A.deeper (envOfC "_law_back_right" (defScope sBackR) s.heap.objs.size f (.ref c)))) (hgd : (A.deeper (envOfC "_law_back_right" (defScope sBackR) s.heap.objs.size f (.ref c))).guards = some [])
    (TB : LamX.TabB base mg c Pb) (hmT : (Pb, qBR) ∈ T) (hun : ∀ p ∈ T, p.1 = Pb → p.2 = qBR) (db : Db P w K mg base M CR CS CU) :
    ∃ t, PSs (cxOf CX0 P w K mg base nBR "_law_back_right" (defScope sBackR) f (.ref c) A outer s H₀ E).nox sBTurn t ∧
      ∀ (D : Ends) (H : Hp) (v5 v6 v7 v8 v9 v10 v11 v12 v13 : Option V) (b q m ta lo : Addr) (ns : List Int) (F : List KR) (ts : Ts) (st o : Int), BoxO H b → LamX.Tabs T H → MapsAt H q F → q ≠ b → Fst (actL ts) ts.length (idL (nS ts)) F → F.length ≤ 1000 → Wf ts → MachAt M H m ta (vts ts) → (0 ≤ st ∧ st < (nS ts : Int)) → Tells ts st → OrbL ts st ns → H lo = some (.lst (vrow ns)) → lo ≠ b → (0 ≤ o ∧ o < (nS ts : Int)) →
        (∀ H' w7 w8 w9 w10 w11, Rl b T H H' → D.nx [some (.ref b), some (.ref q), some (.ref m), some (.int st), some (.ref lo), some (.int o), v6, w7, w8, w9, w10, w11, v12, v13] H' ∧ D.ct [some (.ref b), some (.ref q), some (.ref m), some (.int st), some (.ref lo), some (.int o), v6, w7, w8, w9, w10, w11, v12, v13] H') →
        t D [some (.ref b), some (.ref q), some (.ref m), some (.int st), some (.ref lo), some (.int o), v6, v7, v8, v9, v10, v11, v12, v13] H := by
  have B := db.B
  have TM := db.T
  have hd := db.hd
  obtain ⟨fK, fdK, DK, GK⟩ := db.pick
  obtain ⟨fE, fdE, DE, GE⟩ := db.ends
  obtain ⟨fJ, fdJ, DJ, GJ⟩ := db.join
  obtain ⟨fI, fdI, DI, GI⟩ := db.inv
  obtain ⟨fT, fdT, DT, GT⟩ := db.tjoin
  have hu : (A.deeper (envOfC "_law_back_right" (defScope sBackR) s.heap.objs.size f (.ref c))).units + 64 < cLine := hr.units
  have hu1 : (A.deeper (envOfC "_law_back_right" (defScope sBackR) s.heap.objs.size f (.ref c))).units + 1 < cLine := by omega
  have r1 := hr.mono (show 1 ≤ 11 by decide)
  have r2 := hr.mono (show 2 ≤ 11 by decide)
  have r5 := hr.mono (show 5 ≤ 11 by decide)
  have r8 := hr.mono (show 8 ≤ 11 by decide)
  have r9 := hr.mono (show 9 ≤ 11 by decide)
  refine ⟨_, pss_cons (ps_set (i := 7) scBR.nd rfl (.inl rfl) (pe_ifExp (pt_cmpR op_in_seq (pv 5) (pv 4) rfl)
        (pe_callB (cr_sortedSet rfl) (by rfl) B.sorted PyProof.Rows.boot_sorted (pa_cons (pe_callTy (cr_setB (K := K) (w := w) (B := 12) rfl rfl rfl) (by rfl) B.set (by decide +kernel) (pa_cons
          (pe_lc (own := [("_law_one_map", 12), ("_law_row", 13)]) (g := gPair 12 13 K) rfl scBR.nd (piL (K := K) rfl (pv 1)) (blkOk_by (N := nBR) (sc := defScope sBackR) (by decide +kernel))
            (fun _ _ _ _ _ => pg_tup rfl (pgs_cons (pg_name (i := 12) scBR.nd rfl (Or.inl rfl)) (pgs_cons (pg_name (i := 13) scBR.nd rfl (Or.inl rfl)) pgs_nil))) (fun _ _ _ _ _ => pts_one (pt_cmpR op_eq (pe_ix (ixTK (K := K) rfl) (pv 12) (pv 5) (fun _ _ => rfl)) (pv 3) (nomark _)))
            (fun _ _ _ _ _ => pe_ix (ixTK (K := K) rfl) (pv 12) (pv 3) (fun _ _ => rfl))) pa_nil)) pa_nil))
        (pe_lst pa_nil)))
    (pss_cons (ps_set (i := 8) scBR.nd rfl (.inl rfl) (pe_ifExp (pt_cmpR (neDK (K := K) rfl hu) (pv 7) (pe_lst pa_nil) (nomark _)) (pe_tup (pa_cons pe_str (pa_cons (pe_ix (ixLK (K := K) rfl) (pv 7) pe_int (fun _ _ => rfl)) pa_nil)))
        (pe_tup (pa_cons pe_str (pa_cons (pe_callB call_reprS (by rfl) B.repr (by decide +kernel) (pa_cons (pv 5) pa_nil)) (pa_cons pe_bl pa_nil))))))
    (pss_cons (ps_if (PW.pt (pw_or (pt_cmpR (neDK (K := K) rfl hu) (pHeard (k := 9) (qn := qBR) (T := T) hd TB hgd hr rfl rfl hmT hun rfl (LamX.lamS_by (by rfl)) rfl (fun _ _ _ _ _ => rfl)
          (fun A outer s H E f c' hr2 => pc DI GI (hr2.mono (show 8 ≤ 9 by decide)) (pass1 (E := E) (takes_of rfl rfl rfl rfl)) (pa_cons (pv 2) (pa_cons (pv 3) (pa_cons (pv 5) pa_nil))))) (pv 8) (nomark _))
        (pw_or1 (pt_cmpR op_gt (pe_callB (clen (K := K) rfl) (by rfl) B.len PySem.boot_len (pa_cons (pv 7) pa_nil)) pe_int (nomark _))))) (pss_one (ps_ret pe_bl)) pss_nil)
    (pss_cons (ps_if (pt_cmpR (eqDK (K := K) rfl hu) (pv 7) (pe_lst pa_nil) (nomark _)) (pss_one ps_continue) pss_nil)
    (pss_cons (ps_par (i := 9) (j := 10) rfl scBR.nd rfl rfl (by decide) rfl rfl (pa_cons (pc DK GK r2 pass0 (pa_cons (pv 0) (pa_cons (pv 4) pa_nil))) (pa_cons (pc DK GK r2 pass0 (pa_cons (pv 0) (pa_cons (pv 4) pa_nil))) pa_nil)) rfl)
    (pss_cons (ps_set (i := 11) scBR.nd rfl (.inl rfl) (pc DE GE r1 pass0 (pa_cons (pv 1) (pa_cons (pv 5) (pa_cons (pv 9) pa_nil)))))
    (pss_cons (ps_if (PW.pt (pw_or (pt_cmp (pc_dnotin hu1 (pv 10) (pv 11))) (pw_or1 (pt_cmpR op_ne (pc DJ GJ r5 passF (pa_cons (pv 2) (pa_cons (pv 5) (pa_cons (pv 9) (pa_cons (pv 10) pa_nil))))) (pe_dget hu1 (pv 11) (pv 10) (fun _ _ => rfl)) (nomark _))))) (pss_one (ps_ret pe_bl)) pss_nil)
    (pss_cons (ps_if (pt_cmpR op_ne (pe_callB call_reprS (by rfl) B.repr (by decide +kernel) (pa_cons (pc DT GT r9 passF (pa_cons (pv 2) (pa_cons (pv 3) (pa_cons (pv 5) (pa_cons (pv 9) (pa_cons (pv 10) pa_nil)))))) pa_nil))
        (pe_callB call_reprS (by rfl) B.repr (by decide +kernel) (pa_cons (pe_dget hu1 (pv 11) (pv 10) (fun _ _ => rfl)) pa_nil)) (nomark _)) (pss_one (ps_ret pe_bl)) pss_nil)
    (pss_cons (ps_if (pt_cmpR op_ne (pe_callW DT GT r9 (kb_tjoin DT.F) passF (pk_cons (pv 10) (pk_cons (pv 9) (pk_cons (pv 5) (pk_cons (pv 3) (pk_cons (pv 2) pk_nil)))))) (pe_dget hu1 (pv 11) (pv 10) (fun _ _ => rfl)) (nomark _)) (pss_one (ps_ret pe_bl)) pss_nil)
    (pss_one (ps_if (pt_cmpR op_ne (pe_callW DI GI r8 (kb_inv DI.F) passF (pk_cons (pv 5) (pk_cons (pv 3) (pk_cons (pv 2) pk_nil)))) (pe_ix (ixLK (K := K) rfl) (pv 7) pe_int (fun _ _ => rfl)) (nomark _)) (pss_one (ps_ret pe_bl)) pss_nil)))))))))),
    fun D H v5 v6 v7 v8 v9 v10 v11 v12 v13 b q m ta lo ns F ts st o hb hT hq qne hF hf hW hM hst te on hlo lne ho k => ?_⟩
  obtain ⟨mas, hq1, hq2, hq3⟩ := id hq
  have n12 := hW.s12
  have s1' := hW.s1
  have hxl : ∀ e ∈ F, e.1.length = nS ts := fun e he => by
    rw [(hF.mem he).1, path_run, List.length_map, idL, gL_len]
  have R0 : Rl b T H H := Rl.refl hb hT
  refine seqG (fun σ H1 => ∃ lb lots, σ = [some (.ref b), some (.ref q), some (.ref m), some (.int st), some (.ref lo), some (.int o), v6, some (.ref lb), v8, v9, v10, v11, v12, v13] ∧ Rl b T H H1 ∧ lb ≠ b ∧ H1 lb = some (.lst (lots.map V.int)) ∧ ((lots = [] ∧ ∀ x, ¬ Back ts st o x) ∨ ∃ x, lots = [x] ∧ Back ts st o x)) ?_ (fun kk => ?_)
  · rintro σ H1 ⟨lb, lots, rfl, R1, lbne, hlb, hlots⟩
    have o12 : o.natAbs ≤ 1000 := by omega
    have otx : PyData.strOk (toString o) = true := tx_lim (by omega) (by omega)
    have bI := belowI hst
    have bO := belowI ho
    have kI : ∀ (G : Hp) (z : Int), ∃ (K' : PySem.W.Frag) (o : Option (List V)), KV K' G (.int z) o := fun G z => ⟨K, _, .int _⟩
    rcases hlots with ⟨rfl, nb⟩ | ⟨x, rfl, bx⟩
    · -- no way back
      refine ⟨_, rfl, (by show 0 ≤ sizeLine; decide), fun l0 hl0 => neNil (K := K) (lots := []) ((same_new hl0) _ _ hlb) upd_same (fun x hx => absurd hx (by simp)) ⟨_, rfl, iteF ?_⟩⟩
      have R2 := R1.new (o := HO.lst []) hl0
      have hlb2 := (same_new (o := HO.lst []) hl0) _ _ hlb
      generalize upd H1 l0 (.lst []) = H2 at R2 hlb2 ⊢
      refine ⟨_, rfl, ⟨_, rfl, .inr (.inr (.inl ⟨o, rfl, log_sm o12, (by show 3 ≤ sizeLine; decide), fun pd hpd => ?_⟩))⟩⟩
      have R3 := R2.new (o := HO.tup [.str "refused", .str (toString o), .bl true]) hpd
      have hlb3 := (same_new (o := HO.tup [.str "refused", .str (toString o), .bl true]) hpd) _ _ hlb2
      have hpd3 : (upd H2 pd (.tup [.str "refused", .str (toString o), .bl true])) pd = some (.tup [.str "refused", .str (toString o), .bl true]) := upd_same
      generalize upd H2 pd (.tup [V.str "refused", .str (toString o), .bl true]) = H3 at R3 hlb3 hpd3 ⊢
      refine gn ?_
      dsimp only [List.set]
      refine ⟨R3.2.1, fun G1 eN t1 => ?_⟩
      have RG := R3.ext eN t1
      refine ⟨_, rfl, _, rfl, _, rfl, nilP ⟨m, ta, ts, _, _, rfl, RG.mach hb hM, hW, kI _ _, kI _ _, fun e => (by rw [bI] at e; cases e), fun s' e _ => ?_⟩⟩
      injection e with e
      subst e
      refine ⟨fun nt => absurd te nt, fun _ => ⟨fun e => (by rw [bO] at e; cases e), fun o' e _ => ?_⟩⟩
      injection e with e
      subst e
      refine ⟨fun _ H' sm d H'' s2 _ hx => ⟨d, rfl, .inl ⟨rfl, .int o, hx, toString o, fun H3 Q3 s3 q3 => .inl ⟨_, rfl, .inr (.inr (.inl ⟨o, rfl, log_sm o12, q3⟩))⟩, fun p H5 s5 hp => ?_⟩⟩, fun x hx => absurd hx (nb x)⟩
      have s6 := sm.trans (s2.trans s5)
      have hpd5 := s6 _ _ (eN _ _ hpd3 (fun ps z => by cases z))
      have hlb5 := s6 _ _ (eN _ _ hlb3 (fun ps z => by cases z))
      have R5 := RG.same s6
      refine ⟨_, rfl, earS st_ref otx hp hpd5 ⟨_, rfl, iteF ?_⟩⟩
      refine ⟨_, rfl, lb, _, rfl, .inl (SqL.of hlb5), _, _, rfl, rfl, _, rfl, iteF (nxP ?_)⟩
      refine ⟨_, rfl, (by show 0 ≤ sizeLine; decide), fun l6 hl6 => eqNil (K := K) (lots := []) ((same_new hl6) _ _ hlb5) upd_same (fun x hx => absurd hx (by simp)) ⟨_, rfl, iteT ?_⟩⟩
      exact (k _ _ _ _ _ _ (R5.new hl6)).2
    · -- one
      have xr := bx.rch.rng hW hst
      have hoR := bx.1
      have rng1 : ∀ y ∈ [x], 0 ≤ y ∧ y < 1000 := fun y hy => by
        rw [List.mem_singleton.mp hy]
        omega
      refine ⟨_, rfl, (by show 0 ≤ sizeLine; decide), fun l0 hl0 => neNil (K := K) (lots := [x]) ((same_new hl0) _ _ hlb) upd_same rng1 ⟨_, rfl, iteT ?_⟩⟩
      have R2 := R1.new (o := HO.lst []) hl0
      have hlb2 := (same_new (o := HO.lst []) hl0) _ _ hlb
      generalize upd H1 l0 (.lst []) = H2 at R2 hlb2 ⊢
      refine ⟨_, rfl, lb, _, 0, .int x, rfl, rfl, SqL.of hlb2, atI_nat (j := 0) rfl, (by show 2 ≤ sizeLine; decide), fun pd hpd => ?_⟩
      have R3 := R2.new (o := HO.tup [.str "told", .int x]) hpd
      have hlb3 := (same_new (o := HO.tup [.str "told", .int x]) hpd) _ _ hlb2
      have hpd3 : (upd H2 pd (.tup [.str "told", .int x])) pd = some (.tup [.str "told", .int x]) := upd_same
      generalize upd H2 pd (.tup [V.str "told", .int x]) = H3 at R3 hlb3 hpd3 ⊢
      refine gn ?_
      dsimp only [List.set]
      refine ⟨R3.2.1, fun G1 eN t1 => ?_⟩
      have RG := R3.ext eN t1
      refine ⟨_, rfl, _, rfl, _, rfl, nilP ⟨m, ta, ts, _, _, rfl, RG.mach hb hM, hW, kI _ _, kI _ _, fun e => (by rw [bI] at e; cases e), fun s' e _ => ?_⟩⟩
      injection e with e
      subst e
      refine ⟨fun nt => absurd te nt, fun _ => ⟨fun e => (by rw [bO] at e; cases e), fun o' e _ => ?_⟩⟩
      injection e with e
      subst e
      refine ⟨fun nx => absurd bx (nx x), fun y hy H' sm => ?_⟩
      obtain rfl := bx.one te hy
      refine ⟨(by show 2 ≤ sizeLine; decide), fun p hp => ?_⟩
      have s6 := sm.trans (same_new (o := HO.tup [.str "told", .int x]) hp)
      have hpd5 := s6 _ _ (eN _ _ hpd3 (fun ps z => by cases z))
      have hlb5 := s6 _ _ (eN _ _ hlb3 (fun ps z => by cases z))
      have R5 := RG.same s6
      have hp5 : (upd H' p (.tup [.str "told", .int x])) p = some (.tup [.str "told", .int x]) := upd_same
      generalize upd H' p (.tup [V.str "told", .int x]) = H5 at hpd5 hlb5 R5 hp5 ⊢
      clear s6 hp sm H'
      refine ⟨_, rfl, earSI st_tld hp5 hpd5 ⟨_, rfl, iteF ?_⟩⟩
      refine ⟨_, rfl, lb, _, rfl, .inl (SqL.of hlb5), _, _, rfl, rfl, _, rfl, iteF (nxP ?_)⟩
      refine ⟨_, rfl, (by show 0 ≤ sizeLine; decide), fun l6 hl6 => eqNil (K := K) (lots := [x]) ((same_new hl6) _ _ hlb5) upd_same rng1 ⟨_, rfl, iteF (nxP ?_)⟩⟩
      have R6 := R5.new (o := HO.lst []) hl6
      have hlb6 := (same_new (o := HO.lst []) hl6) _ _ hlb5
      generalize upd H5 l6 (.lst []) = H6 at R6 hlb6 ⊢
      clear hl6 hp5 hpd5 hlb5 R5
      -- two of the orbit
      have l12 := on.len hW hst
      have hne : 1 ≤ ns.length := List.length_pos_of_mem ((on.2 st).mpr Rch.refl)
      have lv : (vrow ns).length = ns.length := by rw [vrow, List.length_map]
      refine ⟨_, rfl, _, rfl, b, lo, _, rfl, R6.1, R6.lst lne hlo, lne, by omega, by omega, fun i v H7 hv bx7 => ?_⟩
      obtain ⟨h, hh, rfl⟩ := vrow_at hv
      have R7 := R6.bx bx7
      refine ⟨_, rfl, _, rfl, b, lo, _, rfl, R7.1, R7.lst lne hlo, lne, by omega, by omega, fun j v H8 hv bx8 => ?_⟩
      obtain ⟨t, ht, rfl⟩ := vrow_at hv
      have R8 := R7.bx bx8
      have hlb8 : H8 lb = some (.lst ([x].map V.int)) := bx8.2 _ _ (bx7.2 _ _ hlb6 lbne) lbne
      clear hv bx8 bx7 R7 R6 hlb6 hlb3
      have hhR := (on.2 h).mp (List.mem_of_getElem? hh)
      have htR := (on.2 t).mp (List.mem_of_getElem? ht)
      have hhr := hhR.rng hW hst
      have htr := htR.rng hW hst
      refine ⟨_, _, rfl, ?_⟩
      dsimp only [List.set]
      have hoh : Rch ts o h := bx.home.trans hhR
      obtain ⟨r, hr', et⟩ : Rch ts o t := bx.home.trans htR
      have told := tells_all.mp te o hoR h hoh
      have jt : JTold ts o h t (run ts h r) := by
        have := told.j (r := r) hr'
        rw [et] at this
        exact this
      have xtr : 0 ≤ run ts h r ∧ run ts h r < (nS ts : Int) := (hhR.run hr').rng hW hst
      refine ⟨_, rfl, _, rfl, _, rfl, nilP ⟨q, o, h, F, ts, rfl, hq.rl hb qne R8, hF, hf, hW, ho, hhr, fun nt => absurd told nt, fun _ d H9 s9 hd => ?_⟩⟩
      have R9 := R8.same s9
      have hlb9 := s9 _ _ hlb8
      refine gn ?_
      dsimp only [List.set]
      obtain ⟨kvs, hd1, _, hd3⟩ := hd
      have hv : valV kvs (Sum.inl t) = some (.int (run ts h r)) := (hd3 t _).mpr ⟨r, hr', et, rfl⟩
      have dg : ∀ {G : Hp}, Same H9 G → DGet G d (.int t) (some (.int (run ts h r))) := fun sm => by
        rw [← hv]
        exact DGet.k (k := Sum.inl t) (sm _ _ hd1)
      refine ⟨_, rfl, _, rfl, d, _, rfl, dg (Same.refl _), _, rfl, iteF ?_⟩
      refine ⟨_, rfl, _, rfl, _, rfl, _, rfl, nilP (joinP (K := K) (R9.mach hb hM) hW ho hhr htr jt fun H10 s10 => ?_)⟩
      refine ⟨_, rfl, _, rfl, d, _, rfl, dg s10, neV rfl ⟨_, rfl, iteF (nxP ?_)⟩⟩
      have R10 := R9.same s10
      -- the join turned round
      have ej := turned te bx hhR hr' et
      have big : (run ts h r).natAbs ≤ 1000 := by omega
      have s1y : 0 ≤ jn ts st h x ∧ jn ts st h x < (nS ts : Int) := (jn_in te hhR bx.rch).rng hW hst
      have tj : ∀ {G : Hp} {Q : VK} {E : XK}, MachAt M G m ta (vts ts) → (∀ G', Same G G' → Q (.int (run ts h r)) G') → spTJoin M CS CR [.ref m, .int st, .int o, .int h, .int t] G Q E := fun {G Q E} hMG qq => by
        refine ⟨m, ta, ts, _, _, _, _, rfl, hMG, hW, kI _ _, kI _ _, fun e => (by rw [bI] at e; cases e), fun s' e _ => ?_⟩
        injection e with e
        subst e
        refine ⟨fun nt => absurd te nt, fun _ => ⟨fun e => (by rw [bO] at e; cases e), fun o' e _ => ?_⟩⟩
        injection e with e
        subst e
        exact ⟨x, h, t, bx, rfl, rfl, hhR, htR, fun G' sm => by rw [ej]; exact qq G' sm⟩
      refine ⟨_, rfl, _, rfl, _, rfl, _, rfl, _, rfl, nilP (tj (R10.mach hb hM) fun H11 s11 => ?_)⟩
      refine ⟨_, rfl, .inr (.inr (.inl ⟨_, rfl, log_sm big, ?_⟩))⟩
      refine ⟨_, rfl, _, rfl, d, _, rfl, dg (s10.trans s11), ⟨_, rfl, .inr (.inr (.inl ⟨_, rfl, log_sm big, neV rfl ⟨_, rfl, iteF (nxP ?_)⟩⟩))⟩⟩
      have R11 := R10.same s11
      refine ⟨_, rfl, _, rfl, _, rfl, _, rfl, _, rfl, nilP ⟨rfl, tj (R11.mach hb hM) fun H12 s12 => ?_⟩⟩
      refine ⟨_, rfl, _, rfl, d, _, rfl, dg ((s10.trans s11).trans s12), neV rfl ⟨_, rfl, iteF (nxP ?_)⟩⟩
      have R12 := R11.same s12
      refine ⟨_, rfl, _, rfl, _, rfl, nilP ⟨rfl, m, ta, ts, _, _, rfl, R12.mach hb hM, hW, kI _ _, kI _ _, fun e => (by rw [bI] at e; cases e), fun s' e _ => ?_⟩⟩
      injection e with e
      subst e
      refine ⟨fun nt => absurd te nt, fun _ => ⟨fun e => (by rw [bO] at e; cases e), fun o' e _ => ?_⟩⟩
      injection e with e
      subst e
      refine ⟨fun nx => absurd bx (nx x), fun y hy H13 s13 => ?_⟩
      obtain rfl := bx.one te hy
      have hlb13 := s13 _ _ (s12 _ _ (s11 _ _ (s10 _ _ hlb9)))
      refine ⟨_, rfl, lb, _, 0, .int x, rfl, rfl, SqL.of hlb13, atI_nat (j := 0) rfl, neV rfl ⟨_, rfl, iteF (nxP ?_)⟩⟩
      exact (k _ _ _ _ _ _ (R12.same s13)).1
  · refine ⟨_, rfl, _, rfl, lo, _, rfl, .inl (SqL.of hlo), rfl, flat_row ns, _, rfl, ifD (fun cc => ?_) fun cc => ?_⟩
    · have cc : inV (.int o) (vrow ns) = true := cc
      rw [inV_row] at cc
      have hoR : Rch ts st o := (on.2 o).mp (by simpa using cc)
      refine ⟨_, rfl, q, rfl, ⟨_, SqL.of hq1⟩, fun D1 hD1 => lc_list (K := K) (a := q) (xs := mas.map V.ref) (fun i H' => Same H H' ∧ H' D1 = some (.lst ((LB (F.take i) o.toNat st.toNat st).map V.int))) ⟨same_new hD1, by rw [upd_same]; rfl⟩ (fun i H' _ ⟨s, _⟩ => SqL.of (s _ _ hq1)) ?_ ?_⟩
      · rintro i x H' hx ⟨s2, hD2⟩
        obtain ⟨ma, hma, rfl⟩ : ∃ ma, mas[i]? = some ma ∧ x = V.ref ma := by
          rw [List.getElem?_map] at hx
          cases e : mas[i]? with
          | none => rw [e] at hx; cases hx
          | some t => rw [e] at hx; exact ⟨t, rfl, (Option.some.inj hx).symm⟩
        have hiF : i < F.length := by rw [← hq2]; exact (List.getElem?_eq_some_iff.mp hma).1
        obtain ⟨e, he⟩ : ∃ e, F[i]? = some e := ⟨F[i], List.getElem?_eq_getElem hiF⟩
        obtain ⟨xb, xc, g1, g2, _⟩ := hq3 i ma e.1 e.2 hma he
        have lx := hxl e (List.mem_of_getElem? he)
        have snoc := lb_take he o.toNat st.toNat st
        have ll := lb_len (F := F) o.toNat st.toNat st i
        refine ⟨ma, _, rfl, SqT.of (s2 _ _ g1), rfl, _, _, rfl, _, _, rfl, rfl, ?_⟩
        refine ⟨rfl, _, rfl, _, rfl, xb, _, o, .int (e.1.getD o.toNat 0), rfl, rfl, SqT.of (s2 _ _ g2), at_of (j := o.toNat) (by omega) (vrow_getD (by omega)), _, rfl, rfl, _, rfl, ifD (fun cc => ?_) fun cc => ?_⟩
        · have c' : e.1.getD o.toNat 0 = st := by
            have := of_decide_eq_true cc
            injection this
          rw [if_pos c'] at snoc
          refine ⟨_, rfl, _, rfl, xb, _, st, .int (e.1.getD st.toNat 0), rfl, rfl, SqT.of (s2 _ _ g2), at_of (j := st.toNat) (by omega) (vrow_getD (by omega)), _, hD2, by rw [List.length_map, sizeLine_eq]; omega, fun d o eo => ?_, ?_⟩
          · rw [upd_ne (ne_of_none eo hD1)]
            exact s2 _ _ eo
          · rw [upd_same, snoc, List.map_append]; rfl
        · have c' : e.1.getD o.toNat 0 ≠ st := fun z => by
            have := of_decide_eq_false cc
            exact this (by rw [z])
          rw [if_neg c', List.append_nil] at snoc
          exact ⟨s2, by rw [snoc]; exact hD2⟩
      · rintro H2 ⟨s2, hD2⟩
        rw [List.length_map, hq2, List.take_length] at hD2
        have mem1 := lb_back te hF hst hoR ho
        have rng : ∀ x ∈ LB F o.toNat st.toNat st, 0 ≤ x ∧ x < ((12 : Nat) : Int) := fun x hx => by
          have := ((mem1 x).mp hx).rch.rng hW hst
          omega
        refine ⟨D1, _, rfl, SqL.of hD2, by have := lb_len (F := F) o.toNat st.toNat st F.length; rw [List.take_length] at this; omega, rng, fun ps c hps hc => ⟨ps, _, c, rfl, upd_same, by omega, fun lots l pw mem hl hl0 => ?_⟩⟩
        have mem' : ∀ x, x ∈ lots ↔ Back ts st o x := fun x => by
          rw [mem x, ← mem1 x]
          exact ⟨fun z => of_decide_eq_true z, fun z => decide_eq_true z⟩
        have s3 := (s2.trans (same_new hps)).trans (same_new (o := HO.lst (lots.map V.int)) hl0)
        have R3 := R0.same s3
        refine gn ?_
        refine nxP (kk _ _ ⟨l, lots, rfl, R3, (R0.same (s2.trans (same_new hps))).1.nn hl0, upd_same, ?_⟩)
        have ndl : lots.Nodup := pw.imp fun {a b} h => by omega
        cases lots with
        | nil => exact .inl ⟨rfl, fun x hx => absurd ((mem' x).mpr hx) (by simp)⟩
        | cons x r => exact .inr ⟨x, all_one ndl (fun y hy => ((mem' y).mp hy).one te ((mem' x).mp List.mem_cons_self)) List.mem_cons_self, (mem' x).mp List.mem_cons_self⟩
    · have cc : inV (.int o) (vrow ns) = false := cc
      rw [inV_row] at cc
      have nR : ¬ Rch ts st o := fun z => by
        rw [decide_eq_true ((on.2 o).mpr z)] at cc
        cases cc
      refine ⟨(by show 0 ≤ sizeLine; decide), fun l hl => ?_⟩
      refine gn ?_
      exact nxP (kk _ _ ⟨l, [], rfl, R0.new hl, R0.1.nn hl, upd_same, .inl ⟨rfl, fun x hx => nR hx.1⟩⟩)
end
end K1
namespace K1
open PySem PySem.Spec PyProof.Rows L2
theorem pl_str {x : Str} (h1 : PyData.strOk x = true) (h2 : x.cps.size ≤ 100) (h3 : (x.cps.toList.all fun c => decide (c < 16 ^ 8)) = true) : Pl (.str x) 0 100 :=
  ⟨by simp only [PyData.canLay0]; exact h1, by simp only [PyData.showable], by simp only [PyData.hasDict], by simp only [PyData.depth]; omega, by simp only [PyData.weight]; exact h2, by simp only [PyData.leavesShort]; exact h3⟩
theorem repr2 {K : PySem.W.Frag} {p : Addr} {d : PyData} {n w : Nat} {H : Hp} {Q : VK} (hd : Dp K H (.ref p) d) (pl : Pl d n w) (hn : n ≤ 40) (hw : w ≤ 100000) (q : Q (.str d.shown) H) : rReprS [.ref p] H Q ∨ rRepr K [.ref p] H Q := .inr (reprP hd pl hn hw q)
theorem reprN {K : PySem.W.Frag} {H : Hp} {Q : VK} (q : Q (.str "None") H) : rReprS [.non] H Q ∨ rRepr K [.non] H Q := .inl ⟨_, rfl, .inl ⟨rfl, q⟩⟩
end K1
namespace K1
open PySem PySem.Spec PyProof.Rows L2
theorem pl_any : ∀ rows : List (List Int), (∀ r ∈ rows, ∀ x ∈ r, 0 ≤ x ∧ x < 100) → ∃ w, PlA (dRows rows) 1 w
  | [], _ => ⟨_, PlA.nil.mono (by omega) (Nat.le_refl _)⟩
  | r :: rows, h => by
    obtain ⟨w, hw⟩ := pl_any rows fun q hq => h q (List.mem_cons_of_mem _ hq)
    have h1 : Pl (.tuple (dI r)) 1 _ := Pl.tuple (pla_ints r fun i hi => by have := h r List.mem_cons_self i hi; omega)
    exact ⟨_, (PlA.cons h1 hw).mono (by omega) (Nat.le_refl _)⟩
theorem eqRows {K : PySem.W.Frag} {H : Hp} {l e : Addr} {as : List Addr} {rows : List (List Int)} {Q : VK} (hl : H l = some (.lst (as.map V.ref))) (hR : RowsAt H as rows) (he : H e = some (.lst [])) (h8 : ∀ r ∈ rows, ∀ x ∈ r, 0 ≤ x ∧ x < 100) (q : Q (.bl (decide (rows = []))) H) : rEqD K (.ref l) (.ref e) H Q := by
  obtain ⟨w, hw⟩ := pl_any rows h8
  refine ⟨.list (dRows rows), .list [], .lst (SqL.of hl) (dp_rows as rows hR.1 fun i a r e1 e2 => SqT.of (hR.2 i a r e1 e2)), .lst (SqL.of he) .nil, (Pl.list hw).shaped (by decide), (Pl.list PlA.nil).shaped (by decide), qbl ?_ q⟩
  simp only [PyData.eqv]
  exact eqvAll_rows rows []
/-- the states that no map leads home -/
def lostL (F : List KR) (ns : List Int) (s : Int) : List Int := ns.filter fun o => (LB F o.toNat s.toNat s).isEmpty
section
variable {ts : Ts} {F : List KR} {s : Int} {ns : List Int}
theorem em_lb (F : List KR) (o s : Nat) (t : Int) : EM F o t = [] ↔ LB F o s t = [] := by
  unfold EM LB
  rw [List.map_eq_nil_iff]
theorem lost_mem (hW : Wf ts) (hF : Fst (actL ts) ts.length (idL (nS ts)) F) (hs : 0 ≤ s ∧ s < (nS ts : Int)) (on : OrbL ts s ns) (x : Int) : x ∈ lostL F ns s ↔ Rch ts s x ∧ ¬ Rch ts x s := by
  unfold lostL
  rw [List.mem_filter, on.2 x]
  constructor
  · rintro ⟨hx, e⟩
    refine ⟨hx, fun ⟨r, hr, e2⟩ => ?_⟩
    have hm := (lb_mem hF hs (hx.rng hW hs) (run ts s r)).mpr ⟨r, hr, e2, rfl⟩
    rw [List.isEmpty_iff.mp e] at hm
    cases hm
  · rintro ⟨hx, nx⟩
    refine ⟨hx, ?_⟩
    cases e : LB F x.toNat s.toNat s with
    | nil => rfl
    | cons y l =>
      obtain ⟨r, hr, e2, _⟩ := (lb_mem hF hs (hx.rng hW hs) y).mp (by rw [e]; exact List.mem_cons_self)
      exact absurd ⟨r, hr, e2⟩ nx
theorem lost_nil (hW : Wf ts) (hF : Fst (actL ts) ts.length (idL (nS ts)) F) (hs : 0 ≤ s ∧ s < (nS ts : Int)) (on : OrbL ts s ns) (e : lostL F ns s = []) : ∀ x, Rch ts s x → Rch ts x s := fun x hx => Classical.byContradiction fun nx => by
  have := (lost_mem hW hF hs on x).mpr ⟨hx, nx⟩
  rw [e] at this
  cases this
theorem lost_cons (hW : Wf ts) (hF : Fst (actL ts) ts.length (idL (nS ts)) F) (hs : 0 ≤ s ∧ s < (nS ts : Int)) (on : OrbL ts s ns) {x : Int} {l : List Int} (e : lostL F ns s = x :: l) : Rch ts s x ∧ ¬ Rch ts x s ∧ ∀ y, Rch ts s y → y < x → Rch ts y s := by
  have h1 := (lost_mem hW hF hs on x).mp (by rw [e]; exact List.mem_cons_self)
  refine ⟨h1.1, h1.2, fun y hy hlt => Classical.byContradiction fun ny => ?_⟩
  have hm := (lost_mem hW hF hs on y).mpr ⟨hy, ny⟩
  have asc : (lostL F ns s).Pairwise (· < ·) := on.1.filter _
  rw [e] at hm asc
  rcases List.mem_cons.mp hm with z | z
  · omega
  · have := (List.pairwise_cons.mp asc).1 y z
    omega
theorem lost_take {i : Nat} {x : Int} (h : ns[i]? = some x) : lostL F (ns.take (i + 1)) s = lostL F (ns.take i) s ++ (if LB F x.toNat s.toNat s = [] then [x] else []) := by
  rw [take_succ h]
  unfold lostL
  rw [List.filter_append]
  congr 1
  by_cases c : LB F x.toNat s.toNat s = []
  · rw [if_pos c, List.filter_cons_of_pos (by rw [c]; rfl)]
    rfl
  · rw [if_neg c, List.filter_cons_of_neg (by rw [List.isEmpty_iff]; exact c)]
    rfl
theorem orb_all (hW : Wf ts) (hs : 0 ≤ s ∧ s < (nS ts : Int)) (on : OrbL ts s ns) (e : ns.length = nS ts) : ∀ x, (0 ≤ x ∧ x < (nS ts : Int)) → Rch ts s x := fun x hx => Classical.byContradiction fun nx => by
  have := nodup_le (nS ts) (x :: ns) (List.nodup_cons.mpr ⟨fun h => nx ((on.2 x).mp h), on.nd⟩) fun y hy => by
    rcases List.mem_cons.mp hy with rfl | hy
    · exact hx
    · exact on.rng hW hs hy
  rw [List.length_cons] at this
  omega
end
def spBackR (M : Addr) (T : List (Addr × Str)) : Sp := fun vs H Q _ => ∃ b q m st lo ta F ts ns, vs = [.ref b, .ref q, .ref m, .int st, .ref lo] ∧ BoxO H b ∧ LamX.Tabs T H ∧ MapsAt H q F ∧ q ≠ b ∧ Fst (actL ts) ts.length (idL (nS ts)) F ∧ F.length ≤ 1000 ∧ Wf ts ∧ MachAt M H m ta (vts ts) ∧ (0 ≤ st ∧ st < (nS ts : Int)) ∧ Tells ts st ∧ OrbL ts st ns ∧ H lo = some (.lst (vrow ns)) ∧ lo ≠ b ∧
  ∀ H', Rl b T H H' → Q (.bl true) H'
section
variable {P : Program} {w : World} {K : PySem.W.Frag} {mg : Str → Option Value} {base : Heap}
theorem ok_backR {f M CU CR CS c Pb : Addr} {fd : FuncData} {T : List (Addr × Str)} (D : FunC K "_law_back_right" "_law_back_right" sBackR f fd (.ref c)) (TB : LamX.TabB base mg c Pb) (hmT : (Pb, qBR) ∈ T) (hun : ∀ p ∈ T, p.1 = Pb → p.2 = qBR) (db : Db P w K mg base M CR CS CU) :
    FnG P w K mg base 12 f fd ["_law_box_here", "_law_maps_here", "_law_machine", "_law_state", "_law_orbit"] (spBackR M T) := by
  refine D.okG scBR (fun vs H Q E h => ?_) (fun A outer s H vs Q E hr hgd h => ?_)
  · obtain ⟨b, q, m, st, lo, ta, F, ts, ns, rfl, _⟩ := h
    rfl
  · obtain ⟨b, q, m, st, lo, ta, F, ts, ns, rfl, hb, hT, hq, qne, hF, hf, hW, hM, hst, te, on, hlo, lne, qq⟩ := h
    have B := db.B
    have TM := db.T
    obtain ⟨fG, fdG, DG, GG⟩ := db.gpap
    have hu : (A.deeper (envOfC "_law_back_right" (defScope sBackR) s.heap.objs.size f (.ref c))).units + 64 < cLine := hr.units
    have r8 := hr.mono (show 8 ≤ 11 by decide)
    obtain ⟨tb_, htb, qb⟩ := br_turn (P := P) (w := w) (outer := outer) (H₀ := H) (E := E) hr hgd TB hmT hun db
    refine ⟨_, pss_cons (ps_setLc (i := 6) (own := [("_law_one", 5)]) (g := gName 5) rfl scBR.nd rfl rfl (sw_true rfl rfl rfl rfl) (piL (K := K) rfl (pv 4)) (blkOk_by (N := nBR) (sc := defScope sBackR) (by decide +kernel)) (fun _ _ _ _ _ => pg_name (i := 5) scBR.nd rfl (Or.inr rfl))
          (fun _ _ _ _ _ => pts_one (pt_cmpR (eqDK (K := K) rfl hu) (pe_lc (own := [("_law_one_map", 12), ("_law_row", 13)]) (g := gPair 12 13 K) rfl scBR.nd (piL (K := K) rfl (pv 1)) (blkOk_by (by rfl))
              (fun _ _ _ _ _ => pg_tup rfl (pgs_cons (pg_name (i := 12) scBR.nd rfl (Or.inl rfl)) (pgs_cons (pg_name (i := 13) scBR.nd rfl (Or.inl rfl)) pgs_nil))) (fun _ _ _ _ _ => pts_one (pt_cmpR op_eq (pe_ix (ixTK (K := K) rfl) (pv 12) (pv 5) (fun _ _ => rfl)) (pv 3) (nomark _)))
              (fun _ _ _ _ _ => pv 13)) (pe_lst pa_nil) (nomark _)))
          (fun _ _ _ _ _ => pv 5))
      (pss_cons (ps_if (pt_cmpR op_ne (pe_callB (call_or2 call_reprS (call_repr hgd hu)) (by rfl) B.repr (by decide +kernel) (pa_cons (pc DG GG r8 passF (pa_cons (pv 2) (pa_cons (pv 3) pa_nil))) pa_nil))
          (pe_callB (call_or2 call_reprS (call_repr hgd hu)) (by rfl) B.repr (by decide +kernel) (pa_cons (pe_ifExp (pt_cmpR (eqDK (K := K) rfl hu) (pv 6) (pe_lst pa_nil) (nomark _)) pe_non (pe_tup (pa_cons pe_str (pa_cons (pe_ix (ixLK (K := K) rfl) (pv 6) pe_int (fun _ _ => rfl)) pa_nil)))) pa_nil)) (nomark _)) (pss_one (ps_ret pe_bl)) pss_nil)
      (pss_cons (ps_if (pt_cmpR (op_or2 (neDK (K := K) rfl hu) op_ne) (pe_callW DG GG r8 (kb_gpap DG.F) passF (pk_cons (pv 3) (pk_cons (pv 2) pk_nil))) (pc DG GG r8 passF (pa_cons (pv 2) (pa_cons (pv 3) pa_nil))) (nomark _)) (pss_one (ps_ret pe_bl)) pss_nil)
      (pss_cons (ps_if (PW.pt (pw_and (pt_cmpR (eqDK (K := K) rfl hu) (pv 6) (pe_lst pa_nil) (nomark _)) (pw_and (pt_cmpR op_eq (pe_callB (clen (K := K) rfl) (by rfl) B.len PySem.boot_len (pa_cons (pv 4) pa_nil)) (pe_fld (pv 2) rfl) (nomark _))
          (pw_and1 (pt_cmpR op_ne (pe_callB (clen (K := K) rfl) (by rfl) B.len PySem.boot_len (pa_cons (pv 1) pa_nil)) (pe_fld (pv 2) rfl) (nomark _)))))) (pss_one (ps_ret pe_bl)) pss_nil)
      (pss_cons (ps_for PassesOwn.never rfl (pi_range1 (by rfl) B.range (pa_cons (pe_fld (pv 2) rfl) pa_nil)) (pg_name (i := 5) scBR.nd rfl (.inr rfl)) htb)
      (pss_one (ps_ret pe_bl)))))), ?_⟩
    obtain ⟨mas, hq1, hq2, hq3⟩ := id hq
    have n12 := hW.s12
    have n1 := hW.s1
    have hxl : ∀ e ∈ F, e.1.length = nS ts := fun e he => by
      rw [(hF.mem he).1, path_run, List.length_map, idL, gL_len]
    have R0 : Rl b T H H := Rl.refl hb hT
    have l12 := on.len hW hst
    have lv : (vrow ns).length = ns.length := by rw [vrow, List.length_map]
    have bI := belowI hst
    have kI : ∀ (G : Hp) (z : Int), ∃ (K' : PySem.W.Frag) (o : Option (List V)), KV K' G (.int z) o := fun G z => ⟨K, _, .int _⟩
    have em8 : ∀ (o : Nat) (i : Nat), ∀ r ∈ (EM (F.take i) o st).map (·.2), ∀ x ∈ r, 0 ≤ x ∧ x < 100 := fun o i r hr x hx => by
      obtain ⟨e, he, rfl⟩ := List.mem_map.mp hr
      have he' : e ∈ F := List.mem_of_mem_take (List.mem_filter.mp he).1
      have := (hF.mem he').2.1 x hx
      have := hW.t8
      omega
    refine ⟨_, rfl, lo, rfl, ⟨_, SqL.of hlo⟩, fun D1 hD1 => lc_list (K := K) (a := lo) (xs := vrow ns) (fun i H' => Same H H' ∧ H' D1 = some (.lst ((lostL F (ns.take i) st).map V.int))) ⟨same_new hD1, by rw [upd_same]; rfl⟩ (fun i H' _ ⟨s, _⟩ => SqL.of (s _ _ hlo)) ?_ ?_⟩
    · rintro i z H1 hz ⟨s1, hD⟩
      obtain ⟨x, hx, rfl⟩ := vrow_at hz
      have hxr := ((on.2 x).mp (List.mem_of_getElem? hx)).rng hW hst
      have lt := lost_take (F := F) (s := st) hx
      have ll : (lostL F (ns.take i) st).length ≤ 12 := by
        refine Nat.le_trans (List.length_filter_le _ _) ?_
        rw [List.length_take]
        omega
      refine ⟨rfl, ?_⟩
      refine ⟨_, rfl, q, rfl, ⟨_, SqL.of (s1 _ _ hq1)⟩, fun D2 hD2 => lc_list (K := K) (a := q) (xs := mas.map V.ref) (fun j H' => Same H1 H' ∧ ∃ as : List Addr, H' D2 = some (.lst (as.map V.ref)) ∧ RowsAt H' as ((EM (F.take j) x.toNat st).map (·.2))) ⟨same_new hD2, [], upd_same, rfl, fun i a r e => by cases e⟩ (fun j H' _ ⟨s, _⟩ => SqL.of (s _ _ (s1 _ _ hq1))) ?_ ?_⟩
      · rintro j y H' hy ⟨s2, as, hE, hR⟩
        obtain ⟨ma, hma, rfl⟩ : ∃ ma, mas[j]? = some ma ∧ y = V.ref ma := by
          rw [List.getElem?_map] at hy
          cases e : mas[j]? with
          | none => rw [e] at hy; cases hy
          | some t => rw [e] at hy; exact ⟨t, rfl, (Option.some.inj hy).symm⟩
        have hjF : j < F.length := by rw [← hq2]; exact (List.getElem?_eq_some_iff.mp hma).1
        obtain ⟨e, he⟩ : ∃ e, F[j]? = some e := ⟨F[j], List.getElem?_eq_getElem hjF⟩
        obtain ⟨xb, xc, g1, g2, g3⟩ := hq3 j ma e.1 e.2 hma he
        have lx := hxl e (List.mem_of_getElem? he)
        have s12 := s1.trans s2
        have et : EM (F.take (j + 1)) x.toNat st = EM (F.take j) x.toNat st ++ (if e.1.getD x.toNat 0 = st then [e] else []) := by
          rw [take_succ he]
          unfold EM
          rw [List.filter_append]
          congr 1
          by_cases c : e.1.getD x.toNat 0 = st
          · rw [if_pos c, List.filter_cons_of_pos (by simpa using c)]; rfl
          · rw [if_neg c, List.filter_cons_of_neg (by simpa using c)]; rfl
        refine ⟨ma, _, rfl, SqT.of (s12 _ _ g1), rfl, _, _, rfl, _, _, rfl, rfl, ?_⟩
        refine ⟨rfl, _, rfl, _, rfl, xb, _, x, .int (e.1.getD x.toNat 0), rfl, rfl, SqT.of (s12 _ _ g2), at_of (j := x.toNat) (by omega) (vrow_getD (by omega)), _, rfl, rfl, _, rfl, ifD (fun cc => ?_) fun cc => ?_⟩
        · have c' : e.1.getD x.toNat 0 = st := by
            have := of_decide_eq_true cc
            injection this
          rw [if_pos c'] at et
          have la : as.length ≤ 1000 := by
            rw [hR.1, List.length_map]
            refine Nat.le_trans (List.length_filter_le _ _) ?_
            rw [List.length_take]
            omega
          refine ⟨_, rfl, _, hE, by rw [List.length_map, sizeLine_eq]; omega, fun d o eo => ?_, as ++ [xc], by rw [upd_same, List.map_append]; rfl, ?_⟩
          · rw [upd_ne (ne_of_none eo hD2)]
            exact s2 _ _ eo
          · rw [et, List.map_append]
            have hR2 := hR.snoc (s12 _ _ g3)
            exact ⟨hR2.1, fun i a r e1 e2 => by rw [upd_ne (ne_of (hR2.2 i a r e1 e2) hE (by intro z; cases z))]; exact hR2.2 i a r e1 e2⟩
        · have c' : e.1.getD x.toNat 0 ≠ st := fun z => by
            have := of_decide_eq_false cc
            exact this (by rw [z])
          rw [if_neg c', List.append_nil] at et
          exact ⟨s2, as, hE, by rw [et]; exact hR⟩
      · rintro H2 ⟨s2, as, hE, hR⟩
        rw [List.length_map, hq2] at hR
        refine ⟨(by show 0 ≤ sizeLine; decide), fun l0 hl0 => eqRows (K := K) ((same_new hl0) _ _ hE) (hR.same (same_new hl0)) upd_same (em8 _ _) ⟨_, rfl, ?_⟩⟩
        have s3 := (s1.trans s2).trans (same_new (o := HO.lst []) hl0)
        have hD3 := (same_new (o := HO.lst []) hl0) _ _ (s2 _ _ hD)
        have ee : (EM (F.take F.length) x.toNat st).map (·.2) = [] ↔ LB F x.toNat st.toNat st = [] := by rw [List.take_length, List.map_eq_nil_iff, em_lb F x.toNat st.toNat st]
        by_cases c : LB F x.toNat st.toNat st = []
        · rw [decide_eq_true (ee.mpr c)]
          rw [if_pos c] at lt
          refine iteT ⟨_, rfl, _, hD3, by rw [List.length_map, sizeLine_eq]; omega, fun d o eo => ?_, ?_⟩
          · rw [upd_ne (ne_of_none eo hD1)]
            exact s3 _ _ eo
          · rw [upd_same, lt, List.map_append]; rfl
        · rw [decide_eq_false fun z => c (ee.mp z)]
          rw [if_neg c, List.append_nil] at lt
          exact iteF ⟨s3, by rw [lt]; exact hD3⟩
    · rintro H1 ⟨s1, hD⟩
      rw [lv, List.take_length] at hD
      refine gn ?_
      dsimp only [List.set]
      have lr : ∀ x ∈ lostL F ns st, 0 ≤ x ∧ x < 1000 := fun x hx => by
        have := ((lost_mem hW hF hst on x).mp hx).1.rng hW hst
        omega
      have gp : ∀ {G : Hp} {Q : VK} {E : XK}, MachAt M G m ta (vts ts) → (lostL F ns st = [] → ∀ G', Same G G' → Q .non G') → (∀ x l, lostL F ns st = x :: l → ∀ p G', Same G G' → G' p = some (.tup [.str "lost", .int x]) → Q (.ref p) G') → spGPap M CS CR [.ref m, .int st] G Q E := fun {G Q E} hMG q0 q1 => by
        refine ⟨m, ta, ts, _, rfl, hMG, hW, kI _ _, fun e => (by rw [bI] at e; cases e), fun s' e _ => ?_⟩
        injection e with e
        subst e
        refine ⟨fun nt => absurd te nt, fun _ => ⟨fun all G' sm => q0 ?_ G' sm, fun x hx nx least p G' sm hp => ?_⟩⟩
        · cases e : lostL F ns st with
          | nil => rfl
          | cons x l =>
            have := lost_cons hW hF hst on e
            exact absurd (all x this.1) this.2.1
        · cases e : lostL F ns st with
          | nil => exact absurd (lost_nil hW hF hst on e x hx) nx
          | cons y l =>
            have z := lost_cons hW hF hst on e
            have : y = x := by
              rcases Int.lt_trichotomy x y with w | w | w
              · exact absurd (z.2.2 x hx w) nx
              · exact w.symm
              · exact absurd (least y z.1 w) z.2.1
            subst this
            exact q1 y l e p G' sm hp
      obtain ⟨dx, hmx⟩ := hM.fs
      have hM1 := hM.same s1
      -- what follows the tests of the lost ones
      refine seqG (fun σ G => σ = [some (.ref b), some (.ref q), some (.ref m), some (.int st), some (.ref lo), none, some (.ref D1), none, none, none, none, none, none, none] ∧ Same H1 G) ?_ (fun kk => ?_)
      · rintro σ G ⟨rfl, s2⟩
        refine seqG (fun σ G => σ = [some (.ref b), some (.ref q), some (.ref m), some (.int st), some (.ref lo), none, some (.ref D1), none, none, none, none, none, none, none] ∧ Same H1 G) ?_ (fun kk => ?_)
        · rintro σ G ⟨rfl, s2⟩
          refine seqG (fun σ G => σ = [some (.ref b), some (.ref q), some (.ref m), some (.int st), some (.ref lo), none, some (.ref D1), none, none, none, none, none, none, none] ∧ Same H1 G) ?_ (fun kk => ?_)
          · rintro σ G ⟨rfl, s2⟩
            have RG := R0.same (s1.trans s2)
            refine ⟨_, rfl, m, M, dx, _, _, rfl, (s1.trans s2) _ _ hmx, TM.cl, TM.nS, mf_s _ _ _, (nS ts : Int), rfl, by omega, by omega, for_range (fun j σ H' => ∃ w5 w7 w8 w9 w10 w11, σ = [some (.ref b), some (.ref q), some (.ref m), some (.int st), some (.ref lo), w5, some (.ref D1), w7, w8, w9, w10, w11, none, none] ∧ Rl b T H H') ⟨_, _, _, _, _, _, rfl, RG⟩ ?_ ?_⟩
            · rintro j σ H2 hj ⟨w5, w7, w8, w9, w10, w11, rfl, R2⟩
              refine gn ?_
              dsimp only [List.set]
              exact qb _ H2 none _ _ _ _ _ _ _ _ b q m ta lo ns F ts st (0 + (j : Int)) R2.1 R2.2.1 (hq.rl hb qne R2) qne hF hf hW (R2.mach hb hM) hst te on (R2.lst lne hlo) lne ⟨by omega, by omega⟩ fun H' x7 x8 x9 x10 x11 r => ⟨⟨_, _, _, _, _, _, rfl, R2.trans r⟩, ⟨_, _, _, _, _, _, rfl, R2.trans r⟩⟩
            · rintro σ H2 ⟨w5, w7, w8, w9, w10, w11, rfl, R2⟩
              exact qq _ R2
          · -- where all states are of the orbit
            have hD2 := s2 _ _ hD
            have s12 := s1.trans s2
            refine ⟨_, rfl, (by show 0 ≤ sizeLine; decide), fun l0 hl0 => eqNil (K := K) ((same_new hl0) _ _ hD2) upd_same lr ⟨_, rfl, ?_⟩⟩
            have s3 := s2.trans (same_new (o := HO.lst []) hl0)
            have hlo3 := s3 _ _ (s1 _ _ hlo)
            have hq3' := s3 _ _ (s1 _ _ hq1)
            have hmx3 := s3 _ _ (s1 _ _ hmx)
            by_cases hL : lostL F ns st = []
            · rw [decide_eq_true hL]
              refine iteT ⟨_, rfl, lo, _, rfl, .inl (SqL.of hlo3), _, rfl, m, M, dx, _, _, rfl, hmx3, TM.cl, TM.nS, mf_s _ _ _, rfl, _, rfl, ifD (fun cc => ?_) fun cc => ?_⟩
              · have cc := of_decide_eq_true cc
                have cc : V.int ((vrow ns).length : Int) = V.int (nS ts : Int) := cc
                injection cc with cc
                rw [lv] at cc
                have many := maps_many te hW hF hst (orb_all hW hst on (by omega))
                have em : ((mas.map V.ref).length : Int) = (nS ts : Int) := by rw [List.length_map, hq2, many]
                refine ⟨_, rfl, q, _, rfl, .inl (SqL.of hq3'), _, rfl, m, M, dx, _, _, rfl, hmx3, TM.cl, TM.nS, mf_s _ _ _, ?_⟩
                rw [em]
                exact neV rfl ⟨_, rfl, iteF (nxP (kk _ _ ⟨rfl, s3⟩))⟩
              · exact iteF (nxP (kk _ _ ⟨rfl, s3⟩))
            · rw [decide_eq_false hL]
              exact iteF (iteF (nxP (kk _ _ ⟨rfl, s3⟩)))
        · -- the paper by names
          have hM2 := hM1.same s2
          refine ⟨_, rfl, _, rfl, nilP ⟨rfl, gp hM2 (fun e G1 s3 => ?_) (fun x l e p G1 s3 hp => ?_)⟩⟩
          · refine ⟨_, rfl, _, rfl, nilP (gp (hM2.same s3) (fun _ G2 s4 => ?_) (fun x l e2 => by rw [e] at e2; cases e2))⟩
            exact .inr (neV rfl ⟨_, rfl, iteF (nxP (kk _ _ ⟨rfl, (s2.trans s3).trans s4⟩))⟩)
          · refine ⟨_, rfl, _, rfl, nilP (gp (hM2.same s3) (fun e2 => by rw [e] at e2; cases e2) (fun x' l' e2 p2 G2 s4 hp2 => ?_))⟩
            rw [e] at e2
            injection e2 with e2 _
            subst e2
            have xr := lr x (by rw [e]; exact List.mem_cons_self)
            have pl : Pl (.tuple [.str "lost", .int x]) 1 1000 := (Pl.tuple (PlA.cons (pl_str (x := "lost") (by decide +kernel) (by decide +kernel) (by decide +kernel)) (PlA.cons (Pl.int (i := x) (by omega)) PlA.nil))).mono (by decide) (by decide)
            have d1 : ∀ {G : Hp} {p : Addr}, G p = some (.tup [.str "lost", .int x]) → Dp K G (.ref p) (.tuple [.str "lost", .int x]) := fun h => .tup (SqT.of h) (.cons (.str _) (.cons (.int _) .nil))
            exact .inl (neDP (d1 (s4 _ _ hp)) (d1 hp2) pl (by decide) ⟨_, rfl, iteF (nxP (kk _ _ ⟨rfl, (s2.trans s3).trans s4⟩))⟩)
      · -- the paper
        refine ⟨_, rfl, _, rfl, nilP (gp hM1 (fun e G1 s3 => ?_) (fun x l e p G1 s3 hp => ?_))⟩
        · refine reprN ⟨_, rfl, (by show 0 ≤ sizeLine; decide), fun l0 hl0 => eqNil (K := K) ((same_new hl0) _ _ (s3 _ _ hD)) upd_same lr ⟨_, rfl, ?_⟩⟩
          rw [decide_eq_true e]
          exact iteT (cP (nilP (reprN (neV rfl ⟨_, rfl, iteF (nxP (kk _ _ ⟨rfl, s3.trans (same_new hl0)⟩))⟩))))
        · have xr := lr x (by rw [e]; exact List.mem_cons_self)
          have pl : Pl (.tuple [.str "lost", .int x]) 1 1000 := (Pl.tuple (PlA.cons (pl_str (x := "lost") (by decide +kernel) (by decide +kernel) (by decide +kernel)) (PlA.cons (Pl.int (i := x) (by omega)) PlA.nil))).mono (by decide) (by decide)
          have d1 : ∀ {G : Hp} {p : Addr}, G p = some (.tup [.str "lost", .int x]) → Dp K G (.ref p) (.tuple [.str "lost", .int x]) := fun h => .tup (SqT.of h) (.cons (.str _) (.cons (.int _) .nil))
          refine repr2 (d1 hp) pl (by decide) (by decide) ⟨_, rfl, (by show 0 ≤ sizeLine; decide), fun l0 hl0 => eqNil (K := K) ((same_new hl0) _ _ (s3 _ _ hD)) upd_same lr ⟨_, rfl, ?_⟩⟩
          have hD4 := (same_new (o := HO.lst []) hl0) _ _ (s3 _ _ hD)
          rw [decide_eq_false (by rw [e]; exact fun z => by cases z)]
          rw [e] at hD4
          refine iteF ⟨_, rfl, D1, _, 0, .int x, rfl, rfl, SqL.of hD4, atI_nat (j := 0) rfl, (by show 2 ≤ sizeLine; decide), fun p2 hp2 => nilP (repr2 (d1 upd_same) pl (by decide) (by decide) (neV rfl ⟨_, rfl, iteF (nxP (kk _ _ ⟨rfl, (s3.trans (same_new hl0)).trans (same_new hp2)⟩))⟩))⟩
end
end K1
namespace K1
open PySem PySem.Spec PyProof.Rows L2
abbrev nLa : List Str := ["_law_script", "_law_k", "_law_box_here", "_law_tables_here", "_law_maps_here", "_law_orbit", "_law_bad", "_law_machine", "_law_state", "_law_work", "_law_one"]
theorem scLa : FnScope nLa ["_law_script"] (defScope sLaw) := ⟨rfl, rfl, rfl, by decide +kernel, rfl, by decide +kernel, by decide +kernel⟩
abbrev qLa : Str := "law.<locals>.<lambda>"
abbrev sOuter : List Stmt := bodyOf ((defBody sLaw).getD 0 (.Pass ⟨0, 0, 0, 0⟩))
abbrev sState : List Stmt := bodyOf (sOuter.getD 3 (.Pass ⟨0, 0, 0, 0⟩))
theorem st_sta : PyData.strOk "state" = true := by decide +kernel
/-- the defs that the law calls -/
structure Dn (P : Program) (w : World) (K : PySem.W.Frag) (mg : Str → Option Value) (base : Heap) (M CR CS CU : Addr) (T : List (Addr × Str)) : Prop where
  db : Db P w K mg base M CR CS CU
  tells : ∃ f fd, Df K mg "_law_tells" sLTells ["_law_maps_here", "_law_state"] f fd ∧ FnOk P w K mg base CX0 2 f fd ["_law_maps_here", "_law_state"] spLTells
  unt : ∃ f fd, Df K mg "_law_untelling_right" sUntR ["_law_machine", "_law_state"] f fd ∧ FnG P w K mg base 13 f fd ["_law_machine", "_law_state"] (spUntR M T)
  tab : ∃ f fd, Df K mg "_law_table_right" sTabR ["_law_tables_here", "_law_maps_here", "_law_machine", "_law_state", "_law_orbit"] f fd ∧ FnG P w K mg base 10 f fd ["_law_tables_here", "_law_maps_here", "_law_machine", "_law_state", "_law_orbit"] (spTabR M)
  back : ∃ f fd, Df K mg "_law_back_right" sBackR ["_law_box_here", "_law_maps_here", "_law_machine", "_law_state", "_law_orbit"] f fd ∧ FnG P w K mg base 12 f fd ["_law_box_here", "_law_maps_here", "_law_machine", "_law_state", "_law_orbit"] (spBackR M T)
  otab : ∃ f fd, Df K mg "orbit_table" sOTab ["machine", "state"] f fd ∧ FnOk P w K mg base (L2.CX P w) 8 f fd ["machine", "state"] (spOTab M CS CR)
  isex : ∃ f fd, Df K mg "is_exchanging" sIsEx ["machine", "state"] f fd ∧ FnOk P w K mg base (L2.CX P w) 9 f fd ["machine", "state"] (spIsEx M CS CR)
def oddL (n : Int) : List V := [.int n, .int (0 - 1), .non, .bl true, .str "0"]
theorem oddL_odd {n : Int} {v : V} {H : Hp} (h : v ∈ oddL n) : OddV n H v := .inl h
section
variable {P : Program} {w : World} {K : PySem.W.Frag} {mg : Str → Option Value} {base : Heap}
theorem law_state {f M CU CR CS c Pt : Addr} {T : List (Addr × Str)} {A : Around} {outer : List Env} {s : Shared} {H₀ : Hp} {E : XK} (hr : Room 13 (A.deeper (envOfC "law" (defScope sLaw) s.heap.objs.size f (.ref c)))) (hgd : (A.deeper (envOfC "law" (defScope sLaw) s.heap.objs.size f (.ref c))).guards = some [])
    (TB : LamX.TabB base mg c Pt) (hmT : (Pt, qLa) ∈ T) (hun : ∀ p ∈ T, p.1 = Pt → p.2 = qLa) (dn : Dn P w K mg base M CR CS CU T) :
    ∃ t, PSs (cxOf CX0 P w K mg base nLa "law" (defScope sLaw) f (.ref c) A outer s H₀ E).nox sState t ∧
      ∀ (D : Ends) (H : Hp) (v0 v1 v5 v6 v9 v10 : Option V) (b p q m ta : Addr) (F : List KR) (ts : Ts) (st : Int), BoxO H b → LamX.Tabs T H → TabL H p (vts ts) → p ≠ b → MapsAt H q F → q ≠ b → Fst (actL ts) ts.length (idL (nS ts)) F → F.length ≤ 1000 → Wf ts → MachAt M H m ta (vts ts) → (0 ≤ st ∧ st < (nS ts : Int)) →
        (∀ H' w5 w6, Rl b T H H' → D.nx [v0, v1, some (.ref b), some (.ref p), some (.ref q), w5, w6, some (.ref m), some (.int st), v9, v10] H' ∧ D.ct [v0, v1, some (.ref b), some (.ref p), some (.ref q), w5, w6, some (.ref m), some (.int st), v9, v10] H') →
        t D [v0, v1, some (.ref b), some (.ref p), some (.ref q), v5, v6, some (.ref m), some (.int st), v9, v10] H := by
  have B := dn.db.B
  have TM := dn.db.T
  have hd := dn.db.hd
  obtain ⟨fK, fdK, DK, GK⟩ := dn.db.pick
  obtain ⟨fI, fdI, DI, GI⟩ := dn.db.inv
  obtain ⟨fT, fdT, DT, GT⟩ := dn.db.tjoin
  obtain ⟨fL, fdL, DL, GL⟩ := dn.tells
  obtain ⟨fU, fdU, DU, GU⟩ := dn.unt
  obtain ⟨fTb, fdTb, DTb, GTb⟩ := dn.tab
  obtain ⟨fBk, fdBk, DBk, GBk⟩ := dn.back
  have hu : (A.deeper (envOfC "law" (defScope sLaw) s.heap.objs.size f (.ref c))).units + 64 < cLine := hr.units
  have r2 := hr.mono (show 2 ≤ 13 by decide)
  have r10 := hr.mono (show 10 ≤ 13 by decide)
  have r11 := hr.mono (show 11 ≤ 13 by decide)
  have r12 := hr.mono (show 12 ≤ 13 by decide)
  refine ⟨_, pss_cons (ps_if (pt_not (pt_val (pc DL GL r2 pass0 (pa_cons (pv 4) (pa_cons (pv 8) pa_nil))))) (pss_cons (ps_if (pt_not (pt_val (pe_callG DU GU hr hgd (pa_cons (pv 7) (pa_cons (pv 8) pa_nil))))) (pss_one (ps_ret pe_bl)) pss_nil) (pss_one ps_continue)) pss_nil)
    (pss_cons (ps_set (i := 5) scLa.nd rfl (.inl rfl) (pe_callB (cr_sortedSet rfl) (by rfl) B.sorted PyProof.Rows.boot_sorted (pa_cons (pe_callTy (cr_setB (K := K) (w := w) (B := 12) rfl rfl rfl) (by rfl) B.set (by decide +kernel) (pa_cons
          (pe_lc (own := [("_law_one", 10)]) (g := gName 10) (tt := tYes) rfl scLa.nd (piL (K := K) rfl (pv 4)) (blkOk_by (N := nLa) (sc := defScope sLaw) (by decide +kernel)) (fun _ _ _ _ _ => pg_name (i := 10) scLa.nd rfl (Or.inl rfl)) (fun _ _ _ _ _ => pts_nil)
            (fun _ _ _ _ _ => pe_ix (ixTK (K := K) rfl) (pe_ix (ixTK (K := K) rfl) (pv 10) pe_int (fun _ _ => rfl)) (pv 8) (fun _ _ => rfl))) pa_nil)) pa_nil)))
    (pss_cons (ps_if (PW.pt (pw_or (pt_not (pt_val (pe_callG DTb GTb r10 hgd (pa_cons (pv 3) (pa_cons (pv 4) (pa_cons (pv 7) (pa_cons (pv 8) (pa_cons (pv 5) pa_nil)))))))) (pw_or1 (pt_not (pt_val (pe_callG DBk GBk r12 hgd (pa_cons (pv 2) (pa_cons (pv 4) (pa_cons (pv 7) (pa_cons (pv 8) (pa_cons (pv 5) pa_nil))))))))))) (pss_one (ps_ret pe_bl)) pss_nil)
    (pss_cons (ps_set (i := 6) scLa.nd rfl (.inr rfl) (pc DK GK r2 pass0 (pa_cons (pv 2) (pa_cons (pe_lst (pa_cons (pe_callB (clen (K := K) rfl) (by rfl) B.len PySem.boot_len (pa_cons (pe_ix (ixLK (K := K) rfl) (pv 3) pe_int (fun _ _ => rfl)) pa_nil)) (pa_cons (pe_op op_sub pe_int pe_int) (pa_cons pe_non (pa_cons pe_bl (pa_cons pe_str pa_nil)))))) pa_nil))))
    (pss_cons (ps_if (pt_cmpR (neDK (K := K) rfl hu) (pHeard (k := 9) (qn := qLa) (T := T) hd TB hgd r11 rfl rfl hmT hun rfl (LamX.lamS_by (by rfl)) rfl (fun _ _ _ _ _ => rfl)
          (fun A outer s H E f c' hr2 => pc DI GI (hr2.mono (show 8 ≤ 9 by decide)) (pass1 (E := E) (takes_of rfl rfl rfl rfl)) (pa_cons (pv 7) (pa_cons (pv 8) (pa_cons (pv 6) pa_nil)))))
        (pe_tup (pa_cons pe_str (pa_cons (pe_callB (call_or2 call_reprS (call_repr hgd hu)) (by rfl) B.repr (by decide +kernel) (pa_cons (pv 6) pa_nil)) (pa_cons pe_bl pa_nil)))) (nomark _)) (pss_one (ps_ret pe_bl)) pss_nil)
    (pss_one (ps_if (pt_cmpR (neDK (K := K) rfl hu) (pHeard (k := 9) (qn := qLa) (T := T) hd TB hgd r11 rfl rfl hmT hun rfl (LamX.lamS_by (by rfl)) rfl (fun _ _ _ _ _ => rfl)
          (fun A outer s H E f c' hr2 => pc DT GT hr2 (pass1 (E := E) (takes_of rfl rfl rfl rfl)) (pa_cons (pv 7) (pa_cons (pv 8) (pa_cons (pv 6) (pa_cons pe_non (pa_cons pe_non pa_nil)))))))
        (pe_tup (pa_cons pe_str (pa_cons (pe_callB (call_or2 call_reprS (call_repr hgd hu)) (by rfl) B.repr (by decide +kernel) (pa_cons (pv 6) pa_nil)) (pa_cons pe_bl pa_nil)))) (nomark _)) (pss_one (ps_ret pe_bl)) pss_nil)))))),
    fun D H v0 v1 v5 v6 v9 v10 b p q m ta F ts st hb hT tl pne hq qne hF hf hW hM hst k => ?_⟩
  obtain ⟨mas, hq1, hq2, hq3⟩ := id hq
  have n12 := hW.s12
  have n1 := hW.s1
  have hxl : ∀ e ∈ F, e.1.length = nS ts := fun e he => by
    rw [(hF.mem he).1, path_run, List.length_map, idL, gL_len]
  have R0 : Rl b T H H := Rl.refl hb hT
  refine ⟨_, rfl, _, rfl, nilP ⟨q, st, F, ts, rfl, hq, hF, hf, hW, hst, fun bo H1 s1 hbo => ?_⟩⟩
  have R1 := R0.same s1
  cases bo with
  | false =>
    have nt : ¬ Tells ts st := fun t => by have := hbo.mpr t; cases this
    refine ⟨_, rfl, iteT ?_⟩
    refine ⟨_, rfl, _, rfl, nilP ⟨m, st, ta, ts, rfl, hW, R1.mach hb hM, hst, nt, R1.2.1, fun H2 e2 t2 => ?_⟩⟩
    exact ⟨_, rfl, iteN rfl (nxP (k _ _ _ (R1.ext e2 t2)).2)⟩
  | true =>
    have te : Tells ts st := hbo.mp rfl
    refine ⟨_, rfl, iteN rfl (nxP ?_)⟩
    -- the orbit
    have rng : ∀ x ∈ thr F st.toNat, 0 ≤ x ∧ x < ((12 : Nat) : Int) := fun x hx => by
      have := ((thr_rch hF hst x).mp hx).rng hW hst
      omega
    refine ⟨_, rfl, q, rfl, ⟨_, SqL.of (s1 _ _ hq1)⟩, fun D1 hD1 => lc_list (K := K) (a := q) (xs := mas.map V.ref) (fun i H' => Same H1 H' ∧ H' D1 = some (.lst (((thr F st.toNat).take i).map V.int))) ⟨same_new hD1, by rw [upd_same]; rfl⟩ (fun i H' _ ⟨s, _⟩ => SqL.of (s _ _ (s1 _ _ hq1))) ?_ ?_⟩
    · rintro i x H' hx ⟨s2, hD2⟩
      obtain ⟨ma, hma, rfl⟩ : ∃ ma, mas[i]? = some ma ∧ x = V.ref ma := by
        rw [List.getElem?_map] at hx
        cases e : mas[i]? with
        | none => rw [e] at hx; cases hx
        | some t => rw [e] at hx; exact ⟨t, rfl, (Option.some.inj hx).symm⟩
      have hiF : i < F.length := by rw [← hq2]; exact (List.getElem?_eq_some_iff.mp hma).1
      obtain ⟨e, he⟩ : ∃ e, F[i]? = some e := ⟨F[i], List.getElem?_eq_getElem hiF⟩
      obtain ⟨xb, xc, g1, g2, _⟩ := hq3 i ma e.1 e.2 hma he
      have lx := hxl e (List.mem_of_getElem? he)
      have ez : (thr F st.toNat)[i]? = some (e.1.getD st.toNat 0) := by rw [thr, List.getElem?_map, he]; rfl
      have s12 := s1.trans s2
      refine ⟨rfl, _, rfl, ma, _, 0, _, rfl, rfl, SqT.of (s12 _ _ g1), atI_nat (j := 0) rfl, _, rfl, xb, _, st, .int (e.1.getD st.toNat 0), rfl, rfl, SqT.of (s12 _ _ g2), at_of (j := st.toNat) (by omega) (vrow_getD (by omega)), _, hD2, by rw [List.length_map, List.length_take, sizeLine_eq]; omega, fun d o eo => ?_, ?_⟩
      · rw [upd_ne (ne_of_none eo hD1)]
        exact s2 _ _ eo
      · rw [upd_same, take_succ ez, List.map_append]; rfl
    · rintro H2a ⟨s2a, hD2⟩
      have e1 : (thr F st.toNat).take (mas.map V.ref).length = thr F st.toNat := by rw [List.take_of_length_le]; rw [thr, List.length_map, List.length_map, hq2]; exact Nat.le_refl _
      rw [e1] at hD2
      refine ⟨D1, thr F st.toNat, rfl, SqL.of hD2, by rw [thr, List.length_map]; omega, rng, fun ps c hps hc => ⟨ps, _, c, rfl, upd_same, by omega, fun ns l pw mem hl hl0 => ?_⟩⟩
      have on : OrbL ts st ns := ⟨pw, fun x => by
        rw [mem x, ← thr_rch hF hst x]
        exact ⟨fun z => of_decide_eq_true z, fun z => decide_eq_true z⟩⟩
      have lne : l ≠ b := (R1.same (s2a.trans (same_new hps))).1.nn hl0
      have s3 := (s2a.trans (same_new hps)).trans (same_new (o := HO.lst (ns.map V.int)) hl0)
      have R3 := R1.same s3
      have hl3 : (upd (upd H2a ps (SetO w ps (fun j => decide (j ∈ thr F st.toNat)) c)) l (.lst (ns.map V.int))) l = some (.lst (vrow ns)) := upd_same
      generalize upd (upd H2a ps (SetO w ps (fun j => decide (j ∈ thr F st.toNat)) c)) l (.lst (ns.map V.int)) = H3 at R3 hl3 ⊢
      refine gn ?_
      dsimp only [List.set]
      -- its table, its ways back
      refine ⟨_, rfl, _, rfl, _, rfl, _, rfl, _, rfl, nilP ⟨p, q, m, st, l, ta, F, ts, ns, rfl, R3.tabL hb pne tl, hq.rl hb qne R3, hF, hf, hW, R3.mach hb hM, hst, te, on, hl3, fun H4 s4 => ?_⟩⟩
      have R4 := R3.same s4
      refine ⟨_, rfl, iteN rfl ?_⟩
      refine ⟨_, rfl, _, rfl, _, rfl, _, rfl, _, rfl, nilP ⟨b, q, m, st, l, ta, F, ts, ns, rfl, R4.1, R4.2.1, hq.rl hb qne R4, qne, hF, hf, hW, R4.mach hb hM, hst, te, on, s4 _ _ hl3, lne, fun H5 r5 => ?_⟩⟩
      have R5 := R4.trans r5
      refine ⟨_, rfl, iteN rfl (nxP ?_)⟩
      -- what is no state
      obtain ⟨t0, et0⟩ : ∃ t0, ts[0]? = some t0 := ⟨ts[0]'(by have := hW.t1; omega), List.getElem?_eq_getElem _⟩
      obtain ⟨as, a0, h1, h2, h3, h4⟩ := (R5.tabL hb pne tl).row et0
      have l0 : ((vrow t0).length : Int) = (nS ts : Int) := by
        unfold nS
        rw [et0, vrow, List.length_map]; rfl
      refine ⟨_, rfl, ?_⟩
      refine ⟨_, rfl, p, _, 0, .ref a0, rfl, rfl, SqL.of h1, atI_nat (j := 0) (by rw [List.getElem?_map, h3]; rfl), a0, _, rfl, .inr (SqT.of h4), ?_⟩
      rw [l0]
      refine ⟨_, _, rfl, rfl, (by show 5 ≤ sizeLine; decide), fun ll hll => ?_⟩
      refine nilP ⟨b, ll, oddL (nS ts : Int), rfl, (R5.new hll).1, upd_same, R5.1.nn hll, (by decide : 1 ≤ 5), (by decide : 5 ≤ 1000), fun j vo H6 hvo bx6 => ?_⟩
      have R6 := (R5.new (o := HO.lst (oddL (nS ts : Int))) hll).bx bx6
      have hod := List.mem_of_getElem? hvo
      have bad := (oddL_odd (H := H6) hod).bad
      obtain ⟨x, sx, tx⟩ := (oddL_odd (H := H6) hod).txt K (by omega) (by omega)
      have bI := belowI hst
      have kI : ∀ (G : Hp) (z : Int), ∃ (K' : PySem.W.Frag) (o : Option (List V)), KV K' G (.int z) o := fun G z => ⟨K, _, .int _⟩
      refine gn ?_
      dsimp only [List.set]
      refine ⟨R6.2.1, fun G1 eN1 t1 => ?_⟩
      have RG := R6.ext eN1 t1
      refine ⟨_, rfl, _, rfl, _, rfl, nilP ⟨m, ta, ts, _, vo, rfl, RG.mach hb hM, hW, kI _ _, (oddL_odd hod).kv K, fun e => (by rw [bI] at e; cases e), fun s' e _ => ?_⟩⟩
      injection e with e
      subst e
      refine ⟨fun nt => absurd te nt, fun _ => ⟨fun _ H' sm d H'' s2 _ hx => ⟨d, rfl, .inr ⟨rfl, vo, hx, x, fun H3 Q3 s3 q3 => tx H3 Q3 (oddL_odd hod) q3, fun p' G2 s5 hp' => ?_⟩⟩, fun o e2 hro => (by rw [e2, belowI hro] at bad; cases bad)⟩⟩
      refine ⟨_, rfl, nilP (tx _ _ (oddL_odd hod) ⟨(by show 3 ≤ sizeLine; decide), fun p2 hp2 => earS st_sta sx ((same_new hp2) _ _ hp') upd_same ⟨_, rfl, iteF (nxP ?_)⟩⟩)⟩
      have R7 := (RG.same (sm.trans (s2.trans s5))).new (o := HO.tup [.str "state", .str x, .bl true]) hp2
      generalize upd G2 p2 (.tup [V.str "state", .str x, .bl true]) = H7 at R7 ⊢
      clear hp2 hp' s5 hx s2 sm
      refine ⟨R7.2.1, fun G3 eN3 t3 => ?_⟩
      have RG3 := R7.ext eN3 t3
      refine ⟨_, rfl, _, rfl, _, rfl, m, ta, ts, _, vo, _, _, rfl, RG3.mach hb hM, hW, kI _ _, (oddL_odd hod).kv K, fun e => (by rw [bI] at e; cases e), fun s' e _ => ?_⟩
      injection e with e
      subst e
      refine ⟨fun nt => absurd te nt, fun _ => ⟨fun _ H' sm d H'' s2 _ hx => ⟨d, rfl, .inr ⟨rfl, vo, hx, x, fun H3 Q3 s3 q3 => tx H3 Q3 (oddL_odd hod) q3, fun p' G2 s5 hp' => ?_⟩⟩, fun o e2 hro => (by rw [e2, belowI hro] at bad; cases bad)⟩⟩
      refine ⟨_, rfl, nilP (tx _ _ (oddL_odd hod) ⟨(by show 3 ≤ sizeLine; decide), fun p2 hp2 => earS st_sta sx ((same_new hp2) _ _ hp') upd_same ⟨_, rfl, iteF (nxP ?_)⟩⟩)⟩
      exact (k _ _ _ ((RG3.same (sm.trans (s2.trans s5))).new hp2)).1
/-- behind the states: what is none -/
theorem law_bad {f M CU CR CS c Pt : Addr} {T : List (Addr × Str)} {A : Around} {outer : List Env} {s : Shared} {H₀ : Hp} {E : XK} (hr : Room 13 (A.deeper (envOfC "law" (defScope sLaw) s.heap.objs.size f (.ref c)))) (hgd : (A.deeper (envOfC "law" (defScope sLaw) s.heap.objs.size f (.ref c))).guards = some [])
    (TB : LamX.TabB base mg c Pt) (hmT : (Pt, qLa) ∈ T) (hun : ∀ p ∈ T, p.1 = Pt → p.2 = qLa) (dn : Dn P w K mg base M CR CS CU T) :
    ∃ t, PSs (cxOf CX0 P w K mg base nLa "law" (defScope sLaw) f (.ref c) A outer s H₀ E).nox (sOuter.drop 4) t ∧
      ∀ (D : Ends) (H : Hp) (v0 v1 v4 v5 v6 v8 v9 v10 : Option V) (b p m ta : Addr) (ts : Ts), BoxO H b → LamX.Tabs T H → TabL H p (vts ts) → p ≠ b → Wf ts → MachAt M H m ta (vts ts) →
        (∀ H' w6 w9, Rl b T H H' → D.nx [v0, v1, some (.ref b), some (.ref p), v4, v5, w6, some (.ref m), v8, w9, v10] H') →
        t D [v0, v1, some (.ref b), some (.ref p), v4, v5, v6, some (.ref m), v8, v9, v10] H := by
  have B := dn.db.B
  have TM := dn.db.T
  have hd := dn.db.hd
  obtain ⟨fK, fdK, DK, GK⟩ := dn.db.pick
  obtain ⟨fO, fdO, DO, GO⟩ := dn.otab
  obtain ⟨fX, fdX, DX, GX⟩ := dn.isex
  obtain ⟨fG, fdG, DG, GG⟩ := dn.db.gpap
  have hu : (A.deeper (envOfC "law" (defScope sLaw) s.heap.objs.size f (.ref c))).units + 64 < cLine := hr.units
  have r2 := hr.mono (show 2 ≤ 13 by decide)
  have r11 := hr.mono (show 11 ≤ 13 by decide)
  refine ⟨_, pss_cons (ps_set (i := 6) scLa.nd rfl (.inr rfl) (pc DK GK r2 pass0 (pa_cons (pv 2) (pa_cons (pe_lst (pa_cons (pe_callB (clen (K := K) rfl) (by rfl) B.len PySem.boot_len (pa_cons (pe_ix (ixLK (K := K) rfl) (pv 3) pe_int (fun _ _ => rfl)) pa_nil)) (pa_cons (pe_op op_sub pe_int pe_int) (pa_cons pe_non (pa_cons pe_bl (pa_cons pe_str pa_nil)))))) pa_nil))))
    (pss_one (ps_for PassesOwn.never rfl (pi_tup (pe_tup (pa_cons (pe_glob (v := .ref fO) rfl DO.g rfl) (pa_cons (pe_glob (v := .ref fX) rfl DX.g rfl) (pa_cons (pe_glob (v := .ref fG) rfl DG.g rfl) pa_nil))))) (pg_name (i := 9) scLa.nd rfl (.inr rfl))
      (pss_one (ps_if (pt_cmpR (neDK (K := K) rfl hu) (pHeard (k := 9) (qn := qLa) (T := T) hd TB hgd r11 rfl rfl hmT hun rfl (LamX.lamS_by (by rfl)) rfl (fun _ _ _ _ _ => rfl) (fun A outer s H E f c' hr2 =>
          pe_or2 (pe_callL (i := 9) GO (hr2.mono (show 8 ≤ 9 by decide)) rfl (.inr (.inr rfl)) DO.F.kp DO.b .nil (pass1 (E := E) (takes_of rfl rfl rfl rfl)) (pa_cons (pv 7) (pa_cons (pv 6) pa_nil)))
            (pe_or2 (pe_callL (i := 9) GX hr2 rfl (.inr (.inr rfl)) DX.F.kp DX.b .nil (pass1 (E := E) (takes_of rfl rfl rfl rfl)) (pa_cons (pv 7) (pa_cons (pv 6) pa_nil)))
              (pe_callL (i := 9) GG (hr2.mono (show 8 ≤ 9 by decide)) rfl (.inr (.inr rfl)) DG.F.kp DG.b .nil (pass1 (E := E) (takes_of rfl rfl rfl rfl)) (pa_cons (pv 7) (pa_cons (pv 6) pa_nil))))))
        (pe_tup (pa_cons pe_str (pa_cons (pe_callB (call_or2 call_reprS (call_repr hgd hu)) (by rfl) B.repr (by decide +kernel) (pa_cons (pv 6) pa_nil)) (pa_cons pe_bl pa_nil)))) (nomark _)) (pss_one (ps_ret pe_bl)) pss_nil)))),
    fun D H v0 v1 v4 v5 v6 v8 v9 v10 b p m ta ts hb hT tl pne hW hM k => ?_⟩
  have R0 : Rl b T H H := Rl.refl hb hT
  have n12 := hW.s12
  have n1 := hW.s1
  obtain ⟨t0, et0⟩ : ∃ t0, ts[0]? = some t0 := ⟨ts[0]'(by have := hW.t1; omega), List.getElem?_eq_getElem _⟩
  obtain ⟨as, a0, h1, h2, h3, h4⟩ := tl.row et0
  have l0 : ((vrow t0).length : Int) = (nS ts : Int) := by
    unfold nS
    rw [et0, vrow, List.length_map]; rfl
  refine ⟨_, rfl, ?_⟩
  refine ⟨_, rfl, p, _, 0, .ref a0, rfl, rfl, SqL.of h1, atI_nat (j := 0) (by rw [List.getElem?_map, h3]; rfl), a0, _, rfl, .inr (SqT.of h4), ?_⟩
  rw [l0]
  refine ⟨_, _, rfl, rfl, (by show 5 ≤ sizeLine; decide), fun ll hll => ?_⟩
  refine nilP ⟨b, ll, oddL (nS ts : Int), rfl, (R0.new hll).1, upd_same, R0.1.nn hll, (by decide : 1 ≤ 5), (by decide : 5 ≤ 1000), fun j vo H6 hvo bx6 => ?_⟩
  have R6 := (R0.new (o := HO.lst (oddL (nS ts : Int))) hll).bx bx6
  have hod := List.mem_of_getElem? hvo
  have bad := (oddL_odd (H := H6) hod).bad
  obtain ⟨x, sx, tx⟩ := (oddL_odd (H := H6) hod).txt K (by omega) (by omega)
  refine gn ?_
  dsimp only [List.set]
  refine ⟨(by show 3 ≤ sizeLine; decide), fun tp htp => ⟨tp, rfl, ⟨_, SqT.of upd_same⟩, ?_⟩⟩
  have R8 := R6.new (o := HO.tup [.ref fO, .ref fX, .ref fG]) htp
  have htp8 : (upd H6 tp (.tup [V.ref fO, .ref fX, .ref fG])) tp = some (.tup [.ref fO, .ref fX, .ref fG]) := upd_same
  generalize upd H6 tp (.tup [V.ref fO, .ref fX, .ref fG]) = H8 at R8 htp8 ⊢
  refine for_tup (K := K) (a := tp) (xs := [V.ref fO, .ref fX, .ref fG]) (fun _ σ H' => ∃ w9, σ = [v0, v1, some (.ref b), some (.ref p), v4, v5, some vo, some (.ref m), v8, w9, v10] ∧ Rl b T H8 H') ⟨v9, rfl, Rl.refl R8.1 R8.2.1⟩ (fun i σ H' _ ⟨_, _, rl⟩ => SqT.of (rl.tup R8.1 htp8)) ?_ ?_
  · rintro i z σ H' hz ⟨w9, rfl, rl⟩
    match i, hz with
    | 0, hz =>
      cases hz
      refine ⟨rl.2.1, fun G1 eN1 t1 => ?_⟩
      have rg := rl.ext eN1 t1
      refine .inl ⟨rfl, _, rfl, _, rfl, nilP ⟨m, ta, ts, vo, rfl, (R8.trans rg).mach hb hM, hW, (oddL_odd hod).kv K, fun _ d H'' s2 _ hx => ⟨d, rfl, .inr ⟨rfl, vo, hx, x, fun H3 Q3 s3 q3 => tx H3 Q3 (oddL_odd hod) q3, fun p' G2 s5 hp' => ?_⟩⟩, fun o e2 hro => (by rw [e2, belowI hro] at bad; cases bad)⟩⟩
      refine ⟨_, rfl, nilP (tx _ _ (oddL_odd hod) ⟨(by show 3 ≤ sizeLine; decide), fun p2 hp2 => earS st_sta sx ((same_new hp2) _ _ hp') upd_same ⟨_, rfl, iteF (nxP ?_)⟩⟩)⟩
      exact ⟨_, rfl, (rg.same (s2.trans s5)).new hp2⟩
    | 1, hz =>
      cases hz
      refine ⟨rl.2.1, fun G1 eN1 t1 => ?_⟩
      have rg := rl.ext eN1 t1
      refine .inr (.inl ⟨rfl, _, rfl, _, rfl, nilP ⟨m, ta, ts, vo, rfl, (R8.trans rg).mach hb hM, hW, (oddL_odd hod).kv K, fun _ d H'' s2 _ hx => ⟨d, rfl, .inr ⟨rfl, vo, hx, x, fun H3 Q3 s3 q3 => tx H3 Q3 (oddL_odd hod) q3, fun p' G2 s5 hp' => ?_⟩⟩, fun o e2 hro => (by rw [e2, belowI hro] at bad; cases bad)⟩⟩)
      refine ⟨_, rfl, nilP (tx _ _ (oddL_odd hod) ⟨(by show 3 ≤ sizeLine; decide), fun p2 hp2 => earS st_sta sx ((same_new hp2) _ _ hp') upd_same ⟨_, rfl, iteF (nxP ?_)⟩⟩)⟩
      exact ⟨_, rfl, (rg.same (s2.trans s5)).new hp2⟩
    | 2, hz =>
      cases hz
      refine ⟨rl.2.1, fun G1 eN1 t1 => ?_⟩
      have rg := rl.ext eN1 t1
      refine .inr (.inr ⟨rfl, _, rfl, _, rfl, nilP ⟨m, ta, ts, vo, rfl, (R8.trans rg).mach hb hM, hW, (oddL_odd hod).kv K, fun _ d H'' s2 _ hx => ⟨d, rfl, .inr ⟨rfl, vo, hx, x, fun H3 Q3 s3 q3 => tx H3 Q3 (oddL_odd hod) q3, fun p' G2 s5 hp' => ?_⟩⟩, fun o e2 hro => (by rw [e2, belowI hro] at bad; cases bad)⟩⟩)
      refine ⟨_, rfl, nilP (tx _ _ (oddL_odd hod) ⟨(by show 3 ≤ sizeLine; decide), fun p2 hp2 => earS st_sta sx ((same_new hp2) _ _ hp') upd_same ⟨_, rfl, iteF (nxP ?_)⟩⟩)⟩
      exact ⟨_, rfl, (rg.same (s2.trans s5)).new hp2⟩
    | i + 3, hz => cases hz
  · rintro σ H' ⟨w9, rfl, rl⟩
    exact k _ _ _ (R8.trans rl)
end
end K1
namespace K1
open PySem PySem.Spec PyProof.Rows L2
def spLaw (K : PySem.W.Frag) (T : List (Addr × Str)) : Sp := fun vs H Q _ => ∃ (a : Addr) (ns : List Int), vs = [.ref a] ∧ SqL K H a (ns.map V.int) ∧ ns.length ≤ 63 ∧ LamX.Tabs T H ∧ ∀ H', Q (.bl true) H'
section
variable {P : Program} {w : World} {K : PySem.W.Frag} {mg : Str → Option Value} {base : Heap}
theorem ok_law {f fI fB fA fMp M CM CU CR CS c Pt : Addr} {fd fdI fdB fdA fdMp : FuncData} {T : List (Addr × Str)} (F : FunC K "law" "law" sLaw f fd (.ref c)) (MI : Mk K M fI) (BI : Binds K fdI ["self", "tables"] []) (GI : FnOk P w K mg base (L2.CX P w) 6 fI fdI ["self", "tables"] (spMInit K CM M)) (TB : LamX.TabB base mg c Pt)
    (hmT : (Pt, qLa) ∈ T) (hun : ∀ p ∈ T, p.1 = Pt → p.2 = qLa) (dn : Dn P w K mg base M CR CS CU T)
    (DB : Df K mg "_law_box" sBox ["_law_script", "_law_k"] fB fdB) (GB : FnOk P w K mg base CX0 1 fB fdB ["_law_script", "_law_k"] (spBox K)) (DA : Df K mg "_law_tables" sTabs ["_law_box_here", "_law_most"] fA fdA) (GA : FnOk P w K mg base CX0 3 fA fdA ["_law_box_here", "_law_most"] spTabs)
    (DMp : Df K mg "_law_maps" sMaps ["_law_tables_here"] fMp fdMp) (GMp : FnOk P w K mg base CX0 1 fMp fdMp ["_law_tables_here"] spMaps) :
    FnG P w K mg base 14 f fd ["_law_script"] (spLaw K T) := by
  refine F.okG scLa (fun vs H Q E h => ?_) (fun A outer s H vs Q E hr hgd h => ?_)
  · obtain ⟨a, ns, rfl, _⟩ := h
    rfl
  · obtain ⟨a, ns, rfl, hS, hn, hT, qq⟩ := h
    have B := dn.db.B
    have TM := dn.db.T
    have r1 := hr.mono (show 1 ≤ 13 by decide)
    have r3 := hr.mono (show 3 ≤ 13 by decide)
    have r7 := hr.mono (show 7 ≤ 13 by decide)
    obtain ⟨ts_, hts, qs⟩ := law_state (P := P) (w := w) (outer := outer) (s := s) (f := f) (c := c) (H₀ := H) (E := E) hr hgd TB hmT hun dn
    obtain ⟨tb_, htb, qb⟩ := law_bad (P := P) (w := w) (outer := outer) (s := s) (f := f) (c := c) (H₀ := H) (E := E) hr hgd TB hmT hun dn
    refine ⟨_, pss_cons (ps_for PassesOwn.never rfl (pi_range1 (by rfl) B.range (pa_cons pe_int pa_nil)) (pg_name (i := 1) scLa.nd rfl (.inl rfl))
        (pss_cons (ps_set (i := 2) scLa.nd rfl (.inl rfl) (pc DB GB r1 pass0 (pa_cons (pv 0) (pa_cons (pv 1) pa_nil))))
        (pss_cons (ps_set (i := 3) scLa.nd rfl (.inl rfl) (pc DA GA r3 pass0 (pa_cons (pv 2) (pa_cons pe_int pa_nil))))
        (pss_cons (ps_asg (pe_tup (pa_cons (pe_make MI GI r7 rfl TM.g BI .nil passF (pa_cons (pv 3) pa_nil)) (pa_cons (pc DMp GMp r1 pass0 (pa_cons (pv 3) pa_nil)) pa_nil)))
            (pg_tup rfl (pgs_cons (pg_name (i := 7) scLa.nd rfl (.inr rfl)) (pgs_cons (pg_name (i := 4) scLa.nd rfl (.inl rfl)) pgs_nil))))
        (pss_cons (ps_for PassesOwn.never rfl (pi_range1 (by rfl) B.range (pa_cons (pe_callB (clen (K := K) rfl) (by rfl) B.len PySem.boot_len (pa_cons (pe_ix (ixLK (K := K) rfl) (pv 3) pe_int (fun _ _ => rfl)) pa_nil)) pa_nil)) (pg_name (i := 8) scLa.nd rfl (.inr rfl)) hts)
        htb)))))
      (pss_one (ps_ret pe_bl)), ?_⟩
    refine ⟨2, rfl, by decide, by decide, for_range (n := 2) (fun _ σ H' => ∃ v1 v2 v3 v4 v5 v6 v7 v8 v9 v10, σ = [some (.ref a), v1, v2, v3, v4, v5, v6, v7, v8, v9, v10] ∧ SqL K H' a (ns.map V.int) ∧ LamX.Tabs T H') ⟨_, _, _, _, _, _, _, _, _, _, rfl, hS, hT⟩ ?_ ?_⟩
    · rintro i σ H1 hi ⟨v1, v2, v3, v4, v5, v6, v7, v8, v9, v10, rfl, hS1, hT1⟩
      refine ⟨_, rfl, _, rfl, a, ns, _, rfl, hS1, hn, by omega, by omega, fun b H2 s2 nb bo => ?_⟩
      refine gn ?_
      dsimp only [List.set]
      have R2 : Rl b T H2 H2 := Rl.refl bo (hT1.ext s2)
      refine ⟨_, rfl, b, rfl, bo, fun p ts H3 bx3 hp0 npb tl hW few => ?_⟩
      refine gn ?_
      dsimp only [List.set]
      have R3 := R2.bx bx3
      refine ⟨_, rfl, fun m dx hm hdx ne => ?_⟩
      have s0 : Same H3 (upd (upd H3 dx (.own m)) m (.ins M dx [])) := (same_new hdx).trans (same_new (by rw [upd_ne ne.symm]; exact hm))
      refine ⟨m, dx, _, _, rfl, upd_same, (tl.same s0).mv, fun z hz => (by rw [chk_wf hW] at hz; cases hz), fun _ ts' ets ta H5 k5 hM => ⟨rfl, ?_⟩⟩
      obtain rfl : vts ts = ts' := map_some (Option.some.inj ets)
      have s5 := mkS hm hdx k5
      have tl5 := tl.same s5
      have R5 := R3.same s5
      clear k5 hm hdx s0
      refine ⟨_, rfl, p, ts, rfl, tl5, hW, few, fun q F H6 s6 hq0 hMaps hF hf => ?_⟩
      have nqb : q ≠ b := R5.1.nn hq0
      refine ⟨(by show 2 ≤ sizeLine; decide), fun T1 hT1' => ?_⟩
      refine ⟨T1, _, rfl, SqT.of upd_same, rfl, _, _, rfl, _, _, rfl, rfl, ?_⟩
      have sN := same_new (o := HO.tup [.ref m, .ref q]) hT1'
      have R6 := (R5.same s6).same sN
      have hM6 := (hM.same s6).same sN
      have tl6 := (tl5.same s6).same sN
      have hMaps6 := hMaps.same sN
      generalize upd H6 T1 (.tup [V.ref m, .ref q]) = H6' at R6 hM6 tl6 hMaps6 ⊢
      obtain ⟨t0, et0⟩ : ∃ t0, ts[0]? = some t0 := ⟨ts[0]'(by have := hW.t1; omega), List.getElem?_eq_getElem _⟩
      obtain ⟨as, a0, h1, h2, h3, h4⟩ := tl6.row et0
      have l0 : ((vrow t0).length : Int) = (nS ts : Int) := by
        unfold nS
        rw [et0, vrow, List.length_map]; rfl
      have n1 := hW.s1
      have n12 := hW.s12
      have eN : ((nS ts : Int)).toNat = nS ts := by omega
      have hb6 := R6.1
      refine ⟨_, rfl, p, _, 0, .ref a0, rfl, rfl, SqL.of h1, atI_nat (j := 0) (by rw [List.getElem?_map, h3]; rfl), a0, _, rfl, .inr (SqT.of h4), ((vrow t0).length : Int), rfl, by omega, by omega, for_range (fun j σ H' => ∃ w5 w6 w8, σ = [some (.ref a), some (.int (0 + (i : Int))), some (.ref b), some (.ref p), some (.ref q), w5, w6, some (.ref m), w8, v9, v10] ∧ Rl b T H6' H') ⟨_, _, _, rfl, Rl.refl hb6 R6.2.1⟩ ?_ ?_⟩
      · rintro j σ H7 hj ⟨w5, w6, w8, rfl, r7'⟩
        refine gn ?_
        dsimp only [List.set]
        exact qs _ H7 _ _ _ _ _ _ b p q m ta F ts (0 + (j : Int)) r7'.1 r7'.2.1 (r7'.tabL hb6 npb tl6) npb (hMaps6.rl hb6 nqb r7') nqb hF hf hW (r7'.mach hb6 hM6) ⟨by omega, by omega⟩ fun H' x5 x6 r => ⟨⟨_, _, _, rfl, r7'.trans r⟩, ⟨_, _, _, rfl, r7'.trans r⟩⟩
      · rintro σ H7 ⟨w5, w6, w8, rfl, r7'⟩
        exact qb _ H7 _ _ _ _ _ _ _ _ b p m ta ts r7'.1 r7'.2.1 (r7'.tabL hb6 npb tl6) npb hW (r7'.mach hb6 hM6) fun H' x6 x9 r => ⟨_, _, _, _, _, _, _, _, _, _, rfl, sqL_rl hS1 nb s2 (R6.trans (r7'.trans r)), r.2.1⟩
    · rintro σ H1 ⟨v1, v2, v3, v4, v5, v6, v7, v8, v9, v10, rfl, _, _⟩
      exact qq _
end
end K1
namespace K1
open PySem PySem.Spec PyProof.Rows L2
/-- the caller's call of a law that is told where nothing is being shown; some tables of code objects stand by -/
theorem call_laws {P : Program} {w : World} {K : PySem.W.Frag} {mg mb : Str → Option Value} {k : Nat} {fa a : Addr} (Ps : List (Addr × Addr)) {fd : FuncData} {x : Str} {sp : Sp} {s : Shared} {vs : List Value} {ns : List Int}
    (KX : K.In s.heap) (hmg : s.heap.Ns mainGlobals mg) (hmb : s.heap.Ns builtinsNs mb) (hbb : ∀ x : Str, x ≠ "__name__" → mb x = bootBuiltins x) (hlim : s.heap.NoLimit) (hg : s.gens = #[])
    (hPs : ∀ p ∈ Ps, s.heap.get? p.2 = some { cls := .none, data := .fields #[] } ∧ K.lookup p.2 = none ∧ PySem.W.CodeHd s.heap p.1 p.2)
    (hbm : ∃ (bm : Addr) (ob : Obj), mg "__builtins__" = some (.ref bm) ∧ bm ≠ builtinsNs ∧ s.heap.get? bm = some ob ∧ ob.cls = .type "module" ∧ ob.dict = some builtinsNs ∧ ob.data = .plain)
    (ha : s.heap.get? a = some { cls := .type "list", data := .seq vs.toArray }) (hi : IntsAre vs ns) (hl : ns.length ≤ sizeLine) (hr : Room k callerA)
    (F : ∀ base : Heap, K.In base → base.Ns mainGlobals mg → (∀ p ∈ Ps, LamX.TabB base mg p.1 p.2) → FnG P w K mg base k fa fd [x] sp) (hbind : ∀ (s : Shared) (u : Value), BindsTo s fd ⟨[u], []⟩ [(x, u)])
    (hsp : ∀ H : Hp, (∀ p ∈ Ps, H p.2 = some (.tbl #[])) → SqL K H a (ns.map V.int) → sp [.ref a] H (fun v _ => v = .bl true) fun _ _ _ => False) :
    codeAny (model P w) callerA (.call (.ref fa) ⟨[.ref a], []⟩) (fun r s' => r = .ok (.ret (.bool true)) ∧ OldK s.heap s'.heap ∧ s'.os = s.os ∧ AllBare s'.gens) s := by
  have hTS : ∀ b, b ∈ Ps.map (·.2) → s.heap.get? b = some { cls := .none, data := .fields #[] } ∧ K.lookup b = none ∧ ∃ c, PySem.W.CodeHd s.heap c b := fun b hb => by
    obtain ⟨p, hp, rfl⟩ := List.mem_map.mp hb
    obtain ⟨h1, h2, h3⟩ := hPs p hp
    exact ⟨h1, h2, _, h3⟩
  generalize hTSd : Ps.map (·.2) = TS at hTS
  have inTS : ∀ p ∈ Ps, p.2 ∈ TS := fun p hp => by rw [← hTSd]; exact List.mem_map.mpr ⟨p, hp, rfl⟩
  have nPa : ∀ b ∈ TS, b ≠ a := fun b hb z => by
    have hT := (hTS b hb).1
    rw [z, ha] at hT
    cases Option.some.inj hT
  -- told of any way to follow the script
  have told : ∀ H : Hp, (∀ b ∈ TS, H b = some (.tbl #[])) → (∀ b, b ∉ TS → H b = none ∨ (b = a ∧ K.lookup a = none ∧ ∃ o xs, H a = some (.frz o (.lst xs)))) → SqL K H a (ns.map V.int) → HOk P w H s.heap →
      codeAny (model P w) callerA (.call (.ref fa) ⟨[.ref a], []⟩) (fun r s' => r = .ok (.ret (.bool true)) ∧ OldK s.heap s'.heap ∧ s'.os = s.os ∧ AllBare s'.gens) s := by
    intro H hP hO hS hok
    have out : ∀ {b : Addr} {o : Obj}, s.heap.get? b = some o → b ∉ TS → b ≠ a → (hidT s.heap H).get? b = some o := fun {b o} e n1 n2 => hidT_get e ((hO b n1).resolve_right fun z => n2 z.1)
    have neD : ∀ {b : Addr} {o : Obj}, s.heap.get? b = some o → (∀ v n, o.data ≠ .seq v n) → (o.data ≠ .fields #[]) → b ∉ TS ∧ b ≠ a := fun {b o} e h1 h2 => ⟨fun z => by
      have hT := (hTS b z).1
      rw [hT] at e
      cases Option.some.inj e
      exact h2 rfl, fun z => by
      rw [z, ha] at e
      cases Option.some.inj e
      exact h1 _ _ rfl⟩
    have ns_ : ∀ {b : Addr} {m : Str → Option Value}, s.heap.Ns b m → (hidT s.heap H).Ns b m := fun {b m} ⟨o, es, ep, e, d, r⟩ => by
      have n := neD e (fun v n z => by rw [d] at z; cases z) (fun z => by rw [d] at z; cases z)
      exact ⟨o, es, ep, out e n.1 n.2, d, r⟩
    have kin : K.In (hidT s.heap H) := fun b o e => by
      refine hidT_get (KX b o e) ?_
      by_cases z : b ∈ TS
      · rw [(hTS b z).2.1] at e; cases e
      · refine (hO b z).resolve_right fun ⟨z1, z2, _⟩ => ?_
        rw [z1, z2] at e
        cases e
    have hM : L2.Mod K mg (hidT s.heap H) := ⟨kin, ns_ hmg, ⟨mb, ns_ hmb, hbb⟩, let ⟨mc, h1, h2⟩ := hlim; ⟨mc, ns_ h1, h2⟩⟩
    have TB : ∀ p ∈ Ps, LamX.TabB (hidT s.heap H) mg p.1 p.2 := fun p hp => by
      obtain ⟨hT, nT, hC⟩ := hPs p hp
      refine ⟨?_, ?_, fun z => ?_⟩
      · obtain ⟨o, us, file, tf, flags, tg, inF, text, tt, e, e2, e3, r⟩ := hC
        have n := neD e (fun v n z => by rw [e3] at z; cases z) (fun z => by
          rw [e3] at z
          cases z
          have := r.1
          simp at this)
        exact ⟨o, us, file, tf, flags, tg, inF, text, tt, out e n.1 n.2, e2, e3, r⟩
      · obtain ⟨bm, ob, b1, b2, b3, b4, b5, b6⟩ := hbm
        have n := neD b3 (fun v n z => by rw [b6] at z; cases z) (fun z => by rw [b6] at z; cases z)
        refine ⟨bm, ob, b1, b2, fun z => ?_, fun z => n.1 (by rw [z]; exact inTS p hp), out b3 n.1 n.2, b4, b5, b6⟩
        obtain ⟨o, es, ep, e, d, _⟩ := hmg
        rw [z, e] at b3
        cases Option.some.inj b3
        rw [d] at b6
        cases b6
      · obtain ⟨o, es, ep, e, d, _⟩ := hmg
        rw [z, hT] at e
        cases Option.some.inj e
        cases d
    have e0 : Env0 P w K mg (hidT s.heap H) callerA [] s H := ⟨rfl, hM, fun b o e => of_hidT e, Nat.le_of_eq (hidT_size _ _), trivial, fun b hb => absurd (show b ∈ ([] : List Addr) from hb) (by simp), hok, .of_eq hg⟩
    refine codeAny_mono ((F _ kin (ns_ hmg) TB).run callerA [] s H ⟨[.ref a], []⟩ [.ref a] [.ref a] _ _ hr rfl e0 (hbind s (.ref a)) (.cons rfl .nil) (hsp H (fun p hp => hP _ (inTS p hp)) hS)) fun r s' h => ?_
    cases r with
    | error e => exact (show False from h).elim
    | ok fl =>
      cases fl with
      | next => exact False.elim h
      | brk => exact False.elim h
      | cont => exact False.elim h
      | ret u =>
        obtain ⟨v, H', os, bare, un, hok', r', q⟩ := h
        obtain rfl : v = V.bl true := q
        obtain rfl : u = Value.bool true := r'
        have hm' : ∀ b ∈ TS, ∃ more, s'.heap.get? b = some { cls := .none, data := .fields more } := fun b hb => by
          obtain ⟨more, hm⟩ := un.tbls b #[] (hP b hb)
          have z := hok' b _ hm
          rw [Array.empty_append] at z
          exact ⟨more, z⟩
        have rest : ∀ b o, b ∉ TS → s.heap.get? b = some o → s'.heap.get? b = some o := fun b o n e => by
          rcases hO b n with z | ⟨z, _, ob, xs, hf⟩
          · exact un.keep b o e z (fun w => absurd (show b ∈ ([] : List Addr) from w) (by simp)) (by simp)
          · rw [z] at e ⊢
            have e1 := (hok a _ hf).1
            rw [e] at e1
            rw [Option.some.inj e1]
            exact (hok' a _ (un.frzs a ob _ hf)).1
        refine ⟨rfl, ⟨fun b o e => ?_, fun b o e => ?_⟩, os, bare⟩
        · by_cases z : b ∈ TS
          · obtain ⟨hT, _, c, hC⟩ := hTS b z
            obtain ⟨more, hm⟩ := hm' b z
            rw [hT] at e
            cases Option.some.inj e
            exact .inr (.inl ⟨(hC.tab hT).isCodeTable, rfl, #[], more, rfl, by rw [Array.empty_append]; exact hm⟩)
          · exact .inl (rest b o z e)
        · by_cases z : b ∈ TS
          · obtain ⟨more, hm⟩ := hm' b z
            exact ⟨_, hm⟩
          · exact ⟨o, rest b o z e⟩
  have rv := vals_ints hi
  have naTS : a ∉ TS := fun z => nPa a z rfl
  cases hk : K.lookup a with
  | some o =>
    have e := KX a o hk
    rw [ha] at e
    cases Option.some.inj e
    refine told (fun b => if b ∈ TS then some (.tbl #[]) else none) (fun b hb => if_pos hb) (fun b n => .inl (if_neg n)) (.inr ⟨_, vs.toArray, _, hk, rfl, rfl, rfl, by rw [List.size_toArray, hi.length]; exact hl, by simpa using rv⟩) fun b u z => ?_
    by_cases n : b ∈ TS
    · have z' : some (HO.tbl #[]) = some u := (if_pos n).symm.trans z
      cases z'
      exact (hTS b n).1
    · have z' : (none : Option HO) = some u := (if_neg n).symm.trans z
      cases z'
  | none =>
    refine told (fun b => if b ∈ TS then some (.tbl #[]) else if b = a then some (.frz { cls := .type "list", data := .seq vs.toArray } (.lst (ns.map V.int))) else none) (fun b hb => if_pos hb) (fun b n => ?_) (.inl (.inr ⟨_, (if_neg naTS).trans (if_pos rfl)⟩)) fun b u z => ?_
    · by_cases n2 : b = a
      · exact .inr ⟨n2, hk, _, _, (if_neg naTS).trans (if_pos rfl)⟩
      · exact .inl ((if_neg n).trans (if_neg n2))
    · by_cases n : b ∈ TS
      · have z' : some (HO.tbl #[]) = some u := (if_pos n).symm.trans z
        cases z'
        exact (hTS b n).1
      · by_cases n2 : b = a
        · have z' := ((if_neg n).trans (if_pos n2)).symm.trans z
          cases z'
          rw [n2]
          exact ⟨ha, by rw [List.length_map]; exact hl, vs, _, rv, ha⟩
        · have z' := ((if_neg n).trans (if_neg n2)).symm.trans z
          cases z'
end K1
namespace K1
open PySem PySem.Spec PyProof.Rows L2
abbrev T3 (Pt Pu Pb : Addr) : List (Addr × Str) := [(Pt, qLa), (Pu, qUR), (Pb, qBR)]
/-- what the top has left -/
structure Tp (K : PySem.W.Frag) (mg : Str → Option Value) (M CM CR CS CU c Pt cu Pu cb Pb fa fu fb : Addr) (fd fdu fdb : FuncData) : Prop where
  B : Bt mg
  ct : Ct mg
  ke : mg "KeyError" = none
  zp : mg "zip" = none
  whole : ∃ f fd, Df K mg "is_whole" sWhole ["value"] f fd
  below : ∃ f fd, Df K mg "is_below" sBelow ["value", "limit"] f fd
  seq : ∃ f fd, Df K mg "is_sequence" sSeq ["value", "least", "most"] f fd
  fnb : ∃ f fd, Df K mg "first_not_below" sFnb ["items", "limit"] f fd
  istab : ∃ f fd, Df K mg "is_table" sIsTab ["value", "states"] f fd
  chk : ∃ f fd, Df K mg "checked_tables" sChk ["value"] f fd
  needS : ∃ f fd, Df K mg "need_state" sNeedS ["machine", "state"] f fd
  first : ∃ f fd, DfF K mg f fd
  orbit : ∃ f fd, Df K mg "orbit" sOrbit ["machine", "state"] f fd
  needSs : ∃ f fd, Df K mg "need_states" sNeedSs ["machine", "states"] f fd
  joined : ∃ f fd, Df K mg "joined" sJoined ["machine", "archive", "here", "there"] f fd
  join : ∃ f fd, Df K mg "join" sJoin ["machine", "archive", "here", "there"] f fd
  parting : ∃ f fd, Df K mg "parting_rows" sParting ["machine", "archive", "here"] f fd
  tpaper : ∃ f fd, Df K mg "telling_paper" sTPaper ["machine", "state"] f fd
  istell : ∃ f fd, Df K mg "is_telling" sIsTell ["machine", "state"] f fd
  torb : ∃ f fd, Df K mg "told_orbit" sTOrb ["machine", "state"] f fd
  otab : ∃ f fd, Df K mg "orbit_table" sOTab ["machine", "state"] f fd
  jrow : ∃ f fd, Df K mg "join_row" sJRow ["machine", "state", "here", "states"] f fd
  isex : ∃ f fd, Df K mg "is_exchanging" sIsEx ["machine", "state"] f fd
  gpap : ∃ f fd, Df K mg "group_paper" sGPap ["machine", "state"] f fd
  inv : ∃ f fd, Df K mg "inverse_of" sInv ["machine", "state", "one"] f fd
  tjoin : ∃ f fd, Df K mg "turned_join" sTJoin ["machine", "state", "archive", "here", "there"] f fd
  box : ∃ f fd, Df K mg "_law_box" sBox ["_law_script", "_law_k"] f fd
  take : ∃ f fd, Df K mg "_law_take" sTake ["_law_box_here", "_law_many"] f fd
  pick : ∃ f fd, Df K mg "_law_pick" sPick ["_law_box_here", "_law_some"] f fd
  tabs : ∃ f fd, Df K mg "_law_tables" sTabs ["_law_box_here", "_law_most"] f fd
  maps : ∃ f fd, Df K mg "_law_maps" sMaps ["_law_tables_here"] f fd
  lends : ∃ f fd, Df K mg "_law_ends" sLEnds ["_law_maps_here", "_law_archive", "_law_here"] f fd
  ltells : ∃ f fd, Df K mg "_law_tells" sLTells ["_law_maps_here", "_law_state"] f fd
  heard : ∃ f fd, Df K mg "_law_heard" sHeard ["_law_ask"] f fd
  tabR : ∃ f fd, Df K mg "_law_table_right" sTabR ["_law_tables_here", "_law_maps_here", "_law_machine", "_law_state", "_law_orbit"] f fd
  untR : FunC K "_law_untelling_right" "_law_untelling_right" sUntR fu fdu (.ref cu)
  untRD : Df K mg "_law_untelling_right" sUntR ["_law_machine", "_law_state"] fu fdu
  backR : FunC K "_law_back_right" "_law_back_right" sBackR fb fdb (.ref cb)
  backRD : Df K mg "_law_back_right" sBackR ["_law_box_here", "_law_maps_here", "_law_machine", "_law_state", "_law_orbit"] fb fdb
  law : FunC K "law" "law" sLaw fa fd (.ref c)
  lawb : ∀ (s : Shared) (u : Value), BindsTo s fd ⟨[u], []⟩ [("_law_script", u)]
  init : ∃ f fd, Fun K "__init__" "Machine.__init__" sMInit f fd ∧ Mk K M f ∧ Binds K fd ["self", "tables"] []
  T : McT K mg M
  t1 : ∃ q b i, LAt.Txt K mg "BadMachine" q b CM i
  t2 : ∃ q b i, LAt.Txt K mg "Refused" q b CR i
  t3 : ∃ q b i, LState.Txt K mg "NoState" q b CS i
  u : UnC K mg CU
  ui : ∃ f fd, Fun K "__init__" "Untold.__init__" sUInit f fd ∧ PySem.W.findIn K (.ref CU) "__init__" = some (some (.ref f)) ∧ PySem.W.typeIn K (.ref f) = some (.type "function") ∧ Binds K fd ["self", "archive", "here", "there"] []
  ex : ∃ N, mg "NetError" = some (.ref N) ∧ Exm K CR CS N
  tab : PySem.W.tabIn K "law" = some (c, Pt)
  nP : K.lookup Pt = Option.none
  tabu : PySem.W.tabIn K "_law_untelling_right" = some (cu, Pu)
  nPu : K.lookup Pu = Option.none
  tabb : PySem.W.tabIn K "_law_back_right" = some (cb, Pb)
  nPb : K.lookup Pb = Option.none
  ntu : Pt ≠ Pu
  ntb : Pt ≠ Pb
  nub : Pu ≠ Pb
section
variable {P : Program} {w : World} {K : PySem.W.Frag} {mg : Str → Option Value} {base : Heap}
theorem asm {M CM CR CS CU c Pt cu Pu cb Pb fa fu fb : Addr} {fd fdu fdb : FuncData} (t : Tp K mg M CM CR CS CU c Pt cu Pu cb Pb fa fu fb fd fdu fdb) (TB : LamX.TabB base mg c Pt) (TBu : LamX.TabB base mg cu Pu) (TBb : LamX.TabB base mg cb Pb) : FnG P w K mg base 14 fa fd ["_law_script"] (spLaw K (T3 Pt Pu Pb)) := by
  have B := t.B
  have ct := t.ct
  have T := t.T
  obtain ⟨_, _, dWhole⟩ := t.whole
  obtain ⟨_, _, dBelow⟩ := t.below
  obtain ⟨_, _, dSeq⟩ := t.seq
  obtain ⟨_, _, dFnb⟩ := t.fnb
  obtain ⟨_, _, dIstab⟩ := t.istab
  obtain ⟨_, _, dChk⟩ := t.chk
  obtain ⟨_, _, dNeedS⟩ := t.needS
  obtain ⟨_, _, dFirst⟩ := t.first
  obtain ⟨_, _, dOrbit⟩ := t.orbit
  obtain ⟨_, _, dNeedSs⟩ := t.needSs
  obtain ⟨_, _, dJoined⟩ := t.joined
  obtain ⟨_, _, dJoin⟩ := t.join
  obtain ⟨_, _, dParting⟩ := t.parting
  obtain ⟨_, _, dTpaper⟩ := t.tpaper
  obtain ⟨_, _, dIstell⟩ := t.istell
  obtain ⟨_, _, dTorb⟩ := t.torb
  obtain ⟨_, _, dOtab⟩ := t.otab
  obtain ⟨_, _, dJrow⟩ := t.jrow
  obtain ⟨_, _, dIsex⟩ := t.isex
  obtain ⟨_, _, dGpap⟩ := t.gpap
  obtain ⟨_, _, dInv⟩ := t.inv
  obtain ⟨_, _, dTjoin⟩ := t.tjoin
  obtain ⟨_, _, dBox⟩ := t.box
  obtain ⟨_, _, dTake⟩ := t.take
  obtain ⟨_, _, dPick⟩ := t.pick
  obtain ⟨_, _, dTabs⟩ := t.tabs
  obtain ⟨_, _, dMaps⟩ := t.maps
  obtain ⟨_, _, dLends⟩ := t.lends
  obtain ⟨_, _, dLtells⟩ := t.ltells
  obtain ⟨_, _, dHeard⟩ := t.heard
  obtain ⟨_, _, dTabR⟩ := t.tabR
  obtain ⟨_, _, fInit, mk, bInit⟩ := t.init
  obtain ⟨_, _, fUi, iC, tI, bUi⟩ := t.ui
  obtain ⟨_, _, _, x1⟩ := id t.t1
  obtain ⟨_, _, _, x2⟩ := id t.t2
  obtain ⟨_, _, _, x3⟩ := id t.t3
  have gWhole := ok_whole (P := P) (w := w) (base := base) dWhole B
  have gBelow := ok_below (P := P) (w := w) (base := base) dBelow dWhole B
  have gSeq := ok_seq (P := P) (w := w) (base := base) dSeq B
  have gFnb := ok_fnb (P := P) (w := w) (base := base) dFnb dBelow B gBelow
  have gIstab := ok_istab (P := P) (w := w) (base := base) dIstab dSeq dFnb gSeq gFnb
  have gChk := ok_chk (P := P) (w := w) (base := base) dChk dSeq dIstab B ct x1 gSeq gIstab
  have gInit := ok_minit (P := P) (w := w) (base := base) fInit dChk B T gChk
  have gNeedS := ok_needS (P := P) (w := w) (base := base) dNeedS dBelow T x3 gBelow
  have gFirst := ok_first (P := P) (w := w) (base := base) dFirst B T
  have gOrbit := ok_orbit (P := P) (w := w) (base := base) dOrbit dNeedS dFirst B gNeedS gFirst
  have gNeedSs := ok_needSs (P := P) (w := w) (base := base) dNeedSs dNeedS gNeedS
  have gUi := ok_uinit (P := P) (w := w) (base := base) fUi t.u
  have gJoined := ok_joined (P := P) (w := w) (base := base) dJoined dFirst t.u B iC tI bUi gUi gFirst
  have gJoin := ok_join (P := P) (w := w) (base := base) (CU := CU) dJoin dNeedSs dJoined gNeedSs gJoined
  have gParting := ok_parting (P := P) (w := w) (base := base) dParting dFirst B gFirst
  have gTpaper := ok_tpaper (P := P) (w := w) (base := base) dTpaper dOrbit dParting B T gOrbit gParting
  have gIstell := ok_istell (P := P) (w := w) (base := base) dIstell dTpaper gTpaper
  have gTorb := ok_torb (P := P) (w := w) (base := base) dTorb dIstell dOrbit x2 gIstell gOrbit
  have gJrow := ok_jrow (P := P) (w := w) (base := base) dJrow dJoin B gJoin
  have gOtab := ok_otab (P := P) (w := w) (base := base) dOtab dTorb dJrow B gTorb gJrow
  have gIsex := ok_isex (P := P) (w := w) (base := base) dIsex dOtab B t.zp gOtab
  have gGpap := ok_gpap (P := P) (w := w) (base := base) dGpap dTorb dOrbit gTorb gOrbit
  have gInv := ok_inv (P := P) (w := w) (base := base) dInv dTorb dNeedS dJrow x2 gTorb gNeedS gJrow
  have gTjoin := ok_tjoin (P := P) (w := w) (base := base) dTjoin dInv dNeedS dJoin gInv gNeedS gJoin
  have gTake := ok_take (P := P) (w := w) (base := base) dTake B
  have gPick := ok_pick (P := P) (w := w) (base := base) dPick dTake B gTake
  have gBox := ok_box (P := P) (w := w) (base := base) dBox B
  have gTabs := ok_tabs (P := P) (w := w) (base := base) dTabs dTake dPick B gTake gPick
  have gMaps := ok_maps (P := P) (w := w) (base := base) dMaps B
  have gLends := ok_lends (P := P) (w := w) (base := base) dLends B
  have gLtells := ok_ltells (P := P) (w := w) (base := base) dLtells dLends B gLends
  have hd : Hd K mg base CR CS := ⟨B, t.ke, t.heard, t.t2, t.t3, t.ex, x2.gC, x3.gC⟩
  have gUntR := ok_untR (P := P) (w := w) (T := T3 Pt Pu Pb) (CU := CU) t.untR TBu (List.mem_cons_of_mem _ List.mem_cons_self) (fun p hp e => by
    simp only [List.mem_cons, List.mem_nil_iff, or_false] at hp
    rcases hp with rfl | rfl | rfl
    · exact absurd e t.ntu
    · rfl
    · exact absurd e.symm t.nub) B hd dOtab gOtab dIsex gIsex dGpap gGpap dInv gInv dTjoin gTjoin
  have gTabR := ok_tabR (P := P) (w := w) (base := base) dTabR dOtab dLends dIsex B gOtab gLends gIsex
  have db : Db P w K mg base M CR CS CU := ⟨B, T, hd, ⟨_, _, dPick, gPick⟩, ⟨_, _, dLends, gLends⟩, ⟨_, _, dJoin, gJoin⟩, ⟨_, _, dGpap, gGpap⟩, ⟨_, _, dInv, gInv⟩, ⟨_, _, dTjoin, gTjoin⟩⟩
  have gBackR := ok_backR (P := P) (w := w) (T := T3 Pt Pu Pb) t.backR TBb (List.mem_cons_of_mem _ (List.mem_cons_of_mem _ List.mem_cons_self)) (fun p hp e => by
    simp only [List.mem_cons, List.mem_nil_iff, or_false] at hp
    rcases hp with rfl | rfl | rfl
    · exact absurd e t.ntb
    · exact absurd e t.nub
    · rfl) db
  have dn : Dn P w K mg base M CR CS CU (T3 Pt Pu Pb) := ⟨db, ⟨_, _, dLtells, gLtells⟩, ⟨_, _, t.untRD, gUntR⟩, ⟨_, _, dTabR, gTabR⟩, ⟨_, _, t.backRD, gBackR⟩, ⟨_, _, dOtab, gOtab⟩, ⟨_, _, dIsex, gIsex⟩⟩
  exact ok_law t.law mk bInit gInit TB List.mem_cons_self (fun p hp e => by
    simp only [List.mem_cons, List.mem_nil_iff, or_false] at hp
    rcases hp with rfl | rfl | rfl
    · rfl
    · exact absurd e.symm t.ntu
    · exact absurd e.symm t.ntb) dn dBox gBox dTabs gTabs dMaps gMaps
end
/-- the end: from what the top has left -/
theorem walkK {l : PySem.W.OpenLaw} {q : Program} {loose : List Str} {XP : (Str → Option Value) → Heap → Prop} {YP : World → Heap → Prop} {d : DefRec} {K : Params → PySem.W.Frag} (hn : l.most = some 63) (hdf : d.params.defaults = []) (hY : ∀ (w : World) (h : Heap), YP w h → (K w.params).In h)
    (hr : ∃ d', (recsOf q).find? (fun e => e.name == ("law" : Str)) = some d') (hru : ∃ d', (recsOf q).find? (fun e => e.name == ("_law_untelling_right" : Str)) = some d') (hrb : ∃ d', (recsOf q).find? (fun e => e.name == ("_law_back_right" : Str)) = some d')
    (F : ∀ (w : World) (mg : Str → Option Value) (fa : Addr) (h : Heap), (K w.params).In h → h.Ns mainGlobals mg → mg d.name = some (.ref fa) → ∃ (M CM CR CS CU c Pt cu Pu cb Pb fu fb : Addr) (fd fdu fdb : FuncData), Tp (K w.params) mg M CM CR CS CU c Pt cu Pu cb Pb fa fu fb fd fdu fdb) :
    PySem.W.WalkO q loose XP YP l.row.toRowW d [] (fun f vs => PySem.call f vs) := by
  refine Att.attach_callB hn hdf fun w s₀ s₁ mg mb fa o pm cd doc a vs ns G Y ho hd hcd hmg hobj hints hlen hbits hg => ?_
  have KX := hY w _ Y
  obtain ⟨M, CM, CR, CS, CU, c, Pt, cu, Pu, cb, Pb, fu, fb, fd, fdu, fdb, t⟩ := F w mg fa _ KX G.T.g hmg
  obtain ⟨d', hr⟩ := hr
  obtain ⟨du, hru⟩ := hru
  obtain ⟨db, hrb⟩ := hrb
  obtain ⟨C, hT⟩ := PySem.W.tab_of G.T KX hr t.tab
  obtain ⟨Cu, hTu⟩ := PySem.W.tab_of G.T KX hru t.tabu
  obtain ⟨Cb, hTb⟩ := PySem.W.tab_of G.T KX hrb t.tabb
  exact call_laws (k := 14) [(c, Pt), (cu, Pu), (cb, Pb)] (x := "_law_script") (sp := spLaw (K w.params) (T3 Pt Pu Pb)) KX G.T.g G.T.b G.T.builtins G.T.nolimit hg (fun p hp => by
      simp only [List.mem_cons, List.mem_nil_iff, or_false] at hp
      rcases hp with rfl | rfl | rfl
      · exact ⟨hT, t.nP, C⟩
      · exact ⟨hTu, t.nPu, Cu⟩
      · exact ⟨hTb, t.nPb, Cb⟩) G.T.bmain hobj hints (Nat.le_trans hlen (by decide)) ⟨rfl, by decide, by decide⟩ (fun base _ _ TB => asm t (TB _ List.mem_cons_self) (TB _ (List.mem_cons_of_mem _ List.mem_cons_self)) (TB _ (List.mem_cons_of_mem _ (List.mem_cons_of_mem _ List.mem_cons_self)))) t.lawb
    fun H hP hS => ⟨a, ns, rfl, hS, hlen, fun p hp => by
      simp only [List.mem_cons, List.mem_nil_iff, or_false] at hp
      rcases hp with rfl | rfl | rfl
      · exact .nil (hP _ List.mem_cons_self)
      · exact .nil (hP _ (List.mem_cons_of_mem _ List.mem_cons_self))
      · exact .nil (hP _ (List.mem_cons_of_mem _ (List.mem_cons_of_mem _ List.mem_cons_self))), fun _ => rfl⟩
end K1
namespace K1
open PySem PySem.Spec PyProof.Rows L2
section
variable {K : PySem.W.Frag} {h : Heap} {mg : Str → Option Value} {x qual : Str} {st : Stmt} {ps : List Str} {f C : Addr} {oc kV doc pm cdv ct : Value} {od an : Option Addr} {osl : Array (Option Value)}
theorem df_of (X : K.In h) (G : h.Ns mainGlobals mg) (a : PySem.W.nsIn K mainGlobals x = some (some (.ref f))) (l : K.lookup f = some ⟨oc, od, .func (PySem.W.fnOf x x (defArgs st) (defBody st) (defScope st) .none kV doc pm an cdv ct), osl⟩)
    (c : PySem.W.codeIn K cdv x = true) (k : PySem.W.keepIn K (.ref f) = true)
    (b : ∀ (kV doc pm : Value) (an : Option Addr) (cdv ct : Value) (us : List Value), us.length = ps.length → bindArgs (PySem.W.fnOf x x (defArgs st) (defBody st) (defScope st) .none kV doc pm an cdv ct) ⟨us, []⟩ = pure (ps.zip us)) : ∃ f fd, Df K mg x st ps f fd :=
  ⟨f, _, ⟨fun_mk l c k, PySem.W.mg_of X G a, (fun_mk l c k).binds b⟩⟩
theorem dfc_of {cc : Addr} (X : K.In h) (G : h.Ns mainGlobals mg) (a : PySem.W.nsIn K mainGlobals x = some (some (.ref f))) (l : K.lookup f = some ⟨oc, od, .func (PySem.W.fnOf x x (defArgs st) (defBody st) (defScope st) .none kV doc pm an (.ref cc) ct), osl⟩)
    (c : PySem.W.codeIn K (.ref cc) x = true) (k : PySem.W.keepIn K (.ref f) = true)
    (b : ∀ (kV doc pm : Value) (an : Option Addr) (cdv ct : Value) (us : List Value), us.length = ps.length → bindArgs (PySem.W.fnOf x x (defArgs st) (defBody st) (defScope st) .none kV doc pm an cdv ct) ⟨us, []⟩ = pure (ps.zip us)) : ∃ f fd, Df K mg x st ps f fd ∧ FunC K x x st f fd (.ref cc) :=
  ⟨f, _, ⟨fun_mk l c k, PySem.W.mg_of X G a, (fun_mk l c k).binds b⟩, ⟨oc, od, kV, doc, pm, an, ct, osl, rfl, l, c⟩, k⟩
theorem dfF_of {T : Addr} {o1 : Value} {o2 : Option Addr} {n : Nat} {o4 : Array (Option Value)} (X : K.In h) (G : h.Ns mainGlobals mg) (a : PySem.W.nsIn K mainGlobals "first_rows" = some (some (.ref f)))
    (l : K.lookup f = some ⟨oc, od, .func (PySem.W.fnOf "first_rows" "first_rows" (defArgs sFirst) (defBody sFirst) (defScope sFirst) (.ref T) kV doc pm an cdv ct), osl⟩)
    (c : PySem.W.codeIn K cdv "first_rows" = true) (k : PySem.W.keepIn K (.ref f) = true) (lT : K.lookup T = some ⟨o1, o2, .seq #[.none, .none] n, o4⟩) : ∃ f fd, DfF K mg f fd :=
  ⟨f, _, ⟨⟨⟨oc, od, .ref T, kV, doc, pm, an, cdv, ct, osl, rfl, l, c, .inr ⟨by simp, T, _, [.none, .none], n, rfl, lT, rfl, .cons rfl (.cons rfl .nil)⟩, .inl rfl⟩, k⟩, PySem.W.mg_of X G a⟩⟩
theorem law_of {fa cc : Addr} (X : K.In h) (G : h.Ns mainGlobals mg) (e : mg "law" = some (.ref fa)) (a : PySem.W.nsIn K mainGlobals "law" = some (some (.ref f))) (l : K.lookup f = some ⟨oc, od, .func (PySem.W.fnOf "law" "law" (defArgs sLaw) (defBody sLaw) (defScope sLaw) .none kV doc pm an (.ref cc) ct), osl⟩)
    (c : PySem.W.codeIn K (.ref cc) "law" = true) (k : PySem.W.keepIn K (.ref f) = true) : ∃ fd, FunC K "law" "law" sLaw fa fd (.ref cc) ∧ ∀ (s : Shared) (u : Value), BindsTo s fd ⟨[u], []⟩ [("_law_script", u)] := by
  have z := e.symm.trans (PySem.W.mg_of X G a)
  cases Option.some.inj z
  exact ⟨_, ⟨⟨oc, od, kV, doc, pm, an, ct, osl, rfl, l, c⟩, k⟩, fun s u => .of_eq rfl⟩
theorem init_of {M : Addr} (a : PySem.W.findIn K (.ref M) "__init__" = some (some (.ref f))) (i : PySem.W.isFn K (.ref f) = true) (m : PySem.W.makesIn K M = true) (kM : PySem.W.keepIn K (.ref M) = true)
    (l : K.lookup f = some ⟨oc, od, .func (PySem.W.fnOf "__init__" "Machine.__init__" (defArgs sMInit) (defBody sMInit) (defScope sMInit) .none kV doc pm an cdv ct), osl⟩) (c : PySem.W.codeIn K cdv "Machine.__init__" = true) (k : PySem.W.keepIn K (.ref f) = true) :
    ∃ f fd, Fun K "__init__" "Machine.__init__" sMInit f fd ∧ Mk K M f ∧ Binds K fd ["self", "tables"] [] :=
  ⟨f, _, fun_mk l c k, ⟨m, a, i, kM⟩, (fun_mk l c k).binds fun _ _ _ _ _ _ us hl => match us, hl with | [_, _], _ => rfl⟩
theorem ui_of {CU : Addr} (a : PySem.W.findIn K (.ref CU) "__init__" = some (some (.ref f))) (i : PySem.W.typeIn K (.ref f) = some (.type "function"))
    (l : K.lookup f = some ⟨oc, od, .func (PySem.W.fnOf "__init__" "Untold.__init__" (defArgs sUInit) (defBody sUInit) (defScope sUInit) .none kV doc pm an cdv ct), osl⟩) (c : PySem.W.codeIn K cdv "Untold.__init__" = true) (k : PySem.W.keepIn K (.ref f) = true) :
    ∃ f fd, Fun K "__init__" "Untold.__init__" sUInit f fd ∧ PySem.W.findIn K (.ref CU) "__init__" = some (some (.ref f)) ∧ PySem.W.typeIn K (.ref f) = some (.type "function") ∧ Binds K fd ["self", "archive", "here", "there"] [] :=
  ⟨f, _, fun_mk l c k, a, i, (fun_mk l c k).binds fun _ _ _ _ _ _ us hl => match us, hl with | [_, _, _, _], _ => rfl⟩
end
section
variable {K : PySem.W.Frag} {h : Heap} {mg : Str → Option Value} {cn ql nm q : Str} {C N0 N fI : Addr} {bs sub : List Value} {sn : List Str} {ab : Bool} {col : Option Bool} {dd : Option Addr} {k0 k1 k2 k3 k5 : Option Value} {oc doc pm cdv ct : Value} {od an : Option Addr} {osl : Array (Option Value)} {p1 p2 q1 q2 q3 q4 : Pos}
theorem at_of_ (X : K.In h) (G : h.Ns mainGlobals mg) (a : PySem.W.nsIn K mainGlobals cn = some (some (.ref C))) (xl : K.lookup C = some (excClassObj nm q C N bs (.ref N0 :: veT) true sn sub ab col dd k0 k1 k2 k3 k5 "ValueError.__new__"))
    (sa : PySem.W.findIn K (.ref C) "__setattr__" = some (some (.builtin "object.__setattr__"))) (ga : PySem.W.findIn K (.ref C) "__getattribute__" = some (some (.builtin "BaseException.__getattribute__"))) (gg : PySem.W.findIn K (.ref C) "__getattr__" = some none) (no : PySem.W.findIn K (.ref C) "at" = some none)
    (ic : PySem.W.findIn K (.ref C) "__init__" = some (some (.ref fI))) (tc : PySem.W.typeIn K (.ref fI) = some (.type "function")) (kc : PySem.W.keepIn K (.ref C) = true) (ec : PySem.W.subIn K (.ref C) (.type "BaseException") = some true) (ty : PySem.W.typeIn K (.ref C) = some (.type "type")) (hc : PySem.W.hasDictIn K C = true)
    (l : K.lookup fI = some ⟨oc, od, .func (PySem.W.fnOf "__init__" ql (LAt.iA p1 p2) (LAt.iB q1 q2 q3 q4) LAt.iS .none .none doc pm an cdv ct), osl⟩) (c : PySem.W.codeIn K cdv ql = true) : ∃ q b i, LAt.Txt K mg cn q b C i :=
  ⟨ql, _, fI, ⟨PySem.W.mg_of X G a, ⟨nm, q, N, bs, sn, sub, ab, col, dd, k0, k1, k2, k3, k5, xl⟩, mro_ve N0, sa, ga, gg, no, ic, tc, kc, ec, ty, hc, ⟨oc, od, doc, pm, an, cdv, ct, osl, p1, p2, q1, q2, q3, q4, l, c⟩⟩⟩
theorem state_of_ (X : K.In h) (G : h.Ns mainGlobals mg) (a : PySem.W.nsIn K mainGlobals cn = some (some (.ref C))) (xl : K.lookup C = some (excClassObj nm q C N bs keT true sn sub ab col dd k0 k1 k2 k3 k5 "LookupError.__new__"))
    (sa : PySem.W.findIn K (.ref C) "__setattr__" = some (some (.builtin "object.__setattr__"))) (ga : PySem.W.findIn K (.ref C) "__getattribute__" = some (some (.builtin "BaseException.__getattribute__"))) (gg : PySem.W.findIn K (.ref C) "__getattr__" = some none) (no : PySem.W.findIn K (.ref C) "state" = some none)
    (ic : PySem.W.findIn K (.ref C) "__init__" = some (some (.ref fI))) (tc : PySem.W.typeIn K (.ref fI) = some (.type "function")) (kc : PySem.W.keepIn K (.ref C) = true) (ec : PySem.W.subIn K (.ref C) (.type "BaseException") = some true) (ty : PySem.W.typeIn K (.ref C) = some (.type "type")) (hc : PySem.W.hasDictIn K C = true)
    (l : K.lookup fI = some ⟨oc, od, .func (PySem.W.fnOf "__init__" ql (LState.iA p1 p2) (LState.iB q1 q2 q3 q4) LState.iS .none .none doc pm an cdv ct), osl⟩) (c : PySem.W.codeIn K cdv ql = true) : ∃ q b i, LState.Txt K mg cn q b C i :=
  ⟨ql, _, fI, ⟨PySem.W.mg_of X G a, ⟨nm, q, N, bs, sn, sub, ab, col, dd, k0, k1, k2, k3, k5, xl⟩, mro_ke, sa, ga, gg, no, ic, tc, kc, ec, ty, hc, ⟨oc, od, doc, pm, an, cdv, ct, osl, p1, p2, q1, q2, q3, q4, l, c⟩⟩⟩
theorem un_of (X : K.In h) (G : h.Ns mainGlobals mg) (a : PySem.W.nsIn K mainGlobals "Untold" = some (some (.ref C))) (xl : K.lookup C = some (excClassObj nm q C N bs (.ref N0 :: veT) true sn sub ab col dd k0 k1 k2 k3 k5 "ValueError.__new__")) (rv : PySem.HandSPX.refsVE (.ref N0 :: veT) = true)
    (sa : PySem.W.findIn K (.ref C) "__setattr__" = some (some (.builtin "object.__setattr__"))) (ga : PySem.W.findIn K (.ref C) "__getattribute__" = some (some (.builtin "BaseException.__getattribute__"))) (gg : PySem.W.findIn K (.ref C) "__getattr__" = some none)
    (n1 : PySem.W.findIn K (.ref C) "archive" = some none) (n2 : PySem.W.findIn K (.ref C) "here" = some none) (n3 : PySem.W.findIn K (.ref C) "there" = some none)
    (kc : PySem.W.keepIn K (.ref C) = true) (ec : PySem.W.subIn K (.ref C) (.type "BaseException") = some true) (ty : PySem.W.typeIn K (.ref C) = some (.type "type")) (hc : PySem.W.hasDictIn K C = true) : UnC K mg C :=
  ⟨⟨⟨nm, q, N, bs, _, sn, sub, ab, col, dd, k0, k1, k2, k3, k5, xl, rv⟩, sa, ec, ty, kc⟩, n1, n2, n3, ⟨ga, gg, ec, hc⟩, PySem.W.mg_of X G a⟩
end
theorem ct_of {K : PySem.W.Frag} {h : Heap} {mg : Str → Option Value} {t1 t2 : Tok} (X : K.In h) (G : h.Ns mainGlobals mg) (a : PySem.W.nsIn K mainGlobals "MOST_TABLES" = some (some (.int 8 t1))) (b : PySem.W.nsIn K mainGlobals "MOST_STATES" = some (some (.int 12 t2))) : Ct mg :=
  ⟨⟨_, PySem.W.mg_of X G a⟩, ⟨_, PySem.W.mg_of X G b⟩⟩
theorem bt_of {K : PySem.W.Frag} {h : Heap} {mg : Str → Option Value} (X : K.In h) (G : h.Ns mainGlobals mg) (z : ∀ x ∈ ([("isinstance" : Str), "int", "bool", "list", "tuple", "len", "enumerate", "range", "sorted", "set", "repr", "abs", "min", "max"]), PySem.W.nsIn K mainGlobals x = some none) : Bt mg := by
  have n := fun x hx => PySem.W.mg_none_of X G (z x hx)
  exact ⟨n _ (by decide), n _ (by decide), n _ (by decide), n _ (by decide), n _ (by decide), n _ (by decide), n _ (by decide), n _ (by decide), n _ (by decide), n _ (by decide), n _ (by decide), n _ (by decide), n _ (by decide), n _ (by decide)⟩
theorem tab_mk {K : PySem.W.Frag} {x : Str} {f c Pt : Addr} {oc o1 : Value} {od o2 : Option Addr} {fd : FuncData} {osl o4 : Array (Option Value)} {vs : Array Value} (a : PySem.W.nsIn K mainGlobals x = some (some (.ref f))) (l : K.lookup f = some ⟨oc, od, .func fd, osl⟩) (hc : fd.code = .ref c)
    (lc : K.lookup c = some ⟨o1, o2, .fields vs, o4⟩) (hv : (vs[11]? : Option Value) = some (.ref Pt)) : PySem.W.tabIn K x = some (c, Pt) := by
  unfold PySem.W.tabIn
  rw [a]
  dsimp only
  rw [l]
  dsimp only
  rw [hc]
  dsimp only
  rw [lc]
  dsimp only
  rw [hv]
/-- the facts of the head, by the words that k_is answers -/
theorem tp_of {K : PySem.W.Frag} {h : Heap} {mg : Str → Option Value} {fa M CM CR CS CU N c Pt fN cu Pu fNu cb Pb fNb : Addr} {oc kV doc pm ct o1 ocu kVu docu pmu ctu o1u ocb kVb docb pmb ctb o1b : Value} {od an o2 odu anu o2u odb anb o2b : Option Addr} {osl o4 oslu o4u oslb o4b : Array (Option Value)} {vs vsu vsb : Array Value} (X : K.In h) (G : h.Ns mainGlobals mg)
    (B : Bt mg) (c_ : Ct mg) (zk : PySem.W.nsIn K mainGlobals "KeyError" = some none) (zz : PySem.W.nsIn K mainGlobals "zip" = some none)
    (whole : ∃ f fd, Df K mg "is_whole" sWhole ["value"] f fd)
    (below : ∃ f fd, Df K mg "is_below" sBelow ["value", "limit"] f fd)
    (seq : ∃ f fd, Df K mg "is_sequence" sSeq ["value", "least", "most"] f fd)
    (fnb : ∃ f fd, Df K mg "first_not_below" sFnb ["items", "limit"] f fd)
    (istab : ∃ f fd, Df K mg "is_table" sIsTab ["value", "states"] f fd)
    (chk : ∃ f fd, Df K mg "checked_tables" sChk ["value"] f fd)
    (needS : ∃ f fd, Df K mg "need_state" sNeedS ["machine", "state"] f fd)
    (first : ∃ f fd, DfF K mg f fd)
    (orbit : ∃ f fd, Df K mg "orbit" sOrbit ["machine", "state"] f fd)
    (needSs : ∃ f fd, Df K mg "need_states" sNeedSs ["machine", "states"] f fd)
    (joined : ∃ f fd, Df K mg "joined" sJoined ["machine", "archive", "here", "there"] f fd)
    (join : ∃ f fd, Df K mg "join" sJoin ["machine", "archive", "here", "there"] f fd)
    (parting : ∃ f fd, Df K mg "parting_rows" sParting ["machine", "archive", "here"] f fd)
    (tpaper : ∃ f fd, Df K mg "telling_paper" sTPaper ["machine", "state"] f fd)
    (istell : ∃ f fd, Df K mg "is_telling" sIsTell ["machine", "state"] f fd)
    (torb : ∃ f fd, Df K mg "told_orbit" sTOrb ["machine", "state"] f fd)
    (otab : ∃ f fd, Df K mg "orbit_table" sOTab ["machine", "state"] f fd)
    (jrow : ∃ f fd, Df K mg "join_row" sJRow ["machine", "state", "here", "states"] f fd)
    (isex : ∃ f fd, Df K mg "is_exchanging" sIsEx ["machine", "state"] f fd)
    (gpap : ∃ f fd, Df K mg "group_paper" sGPap ["machine", "state"] f fd)
    (inv : ∃ f fd, Df K mg "inverse_of" sInv ["machine", "state", "one"] f fd)
    (tjoin : ∃ f fd, Df K mg "turned_join" sTJoin ["machine", "state", "archive", "here", "there"] f fd)
    (box : ∃ f fd, Df K mg "_law_box" sBox ["_law_script", "_law_k"] f fd)
    (take : ∃ f fd, Df K mg "_law_take" sTake ["_law_box_here", "_law_many"] f fd)
    (pick : ∃ f fd, Df K mg "_law_pick" sPick ["_law_box_here", "_law_some"] f fd)
    (tabs : ∃ f fd, Df K mg "_law_tables" sTabs ["_law_box_here", "_law_most"] f fd)
    (maps : ∃ f fd, Df K mg "_law_maps" sMaps ["_law_tables_here"] f fd)
    (lends : ∃ f fd, Df K mg "_law_ends" sLEnds ["_law_maps_here", "_law_archive", "_law_here"] f fd)
    (ltells : ∃ f fd, Df K mg "_law_tells" sLTells ["_law_maps_here", "_law_state"] f fd)
    (heard : ∃ f fd, Df K mg "_law_heard" sHeard ["_law_ask"] f fd)
    (tabR : ∃ f fd, Df K mg "_law_table_right" sTabR ["_law_tables_here", "_law_maps_here", "_law_machine", "_law_state", "_law_orbit"] f fd)
    (eL : mg "law" = some (.ref fa)) (aN : PySem.W.nsIn K mainGlobals "law" = some (some (.ref fN))) (lN : K.lookup fN = some ⟨oc, od, .func (PySem.W.fnOf "law" "law" (defArgs sLaw) (defBody sLaw) (defScope sLaw) .none kV doc pm an (.ref c) ct), osl⟩)
    (cN : PySem.W.codeIn K (.ref c) "law" = true) (kN : PySem.W.keepIn K (.ref fN) = true) (lc : K.lookup c = some ⟨o1, o2, .fields vs, o4⟩) (hv : (vs[11]? : Option Value) = some (.ref Pt)) (nP : K.lookup Pt = Option.none)
    (aNu : PySem.W.nsIn K mainGlobals "_law_untelling_right" = some (some (.ref fNu))) (lNu : K.lookup fNu = some ⟨ocu, odu, .func (PySem.W.fnOf "_law_untelling_right" "_law_untelling_right" (defArgs sUntR) (defBody sUntR) (defScope sUntR) .none kVu docu pmu anu (.ref cu) ctu), oslu⟩)
    (cNu : PySem.W.codeIn K (.ref cu) "_law_untelling_right" = true) (kNu : PySem.W.keepIn K (.ref fNu) = true) (lcu : K.lookup cu = some ⟨o1u, o2u, .fields vsu, o4u⟩) (hvu : (vsu[11]? : Option Value) = some (.ref Pu)) (nPu : K.lookup Pu = Option.none)
    (aNb : PySem.W.nsIn K mainGlobals "_law_back_right" = some (some (.ref fNb))) (lNb : K.lookup fNb = some ⟨ocb, odb, .func (PySem.W.fnOf "_law_back_right" "_law_back_right" (defArgs sBackR) (defBody sBackR) (defScope sBackR) .none kVb docb pmb anb (.ref cb) ctb), oslb⟩)
    (cNb : PySem.W.codeIn K (.ref cb) "_law_back_right" = true) (kNb : PySem.W.keepIn K (.ref fNb) = true) (lcb : K.lookup cb = some ⟨o1b, o2b, .fields vsb, o4b⟩) (hvb : (vsb[11]? : Option Value) = some (.ref Pb)) (nPb : K.lookup Pb = Option.none)
    (ntu : Pt ≠ Pu) (ntb : Pt ≠ Pb) (nub : Pu ≠ Pb)
    (aM : PySem.W.nsIn K mainGlobals "Machine" = some (some (.ref M))) (pg : PySem.W.plainGet K M Str.empty = true) (hd : PySem.W.hasDictIn K M = true) (po : PySem.W.plainOver K M = true) (sa : PySem.W.findIn K (.ref M) "__setattr__" = some (some (.builtin "object.__setattr__")))
    (n1 : PySem.W.findIn K (.ref M) "tables" = some Option.none) (n2 : PySem.W.findIn K (.ref M) "deeds" = some Option.none) (n3 : PySem.W.findIn K (.ref M) "states" = some Option.none)
    (ca : PySem.W.findIn K (.ref M) "__class__" = some (some (.builtin "object.__class__"))) (sp : PySem.W.specialIn K (.builtin "object.__class__") "__get__" = some (some (.builtin "getset_descriptor.__get__"))) (tk : PySem.W.takesIn K (.builtin "object.__class__") = some true) (mo : PySem.W.mroIn K M (.type "object") = some true)
    (init : ∃ f fd, Fun K "__init__" "Machine.__init__" sMInit f fd ∧ Mk K M f ∧ Binds K fd ["self", "tables"] [])
    (aCM : PySem.W.nsIn K mainGlobals "BadMachine" = some (some (.ref CM))) (aCR : PySem.W.nsIn K mainGlobals "Refused" = some (some (.ref CR))) (aCS : PySem.W.nsIn K mainGlobals "NoState" = some (some (.ref CS))) (aCU : PySem.W.nsIn K mainGlobals "Untold" = some (some (.ref CU))) (aNE : PySem.W.nsIn K mainGlobals "NetError" = some (some (.ref N)))
    (t1 : ∃ q b i, LAt.Txt K mg "BadMachine" q b CM i) (t2 : ∃ q b i, LAt.Txt K mg "Refused" q b CR i) (t3 : ∃ q b i, LState.Txt K mg "NoState" q b CS i) (u : UnC K mg CU)
    (ui : ∃ f fd, Fun K "__init__" "Untold.__init__" sUInit f fd ∧ PySem.W.findIn K (.ref CU) "__init__" = some (some (.ref f)) ∧ PySem.W.typeIn K (.ref f) = some (.type "function") ∧ Binds K fd ["self", "archive", "here", "there"] [])
    (ex : Exm K CR CS N) : ∃ (M CM CR CS CU c Pt cu Pu cb Pb fu fb : Addr) (fd fdu fdb : FuncData), Tp K mg M CM CR CS CU c Pt cu Pu cb Pb fa fu fb fd fdu fdb := by
  obtain ⟨fd, l1, l2⟩ := law_of X G eL aN lN cN kN
  obtain ⟨fu, fdu, du, lu⟩ := dfc_of (ps := ["_law_machine", "_law_state"]) X G aNu lNu cNu kNu fun _ _ _ _ _ _ us hl => match us, hl with | [_, _], _ => rfl
  obtain ⟨fb, fdb, db, lb⟩ := dfc_of (ps := ["_law_box_here", "_law_maps_here", "_law_machine", "_law_state", "_law_orbit"]) X G aNb lNb cNb kNb fun _ _ _ _ _ _ us hl => match us, hl with | [_, _, _, _, _], _ => rfl
  exact ⟨M, CM, CR, CS, CU, c, Pt, cu, Pu, cb, Pb, fu, fb, fd, fdu, fdb, ⟨B, c_, PySem.W.mg_none_of X G zk, PySem.W.mg_none_of X G zz, whole, below, seq, fnb, istab, chk, needS, first, orbit, needSs, joined, join, parting, tpaper, istell, torb, otab, jrow, isex, gpap, inv, tjoin, box, take, pick, tabs, maps, lends, ltells, heard, tabR, lu, du, lb, db, l1, l2, init, ⟨⟨pg, hd, po, sa⟩, n1, n2, n3, PySem.W.mg_of X G aM, ca, sp, tk, mo⟩, t1, t2, t3, u, ui, ⟨N, PySem.W.mg_of X G aNE, ex⟩, tab_mk aN lN rfl lc hv, nP, tab_mk aNu lNu rfl lcu hvu, nPu, tab_mk aNb lNb rfl lcb hvb, nPb, ntu, ntb, nub⟩⟩
end K1
open PySem PySem.W PyProof.Rows
set_option maxRecDepth 100000 in
set_option maxHeartbeats 0 in
theorem PySem.Challenge.cw_houseslessties_k08_whole_orbits_as_table_holds : PySem.Challenge.rw_houseslessties_k08_whole_orbits_as_table.Holds := by
  w_on; o_law; k_head; (case hw => w_witness2)
  k_fill
  refine K1.walkK (l := PySem.Challenge.rw_houseslessties_k08_whole_orbits_as_table) rfl rfl (fun w h Y => PySem.W.km_in_of Y) ?hr ?hru ?hrb ?F
  case hr => exact ⟨_, rfl⟩
  case hru => exact ⟨_, rfl⟩
  case hrb => exact ⟨_, rfl⟩
  case F =>
    intro w mg fa h KX G hmg
    refine' K1.tp_of KX G ?B ?c_ ?zk ?zz ?zwhole ?zbelow ?zseq ?zfnb ?zistab ?zchk ?zneedS ?zfirst ?zorbit ?zneedSs ?zjoined ?zjoin ?zparting ?ztpaper ?zistell ?ztorb ?zotab ?zjrow ?zisex ?zgpap ?zinv ?ztjoin ?zbox ?ztake ?zpick ?ztabs ?zmaps ?zlends ?zltells ?zheard ?ztabR hmg ?aN ?lN ?cN ?kN ?lc ?hv ?nP ?aNu ?lNu ?cNu ?kNu ?lcu ?hvu ?nPu ?aNb ?lNb ?cNb ?kNb ?lcb ?hvb ?nPb ?ntu ?ntb ?nub ?aM ?pg ?hd ?po ?sa ?n1 ?n2 ?n3 ?ca ?sp ?tk ?mo ?init ?aCM ?aCR ?aCS ?aCU ?aNE ?t1 ?t2 ?t3 ?u ?ui ?ex
    case B =>
      refine K1.bt_of KX G fun x hx => ?_
      simp only [List.mem_cons, List.mem_nil_iff, or_false] at hx
      rcases hx with rfl | rfl | rfl | rfl | rfl | rfl | rfl | rfl | rfl | rfl | rfl | rfl | rfl | rfl <;> k_is
    case c_ => refine' K1.ct_of KX G ?a_1 ?b_1; (case a_1 => k_is); (case b_1 => k_is)
    case zk => k_is
    case zz => k_is
    case zwhole =>
      (refine' K1.df_of (by assumption) (by assumption) ?a_2 ?l_2 ?c_2 ?k_2 ?b_2; (case a_2 => k_is); (case l_2 => k_is); (case c_2 => k_is); (case k_2 => k_is))
      case b_2 => exact fun _ _ _ _ _ _ us hl => match us, hl with | [_], _ => rfl
    case zbelow =>
      (refine' K1.df_of (by assumption) (by assumption) ?a_3 ?l_3 ?c_3 ?k_3 ?b_3; (case a_3 => k_is); (case l_3 => k_is); (case c_3 => k_is); (case k_3 => k_is))
      case b_3 => exact fun _ _ _ _ _ _ us hl => match us, hl with | [_, _], _ => rfl
    case zseq =>
      (refine' K1.df_of (by assumption) (by assumption) ?a_4 ?l_4 ?c_4 ?k_4 ?b_4; (case a_4 => k_is); (case l_4 => k_is); (case c_4 => k_is); (case k_4 => k_is))
      case b_4 => exact fun _ _ _ _ _ _ us hl => match us, hl with | [_, _, _], _ => rfl
    case zfnb =>
      (refine' K1.df_of (by assumption) (by assumption) ?a_5 ?l_5 ?c_5 ?k_5 ?b_5; (case a_5 => k_is); (case l_5 => k_is); (case c_5 => k_is); (case k_5 => k_is))
      case b_5 => exact fun _ _ _ _ _ _ us hl => match us, hl with | [_, _], _ => rfl
    case zistab =>
      (refine' K1.df_of (by assumption) (by assumption) ?a_6 ?l_6 ?c_6 ?k_6 ?b_6; (case a_6 => k_is); (case l_6 => k_is); (case c_6 => k_is); (case k_6 => k_is))
      case b_6 => exact fun _ _ _ _ _ _ us hl => match us, hl with | [_, _], _ => rfl
    case zchk =>
      (refine' K1.df_of (by assumption) (by assumption) ?a_7 ?l_7 ?c_7 ?k_7 ?b_7; (case a_7 => k_is); (case l_7 => k_is); (case c_7 => k_is); (case k_7 => k_is))
      case b_7 => exact fun _ _ _ _ _ _ us hl => match us, hl with | [_], _ => rfl
    case zneedS =>
      (refine' K1.df_of (by assumption) (by assumption) ?a_8 ?l_8 ?c_8 ?k_8 ?b_8; (case a_8 => k_is); (case l_8 => k_is); (case c_8 => k_is); (case k_8 => k_is))
      case b_8 => exact fun _ _ _ _ _ _ us hl => match us, hl with | [_, _], _ => rfl
    case zfirst => (refine' K1.dfF_of (by assumption) (by assumption) ?a_9 ?l_9 ?c_9 ?k_9 ?lT_9; (case a_9 => k_is); (case l_9 => k_is); (case c_9 => k_is); (case k_9 => k_is); (case lT_9 => k_is))
    case zorbit =>
      (refine' K1.df_of (by assumption) (by assumption) ?a_10 ?l_10 ?c_10 ?k_10 ?b_10; (case a_10 => k_is); (case l_10 => k_is); (case c_10 => k_is); (case k_10 => k_is))
      case b_10 => exact fun _ _ _ _ _ _ us hl => match us, hl with | [_, _], _ => rfl
    case zneedSs =>
      (refine' K1.df_of (by assumption) (by assumption) ?a_11 ?l_11 ?c_11 ?k_11 ?b_11; (case a_11 => k_is); (case l_11 => k_is); (case c_11 => k_is); (case k_11 => k_is))
      case b_11 => exact fun _ _ _ _ _ _ us hl => match us, hl with | [_, _], _ => rfl
    case zjoined =>
      (refine' K1.df_of (by assumption) (by assumption) ?a_12 ?l_12 ?c_12 ?k_12 ?b_12; (case a_12 => k_is); (case l_12 => k_is); (case c_12 => k_is); (case k_12 => k_is))
      case b_12 => exact fun _ _ _ _ _ _ us hl => match us, hl with | [_, _, _, _], _ => rfl
    case zjoin =>
      (refine' K1.df_of (by assumption) (by assumption) ?a_13 ?l_13 ?c_13 ?k_13 ?b_13; (case a_13 => k_is); (case l_13 => k_is); (case c_13 => k_is); (case k_13 => k_is))
      case b_13 => exact fun _ _ _ _ _ _ us hl => match us, hl with | [_, _, _, _], _ => rfl
    case zparting =>
      (refine' K1.df_of (by assumption) (by assumption) ?a_14 ?l_14 ?c_14 ?k_14 ?b_14; (case a_14 => k_is); (case l_14 => k_is); (case c_14 => k_is); (case k_14 => k_is))
      case b_14 => exact fun _ _ _ _ _ _ us hl => match us, hl with | [_, _, _], _ => rfl
    case ztpaper =>
      (refine' K1.df_of (by assumption) (by assumption) ?a_15 ?l_15 ?c_15 ?k_15 ?b_15; (case a_15 => k_is); (case l_15 => k_is); (case c_15 => k_is); (case k_15 => k_is))
      case b_15 => exact fun _ _ _ _ _ _ us hl => match us, hl with | [_, _], _ => rfl
    case zistell =>
      (refine' K1.df_of (by assumption) (by assumption) ?a_16 ?l_16 ?c_16 ?k_16 ?b_16; (case a_16 => k_is); (case l_16 => k_is); (case c_16 => k_is); (case k_16 => k_is))
      case b_16 => exact fun _ _ _ _ _ _ us hl => match us, hl with | [_, _], _ => rfl
    case ztorb =>
      (refine' K1.df_of (by assumption) (by assumption) ?a_17 ?l_17 ?c_17 ?k_17 ?b_17; (case a_17 => k_is); (case l_17 => k_is); (case c_17 => k_is); (case k_17 => k_is))
      case b_17 => exact fun _ _ _ _ _ _ us hl => match us, hl with | [_, _], _ => rfl
    case zotab =>
      (refine' K1.df_of (by assumption) (by assumption) ?a_18 ?l_18 ?c_18 ?k_18 ?b_18; (case a_18 => k_is); (case l_18 => k_is); (case c_18 => k_is); (case k_18 => k_is))
      case b_18 => exact fun _ _ _ _ _ _ us hl => match us, hl with | [_, _], _ => rfl
    case zjrow =>
      (refine' K1.df_of (by assumption) (by assumption) ?a_19 ?l_19 ?c_19 ?k_19 ?b_19; (case a_19 => k_is); (case l_19 => k_is); (case c_19 => k_is); (case k_19 => k_is))
      case b_19 => exact fun _ _ _ _ _ _ us hl => match us, hl with | [_, _, _, _], _ => rfl
    case zisex =>
      (refine' K1.df_of (by assumption) (by assumption) ?a_20 ?l_20 ?c_20 ?k_20 ?b_20; (case a_20 => k_is); (case l_20 => k_is); (case c_20 => k_is); (case k_20 => k_is))
      case b_20 => exact fun _ _ _ _ _ _ us hl => match us, hl with | [_, _], _ => rfl
    case zgpap =>
      (refine' K1.df_of (by assumption) (by assumption) ?a_21 ?l_21 ?c_21 ?k_21 ?b_21; (case a_21 => k_is); (case l_21 => k_is); (case c_21 => k_is); (case k_21 => k_is))
      case b_21 => exact fun _ _ _ _ _ _ us hl => match us, hl with | [_, _], _ => rfl
    case zinv =>
      (refine' K1.df_of (by assumption) (by assumption) ?a_22 ?l_22 ?c_22 ?k_22 ?b_22; (case a_22 => k_is); (case l_22 => k_is); (case c_22 => k_is); (case k_22 => k_is))
      case b_22 => exact fun _ _ _ _ _ _ us hl => match us, hl with | [_, _, _], _ => rfl
    case ztjoin =>
      (refine' K1.df_of (by assumption) (by assumption) ?a_23 ?l_23 ?c_23 ?k_23 ?b_23; (case a_23 => k_is); (case l_23 => k_is); (case c_23 => k_is); (case k_23 => k_is))
      case b_23 => exact fun _ _ _ _ _ _ us hl => match us, hl with | [_, _, _, _, _], _ => rfl
    case zbox =>
      (refine' K1.df_of (by assumption) (by assumption) ?a_24 ?l_24 ?c_24 ?k_24 ?b_24; (case a_24 => k_is); (case l_24 => k_is); (case c_24 => k_is); (case k_24 => k_is))
      case b_24 => exact fun _ _ _ _ _ _ us hl => match us, hl with | [_, _], _ => rfl
    case ztake =>
      (refine' K1.df_of (by assumption) (by assumption) ?a_25 ?l_25 ?c_25 ?k_25 ?b_25; (case a_25 => k_is); (case l_25 => k_is); (case c_25 => k_is); (case k_25 => k_is))
      case b_25 => exact fun _ _ _ _ _ _ us hl => match us, hl with | [_, _], _ => rfl
    case zpick =>
      (refine' K1.df_of (by assumption) (by assumption) ?a_26 ?l_26 ?c_26 ?k_26 ?b_26; (case a_26 => k_is); (case l_26 => k_is); (case c_26 => k_is); (case k_26 => k_is))
      case b_26 => exact fun _ _ _ _ _ _ us hl => match us, hl with | [_, _], _ => rfl
    case ztabs =>
      (refine' K1.df_of (by assumption) (by assumption) ?a_27 ?l_27 ?c_27 ?k_27 ?b_27; (case a_27 => k_is); (case l_27 => k_is); (case c_27 => k_is); (case k_27 => k_is))
      case b_27 => exact fun _ _ _ _ _ _ us hl => match us, hl with | [_, _], _ => rfl
    case zmaps =>
      (refine' K1.df_of (by assumption) (by assumption) ?a_28 ?l_28 ?c_28 ?k_28 ?b_28; (case a_28 => k_is); (case l_28 => k_is); (case c_28 => k_is); (case k_28 => k_is))
      case b_28 => exact fun _ _ _ _ _ _ us hl => match us, hl with | [_], _ => rfl
    case zlends =>
      (refine' K1.df_of (by assumption) (by assumption) ?a_29 ?l_29 ?c_29 ?k_29 ?b_29; (case a_29 => k_is); (case l_29 => k_is); (case c_29 => k_is); (case k_29 => k_is))
      case b_29 => exact fun _ _ _ _ _ _ us hl => match us, hl with | [_, _, _], _ => rfl
    case zltells =>
      (refine' K1.df_of (by assumption) (by assumption) ?a_30 ?l_30 ?c_30 ?k_30 ?b_30; (case a_30 => k_is); (case l_30 => k_is); (case c_30 => k_is); (case k_30 => k_is))
      case b_30 => exact fun _ _ _ _ _ _ us hl => match us, hl with | [_, _], _ => rfl
    case zheard =>
      (refine' K1.df_of (by assumption) (by assumption) ?a_31 ?l_31 ?c_31 ?k_31 ?b_31; (case a_31 => k_is); (case l_31 => k_is); (case c_31 => k_is); (case k_31 => k_is))
      case b_31 => exact fun _ _ _ _ _ _ us hl => match us, hl with | [_], _ => rfl
    case ztabR =>
      (refine' K1.df_of (by assumption) (by assumption) ?a_32 ?l_32 ?c_32 ?k_32 ?b_32; (case a_32 => k_is); (case l_32 => k_is); (case c_32 => k_is); (case k_32 => k_is))
      case b_32 => exact fun _ _ _ _ _ _ us hl => match us, hl with | [_, _, _, _, _], _ => rfl
    (case aN => k_is); (case lN => k_is); (case cN => k_is); (case kN => k_is); (case lc => k_is); (case hv => rfl); (case nP => kernel_rfl)
    (case aNu => k_is); (case lNu => k_is); (case cNu => k_is); (case kNu => k_is); (case lcu => k_is); (case hvu => rfl); (case nPu => kernel_rfl)
    (case aNb => k_is); (case lNb => k_is); (case cNb => k_is); (case kNb => k_is); (case lcb => k_is); (case hvb => rfl); (case nPb => kernel_rfl)
    (case ntu => decide); (case ntb => decide); (case nub => decide)
    (case aM => k_is); (case pg => k_is); (case hd => k_is); (case po => k_is); (case sa => k_is); (case n1 => k_is); (case n2 => k_is); (case n3 => k_is); (case ca => k_is); (case sp => k_is); (case tk => k_is); (case mo => k_is)
    case init => refine' K1.init_of ?a_65 ?i_65 ?m_65 ?kM_65 ?l_65 ?c_65 ?k_65; (case a_65 => k_is); (case i_65 => k_is); (case m_65 => k_is); (case kM_65 => k_is); (case l_65 => k_is); (case c_65 => k_is); (case k_65 => k_is)
    (case aCM => k_is); (case aCR => k_is); (case aCS => k_is); (case aCU => k_is); (case aNE => k_is)
    case t1 => (refine' K1.at_of_ (by assumption) (by assumption) ?a_67 ?xl_67 ?sa_67 ?ga_67 ?gg_67 ?no_67 ?ic_67 ?tc_67 ?kc_67 ?ec_67 ?ty_67 ?hc_67 ?l_67 ?c_67; (case a_67 => k_is); (case xl_67 => k_is); (case sa_67 => k_is); (case ga_67 => k_is); (case gg_67 => k_is); (case no_67 => k_is); (case ic_67 => k_is); (case tc_67 => k_is); (case kc_67 => k_is); (case ec_67 => k_is); (case ty_67 => k_is); (case hc_67 => k_is); (case l_67 => k_is); (case c_67 => k_is))
    case t2 => (refine' K1.at_of_ (by assumption) (by assumption) ?a_68 ?xl_68 ?sa_68 ?ga_68 ?gg_68 ?no_68 ?ic_68 ?tc_68 ?kc_68 ?ec_68 ?ty_68 ?hc_68 ?l_68 ?c_68; (case a_68 => k_is); (case xl_68 => k_is); (case sa_68 => k_is); (case ga_68 => k_is); (case gg_68 => k_is); (case no_68 => k_is); (case ic_68 => k_is); (case tc_68 => k_is); (case kc_68 => k_is); (case ec_68 => k_is); (case ty_68 => k_is); (case hc_68 => k_is); (case l_68 => k_is); (case c_68 => k_is))
    case t3 => (refine' K1.state_of_ (by assumption) (by assumption) ?a_69 ?xl_69 ?sa_69 ?ga_69 ?gg_69 ?no_69 ?ic_69 ?tc_69 ?kc_69 ?ec_69 ?ty_69 ?hc_69 ?l_69 ?c_69; (case a_69 => k_is); (case xl_69 => k_is); (case sa_69 => k_is); (case ga_69 => k_is); (case gg_69 => k_is); (case no_69 => k_is); (case ic_69 => k_is); (case tc_69 => k_is); (case kc_69 => k_is); (case ec_69 => k_is); (case ty_69 => k_is); (case hc_69 => k_is); (case l_69 => k_is); (case c_69 => k_is))
    case u => (refine' K1.un_of (by assumption) (by assumption) ?a_70 ?xl_70 ?rv_70 ?sa_70 ?ga_70 ?gg_70 ?n1_70 ?n2_70 ?n3_70 ?kc_70 ?ec_70 ?ty_70 ?hc_70; (case a_70 => k_is); (case xl_70 => k_is); (case rv_70 => rfl); (case sa_70 => k_is); (case ga_70 => k_is); (case gg_70 => k_is); (case n1_70 => k_is); (case n2_70 => k_is); (case n3_70 => k_is); (case kc_70 => k_is); (case ec_70 => k_is); (case ty_70 => k_is); (case hc_70 => k_is))
    case ui => refine' K1.ui_of ?a_71 ?i_71 ?l_71 ?c_71 ?k_71; (case a_71 => k_is); (case i_71 => k_is); (case l_71 => k_is); (case c_71 => k_is); (case k_71 => k_is)
    case ex =>
      refine' ⟨?e1, ?e2, ?e3, ?e4, ?e5, ⟨?x1, ?x2, ?x3, ?x4, ?x5, ?x6, ?x7, ?x8⟩, ⟨?y1, ?y2, ?y3, ?y4, ?y5, ?y6, ?y7, ?y8⟩⟩
      all_goals first | k_is | kernel_rfl
