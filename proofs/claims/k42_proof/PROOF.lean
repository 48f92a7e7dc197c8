import PyProof.Rows.All
import Wide.All
import OpenK.AllK
import Wide.FinOn
import HandS.ForMost
import HandS.ForExc
import HandS.ExcInit
import PyProof.ExcBaseAll.LookupError
import KE.KExcIs
import HandS.IsInst
import KE.GoesEnum
import PyProof.ReprRoads
import PySem.Challenge.RW_houseslessties_k42_whole_counts_are_ways
import HandS.TryMany
import HandS.Lambda
import HandS.Nested
import HandS.EndTab
import HandS.DictTup
import HandS.OwnEq
import HandS.Strs
import HandS.Conv
import HandS.TupAny
import HandS.TupMul
import HandS.SortInts
import HandS.Style
import HandS.MakeKw
import HandS.Defaults
import HandS.TupLe
import HandS.SetKeys
import HandS.SetFor
import HandS.RaiseMore
import HandS.CallLocal
import HandS.Base
import HandS.Call
import HandS.Exc
import HandS.Zip
import HandS.Gcd
import KE.GoesZip
import KE.GoesMore
import HandS.Iter
import HandS.MakeKwOnly
import PyProof.Rows.ReprOcc
import HandS.Flow
import KE.SortCalls
import HandS.SortRule
import KE.KTupSum
import HandS.EndBits
set_option Elab.async false
set_option linter.all false
set_option maxRecDepth 100000
set_option maxHeartbeats 4000000
/-! exceptions of own classes whose base may be ValueError or KeyError: what is asked of the chain of classes stands as premises -/
namespace K1
open PySem PySem.HandSPX Builtin Builtin.ObjectAttr
/-- what the chain of classes behind the own one must be -/
structure Mro (B : String) (bm : List Value) : Prop where
  b : bm.contains (.type B) = true
  a : bm.contains (.type "AttributeError") = false
  n : bm.contains (.type "NameError") = false
  o : bm.contains (.type "object") = true
  p : ∀ self : Value, refuseLoop self "__setattr__" bm = pure ()
section
variable {prog : Program} {w : World} {A : Around} {E : Value → Shared → Prop} {R : Result → Shared → Prop} {h : Heap} {g : Array GenState} {d : Drawn} {t : Nat} {os : OsState}
variable {nm q : Str} {C N : Addr} {bs bm bmB : List Value} {hdct : Bool} {sn : List Str} {sub : List Value} {ab : Bool} {col : Option Bool} {dd : Option Addr} {k0 k1 k2 k3 k5 : Option Value} {B newId initId : String}
theorem check_newG {M : Model} (F : ExcBaseFacts B newId initId bmB) (T : Mro B bm) {rest : List Value} {Q : Unit → Shared → Prop}
    (hC : h.get? C = some (excClassObj nm q C N bs bm hdct sn sub ab col dd k0 k1 k2 k3 k5 newId)) (hq : Q () ⟨h, g, d, t, os⟩) : wpAny M A (checkBuiltinCall newId ⟨.ref C :: rest, []⟩) Q E ⟨h, g, d, t, os⟩ := by
  have hcont : (Value.ref C :: bm).contains (.type B) = true := by rw [List.contains_cons, T.b, Bool.or_true]
  have hstar := F.noStar
  simp only [checkBuiltinCall, F.newKind, F.newSplit, F.newRow]
  repeat (first | refine wpAny_loadPart_at hC ?_ | (refine wpAny_isSubtype_exc hC ?_; rw [hcont]) | refine wpAny_staticBase_exc hC ?_ | refine wpAny_madeBy_exc hC ?_ | simp only [bne_self_eq_false, Bool.false_eq_true, if_false] | wp_step)
  exact hq
theorem newG (F : ExcBaseFacts B newId initId bmB) (T : Mro B bm) {rest : List Value}
    (hC : h.get? C = some (excClassObj nm q C N bs bm hdct sn sub ab col dd k0 k1 k2 k3 k5 newId))
    (hq : R (.ok (.ret (.ref (h.objs.size + 1)))) ⟨(h.push { cls := .type "tuple", data := .seq rest.toArray }).push
      { cls := .ref C, data := .fields #[.ref h.objs.size, .none, .none, .none, .bool false, .none] }, g, d, t, os⟩) (hrest : rest.length ≤ sizeLine) :
    codeAny (model prog w) A (.builtin newId ⟨.ref C :: rest, []⟩) R ⟨h, g, d, t, os⟩ := by
  have hends := F.ends
  have hcB : (Value.ref C :: bm).contains (.type B) = true := by rw [List.contains_cons, T.b, Bool.or_true]
  have hcA : (Value.ref C :: bm).contains (.type "AttributeError") = false := by rw [List.contains_cons, T.a]; rfl
  have hcN : (Value.ref C :: bm).contains (.type "NameError") = false := by rw [List.contains_cons, T.n]; rfl
  refine codeAny_builtinAt F.entry ?_
  unfold Builtin.«BaseException.__new__»
  refine wpAt_bind ?_
  show wpAt _ _ _ (stack >>= _) _ _ _
  refine wpAt_bind (wpAt_stack fun p below => wpAt_of_wpAny ?_)
  wp_walk
  refine wpAt_of_wpAny ?_
  rw [F.owner]
  repeat (first | with_reducible refine wpAny_madeHere_exc F.canon hC ?_ | with_reducible refine wpAny_loadPart_at hC ?_ | (with_reducible refine wpAny_isSubtype_exc hC ?_; first | rw [hcB] | rw [hcA] | rw [hcN]) | wp_step)
  show R _ _
  rw [Heap.size_push]
  exact hq
theorem type_callG (F : ExcBaseFacts B newId initId bmB) (T : Mro B bm) {rest : List Value} {fI : Addr} {Q : Fin → Shared → Prop}
    (hC : h.get? C = some (excClassObj nm q C N bs bm hdct sn sub ab col dd k0 k1 k2 k3 k5 newId))
    (hi : W.Looks (model prog w) h (typeLookup (.ref C) "__init__") (some (.ref fI))) (hb : ∀ self, W.Looks (model prog w) h (bindSpecial (.ref fI) self) (.ref fI, [self])) (hrest : rest.length ≤ sizeLine)
    (hq : codeAny (model prog w) A (.call (.ref fI) ⟨.ref (h.objs.size + 1) :: rest, []⟩)
      (fun r s' => match r with | .ok (.ret v) => v = .none ∧ Q (.done (.ret (.ref (h.objs.size + 1)))) s' | .ok _ => False | .error e => E e s')
      ⟨(h.push (W.kdv_tup rest)).push (excO C h.objs.size), g, d, t, os⟩) :
    wpAny (model prog w) A (Builtin.«type.__call__» ⟨.ref C :: rest, []⟩) Q E ⟨h, g, d, t, os⟩ := by
  repeat (first | with_reducible refine wpAny_loadPart_at hC ?_ | with_reducible refine wpAny_madeBy_exc hC ?_ | wp_step)
  refine codeAny_call_builtin_code (Code.quiet_builtin _ F.quiet) (check_newG F T hC ?_)
  refine newG F T hC ?_ hrest
  show wpAny _ _ _ _ _ _
  have k : ∀ b o, h.get? b = some o → ((h.push (W.kdv_tup rest)).push (excO C h.objs.size)).get? b = some o := fun b o e => Heap.get?_push_of_some _ (Heap.get?_push_of_some _ e)
  have hC₁ := k _ _ hC
  have hget : ((h.push (W.kdv_tup rest)).push (excO C h.objs.size)).get? (h.objs.size + 1) = some (excO C h.objs.size) := by heap_get
  have hcC : (Value.ref C :: bm).contains (.ref C) = true := by simp
  have i1 := hi.keeps k
  have b1 := (hb (.ref (h.objs.size + 1))).keeps k
  unfold isInstance
  repeat (first | with_reducible refine wpAny_loadPart_at hget ?_ | (with_reducible refine wpAny_isSubtype_exc hC₁ ?_; rw [hcC]) | wp_step)
  show wpAny _ _ (typeLookup (.ref C) _) _ _ _
  refine i1.at ?_
  refine wpAny_holding (wpAny_bind (b1.at ?_))
  refine wpAny_bind (wpAny_call (codeAny_mono hq fun r s' z => ?_))
  rcases r with e | (v | _ | _ | _) <;> first | exact z | exact z.elim | skip
  obtain ⟨rfl, z⟩ := z
  first
    | exact wpAny_pure (wpAny_pure z)
    | (wp_walk; exact z)
theorem call_ownG (F : ExcBaseFacts B newId initId bmB) (T : Mro B bm) {rest : List Value} {fI : Addr}
    (hC : h.get? C = some (excClassObj nm q C N bs bm hdct sn sub ab col dd k0 k1 k2 k3 k5 newId))
    (hi : W.Looks (model prog w) h (typeLookup (.ref C) "__init__") (some (.ref fI))) (hb : ∀ self, W.Looks (model prog w) h (bindSpecial (.ref fI) self) (.ref fI, [self])) (hrest : rest.length ≤ sizeLine)
    (hq : codeAny (model prog w) (A.under (.builtin "type.__call__" ⟨.ref C :: rest, []⟩)) (.call (.ref fI) ⟨.ref (h.objs.size + 1) :: rest, []⟩) (W.InitBack (h.objs.size + 1) R)
      ⟨(h.push (W.kdv_tup rest)).push (excO C h.objs.size), g, d, t, os⟩) :
    codeAny (model prog w) A (.call (.ref C) ⟨rest, []⟩) R ⟨h, g, d, t, os⟩ := by
  have f1 := tc_lookup
  have f2 := tc_bind (.ref C)
  have hTy : (⟨h, g, d, t, os⟩ : Shared).TypeIs (.ref C) "type" := ⟨_, hC, rfl⟩
  refine codeAny_of_tree ?_
  show wpAny _ _ (callAny (.ref C) _) _ _ _
  repeat (any_goals (first | assumption | with_reducible refine wpAny_loadPart_at hC ?_ | wp_step))
  refine ⟨rfl, ?_⟩
  refine codeAny_call_builtin_at (Code.quiet_builtin _ (by decide +kernel)) entry_typeCall (wpAny_check_type_call_sub hC (type_callG F T hC hi hb hrest ?_))
  refine codeAny_mono hq fun r s' z => ?_
  rcases r with e | (v | _ | _ | _) <;> exact z
end
section
variable {prog : Program} {w : World} {A : Around} {E : Value → Shared → Prop} {R : Result → Shared → Prop} {hp : Heap} {g : Array GenState} {d : Drawn} {t : Nat} {os : OsState}
theorem exc_osaG {K : W.Frag} {name : Str} {tk : Tok} {v : Value} {x C : Addr} {fv : Array Value} {cd : ClassData} {B : String} {bm : List Value}
    (X : K.In hp) (hx : hp.get? x = some { cls := .ref C, data := .fields fv }) (hcd : W.clsIn K C = some cd) (hm : cd.mro = .ref C :: bm) (T : Mro B bm) (hh : cd.hasDict = true) (ha : W.findIn K (.ref C) name = some none)
    (hq : ∀ h' tk' dx, (∀ b o, b ≠ x → hp.get? b = some o → h'.get? b = some o) → hp.objs.size ≤ dx → dx ≠ x → h'.get? x = some { cls := .ref C, dict := some dx, data := .fields fv } →
      h'.Ns1 dx (fun y => if y = name then some v else none) → R (.ok (.ret .none)) ⟨h', g, d, tk', os⟩) :
    codeAny (model prog w) A (.call (.builtin "object.__setattr__") ⟨[.ref x, .str name tk, v], []⟩) R ⟨hp, g, d, t, os⟩ := by
  have I : W.InstAt hp x { cls := .ref C, data := .fields fv } C none := ⟨hx, rfl, rfl, trivial⟩
  have SF := F.store_object
  have ne : cd.mro.isEmpty = false := by rw [hm]; rfl
  have hob : cd.mro.contains (.type "object") = true := by rw [hm, List.contains_cons, T.o, Bool.or_true]
  have hxs : x ≠ hp.objs.size := Nat.ne_of_lt (Heap.lt_size hx)
  have sub : W.Looks (model prog w) hp (isInstance (.ref x) (.type "object")) true := I.type.andThen (W.looks_mroIn X (by unfold W.mroIn; rw [hcd, Option.bind_some, if_neg (by rw [ne]; decide), hob]))
  refine codeAny_call_builtin SF.slot.plain SF.entry (@W.check_slot (model prog w) _ _ ⟨hp, g, d, t, os⟩ "object.__setattr__" "object" "__setattr__" (.ref x) [.str name tk, v] [] _ SF.kind SF.split sub (SF.args (.ref x) (.str name tk) v) ?_)
  have hmr : W.Looks (model prog w) hp (mroOf (.ref C)) cd.mro := (W.looks_clsIn X hcd).andThen .now
  have L3 : W.Looks (model prog w) hp (storeTaker? none) none := .now
  have hcls : W.Looks (model prog w) hp (classData C) cd := W.looks_clsIn X hcd
  rw [W.osa_eq, refuse_eq]
  refine wpAny_bind (wpAny_bind (I.type.at (wpAny_bind (hmr.at ?_))))
  rw [hm, refuseLoop_ref, T.p]
  refine wpAny_pure (wpAny_bind (I.type.at (wpAny_bind ((W.looks_findIn X ha).at (wpAny_bind (L3.at ?_))))))
  show wpAny _ _ (storeInOwnDict (.ref x) (.ref C) (.str name tk) name v false) _ _ _
  obtain ⟨nm, bs, mro, ns, qn, hd, sn, sb, ab, col, del⟩ := cd
  dsimp only at hh
  subst hh
  unfold storeInOwnDict ownDictForStores
  repeat (first | with_reducible refine store_in_new ?_ ?_ | with_reducible refine wpAny_loadPart_at hx ?_ | with_reducible refine hcls.at ?_ | wp_step)
  · exact ⟨_, #[], _, (Heap.get?_update_ne _ _ _ _ hxs.symm).trans (Heap.get?_push_at rfl rfl), rfl, fun e he => absurd he (by simp), fun _ => rfl⟩
  · intro h' tk' hn' hs
    have hx₁ : (hp.push { cls := .type "dict", data := .dict #[] }).get? x = some { cls := .ref C, data := .fields fv } := Heap.get?_push_of_some _ hx
    refine hq h' tk' hp.objs.size (fun b o hb ho => ?_) (Nat.le_refl _) hxs.symm ?_ hn'
    · exact (hs.2 b (Nat.ne_of_lt (Heap.lt_size ho))).trans ((Heap.get?_update_ne _ _ _ _ hb).trans (Heap.get?_push_of_some _ ho))
    · exact (hs.2 x hxs).trans (Heap.get?_update_self _ hx₁ rfl)
end
abbrev veT : List Value := [.type "ValueError", .type "Exception", .type "BaseException", .type "object"]
abbrev keT : List Value := [.type "KeyError", .type "LookupError", .type "Exception", .type "BaseException", .type "object"]
theorem mro_ve (c : Addr) : Mro "ValueError" (.ref c :: veT) := ⟨rfl, rfl, rfl, rfl, fun self => by rw [refuseLoop_ref]; exact F.store_ValueError.passes self⟩
theorem ke_pass (self : Value) : refuseLoop self "__setattr__" keT = pure () := by kernel_rfl
theorem mro_ke : Mro "LookupError" keT := ⟨by decide +kernel, by decide +kernel, by decide +kernel, by decide +kernel, ke_pass⟩
end K1
/-! own exception classes whose __init__ stores one field -/

namespace K1
open PySem PySem.W PySem.Calls PyProof.Rows PySem.HandSPX
theorem one_le (v : Value) : [v].length ≤ sizeLine := by
  rw [sizeLine_eq]
  exact (by decide : 1 ≤ 16777216)
theorem ldE {M : Model} {s : Shared} {name : Str} {scope : Scope} {L a : Addr} {cd : Value} {m : Str → Option Value} {x : Str} {pos : Pos} {v : Value} {Q : Value → Shared → Prop} {A : Around} {E : Value → Shared → Prop} (hn : s.heap.Ns L m) (hv : m x = some v) (h : Q v s)
    (hk : scope.kind = .function := by rfl) (hl : (envOfC name scope L a cd).kindOf x = some .local := by rfl) (hd : (x == ("__debug__" : Str)) = false := by decide) :
    wpAny M A (eval (.Name x pos) (envOfC name scope L a cd)) Q E s := wpAny_Name (wpAny_loadName_local hk hl hn hv h) hd
end K1
namespace K1
open PySem PySem.Spec PyProof.Rows L2
theorem relO_one {v : V} {v' : Value} {g : Str} (r : RelV v v') (f : Str) : RelO (List.lookup f [(g, v)]) (if f = g then some v' else none) := by
  by_cases hw : f = g
  · subst hw
    rw [if_pos rfl]
    have q : List.lookup f [(f, v)] = some v := by simp [List.lookup]
    rw [q]
    exact r
  · rw [if_neg hw]
    have qw : (f == g) = false := by simpa using hw
    have q2 : List.lookup f [(g, v)] = none := by simp [List.lookup, qw]
    rw [q2]
    trivial
/-- C(e), C's __init__ storing e as the field g -/
def tMkF (g : Str) (C : Addr) (ta : TA) : L2.St → Hp → XK → Prop := fun σ H Q => ta σ H fun vs H1 => ∃ v, vs = [v] ∧ ∀ d, H1 d = none → Q (.ref C) (some d) (upd H1 d (.xd [(g, v)]))
def tRaiseF (g : Str) (C : Addr) (W : WX) (ta : TA) : TS := fun _ σ H => tMkF g C ta σ H fun cls d H' => W cls d σ H'
def tByF (g : Str) (C : Addr) (a : Addr) (cls : Value) (d : Option Addr) (te : TE) : TE := fun σ H Q => te σ H fun x H1 => x = .ref a ∧ cls = .ref C ∧ ∃ (dd : Addr) (v : V), d = some dd ∧ H1 dd = some (.xd [(g, v)]) ∧ Q v H1
end K1

namespace K1
namespace LAt
open PySem PySem.W PySem.Calls PyProof.Rows PySem.HandSPX
/-- the text of __init__ -/
def iA (p1 p2 : Pos) : Arguments := { posonlyargs := [], args := [{ arg := "self", annotation := none, pos := p1 }, { arg := "at", annotation := none, pos := p2 }], vararg := none, kwonlyargs := [], kw_defaults := [], kwarg := none, defaults := [] }
def iB (q1 q2 q3 q4 : Pos) : List Stmt := [.Assign [.Attribute (.Name "self" q1) "at" q2] (.Name "at" q3) q4]
def iS : Scope := { kind := .function, names := [(PySem.Str.ofString "self", .local), (PySem.Str.ofString "at", .local)], isGenerator := false, isCoroutine := false, more := [] }
/-- what the written part says of the class at C (named cn), of its chain bm, and of its __init__, at fI -/
structure Txt (K : Frag) (mg : Str → Option Value) (cn ql : Str) (bm : List Value) (C fI : Addr) : Prop where
  gC : mg cn = some (.ref C)
  cls : ∃ nm q N bs sn sub ab col dd k0 k1 k2 k3 k5, K.lookup C = some (excClassObj nm q C N bs bm true sn sub ab col dd k0 k1 k2 k3 k5 "ValueError.__new__")
  mr : Mro "ValueError" bm
  sa : findIn K (.ref C) "__setattr__" = some (some (.builtin "object.__setattr__"))
  ga : findIn K (.ref C) "__getattribute__" = some (some (.builtin "BaseException.__getattribute__"))
  gg : findIn K (.ref C) "__getattr__" = some none
  noN : findIn K (.ref C) "at" = some none
  iC : findIn K (.ref C) "__init__" = some (some (.ref fI))
  tC : typeIn K (.ref fI) = some (.type "function")
  kC : keepIn K (.ref C) = true
  exC : subIn K (.ref C) (.type "BaseException") = some true
  tyC : typeIn K (.ref C) = some (.type "type")
  hdC : hasDictIn K C = true
  fn : ∃ (oc : Value) (od : Option Addr) (doc pm : Value) (an : Option Addr) (cdv ct : Value) (osl : Array (Option Value)) (p1 p2 q1 q2 q3 q4 : Pos),
    K.lookup fI = some ⟨oc, od, .func (fnOf "__init__" ql (iA p1 p2) (iB q1 q2 q3 q4) iS .none .none doc pm an cdv ct), osl⟩ ∧ codeIn K cdv ql = true
/-- what __init__ leaves of a fresh exception at x -/
structure InitEnd (h h' : Heap) (x C dx t1 : Addr) (v : Value) : Prop where
  keep : ∀ b o, b ≠ x → h.get? b = some o → h'.get? b = some o
  obj : h'.get? x = some { cls := .ref C, dict := some dx, data := .fields #[.ref t1, .none, .none, .none, .bool false, .none] }
  dbig : h.objs.size ≤ dx
  dne : dx ≠ x
  ns : h'.Ns1 dx (fun y => if y = "at" then some v else none)
structure OwnMade (h h' : Heap) (e C d : Addr) (v : Value) : Prop where
  keep : ∀ b o, h.get? b = some o → h'.get? b = some o
  new : h.objs.size ≤ e
  obj : ∃ oe vs, h'.get? e = some oe ∧ oe.cls = .ref C ∧ oe.dict = some d ∧ oe.data = .fields vs ∧ vs[1]? = some .none
  dbig : h.objs.size ≤ d
  dne : d ≠ e
  ns : h'.Ns1 d (fun y => if y = "at" then some v else none)
section
variable {prog : Program} {w : World} {A : Around} {E : Value → Shared → Prop} {R : Result → Shared → Prop} {s : Shared} {K : Frag} {mg : Str → Option Value} {cn ql : Str} {bm : List Value} {C fI : Addr}
theorem init (T : Txt K mg cn ql bm C fI) {x t0 : Addr} {v : Value} (X : K.In s.heap) (hlim : s.heap.NoLimit) (hx : s.heap.get? x = some (excO C t0)) (hnx : K.lookup x = none) (hroom : A.depth < recursionLimit)
    (hq : ∀ h' tk dx, InitEnd s.heap h' x C dx t0 v → R (.ok (.ret .none)) { s with heap := h', toks := tk }) :
    codeAny (model prog w) A (.call (.ref fI) ⟨[.ref x, v], []⟩) R s := by
  obtain ⟨oc, od, doc, pm, an, cdv, ct, osl, p1, p2, q1, q2, q3, q4, ho, hcd⟩ := T.fn
  obtain ⟨nm, q, N, bs, sn, sub, ab, col, dd, k0, k1, k2, k3, k5, hC⟩ := T.cls
  have hcl : clsIn K C = some { name := nm, bases := bs, mro := .ref C :: bm, ns := N, qualname := q, hasDict := true, slotNames := sn, subclasses := sub, abstract := ab, collection := col, hasDel := false } := by unfold clsIn; rw [hC] <;> rfl
  refine Att.call_fn (binds := [("self", .ref x), ("at", v)]) X hlim ho hcd hroom (BindsTo.of_eq (by first | rfl | with_unfolding_all rfl)) (by first | rfl | decide | with_unfolding_all rfl) (fun s₁ IC => ?_) rfl rfl rfl
  obtain ⟨h₁, tk₁, rfl⟩ := IC.toInCall.same
  have k : ∀ b o, s.heap.get? b = some o → h₁.get? b = some o := IC.toInCall.keep
  have hn := IC.toInCall.ns
  have X₁ : K.In h₁ := X.keeps k
  have hx₁ := k _ _ hx
  show wpAny _ _ (execs _ _) _ _ _
  refine wpAny_execs_cons (plainObj_wpAny_Assign_Attribute ?_)
  refine ldE (v := v) hn (by first | rfl | with_unfolding_all rfl | kernel_rfl) (ldE (v := .ref x) hn (by first | rfl | with_unfolding_all rfl | kernel_rfl) ?_)
  refine set_plain X₁ (ox := excO C t0) (od := none) ⟨hx₁, rfl, rfl, trivial⟩ T.sa ?_
  refine exc_osaG X₁ hx₁ hcl rfl T.mr rfl T.noN (fun h₃ tk₃ dx k₃ dn dne hx₃ hn₃ => ?_)
  show wpAny _ _ (execs _ _) _ _ _
  have z : s.heap.objs.size < h₁.objs.size := hn.lt
  exact wpAny_execs_nil (hq h₃ tk₃ dx ⟨fun b o hb e => k₃ b o hb (k b o e), hx₃, Nat.le_of_lt (Nat.lt_of_lt_of_le z dn), dne, hn₃⟩)
theorem made (T : Txt K mg cn ql bm C fI) {v : Value} (X : K.In s.heap) (hlim : s.heap.NoLimit) (hroom : A.depth + 1 < recursionLimit)
    (hq : ∀ h' tk e d, OwnMade s.heap h' e C d v → R (.ok (.ret (.ref e))) { s with heap := h', toks := tk }) :
    codeAny (model prog w) A (.call (.ref C) ⟨[v], []⟩) R s := by
  obtain ⟨nm, q, N, bs, sn, sub, ab, col, dd, k0, k1, k2, k3, k5, hC⟩ := T.cls
  obtain ⟨hp, g, dr, tk, os⟩ := s
  have k : ∀ b o, hp.get? b = some o → ((hp.push (kdv_tup [v])).push (excO C hp.objs.size)).get? b = some o := fun b o e => Heap.get?_push_of_some _ (Heap.get?_push_of_some _ e)
  have hget : ((hp.push (kdv_tup [v])).push (excO C hp.objs.size)).get? (hp.objs.size + 1) = some (excO C hp.objs.size) := by heap_get
  have hnx : K.lookup (hp.objs.size + 1) = none := by
    cases e : K.lookup (hp.objs.size + 1) with
    | none => rfl
    | some o =>
      have z : hp.get? (hp.objs.size + 1) = some o := X _ _ e
      exact absurd (Nat.lt_of_succ_lt (Heap.lt_size z)) (Nat.lt_irrefl _)
  refine call_ownG F.excBase_ValueError T.mr (X _ _ hC) (looks_findIn X T.iC) (fun self => bind_fn X self T.tC) (one_le v) ?_
  refine init (s := ⟨(hp.push (kdv_tup [v])).push (excO C hp.objs.size), g, dr, tk, os⟩) T (X.keeps k) (hlim.keeps k) hget hnx ?_ fun h' tk' dx ⟨k', hx, dn, dne, hns⟩ => ?_
  · show A.depth + 1 < recursionLimit
    exact hroom
  · have old : ∀ b o, hp.get? b = some o → h'.get? b = some o := fun b o e => k' b o (Nat.ne_of_lt (Nat.lt_succ_of_lt (Heap.lt_size e))) (k b o e)
    have z : hp.objs.size + 1 + 1 ≤ dx := by
      first
        | (simpa only [Heap.size_push] using dn)
        | exact dn
        | (have q := dn; rw [Heap.size_push, Heap.size_push] at q; exact q)
    exact ⟨rfl, hq h' tk' (hp.objs.size + 1) dx ⟨old, Nat.le_succ _, ⟨_, _, hx, rfl, rfl, rfl, rfl⟩, Nat.le_trans (Nat.le_trans (Nat.le_succ _) (Nat.le_succ _)) z, dne, hns⟩⟩
end
end LAt
end K1
namespace K1
open PySem PySem.Spec PyProof.Rows L2
section
variable {X : Cx} {cn ql : Str} {bm : List Value} {C fI : Addr}
theorem pmk_LAt {a : Expr} {ta : TA} {p pos : Pos} {k : Nat} (T : LAt.Txt X.K X.mg cn ql bm C fI) (hr : Room k X.A) (ha : PA X [a] ta) (hg : Gl X cn := by rfl)
    (he : starEach (a :: []) X.env = (false, eval a X.env) :: starEach [] X.env := by rfl) (hpl : (backTo pos (starEach [] X.env)).any (·.1) = false := by rfl) (hdb : (cn == ("__debug__" : Str)) = false := by decide) :
    PMk X (.Call (.Name cn p) [a] [] pos) (tMkF "at" C ta) := by
  intro pins s σ H Q I h
  refine wpAny_Call_Name_kw (ld_glob I hg T.gC ?_ hdb)
  refine PySem.W.callWith_K (h₀ := X.base) I.ok.mod.kin T.kC (thn (ha.run pos pins s σ H _ I h) fun us s1 hh => ?_) he hpl
  obtain ⟨vs, H1, I1, r1, v, ev, q1⟩ := hh
  subst ev
  refine ⟨I1.kIn, ?_⟩
  cases r1 with
  | cons rv rn =>
    rename_i v' us'
    cases rn
    show wpAny _ _ (call (.ref C) [v']) _ _ _
    have hlim := I1.nolimit
    obtain ⟨hp, g, dr, tk, os⟩ := s1
    refine wpAny_call (LAt.made T I1.kIn hlim (by have := hr.dp; omega) fun h' tk' e d M => ?_)
    show MkP X pins σ Q (.ref e) ⟨h', g, dr, tk', os⟩
    obtain ⟨oe, fv, hoe, hc, hd, hdat, h1⟩ := M.obj
    have hns := M.ns
    obtain ⟨G', g1, g2⟩ := restrict h' fun b => decide (b ≠ e)
    have gk : ∀ b, b ≠ e → G'.get? b = h'.get? b := fun b hb => g1 b (decide_eq_true hb)
    have ge : G'.get? e = none := g2 e (by simp)
    have old : ∀ b o, hp.get? b = some o → G'.get? b = some o := fun b o q => (gk b (Nat.ne_of_lt (Nat.lt_of_lt_of_le (Heap.lt_size q) M.new))).trans (M.keep b o q)
    have ob : ObjOk X.prog X.w (upd H1 d (.xd [(("at" : Str), v)])) G' d (.xd [(("at" : Str), v)]) :=
      ⟨_, hns.at (fun o q => (gk d M.dne).trans q), fun f => relO_one rv f⟩
    have J : Inv X pins σ (upd H1 d (.xd [(("at" : Str), v)])) ⟨G', g, dr, tk', os⟩ := I1.laid (t' := tk') old M.dbig ob
    refine ⟨e, oe, fv, ⟨G', g, dr, tk', os⟩, _, .ref C, some d, rfl, J, fun b o q => ?_, ge, hoe, ⟨hc, hd⟩, hdat, h1, ?_, rfl, I1.bare, raises_own T.exC T.tyC, q1 d (I1.hok.fresh M.dbig)⟩
    · by_cases hb : b = e
      · have q' : G'.get? b = some o := q
        rw [hb, ge] at q'; cases q'
      · exact (gk b hb).symm.trans q
    · rw [upd_ne (Ne.symm M.dne)]
      exact I1.hok.fresh M.new
theorem ps_raise_LAt {a : Expr} {ta : TA} {W : WX} {p pos pos2 : Pos} {k : Nat} (hc : X.calm = true) (T : LAt.Txt X.K X.mg cn ql bm C fI) (hr : Room k X.A) (tk : Takes X W) (ha : PA X [a] ta) (hg : Gl X cn := by rfl)
    (he : starEach (a :: []) X.env = (false, eval a X.env) :: starEach [] X.env := by rfl) (hpl : (backTo pos (starEach [] X.env)).any (·.1) = false := by rfl) (hdb : (cn == ("__debug__" : Str)) = false := by decide) :
    PS X (.Raise (some (.Call (.Name cn p) [a] [] pos)) none pos2) (tRaiseF "at" C W ta) := ps_raise hc tk (pmk_LAt T hr ha hg he hpl hdb)
theorem pe_by_LAt {a : Addr} {oe : Obj} {cls : Value} {d : Option Addr} {pn : List (Addr × Obj)} {e : Expr} {te : TE} {pos : Pos} (T : LAt.Txt X.K X.mg cn ql bm C fI) (hz : Zc cls d oe) (hf : ∃ vs, oe.data = .fields vs) (he : PE (X.suite a ((a, oe) :: pn)) e te)
    (hb : attributeBase e "at" X.env (eval e X.env) = eval e X.env := by rfl) :
    PE (X.suite a ((a, oe) :: pn)) (.Attribute e "at" pos) (tByF "at" C a cls d te) := by
  refine ⟨fun pins s σ H Q I h => ?_⟩
  refine attr_of hb (thn (he.run pins s σ H _ I h) fun u s1 hh => ?_)
  obtain ⟨x, H1, I1, rx, ex, ec, dd, v, ed, ea, q⟩ := hh
  subst ex
  obtain rfl : u = Value.ref a := rx
  subst ec
  subst ed
  obtain ⟨ha, _⟩ := I1.pin (a, oe) (List.mem_append_left _ List.mem_cons_self)
  obtain ⟨vs, hd⟩ := hf
  have hx : ObjOk X.prog X.w H1 s1.heap dd (.xd [(("at" : Str), v)]) := I1.hok dd _ ea
  obtain ⟨mA, hns, hr⟩ := hx
  obtain ⟨od, ho, hl⟩ := lookIn_ns hns
  have l : List.lookup ("at" : Str) [(("at" : Str), v)] = some v := by simp [List.lookup]
  obtain ⟨u, hu, ru⟩ := RelO.some_of (v := v) (o := mA "at") (by rw [← l]; exact hr "at")
  have J : PySem.W.InstAt s1.heap a oe C (some od) := ⟨ha, hz.1, by unfold PySem.W.notCls; rw [hd] <;> rfl, by rw [hz.2]; exact ho⟩
  exact HandSPX.exc_get I1.kIn J T.ga T.gg T.exC (PySem.W.findObj_own T.hdC T.noN rfl (by rw [hl, hu])) (handed_of ru) ⟨v, H1, I1.tok _, ru, q⟩
end
end K1

namespace K1
namespace LHouse
open PySem PySem.W PySem.Calls PyProof.Rows PySem.HandSPX
/-- the text of __init__ -/
def iA (p1 p2 : Pos) : Arguments := { posonlyargs := [], args := [{ arg := "self", annotation := none, pos := p1 }, { arg := "house", annotation := none, pos := p2 }], vararg := none, kwonlyargs := [], kw_defaults := [], kwarg := none, defaults := [] }
def iB (q1 q2 q3 q4 : Pos) : List Stmt := [.Assign [.Attribute (.Name "self" q1) "house" q2] (.Name "house" q3) q4]
def iS : Scope := { kind := .function, names := [(PySem.Str.ofString "self", .local), (PySem.Str.ofString "house", .local)], isGenerator := false, isCoroutine := false, more := [] }
/-- what the written part says of the class at C (named cn), of its chain bm, and of its __init__, at fI -/
structure Txt (K : Frag) (mg : Str → Option Value) (cn ql : Str) (bm : List Value) (C fI : Addr) : Prop where
  gC : mg cn = some (.ref C)
  cls : ∃ nm q N bs sn sub ab col dd k0 k1 k2 k3 k5, K.lookup C = some (excClassObj nm q C N bs bm true sn sub ab col dd k0 k1 k2 k3 k5 "LookupError.__new__")
  mr : Mro "LookupError" bm
  sa : findIn K (.ref C) "__setattr__" = some (some (.builtin "object.__setattr__"))
  ga : findIn K (.ref C) "__getattribute__" = some (some (.builtin "BaseException.__getattribute__"))
  gg : findIn K (.ref C) "__getattr__" = some none
  noN : findIn K (.ref C) "house" = some none
  iC : findIn K (.ref C) "__init__" = some (some (.ref fI))
  tC : typeIn K (.ref fI) = some (.type "function")
  kC : keepIn K (.ref C) = true
  exC : subIn K (.ref C) (.type "BaseException") = some true
  tyC : typeIn K (.ref C) = some (.type "type")
  hdC : hasDictIn K C = true
  fn : ∃ (oc : Value) (od : Option Addr) (doc pm : Value) (an : Option Addr) (cdv ct : Value) (osl : Array (Option Value)) (p1 p2 q1 q2 q3 q4 : Pos),
    K.lookup fI = some ⟨oc, od, .func (fnOf "__init__" ql (iA p1 p2) (iB q1 q2 q3 q4) iS .none .none doc pm an cdv ct), osl⟩ ∧ codeIn K cdv ql = true
/-- what __init__ leaves of a fresh exception at x -/
structure InitEnd (h h' : Heap) (x C dx t1 : Addr) (v : Value) : Prop where
  keep : ∀ b o, b ≠ x → h.get? b = some o → h'.get? b = some o
  obj : h'.get? x = some { cls := .ref C, dict := some dx, data := .fields #[.ref t1, .none, .none, .none, .bool false, .none] }
  dbig : h.objs.size ≤ dx
  dne : dx ≠ x
  ns : h'.Ns1 dx (fun y => if y = "house" then some v else none)
structure OwnMade (h h' : Heap) (e C d : Addr) (v : Value) : Prop where
  keep : ∀ b o, h.get? b = some o → h'.get? b = some o
  new : h.objs.size ≤ e
  obj : ∃ oe vs, h'.get? e = some oe ∧ oe.cls = .ref C ∧ oe.dict = some d ∧ oe.data = .fields vs ∧ vs[1]? = some .none
  dbig : h.objs.size ≤ d
  dne : d ≠ e
  ns : h'.Ns1 d (fun y => if y = "house" then some v else none)
section
variable {prog : Program} {w : World} {A : Around} {E : Value → Shared → Prop} {R : Result → Shared → Prop} {s : Shared} {K : Frag} {mg : Str → Option Value} {cn ql : Str} {bm : List Value} {C fI : Addr}
theorem init (T : Txt K mg cn ql bm C fI) {x t0 : Addr} {v : Value} (X : K.In s.heap) (hlim : s.heap.NoLimit) (hx : s.heap.get? x = some (excO C t0)) (hnx : K.lookup x = none) (hroom : A.depth < recursionLimit)
    (hq : ∀ h' tk dx, InitEnd s.heap h' x C dx t0 v → R (.ok (.ret .none)) { s with heap := h', toks := tk }) :
    codeAny (model prog w) A (.call (.ref fI) ⟨[.ref x, v], []⟩) R s := by
  obtain ⟨oc, od, doc, pm, an, cdv, ct, osl, p1, p2, q1, q2, q3, q4, ho, hcd⟩ := T.fn
  obtain ⟨nm, q, N, bs, sn, sub, ab, col, dd, k0, k1, k2, k3, k5, hC⟩ := T.cls
  have hcl : clsIn K C = some { name := nm, bases := bs, mro := .ref C :: bm, ns := N, qualname := q, hasDict := true, slotNames := sn, subclasses := sub, abstract := ab, collection := col, hasDel := false } := by unfold clsIn; rw [hC] <;> rfl
  refine Att.call_fn (binds := [("self", .ref x), ("house", v)]) X hlim ho hcd hroom (BindsTo.of_eq (by first | rfl | with_unfolding_all rfl)) (by first | rfl | decide | with_unfolding_all rfl) (fun s₁ IC => ?_) rfl rfl rfl
  obtain ⟨h₁, tk₁, rfl⟩ := IC.toInCall.same
  have k : ∀ b o, s.heap.get? b = some o → h₁.get? b = some o := IC.toInCall.keep
  have hn := IC.toInCall.ns
  have X₁ : K.In h₁ := X.keeps k
  have hx₁ := k _ _ hx
  show wpAny _ _ (execs _ _) _ _ _
  refine wpAny_execs_cons (plainObj_wpAny_Assign_Attribute ?_)
  refine ldE (v := v) hn (by first | rfl | with_unfolding_all rfl | kernel_rfl) (ldE (v := .ref x) hn (by first | rfl | with_unfolding_all rfl | kernel_rfl) ?_)
  refine set_plain X₁ (ox := excO C t0) (od := none) ⟨hx₁, rfl, rfl, trivial⟩ T.sa ?_
  refine exc_osaG X₁ hx₁ hcl rfl T.mr rfl T.noN (fun h₃ tk₃ dx k₃ dn dne hx₃ hn₃ => ?_)
  show wpAny _ _ (execs _ _) _ _ _
  have z : s.heap.objs.size < h₁.objs.size := hn.lt
  exact wpAny_execs_nil (hq h₃ tk₃ dx ⟨fun b o hb e => k₃ b o hb (k b o e), hx₃, Nat.le_of_lt (Nat.lt_of_lt_of_le z dn), dne, hn₃⟩)
theorem made (T : Txt K mg cn ql bm C fI) {v : Value} (X : K.In s.heap) (hlim : s.heap.NoLimit) (hroom : A.depth + 1 < recursionLimit)
    (hq : ∀ h' tk e d, OwnMade s.heap h' e C d v → R (.ok (.ret (.ref e))) { s with heap := h', toks := tk }) :
    codeAny (model prog w) A (.call (.ref C) ⟨[v], []⟩) R s := by
  obtain ⟨nm, q, N, bs, sn, sub, ab, col, dd, k0, k1, k2, k3, k5, hC⟩ := T.cls
  obtain ⟨hp, g, dr, tk, os⟩ := s
  have k : ∀ b o, hp.get? b = some o → ((hp.push (kdv_tup [v])).push (excO C hp.objs.size)).get? b = some o := fun b o e => Heap.get?_push_of_some _ (Heap.get?_push_of_some _ e)
  have hget : ((hp.push (kdv_tup [v])).push (excO C hp.objs.size)).get? (hp.objs.size + 1) = some (excO C hp.objs.size) := by heap_get
  have hnx : K.lookup (hp.objs.size + 1) = none := by
    cases e : K.lookup (hp.objs.size + 1) with
    | none => rfl
    | some o =>
      have z : hp.get? (hp.objs.size + 1) = some o := X _ _ e
      exact absurd (Nat.lt_of_succ_lt (Heap.lt_size z)) (Nat.lt_irrefl _)
  refine call_ownG F.excBase_LookupError T.mr (X _ _ hC) (looks_findIn X T.iC) (fun self => bind_fn X self T.tC) (one_le v) ?_
  refine init (s := ⟨(hp.push (kdv_tup [v])).push (excO C hp.objs.size), g, dr, tk, os⟩) T (X.keeps k) (hlim.keeps k) hget hnx ?_ fun h' tk' dx ⟨k', hx, dn, dne, hns⟩ => ?_
  · show A.depth + 1 < recursionLimit
    exact hroom
  · have old : ∀ b o, hp.get? b = some o → h'.get? b = some o := fun b o e => k' b o (Nat.ne_of_lt (Nat.lt_succ_of_lt (Heap.lt_size e))) (k b o e)
    have z : hp.objs.size + 1 + 1 ≤ dx := by
      first
        | (simpa only [Heap.size_push] using dn)
        | exact dn
        | (have q := dn; rw [Heap.size_push, Heap.size_push] at q; exact q)
    exact ⟨rfl, hq h' tk' (hp.objs.size + 1) dx ⟨old, Nat.le_succ _, ⟨_, _, hx, rfl, rfl, rfl, rfl⟩, Nat.le_trans (Nat.le_trans (Nat.le_succ _) (Nat.le_succ _)) z, dne, hns⟩⟩
end
end LHouse
end K1
namespace K1
open PySem PySem.Spec PyProof.Rows L2
section
variable {X : Cx} {cn ql : Str} {bm : List Value} {C fI : Addr}
theorem pmk_LHouse {a : Expr} {ta : TA} {p pos : Pos} {k : Nat} (T : LHouse.Txt X.K X.mg cn ql bm C fI) (hr : Room k X.A) (ha : PA X [a] ta) (hg : Gl X cn := by rfl)
    (he : starEach (a :: []) X.env = (false, eval a X.env) :: starEach [] X.env := by rfl) (hpl : (backTo pos (starEach [] X.env)).any (·.1) = false := by rfl) (hdb : (cn == ("__debug__" : Str)) = false := by decide) :
    PMk X (.Call (.Name cn p) [a] [] pos) (tMkF "house" C ta) := by
  intro pins s σ H Q I h
  refine wpAny_Call_Name_kw (ld_glob I hg T.gC ?_ hdb)
  refine PySem.W.callWith_K (h₀ := X.base) I.ok.mod.kin T.kC (thn (ha.run pos pins s σ H _ I h) fun us s1 hh => ?_) he hpl
  obtain ⟨vs, H1, I1, r1, v, ev, q1⟩ := hh
  subst ev
  refine ⟨I1.kIn, ?_⟩
  cases r1 with
  | cons rv rn =>
    rename_i v' us'
    cases rn
    show wpAny _ _ (call (.ref C) [v']) _ _ _
    have hlim := I1.nolimit
    obtain ⟨hp, g, dr, tk, os⟩ := s1
    refine wpAny_call (LHouse.made T I1.kIn hlim (by have := hr.dp; omega) fun h' tk' e d M => ?_)
    show MkP X pins σ Q (.ref e) ⟨h', g, dr, tk', os⟩
    obtain ⟨oe, fv, hoe, hc, hd, hdat, h1⟩ := M.obj
    have hns := M.ns
    obtain ⟨G', g1, g2⟩ := restrict h' fun b => decide (b ≠ e)
    have gk : ∀ b, b ≠ e → G'.get? b = h'.get? b := fun b hb => g1 b (decide_eq_true hb)
    have ge : G'.get? e = none := g2 e (by simp)
    have old : ∀ b o, hp.get? b = some o → G'.get? b = some o := fun b o q => (gk b (Nat.ne_of_lt (Nat.lt_of_lt_of_le (Heap.lt_size q) M.new))).trans (M.keep b o q)
    have ob : ObjOk X.prog X.w (upd H1 d (.xd [(("house" : Str), v)])) G' d (.xd [(("house" : Str), v)]) :=
      ⟨_, hns.at (fun o q => (gk d M.dne).trans q), fun f => relO_one rv f⟩
    have J : Inv X pins σ (upd H1 d (.xd [(("house" : Str), v)])) ⟨G', g, dr, tk', os⟩ := I1.laid (t' := tk') old M.dbig ob
    refine ⟨e, oe, fv, ⟨G', g, dr, tk', os⟩, _, .ref C, some d, rfl, J, fun b o q => ?_, ge, hoe, ⟨hc, hd⟩, hdat, h1, ?_, rfl, I1.bare, raises_own T.exC T.tyC, q1 d (I1.hok.fresh M.dbig)⟩
    · by_cases hb : b = e
      · have q' : G'.get? b = some o := q
        rw [hb, ge] at q'; cases q'
      · exact (gk b hb).symm.trans q
    · rw [upd_ne (Ne.symm M.dne)]
      exact I1.hok.fresh M.new
theorem ps_raise_LHouse {a : Expr} {ta : TA} {W : WX} {p pos pos2 : Pos} {k : Nat} (hc : X.calm = true) (T : LHouse.Txt X.K X.mg cn ql bm C fI) (hr : Room k X.A) (tk : Takes X W) (ha : PA X [a] ta) (hg : Gl X cn := by rfl)
    (he : starEach (a :: []) X.env = (false, eval a X.env) :: starEach [] X.env := by rfl) (hpl : (backTo pos (starEach [] X.env)).any (·.1) = false := by rfl) (hdb : (cn == ("__debug__" : Str)) = false := by decide) :
    PS X (.Raise (some (.Call (.Name cn p) [a] [] pos)) none pos2) (tRaiseF "house" C W ta) := ps_raise hc tk (pmk_LHouse T hr ha hg he hpl hdb)
theorem pe_by_LHouse {a : Addr} {oe : Obj} {cls : Value} {d : Option Addr} {pn : List (Addr × Obj)} {e : Expr} {te : TE} {pos : Pos} (T : LHouse.Txt X.K X.mg cn ql bm C fI) (hz : Zc cls d oe) (hf : ∃ vs, oe.data = .fields vs) (he : PE (X.suite a ((a, oe) :: pn)) e te)
    (hb : attributeBase e "house" X.env (eval e X.env) = eval e X.env := by rfl) :
    PE (X.suite a ((a, oe) :: pn)) (.Attribute e "house" pos) (tByF "house" C a cls d te) := by
  refine ⟨fun pins s σ H Q I h => ?_⟩
  refine attr_of hb (thn (he.run pins s σ H _ I h) fun u s1 hh => ?_)
  obtain ⟨x, H1, I1, rx, ex, ec, dd, v, ed, ea, q⟩ := hh
  subst ex
  obtain rfl : u = Value.ref a := rx
  subst ec
  subst ed
  obtain ⟨ha, _⟩ := I1.pin (a, oe) (List.mem_append_left _ List.mem_cons_self)
  obtain ⟨vs, hd⟩ := hf
  have hx : ObjOk X.prog X.w H1 s1.heap dd (.xd [(("house" : Str), v)]) := I1.hok dd _ ea
  obtain ⟨mA, hns, hr⟩ := hx
  obtain ⟨od, ho, hl⟩ := lookIn_ns hns
  have l : List.lookup ("house" : Str) [(("house" : Str), v)] = some v := by simp [List.lookup]
  obtain ⟨u, hu, ru⟩ := RelO.some_of (v := v) (o := mA "house") (by rw [← l]; exact hr "house")
  have J : PySem.W.InstAt s1.heap a oe C (some od) := ⟨ha, hz.1, by unfold PySem.W.notCls; rw [hd] <;> rfl, by rw [hz.2]; exact ho⟩
  exact HandSPX.exc_get I1.kIn J T.ga T.gg T.exC (PySem.W.findObj_own T.hdC T.noN rfl (by rw [hl, hu])) (handed_of ru) ⟨v, H1, I1.tok _, ru, q⟩
end
end K1

namespace K1
namespace LMost
open PySem PySem.W PySem.Calls PyProof.Rows PySem.HandSPX
/-- the text of __init__ -/
def iA (p1 p2 : Pos) : Arguments := { posonlyargs := [], args := [{ arg := "self", annotation := none, pos := p1 }, { arg := "most", annotation := none, pos := p2 }], vararg := none, kwonlyargs := [], kw_defaults := [], kwarg := none, defaults := [] }
def iB (q1 q2 q3 q4 : Pos) : List Stmt := [.Assign [.Attribute (.Name "self" q1) "most" q2] (.Name "most" q3) q4]
def iS : Scope := { kind := .function, names := [(PySem.Str.ofString "self", .local), (PySem.Str.ofString "most", .local)], isGenerator := false, isCoroutine := false, more := [] }
/-- what the written part says of the class at C (named cn), of its chain bm, and of its __init__, at fI -/
structure Txt (K : Frag) (mg : Str → Option Value) (cn ql : Str) (bm : List Value) (C fI : Addr) : Prop where
  gC : mg cn = some (.ref C)
  cls : ∃ nm q N bs sn sub ab col dd k0 k1 k2 k3 k5, K.lookup C = some (excClassObj nm q C N bs bm true sn sub ab col dd k0 k1 k2 k3 k5 "ValueError.__new__")
  mr : Mro "ValueError" bm
  sa : findIn K (.ref C) "__setattr__" = some (some (.builtin "object.__setattr__"))
  ga : findIn K (.ref C) "__getattribute__" = some (some (.builtin "BaseException.__getattribute__"))
  gg : findIn K (.ref C) "__getattr__" = some none
  noN : findIn K (.ref C) "most" = some none
  iC : findIn K (.ref C) "__init__" = some (some (.ref fI))
  tC : typeIn K (.ref fI) = some (.type "function")
  kC : keepIn K (.ref C) = true
  exC : subIn K (.ref C) (.type "BaseException") = some true
  tyC : typeIn K (.ref C) = some (.type "type")
  hdC : hasDictIn K C = true
  fn : ∃ (oc : Value) (od : Option Addr) (doc pm : Value) (an : Option Addr) (cdv ct : Value) (osl : Array (Option Value)) (p1 p2 q1 q2 q3 q4 : Pos),
    K.lookup fI = some ⟨oc, od, .func (fnOf "__init__" ql (iA p1 p2) (iB q1 q2 q3 q4) iS .none .none doc pm an cdv ct), osl⟩ ∧ codeIn K cdv ql = true
/-- what __init__ leaves of a fresh exception at x -/
structure InitEnd (h h' : Heap) (x C dx t1 : Addr) (v : Value) : Prop where
  keep : ∀ b o, b ≠ x → h.get? b = some o → h'.get? b = some o
  obj : h'.get? x = some { cls := .ref C, dict := some dx, data := .fields #[.ref t1, .none, .none, .none, .bool false, .none] }
  dbig : h.objs.size ≤ dx
  dne : dx ≠ x
  ns : h'.Ns1 dx (fun y => if y = "most" then some v else none)
structure OwnMade (h h' : Heap) (e C d : Addr) (v : Value) : Prop where
  keep : ∀ b o, h.get? b = some o → h'.get? b = some o
  new : h.objs.size ≤ e
  obj : ∃ oe vs, h'.get? e = some oe ∧ oe.cls = .ref C ∧ oe.dict = some d ∧ oe.data = .fields vs ∧ vs[1]? = some .none
  dbig : h.objs.size ≤ d
  dne : d ≠ e
  ns : h'.Ns1 d (fun y => if y = "most" then some v else none)
section
variable {prog : Program} {w : World} {A : Around} {E : Value → Shared → Prop} {R : Result → Shared → Prop} {s : Shared} {K : Frag} {mg : Str → Option Value} {cn ql : Str} {bm : List Value} {C fI : Addr}
theorem init (T : Txt K mg cn ql bm C fI) {x t0 : Addr} {v : Value} (X : K.In s.heap) (hlim : s.heap.NoLimit) (hx : s.heap.get? x = some (excO C t0)) (hnx : K.lookup x = none) (hroom : A.depth < recursionLimit)
    (hq : ∀ h' tk dx, InitEnd s.heap h' x C dx t0 v → R (.ok (.ret .none)) { s with heap := h', toks := tk }) :
    codeAny (model prog w) A (.call (.ref fI) ⟨[.ref x, v], []⟩) R s := by
  obtain ⟨oc, od, doc, pm, an, cdv, ct, osl, p1, p2, q1, q2, q3, q4, ho, hcd⟩ := T.fn
  obtain ⟨nm, q, N, bs, sn, sub, ab, col, dd, k0, k1, k2, k3, k5, hC⟩ := T.cls
  have hcl : clsIn K C = some { name := nm, bases := bs, mro := .ref C :: bm, ns := N, qualname := q, hasDict := true, slotNames := sn, subclasses := sub, abstract := ab, collection := col, hasDel := false } := by unfold clsIn; rw [hC] <;> rfl
  refine Att.call_fn (binds := [("self", .ref x), ("most", v)]) X hlim ho hcd hroom (BindsTo.of_eq (by first | rfl | with_unfolding_all rfl)) (by first | rfl | decide | with_unfolding_all rfl) (fun s₁ IC => ?_) rfl rfl rfl
  obtain ⟨h₁, tk₁, rfl⟩ := IC.toInCall.same
  have k : ∀ b o, s.heap.get? b = some o → h₁.get? b = some o := IC.toInCall.keep
  have hn := IC.toInCall.ns
  have X₁ : K.In h₁ := X.keeps k
  have hx₁ := k _ _ hx
  show wpAny _ _ (execs _ _) _ _ _
  refine wpAny_execs_cons (plainObj_wpAny_Assign_Attribute ?_)
  refine ldE (v := v) hn (by first | rfl | with_unfolding_all rfl | kernel_rfl) (ldE (v := .ref x) hn (by first | rfl | with_unfolding_all rfl | kernel_rfl) ?_)
  refine set_plain X₁ (ox := excO C t0) (od := none) ⟨hx₁, rfl, rfl, trivial⟩ T.sa ?_
  refine exc_osaG X₁ hx₁ hcl rfl T.mr rfl T.noN (fun h₃ tk₃ dx k₃ dn dne hx₃ hn₃ => ?_)
  show wpAny _ _ (execs _ _) _ _ _
  have z : s.heap.objs.size < h₁.objs.size := hn.lt
  exact wpAny_execs_nil (hq h₃ tk₃ dx ⟨fun b o hb e => k₃ b o hb (k b o e), hx₃, Nat.le_of_lt (Nat.lt_of_lt_of_le z dn), dne, hn₃⟩)
theorem made (T : Txt K mg cn ql bm C fI) {v : Value} (X : K.In s.heap) (hlim : s.heap.NoLimit) (hroom : A.depth + 1 < recursionLimit)
    (hq : ∀ h' tk e d, OwnMade s.heap h' e C d v → R (.ok (.ret (.ref e))) { s with heap := h', toks := tk }) :
    codeAny (model prog w) A (.call (.ref C) ⟨[v], []⟩) R s := by
  obtain ⟨nm, q, N, bs, sn, sub, ab, col, dd, k0, k1, k2, k3, k5, hC⟩ := T.cls
  obtain ⟨hp, g, dr, tk, os⟩ := s
  have k : ∀ b o, hp.get? b = some o → ((hp.push (kdv_tup [v])).push (excO C hp.objs.size)).get? b = some o := fun b o e => Heap.get?_push_of_some _ (Heap.get?_push_of_some _ e)
  have hget : ((hp.push (kdv_tup [v])).push (excO C hp.objs.size)).get? (hp.objs.size + 1) = some (excO C hp.objs.size) := by heap_get
  have hnx : K.lookup (hp.objs.size + 1) = none := by
    cases e : K.lookup (hp.objs.size + 1) with
    | none => rfl
    | some o =>
      have z : hp.get? (hp.objs.size + 1) = some o := X _ _ e
      exact absurd (Nat.lt_of_succ_lt (Heap.lt_size z)) (Nat.lt_irrefl _)
  refine call_ownG F.excBase_ValueError T.mr (X _ _ hC) (looks_findIn X T.iC) (fun self => bind_fn X self T.tC) (one_le v) ?_
  refine init (s := ⟨(hp.push (kdv_tup [v])).push (excO C hp.objs.size), g, dr, tk, os⟩) T (X.keeps k) (hlim.keeps k) hget hnx ?_ fun h' tk' dx ⟨k', hx, dn, dne, hns⟩ => ?_
  · show A.depth + 1 < recursionLimit
    exact hroom
  · have old : ∀ b o, hp.get? b = some o → h'.get? b = some o := fun b o e => k' b o (Nat.ne_of_lt (Nat.lt_succ_of_lt (Heap.lt_size e))) (k b o e)
    have z : hp.objs.size + 1 + 1 ≤ dx := by
      first
        | (simpa only [Heap.size_push] using dn)
        | exact dn
        | (have q := dn; rw [Heap.size_push, Heap.size_push] at q; exact q)
    exact ⟨rfl, hq h' tk' (hp.objs.size + 1) dx ⟨old, Nat.le_succ _, ⟨_, _, hx, rfl, rfl, rfl, rfl⟩, Nat.le_trans (Nat.le_trans (Nat.le_succ _) (Nat.le_succ _)) z, dne, hns⟩⟩
end
end LMost
end K1
namespace K1
open PySem PySem.Spec PyProof.Rows L2
section
variable {X : Cx} {cn ql : Str} {bm : List Value} {C fI : Addr}
theorem pmk_LMost {a : Expr} {ta : TA} {p pos : Pos} {k : Nat} (T : LMost.Txt X.K X.mg cn ql bm C fI) (hr : Room k X.A) (ha : PA X [a] ta) (hg : Gl X cn := by rfl)
    (he : starEach (a :: []) X.env = (false, eval a X.env) :: starEach [] X.env := by rfl) (hpl : (backTo pos (starEach [] X.env)).any (·.1) = false := by rfl) (hdb : (cn == ("__debug__" : Str)) = false := by decide) :
    PMk X (.Call (.Name cn p) [a] [] pos) (tMkF "most" C ta) := by
  intro pins s σ H Q I h
  refine wpAny_Call_Name_kw (ld_glob I hg T.gC ?_ hdb)
  refine PySem.W.callWith_K (h₀ := X.base) I.ok.mod.kin T.kC (thn (ha.run pos pins s σ H _ I h) fun us s1 hh => ?_) he hpl
  obtain ⟨vs, H1, I1, r1, v, ev, q1⟩ := hh
  subst ev
  refine ⟨I1.kIn, ?_⟩
  cases r1 with
  | cons rv rn =>
    rename_i v' us'
    cases rn
    show wpAny _ _ (call (.ref C) [v']) _ _ _
    have hlim := I1.nolimit
    obtain ⟨hp, g, dr, tk, os⟩ := s1
    refine wpAny_call (LMost.made T I1.kIn hlim (by have := hr.dp; omega) fun h' tk' e d M => ?_)
    show MkP X pins σ Q (.ref e) ⟨h', g, dr, tk', os⟩
    obtain ⟨oe, fv, hoe, hc, hd, hdat, h1⟩ := M.obj
    have hns := M.ns
    obtain ⟨G', g1, g2⟩ := restrict h' fun b => decide (b ≠ e)
    have gk : ∀ b, b ≠ e → G'.get? b = h'.get? b := fun b hb => g1 b (decide_eq_true hb)
    have ge : G'.get? e = none := g2 e (by simp)
    have old : ∀ b o, hp.get? b = some o → G'.get? b = some o := fun b o q => (gk b (Nat.ne_of_lt (Nat.lt_of_lt_of_le (Heap.lt_size q) M.new))).trans (M.keep b o q)
    have ob : ObjOk X.prog X.w (upd H1 d (.xd [(("most" : Str), v)])) G' d (.xd [(("most" : Str), v)]) :=
      ⟨_, hns.at (fun o q => (gk d M.dne).trans q), fun f => relO_one rv f⟩
    have J : Inv X pins σ (upd H1 d (.xd [(("most" : Str), v)])) ⟨G', g, dr, tk', os⟩ := I1.laid (t' := tk') old M.dbig ob
    refine ⟨e, oe, fv, ⟨G', g, dr, tk', os⟩, _, .ref C, some d, rfl, J, fun b o q => ?_, ge, hoe, ⟨hc, hd⟩, hdat, h1, ?_, rfl, I1.bare, raises_own T.exC T.tyC, q1 d (I1.hok.fresh M.dbig)⟩
    · by_cases hb : b = e
      · have q' : G'.get? b = some o := q
        rw [hb, ge] at q'; cases q'
      · exact (gk b hb).symm.trans q
    · rw [upd_ne (Ne.symm M.dne)]
      exact I1.hok.fresh M.new
theorem ps_raise_LMost {a : Expr} {ta : TA} {W : WX} {p pos pos2 : Pos} {k : Nat} (hc : X.calm = true) (T : LMost.Txt X.K X.mg cn ql bm C fI) (hr : Room k X.A) (tk : Takes X W) (ha : PA X [a] ta) (hg : Gl X cn := by rfl)
    (he : starEach (a :: []) X.env = (false, eval a X.env) :: starEach [] X.env := by rfl) (hpl : (backTo pos (starEach [] X.env)).any (·.1) = false := by rfl) (hdb : (cn == ("__debug__" : Str)) = false := by decide) :
    PS X (.Raise (some (.Call (.Name cn p) [a] [] pos)) none pos2) (tRaiseF "most" C W ta) := ps_raise hc tk (pmk_LMost T hr ha hg he hpl hdb)
theorem pe_by_LMost {a : Addr} {oe : Obj} {cls : Value} {d : Option Addr} {pn : List (Addr × Obj)} {e : Expr} {te : TE} {pos : Pos} (T : LMost.Txt X.K X.mg cn ql bm C fI) (hz : Zc cls d oe) (hf : ∃ vs, oe.data = .fields vs) (he : PE (X.suite a ((a, oe) :: pn)) e te)
    (hb : attributeBase e "most" X.env (eval e X.env) = eval e X.env := by rfl) :
    PE (X.suite a ((a, oe) :: pn)) (.Attribute e "most" pos) (tByF "most" C a cls d te) := by
  refine ⟨fun pins s σ H Q I h => ?_⟩
  refine attr_of hb (thn (he.run pins s σ H _ I h) fun u s1 hh => ?_)
  obtain ⟨x, H1, I1, rx, ex, ec, dd, v, ed, ea, q⟩ := hh
  subst ex
  obtain rfl : u = Value.ref a := rx
  subst ec
  subst ed
  obtain ⟨ha, _⟩ := I1.pin (a, oe) (List.mem_append_left _ List.mem_cons_self)
  obtain ⟨vs, hd⟩ := hf
  have hx : ObjOk X.prog X.w H1 s1.heap dd (.xd [(("most" : Str), v)]) := I1.hok dd _ ea
  obtain ⟨mA, hns, hr⟩ := hx
  obtain ⟨od, ho, hl⟩ := lookIn_ns hns
  have l : List.lookup ("most" : Str) [(("most" : Str), v)] = some v := by simp [List.lookup]
  obtain ⟨u, hu, ru⟩ := RelO.some_of (v := v) (o := mA "most") (by rw [← l]; exact hr "most")
  have J : PySem.W.InstAt s1.heap a oe C (some od) := ⟨ha, hz.1, by unfold PySem.W.notCls; rw [hd] <;> rfl, by rw [hz.2]; exact ho⟩
  exact HandSPX.exc_get I1.kIn J T.ga T.gg T.exC (PySem.W.findObj_own T.hdC T.noN rfl (by rw [hl, hu])) (handed_of ru) ⟨v, H1, I1.tok _, ru, q⟩
end
end K1
/-! enumerate over a tuple, repr of data of any depth, isinstance of a held exception -/
namespace K1
open PySem PySem.Spec PyProof.Rows L2
theorem meets_enum1 {v : Value} {o : Obj} {H : Heap → Prop} (B : Begins v o H) :
    Meets (Builtin.«enumerate.__new__» ⟨[.type "enumerate", v], []⟩) (fun _ R s => H s.heap ∧
      R (.ok (.ret (.ref (s.heap.push o).objs.size))) { s with heap := (s.heap.push o).push { cls := .type "enumerate", data := .fields #[.none, .bool false, .ref s.heap.objs.size, rawInt 0, .none, .none] } }) :=
  .of_wp fun prog w A R s h => by
    obtain ⟨hp, g, d, tk, os⟩ := s
    obtain ⟨h1, h⟩ := h
    have hsub := sub_enumerate
    have q1 : ∀ {A' : Around} {E : Value → Shared → Prop} {Q : Value → Shared → Prop}, Q (.ref hp.objs.size) ⟨hp.push o, g, d, tk, os⟩ → wpAny (model prog w) A' (pyIter v) Q E ⟨hp, g, d, tk, os⟩ :=
      fun q => B.iter prog w _ _ ⟨hp, g, d, tk, os⟩ _ h1 q
    wp_walk using q1
    refine wpAny_stack_any fun st => wpAny_pure ?_
    split
    · rename_i c _ _ _ _ _
      cases (c == Value.type "enumerate") <;> (wp_walk using q1; exact ⟨_, rfl, h⟩)
    · wp_walk using q1
      exact ⟨_, rfl, h⟩
theorem enum_begins1 {prog : Program} {w : World} {A : Around} {E : Value → Shared → Prop} {s : Shared} {v : Value} {o : Obj} {H : Heap → Prop} {Q : Value → Shared → Prop} (B : Begins v o H) (h1 : H s.heap)
    (h : ∀ h', IsEnum h' (s.heap.objs.size + 1) s.heap.objs.size 0 .none → h'.get? s.heap.objs.size = some o → h'.objs.size = s.heap.objs.size + 2 →
      (∀ b o, s.heap.get? b = some o → h'.get? b = some o) → Q (.ref (s.heap.objs.size + 1)) { s with heap := h' }) :
    wpAny (model prog w) A (call (.type "enumerate") [v]) Q E s := by
  refine callType_new F.called_enumerate (by decide) (F.typeCall_enumerate_1 _) (F.newCall_enumerate_1 _) (fun obj => F.args_object_init_2 obj _) F.entry_enumerate_new (meets_enum1 B) ⟨h1, ?_⟩
  have hz : (s.heap.push o).objs.size = s.heap.objs.size + 1 := Heap.size_push ..
  show _ ∧ _
  rw [hz]
  have he := Heap.get?_push_size (s.heap.push o) (o := { cls := .type "enumerate", data := .fields #[.none, .bool false, .ref s.heap.objs.size, rawInt 0, .none, .none] }) rfl
  rw [hz] at he
  exact ⟨⟨_, he, rfl⟩, h _ he (Heap.get?_push_of_some _ (Heap.get?_push_size _ B.free)) (by rw [Heap.size_push, hz]) fun b o x => Heap.get?_push_of_some _ (Heap.get?_push_of_some _ x)⟩
/-- the tuple at a, each item in a new pair -/
def IteT (K : PySem.W.Frag) (a : Addr) : It :=
  ⟨fun i H => ∃ (xs : List V) (x : V), SqT K H a xs ∧ xs[i]? = some x, fun i H v H' => ∃ T x, v = .ref T ∧ H T = none ∧ H' = upd H T (.tup [.int (i : Nat), x]) ∧ ∀ xs, SqT K H a xs → xs[i]? = some x, fun i H => ∃ xs : List V, SqT K H a xs ∧ xs.length ≤ i⟩
theorem turn_enumT {P : Program} {w : World} {K : PySem.W.Frag} {elts : List Expr} {kk : Nat} {tpos : Pos} (a e it : Addr) :
    Turn P w K (.Tuple elts kk tpos) (IteT K a) [e, it] e (fun i h => (∃ old, IsEnum h e it ((i : Nat) : Int) old) ∧ h.IsTupleIter it a i ∧ e ≠ it ∧ e ≠ a ∧ a ≠ it) where
  mem := by simp
  obj := fun i h st b hb => by
    obtain ⟨⟨old, he⟩, ⟨o, ho, hc, hd⟩, _⟩ := st
    rcases (show b = e ∨ b = it by simpa using hb) with z | z
    · rw [z]; exact ⟨_, he, fun v q => nomatch q⟩
    · rw [z]; exact ⟨o, ho, fun v q => by rw [hd] at q; cases q⟩
  keep := fun i h h' st k => let ⟨⟨old, he⟩, hi, hne⟩ := st; ⟨⟨old, k e (by simp) _ he⟩, hi.at fun o q => k it (by simp) o q, hne⟩
  item := by
    intro X hP hw hK hc i pins s σ H E I hf st hg
    subst hP hw hK
    obtain ⟨⟨old, he⟩, hit, hne, nea, nai⟩ := st
    obtain ⟨xs, x, hq, hx⟩ := hg
    obtain ⟨its, rv, p, hz⟩ := I.tuple hq
    obtain ⟨u, hu, ru⟩ := rv.get hx
    have hil' := (List.getElem?_eq_some_iff.mp hu).1
    have hel : e < s.heap.objs.size := Heap.lt_size he
    have hil : it < s.heap.objs.size := by obtain ⟨_, q, _⟩ := hit; exact Heap.lt_size q
    have D := Draws.tuple (prog := X.prog) (w := X.w) (A := X.A.in1) (show X.A.in1.handled = none from I.ok.hd hc) it a nai its.toArray
    refine wpAny_pyNext_enum_itemD D he ⟨hit, (show s.heap.IsTuple a its.toArray from p)⟩ (by simpa using hil') hne (by simp [hne, nea]) fun y h' tk hy ho hst hT hsz hk => ?_
    have ey : y = u := by
      have z : its[i]? = some y := by simpa using hy
      rw [hu] at z
      exact (Option.some.inj z).symm
    subst ey
    refine ⟨_, rfl, wpAny_letOwnedTupleGo_enum (s := { s with heap := h', toks := tk + 1 }) ho fun h'' he' sb => ?_⟩
    have hT2 : h''.get? s.heap.objs.size = some { cls := .type "tuple", data := .seq #[.int i tk, y] } := (sb.2 _ (Nat.ne_of_gt hel)).trans hT
    have new : ObjOk X.prog X.w (upd H s.heap.objs.size (.tup [.int (i : Nat), x])) h'' s.heap.objs.size (.tup [.int (i : Nat), x]) :=
      ⟨by show 2 ≤ sizeLine; decide, [.int i tk, y], .cons ⟨_, rfl⟩ (.cons ru .nil), ⟨_, hT2, rfl, _, rfl⟩⟩
    have I1 : Inv X pins σ (upd H s.heap.objs.size (.tup [.int (i : Nat), x])) { s with heap := h'', toks := tk + 1 } :=
      I.turnedNew (ch := [e, it]) (fun b ob hb q => (sb.2 b (fun z => hb (by simp [z]))).trans (hk b ob (fun z => hb (by simp [z])) (fun z => hb (by simp [z])) q)) hf (Nat.le_refl _) new
    refine ⟨.ref s.heap.objs.size, _, I1, rfl, ⟨_, x, rfl, I.hok.fresh (Nat.le_refl _), rfl, fun ys hy => by rw [I.tuple_inj hy hq]; exact hx⟩, ⟨⟨y, ?_⟩, hst.1.at fun o q => (sb.2 it (Ne.symm hne)).trans q, hne, nea, nai⟩, fun b hb => ?_⟩
    · have e1 : ((i + 1 : Nat) : Int) = (i : Int) + 1 := by omega
      rw [e1]; exact he'
    · have hb' : b < s.heap.objs.size := by
        rcases (show b = e ∨ b = it by simpa using hb) with z | z
        · rw [z]; exact hel
        · rw [z]; exact hil
      rw [upd_ne (Nat.ne_of_lt hb')]
      exact (hf b hb).1
  done := by
    intro X hP hw hK hc i pins s σ H E I hf st hg
    subst hP hw hK
    obtain ⟨⟨old, he⟩, hit, hne, nea, nai⟩ := st
    obtain ⟨xs, hq, hx⟩ := hg
    obtain ⟨its, rv, p, hz⟩ := I.tuple hq
    obtain ⟨f0, f1, f2, f3, f4, f5⟩ := hf it (by simp)
    have hl := rv.length
    have hTs : s.TypeIs (.ref e) "enumerate" := ⟨_, he, rfl⟩
    unfold pyNext
    refine wpAny_bind (wpAny_attempt (wpAny_callSpecial?_slot (name := Str.ofString "__next__") hTs F.slot_enumerate_next
      (wpAny_call_entry F.slot_enumerate_next hTs F.entry_enumerate_next ?_ (F.args_enumerate_next_1 _))))
    show wpAny _ _ (field (.ref e) 2 >>= _) _ _ _
    refine wpAny_bind (wpAny_field he rfl (x := .ref it) rfl ?_)
    refine wpAny_bind (wpAny_nextOf_tuple_end (show X.A.in1.handled = none from I.ok.hd hc) hit (show s.heap.IsTuple a its.toArray from p) (by simp; omega) fun h' y eb hx' => ?_)
    obtain ⟨o, ho, hc'⟩ := hx'
    refine wpAny_bind (wpAny_isInstance (T := "StopIteration") (b := true) ⟨o, ho, hc'⟩ isSubtype_stop ?_)
    exact wpAny_pure ⟨rfl, I.turned (t' := s.toks) (fun b o hb q => eb b o hb q) f0 f1 f3 f4 f5⟩
  self := fun A i s Q E st h => let ⟨⟨_, he⟩, _⟩ := st; wpAny_pyIter_enum he h
def iEnumA (K : PySem.W.Frag) (ta : TA) : TI := fun σ H R => ta σ H fun vs H1 => ∃ a, vs = [.ref a] ∧ ((∃ xs, SqL K H1 a xs ∧ R (Ite K a) H1) ∨ (∃ xs, SqT K H1 a xs ∧ R (IteT K a) H1))
theorem pi_enumA {X : Cx} {e : Expr} {ta : TA} {p pos tpos : Pos} {elts : List Expr} {kk : Nat} (hg : Gl X "enumerate") (hm : X.mg "enumerate" = none) (ha : PA X [e] ta) (hs : starEach [e] X.env = [(false, eval e X.env)] := by rfl) :
    PI X (.Tuple elts kk tpos) (.Call (.Name "enumerate" p) [e] [] pos) (iEnumA X.K ta) := by
  refine ⟨fun pins s σ H R I h => ?_⟩
  refine Call_ (ld_blt I hg hm boot_enumerate (PyProof.Rows.callWith_type1 (thn (ha.run pos pins s σ H _ I h) fun us s1 ⟨vs, H1, I1, r1, q1⟩ => ?_) hs rfl))
  obtain ⟨a, ex, q⟩ := q1
  subst ex
  cases r1 with
  | cons r rr =>
    cases rr
    cases r
    have big : ∀ b ∈ [s1.heap.objs.size + 1, s1.heap.objs.size], s1.heap.objs.size ≤ b := fun b hb => by
      rcases (show b = s1.heap.objs.size + 1 ∨ b = s1.heap.objs.size by simpa using hb) with z | z
      · rw [z]; exact Nat.le_add_right _ _
      · rw [z]; exact Nat.le_refl _
    rcases q with ⟨xs, hq, q⟩ | ⟨xs, hq, q⟩
    · obtain ⟨its, rv, p', hz⟩ := I1.list hq
      refine call_enumerate_list p'.isList fun h' he hit hsz hk => wpAny_pyIter_enum he ?_
      have I2 : Inv X pins σ H1 { s1 with heap := h' } := I1.kept (t' := s1.toks) hk
      exact ⟨s1.heap.objs.size + 1, [s1.heap.objs.size + 1, s1.heap.objs.size], _, _, H1, rfl, I2, turn_enum a (s1.heap.objs.size + 1) s1.heap.objs.size, ⟨⟨.none, he⟩, hit, Nat.succ_ne_self _⟩, fun b hb => I1.fpOk (big b hb) (I1.hok.fresh (big b hb)), q⟩
    · obtain ⟨its, rv, p', hz⟩ := I1.tuple hq
      have hp : s1.heap.IsTuple a its.toArray := p'
      have hal : a < s1.heap.objs.size := by obtain ⟨_, q, _⟩ := hp; exact Heap.lt_size q
      refine enum_begins1 (begins_tuple a its.toArray) hp fun h' he hit hsz hk => wpAny_pyIter_enum he ?_
      have I2 : Inv X pins σ H1 { s1 with heap := h' } := I1.kept (t' := s1.toks) hk
      exact ⟨s1.heap.objs.size + 1, [s1.heap.objs.size + 1, s1.heap.objs.size], _, _, H1, rfl, I2, turn_enumT a (s1.heap.objs.size + 1) s1.heap.objs.size, ⟨⟨.none, he⟩, ⟨_, hit, rfl, rfl⟩, Nat.succ_ne_self _, Nat.ne_of_gt (Nat.lt_succ_of_lt hal), Nat.ne_of_lt hal⟩, fun b hb => I1.fpOk (big b hb) (I1.hok.fresh (big b hb)), q⟩
section
variable {K : PySem.W.Frag} {a : Addr} {xs : List V} {g : TG} {tb : TS} {D : Ends} {σ : L2.St} {H : Hp}
theorem for_enumL (Pv : Nat → L2.St → Hp → Prop) (h0 : Pv 0 σ H) (hl : ∀ i σ H, i ≤ xs.length → Pv i σ H → SqL K H a xs)
    (hs : ∀ i x T σ H, xs[i]? = some x → H T = none → Pv i σ H → g (.ref T) σ (upd H T (.tup [.int (i : Nat), x])) fun σ2 H2 => tb { D with nx := Pv (i + 1), ct := Pv (i + 1), bk := D.nx } σ2 H2) (hd : ∀ σ H, Pv xs.length σ H → D.nx σ H) :
    ∃ W : Nat → Nat → L2.St → Hp → Prop, (∃ m, W 0 m σ H) ∧ ∀ i m σ H, W i m σ H →
      ((Ite K a).stop i H ∧ D.nx σ H) ∨ ((Ite K a).go i H ∧ ∃ N : L2.St → Hp → Prop, (∀ σ' H', N σ' H' → ∃ m', m' < m ∧ W (i + 1) m' σ' H') ∧ ∀ x H', (Ite K a).yld i H x H' → g x σ H' fun σ2 H2 => tb { D with nx := N, ct := N, bk := D.nx } σ2 H2) := by
  refine ⟨fun i m σ H => m = xs.length - i ∧ i ≤ xs.length ∧ Pv i σ H, ⟨xs.length, by simp, Nat.zero_le _, h0⟩, ?_⟩
  rintro i m σ H ⟨rfl, hi, p⟩
  have q := hl i σ H hi p
  by_cases hlt : i < xs.length
  · refine .inr ⟨⟨xs, xs[i], q, by simp [hlt]⟩, Pv (i + 1), fun σ' H' p' => ⟨xs.length - (i + 1), by omega, rfl, hlt, p'⟩, fun x H' y => ?_⟩
    obtain ⟨T, x', e1, e2, e3, e4⟩ := y
    subst e1 e3
    exact hs i x' T σ H (e4 xs q) e2 p
  · have e : i = xs.length := by omega
    subst e
    exact .inl ⟨⟨xs, q, Nat.le_refl _⟩, hd σ H p⟩
theorem for_enumT (Pv : Nat → L2.St → Hp → Prop) (h0 : Pv 0 σ H) (hl : ∀ i σ H, i ≤ xs.length → Pv i σ H → SqT K H a xs)
    (hs : ∀ i x T σ H, xs[i]? = some x → H T = none → Pv i σ H → g (.ref T) σ (upd H T (.tup [.int (i : Nat), x])) fun σ2 H2 => tb { D with nx := Pv (i + 1), ct := Pv (i + 1), bk := D.nx } σ2 H2) (hd : ∀ σ H, Pv xs.length σ H → D.nx σ H) :
    ∃ W : Nat → Nat → L2.St → Hp → Prop, (∃ m, W 0 m σ H) ∧ ∀ i m σ H, W i m σ H →
      ((IteT K a).stop i H ∧ D.nx σ H) ∨ ((IteT K a).go i H ∧ ∃ N : L2.St → Hp → Prop, (∀ σ' H', N σ' H' → ∃ m', m' < m ∧ W (i + 1) m' σ' H') ∧ ∀ x H', (IteT K a).yld i H x H' → g x σ H' fun σ2 H2 => tb { D with nx := N, ct := N, bk := D.nx } σ2 H2) := by
  refine ⟨fun i m σ H => m = xs.length - i ∧ i ≤ xs.length ∧ Pv i σ H, ⟨xs.length, by simp, Nat.zero_le _, h0⟩, ?_⟩
  rintro i m σ H ⟨rfl, hi, p⟩
  have q := hl i σ H hi p
  by_cases hlt : i < xs.length
  · refine .inr ⟨⟨xs, xs[i], q, by simp [hlt]⟩, Pv (i + 1), fun σ' H' p' => ⟨xs.length - (i + 1), by omega, rfl, hlt, p'⟩, fun x H' y => ?_⟩
    obtain ⟨T, x', e1, e2, e3, e4⟩ := y
    subst e1 e3
    exact hs i x' T σ H (e4 xs q) e2 p
  · have e : i = xs.length := by omega
    subst e
    exact .inl ⟨⟨xs, q, Nat.le_refl _⟩, hd σ H p⟩
end
/-! ### repr -/
/-- repr of what is no object -/
def rReprS : List V → Hp → VK → Prop := fun xs H Q => ∃ v, xs = [v] ∧ ((v = .non ∧ Q (.str "None") H) ∨ (∃ b : Bool, v = .bl b ∧ Q (.str (if b then "True" else "False")) H) ∨ (∃ i : Int, v = .int i ∧ i.natAbs.log2 < 1920 ∧ Q (.str (toString i)) H) ∨
  ∃ x : Str, v = .str x ∧ (reprText x).length ≤ sizeLine ∧ Q (.str (reprText x)) H)
theorem call_reprS {X : Cx} : CallR X (.builtin "repr") rReprS := by
  intro pins s σ H xs us Q I r h
  obtain ⟨v, rfl, h⟩ := h
  obtain ⟨u, rfl, rv⟩ := vals1 r
  rcases h with ⟨rfl, q⟩ | ⟨b, rfl, q⟩ | ⟨i, rfl, hz, q⟩ | ⟨x, rfl, hz, q⟩
  · cases rv
    exact PySem.P.repr_of_none ⟨.str _, H, I.tok _, ⟨_, rfl⟩, q⟩
  · cases rv
    exact PySem.P.repr_of_bool ⟨.str _, H, I.tok _, ⟨_, rfl⟩, q⟩
  · obtain ⟨t, rfl⟩ := rv
    exact PySem.P.repr_of_int hz ⟨.str _, H, I.tok _, ⟨_, rfl⟩, q⟩
  · obtain ⟨t, rfl⟩ := rv
    exact PySem.P.repr_of_str (t := t) ⟨.str _, H, I.tok _, ⟨_, rfl⟩, q⟩ hz
/-- repr of a list or tuple: plain data without dicts -/
def rRepr (K : PySem.W.Frag) : List V → Hp → VK → Prop := fun xs H Q => ∃ a d, xs = [.ref a] ∧ Dp K H (.ref a) d ∧ PyData.showable d = true ∧ PyData.hasDict d = false ∧ PyData.depth d ≤ 40 ∧ d.shown.length ≤ sizeLine ∧ Q (.str d.shown) H
theorem call_repr {X : Cx} (hg : X.A.guards = some []) (hu : X.A.units + 64 < cLine) : CallR X (.builtin "repr") (rRepr X.K) := by
  intro pins s σ H xs us Q I r h
  obtain ⟨a, d, rfl, hd, h1, h2, h3, h4, q⟩ := h
  obtain ⟨u, rfl, rv⟩ := vals1 r
  obtain ⟨as, R⟩ := Dp.reads I d _ u hd rv
  cases rv
  exact repr_of_reads' R h1 (PyData.noDict_hsm h2) hg (by omega) (fun _ _ e => e) (fun h' u' tk k => ⟨.str _, H, I.kept (t' := tk) k, ⟨_, rfl⟩, q⟩) h4
/-! ### isinstance of the exception that a suite holds, its own dict at d -/
structure ExcK (K : PySem.W.Frag) (C : Addr) : Prop where
  cl : (PySem.W.clsIn K C).isSome = true
  ga : PySem.W.findIn K (.ref C) "__getattribute__" = some (some (.builtin "BaseException.__getattribute__"))
  gt : PySem.W.findIn K (.ref C) "__getattr__" = some none
  sb : PySem.W.subIn K (.ref C) (.type "BaseException") = some true
  ca : PySem.W.findIn K (.ref C) "__class__" = some (some (.builtin "object.__class__"))
  sp : PySem.W.specialIn K (.builtin "object.__class__") "__get__" = some (some (.builtin "getset_descriptor.__get__"))
  tk : PySem.W.takesIn K (.builtin "object.__class__") = some true
  mo : PySem.W.mroIn K C (.type "object") = some true
def rIsD (K : PySem.W.Frag) (C d a : Addr) : List V → Hp → VK → Prop := fun xs H Q => ∃ (N : Addr) (g : Str) (v : V) (b : Bool), xs = [.ref a, .ref N] ∧ H d = some (.xd [(g, v)]) ∧ PySem.W.kitOne K (.ref C) (.ref N) = some b ∧ Q (.bl b) H
theorem call_isD {X : Cx} {a C d : Addr} {oe : Obj} {pn : List (Addr × Obj)} (T : ExcK X.K C) (hz : Zc (.ref C) (some d) oe) (hf : ∃ vs, oe.data = .fields vs) : CallR (X.suite a ((a, oe) :: pn)) (.builtin "isinstance") (rIsD X.K C d a) := by
  intro pins s σ H xs us Q I r h
  obtain ⟨N, g, v, b, rfl, hx, e, q⟩ := h
  obtain ⟨u1, u2, rfl, r1, r2⟩ := vals2 r
  cases r1
  cases r2
  obtain ⟨hget, _⟩ := I.pin (a, oe) (List.mem_append.mpr (.inl List.mem_cons_self))
  obtain ⟨vs, hd⟩ := hf
  have hx' : ObjOk X.prog X.w H s.heap d (.xd [(g, v)]) := I.hok d _ hx
  obtain ⟨mA, hns, hr⟩ := hx'
  obtain ⟨od, ho, hl⟩ := lookIn_ns hns
  have J : PySem.W.InstAt s.heap a oe C (some od) := ⟨hget, hz.1, by unfold PySem.W.notCls; rw [hd] <;> rfl, by rw [hz.2]; exact ho⟩
  exact PySem.W.kia_one (PySem.W.kitx_exc T.cl T.ga T.gt T.sb T.ca T.sp T.tk T.mo) I.kIn J e (fun z => nomatch z) fun tk => ⟨.bl b, H, I.kept (t' := tk) fun _ _ z => z, rfl, q⟩
/-! ### defs whose bodies show lists: they are told where nothing is being shown -/
structure FnG (P : Program) (w : World) (K : PySem.W.Frag) (mg : Str → Option Value) (base : Heap) (k : Nat) (f : Addr) (fd : FuncData) (ps : List Str) (sp : Sp) : Prop where
  len : ∀ vs H Q E, sp vs H Q E → vs.length = ps.length
  run : ∀ (A : Around) (outer : List Env) (s : Shared) (H : Hp) (args : Args) (us : List Value) (vs : List V) (Q : VK) (E : XK), Room k A → A.guards = some [] → Env0 P w K mg base A outer s H → BindsTo s fd args (ps.zip us) → Vals vs us → sp vs H Q E →
    codeAny (model P w) A (.call (.ref f) args) (CR CX0 outer P w H s Q E) s
end K1
/-! the text by places; short words for calls -/
namespace K1
open PySem PySem.Spec PyProof.Rows L2
def top (i : Nat) : Stmt := PySem.Challenge.pw_houseslessties_k42_whole_counts_are_ways.main.body.getD i (.Pass ⟨0, 0, 0, 0⟩)
abbrev sBadWebInit : Stmt := inClass (top 2) 0
abbrev sBadStepsInit : Stmt := inClass (top 3) 0
abbrev sRefusedInit : Stmt := inClass (top 4) 0
abbrev sTooGreatInit : Stmt := inClass (top 5) 0
abbrev sNoHouseInit : Stmt := inClass (top 6) 0
abbrev sWhole : Stmt := top 8
abbrev sBelow : Stmt := top 9
abbrev sSeq : Stmt := top 10
abbrev sFnb : Stmt := top 11
abbrev sWInit : Stmt := inClass (top 15) 0
abbrev sWEq : Stmt := inClass (top 15) 1
abbrev sPair : Stmt := top 16
abbrev sCTies : Stmt := top 17
abbrev sNeedH : Stmt := top 18
abbrev sCBy : Stmt := top 20
abbrev sCheckMeetings : Stmt := top 23
abbrev sOneAt : Stmt := top 24
abbrev sCountsBehind : Stmt := top 25
abbrev sParted : Stmt := top 26
abbrev sWayCounts : Stmt := top 27
abbrev sGoneWays : Stmt := top 28
abbrev sWaysGone : Stmt := top 29
abbrev sLBox : Stmt := top 31
abbrev sLTake : Stmt := top 32
abbrev sLPick : Stmt := top 33
abbrev sLTies : Stmt := top 34
abbrev sLMet : Stmt := top 35
abbrev sLBegun : Stmt := top 36
abbrev sLSplit : Stmt := top 37
abbrev sLHeard : Stmt := top 38
abbrev sLWays : Stmt := top 39
abbrev sLMomentRight : Stmt := top 40
abbrev sLNoneRight : Stmt := top 41
abbrev sLaw : Stmt := top 42
/-- a def of the text: its object, its name in the module, how its arguments bind -/
structure Df (K : PySem.W.Frag) (mg : Str → Option Value) (x : Str) (st : Stmt) (ps : List Str) (f : Addr) (fd : FuncData) : Prop where
  F : Fun K x x st f fd
  g : mg x = some (.ref f)
  b : Binds K fd ps []
section
variable {X : Cx} {CX : CXT} {k : Nat} {f : Addr} {fd : FuncData} {ps : List Str} {sp : Sp} {E : XK} {x : Str} {st : Stmt} {p pos : Pos} {e : Expr} {es : List Expr} {t : TA}
/-- x(e, ..) -/
theorem pc (D : Df X.K X.mg x st ps f fd) (G : FnOk X.prog X.w X.K X.mg X.base CX k f fd ps sp) (hr : Room k X.A) (hx : Passes CX X E) (ha : PA X (e :: es) t) (hg : Gl X x := by rfl)
    (hdb : (x == ("__debug__" : Str)) = false := by decide) (he : starEach (e :: es) X.env = (false, eval e X.env) :: starEach es X.env := by rfl) (hpl : (backTo pos (starEach es X.env)).any (·.1) = false := by rfl) :
    PE X (.Call (.Name x p) (e :: es) [] pos) (tCall sp [] E t) := pe_call G hr hg D.g D.F.kp D.b .nil hx ha hdb he hpl
end
/-- what a def that raises may let out at its caller's def -/
theorem pass1 {X : Cx} {E : XK} (tk : Takes X (fun cls d _ H => E cls d H)) : Passes (L2.CX X.prog X.w) X E := passes_call tk fun _ _ _ _ h => h
/-! ### tests by cases -/
theorem ifD {c : Bool} {A B : Prop} (h1 : c = true → A) (h2 : c = false → B) : if c = true then A else B := by
  cases c with
  | true => exact iteT (h1 rfl)
  | false => exact iteF (h2 rfl)
theorem eqv {α : Type} {P : α → Prop} {a b : α} (e : a = b) (h : P b) : P a := e ▸ h
theorem qbl {Q : VK} {H : Hp} {a b : Bool} (e : a = b) (h : Q (.bl b) H) : Q (.bl a) H := e ▸ h
/-! ### values of any kind -/
/-- what a value is: some items for a list or a tuple, none for the others -/
inductive KV (K : PySem.W.Frag) (H : Hp) : V → Option (List V) → Prop
  | int (i : Int) : KV K H (.int i) none
  | bl (b : Bool) : KV K H (.bl b) none
  | non : KV K H .non none
  | str (x : Str) : KV K H (.str x) none
  | lst {a : Addr} {xs : List V} (h : H a = some (.lst xs)) : KV K H (.ref a) (some xs)
  | tup {a : Addr} {xs : List V} (h : H a = some (.tup xs)) : KV K H (.ref a) (some xs)
theorem KV.same {K : PySem.W.Frag} {H H' : Hp} {v : V} {o : Option (List V)} (h : KV K H v o) (s : Same H H') : KV K H' v o := by
  cases h with
  | int i => exact .int i
  | bl b => exact .bl b
  | non => exact .non
  | str x => exact .str x
  | lst h => exact .lst (s _ _ h)
  | tup h => exact .tup (s _ _ h)
def wholeB : V → Bool | .int _ => true | _ => false
def boolB : V → Bool | .bl _ => true | _ => false
inductive Tg where | i | b | n | s | l | t
def Tg.nm : Tg → String | .i => "int" | .b => "bool" | .n => "NoneType" | .s => "str" | .l => "list" | .t => "tuple"
def Tg.isI : Tg → Bool | .i => true | _ => false
def Tg.isB : Tg → Bool | .b => true | _ => false
def Tg.isQ : Tg → Bool | .l => true | .t => true | _ => false
theorem KV.ty {K : PySem.W.Frag} {H : Hp} {v : V} {o : Option (List V)} (h : KV K H v o) : ∃ g : Tg, TyX K H v (.type g.nm) ∧ g.isI = wholeB v ∧ g.isB = boolB v ∧ g.isQ = o.isSome := by
  cases h with
  | int i => exact ⟨.i, .base (.int i), rfl, rfl, rfl⟩
  | bl b => exact ⟨.b, .base (.bl b), rfl, rfl, rfl⟩
  | non => exact ⟨.n, .base .non, rfl, rfl, rfl⟩
  | str x => exact ⟨.s, .base (.str x), rfl, rfl, rfl⟩
  | lst h => exact ⟨.l, .base (.lst h), rfl, rfl, rfl⟩
  | tup h => exact ⟨.t, .base (.tup h), rfl, rfl, rfl⟩
theorem kit_I (K : PySem.W.Frag) (g : Tg) : PySem.W.kitOne K (.type g.nm) (.type "int") = some (g.isI || g.isB) := by
  cases g <;> exact kit_ty (by decide +kernel)
theorem kit_B (K : PySem.W.Frag) (g : Tg) : PySem.W.kitOne K (.type g.nm) (.type "bool") = some g.isB := by
  cases g <;> exact kit_ty (by decide +kernel)
def Tg.isL : Tg → Bool | .l => true | _ => false
def Tg.isT : Tg → Bool | .t => true | _ => false
theorem kit_L (K : PySem.W.Frag) (g : Tg) : PySem.W.kitOne K (.type g.nm) (.type "list") = some g.isL := by
  cases g <;> exact kit_ty (by decide +kernel)
theorem kit_T (K : PySem.W.Frag) (g : Tg) : PySem.W.kitOne K (.type g.nm) (.type "tuple") = some g.isT := by
  cases g <;> exact kit_ty (by decide +kernel)
theorem kit_Q (K : PySem.W.Frag) (g : Tg) : PySem.W.kitAny K (.type g.nm) [.type "list", .type "tuple"] = some g.isQ := by
  refine kitAny_cons (kit_L K g) (fun e => kitAny_cons (kit_T K g) (fun e2 => ?_) fun e2 => ?_) fun e => ?_
  all_goals (cases g <;> first | rfl | (cases e; done) | (cases e2; done))
/-- the built-in names that the text uses are the built-in ones -/
structure Bt (mg : Str → Option Value) : Prop where
  isinstance : mg "isinstance" = none
  int : mg "int" = none
  bool : mg "bool" = none
  list : mg "list" = none
  tuple : mg "tuple" = none
  len : mg "len" = none
  enumerate : mg "enumerate" = none
  range : mg "range" = none
  sorted : mg "sorted" = none
  set : mg "set" = none
  repr : mg "repr" = none
  abs : mg "abs" = none
  min : mg "min" = none
  max : mg "max" = none
  sum : mg "sum" = none
  all : mg "all" = none
  any : mg "any" = none
  zip : mg "zip" = none
  str : mg "str" = none
  dict : mg "dict" = none
  ke : mg "KeyError" = none
end K1
namespace K1
open PySem PySem.Spec PyProof.Rows L2
def belowB (v : V) (lim : Int) : Bool := match v with | .int i => decide (0 ≤ i) && decide (i < lim) | _ => false
def seqB (o : Option (List V)) (least most : Int) : Bool := match o with | some xs => decide (least ≤ (xs.length : Int)) && decide ((xs.length : Int) ≤ most) | none => false
def spWhole (K : PySem.W.Frag) : Sp := fun vs H Q _ => ∃ v o, vs = [v] ∧ KV K H v o ∧ Q (.bl (wholeB v)) H
def spBelow (K : PySem.W.Frag) : Sp := fun vs H Q _ => ∃ v o lim, vs = [v, .int lim] ∧ KV K H v o ∧ Q (.bl (belowB v lim)) H
def spSeq (K : PySem.W.Frag) : Sp := fun vs H Q _ => ∃ v o least most, vs = [v, .int least, .int most] ∧ KV K H v o ∧ ∀ H', Same H H' → Q (.bl (seqB o least most)) H'
section
variable {P : Program} {w : World} {K : PySem.W.Frag} {mg : Str → Option Value} {base : Heap}
theorem scW : FnScope ["value"] ["value"] (defScope sWhole) := ⟨rfl, rfl, rfl, by decide +kernel, rfl, by decide +kernel, by decide +kernel⟩
theorem ok_whole {f : Addr} {fd : FuncData} (D : Df K mg "is_whole" sWhole ["value"] f fd) (B : Bt mg) : FnOk P w K mg base CX0 1 f fd ["value"] (spWhole K) := by
  refine D.F.ok scW (fun vs H Q E h => ?_) (fun cdv A outer s H vs Q E hr h => ?_)
  · obtain ⟨v, o, rfl, _⟩ := h
    rfl
  · obtain ⟨v, o, rfl, kv, q⟩ := h
    obtain ⟨g, ty, eI, eB, eQ⟩ := kv.ty
    refine ⟨_, pss_one (ps_ret (pe_and (pe_callB call_isi (by rfl) B.isinstance (by decide +kernel) (pa_cons (pv 0) (pa_cons (pe_bltn (v := .ty "int") (by rfl) B.int PyProof.Rows.boot_int rfl) pa_nil)))
      (pe_one (pe_not (pe_callB call_isi (by rfl) B.isinstance (by decide +kernel) (pa_cons (pv 0) (pa_cons (pe_bltn (v := .ty "bool") (by rfl) B.bool PyProof.Rows.boot_bool rfl) pa_nil))))))), ?_⟩
    refine ⟨_, rfl, _, _, _, _, _, rfl, .ty _, ty, kit_I K g, _, rfl, ifD (fun e => ?_) fun e => ?_⟩
    · refine ⟨_, rfl, _, _, _, _, _, rfl, .ty _, ty, kit_B K g, _, rfl, ?_⟩
      have z : (!g.isB) = wholeB v := by rw [← eI]; cases g <;> first | rfl | cases e
      exact qbl z q
    · have z : false = wholeB v := by rw [← eI]; cases g <;> first | rfl | cases e
      exact qbl z q
theorem scB : FnScope ["value", "limit"] ["value", "limit"] (defScope sBelow) := ⟨rfl, rfl, rfl, by decide +kernel, rfl, by decide +kernel, by decide +kernel⟩
theorem ok_below {f fW : Addr} {fd fdW : FuncData} (D : Df K mg "is_below" sBelow ["value", "limit"] f fd) (DW : Df K mg "is_whole" sWhole ["value"] fW fdW) (B : Bt mg) : FnOk P w K mg base CX0 2 f fd ["value", "limit"] (spBelow K) := by
  have GW : FnOk P w K mg base CX0 1 fW fdW ["value"] (spWhole K) := ok_whole DW B
  refine D.F.ok scB (fun vs H Q E h => ?_) (fun cdv A outer s H vs Q E hr h => ?_)
  · obtain ⟨v, o, lim, rfl, _⟩ := h
    rfl
  · obtain ⟨v, o, lim, rfl, kv, q⟩ := h
    refine ⟨_, pss_one (ps_ret (pe_and (pc DW GW hr pass0 (pa_cons (pv 0) pa_nil)) (pe_one (pe_chain op_le op_lt pe_int (pv 0) (pv 1))))), ?_⟩
    refine ⟨_, rfl, _, _, rfl, kv, _, rfl, ifD (fun e => ?_) fun e => ?_⟩
    · obtain ⟨i, rfl⟩ : ∃ i, v = .int i := by
        cases v <;> first | exact ⟨_, rfl⟩ | cases e
      refine ⟨_, rfl, _, _, rfl, rfl, _, rfl, ifD (fun e2 => ?_) fun e2 => ?_⟩
      · refine ⟨_, rfl, _, _, rfl, rfl, ?_⟩
        have z : decide (i < lim) = belowB (.int i) lim := by
          show _ = (decide (0 ≤ i) && decide (i < lim))
          rw [e2]; rfl
        exact qbl z q
      · have z : false = belowB (.int i) lim := by
          show _ = (decide (0 ≤ i) && decide (i < lim))
          rw [e2]; rfl
        exact qbl z q
    · have z : false = belowB v lim := by cases v <;> first | rfl | cases e
      exact qbl z q
theorem scS : FnScope ["value", "least", "most"] ["value", "least", "most"] (defScope sSeq) := ⟨rfl, rfl, rfl, by decide +kernel, rfl, by decide +kernel, by decide +kernel⟩
theorem ok_seq {f : Addr} {fd : FuncData} (D : Df K mg "is_sequence" sSeq ["value", "least", "most"] f fd) (B : Bt mg) : FnOk P w K mg base CX0 1 f fd ["value", "least", "most"] (spSeq K) := by
  refine D.F.ok scS (fun vs H Q E h => ?_) (fun cdv A outer s H vs Q E hr h => ?_)
  · obtain ⟨v, o, least, most, rfl, _⟩ := h
    rfl
  · obtain ⟨v, o, least, most, rfl, kv, q⟩ := h
    refine ⟨_, pss_one (ps_ret (pe_and (pe_callB call_isiT (by rfl) B.isinstance (by decide +kernel) (pa_cons (pv 0) (pa_cons (pe_tup (pa_cons (pe_bltn (v := .ty "list") (by rfl) B.list PyProof.Rows.boot_list rfl) (pa_cons (pe_bltn (v := .ty "tuple") (by rfl) B.tuple PyProof.Rows.boot_tuple rfl) pa_nil))) pa_nil)))
      (pe_one (pe_chain op_le op_le (pv 1) (pe_callB call_len_seq (by rfl) B.len PySem.boot_len (pa_cons (pv 0) pa_nil)) (pv 2))))), ?_⟩
    refine ⟨_, rfl, (by show 2 ≤ sizeLine; decide), fun p hp => ?_⟩
    have sm : Same H (upd H p (.tup [.ty "list", .ty "tuple"])) := fun b o e => by rw [upd_ne (ne_of_none e hp)]; exact e
    obtain ⟨g, ty, eI, eB, eQ⟩ := (kv.same sm).ty
    refine ⟨_, _, _, _, _, _, rfl, upd_same, .cons (.ty _) (.cons (.ty _) .nil), ty, kit_Q K g, _, rfl, ifD (fun e => ?_) fun e => ?_⟩
    · have kv2 := kv.same sm
      generalize hH1 : upd H p (.tup [.ty "list", .ty "tuple"]) = H1 at *
      rw [eQ] at e
      have q2 := q _ sm
      cases kv with
      | lst h =>
        rename_i a xs
        have h1 : H1 a = some (.lst xs) := sm _ _ h
        refine ⟨_, rfl, _, rfl, _, _, rfl, .inl (SqL.of h1), _, _, rfl, rfl, _, rfl, ifD (fun e2 => ?_) fun e2 => ?_⟩
        · refine ⟨_, rfl, _, _, rfl, rfl, qbl ?_ q2⟩
          show _ = (decide (least ≤ (xs.length : Int)) && decide ((xs.length : Int) ≤ most))
          rw [e2]; rfl
        · refine qbl ?_ q2
          show _ = (decide (least ≤ (xs.length : Int)) && decide ((xs.length : Int) ≤ most))
          rw [e2]; rfl
      | tup h =>
        rename_i a xs
        have h1 : H1 a = some (.tup xs) := sm _ _ h
        refine ⟨_, rfl, _, rfl, _, _, rfl, .inr (SqT.of h1), _, _, rfl, rfl, _, rfl, ifD (fun e2 => ?_) fun e2 => ?_⟩
        · refine ⟨_, rfl, _, _, rfl, rfl, qbl ?_ q2⟩
          show _ = (decide (least ≤ (xs.length : Int)) && decide ((xs.length : Int) ≤ most))
          rw [e2]; rfl
        · refine qbl ?_ q2
          show _ = (decide (least ≤ (xs.length : Int)) && decide ((xs.length : Int) ≤ most))
          rw [e2]; rfl
      | _ => cases e
    · rw [eQ] at e
      have z : o = none := by cases o <;> first | rfl | cases e
      subst z
      exact q _ sm
end
end K1
namespace K1
open PySem PySem.Spec PyProof.Rows L2
def fnb (xs : List V) (lim : Int) : V := match xs.findIdx? (fun x => !belowB x lim) with | some i => .int (i : Nat) | none => .non
theorem fnb_at {xs : List V} {lim : Int} {i : Nat} {x : V} (hx : xs[i]? = some x) (hn : belowB x lim = false) (hb : ∀ j y, j < i → xs[j]? = some y → belowB y lim = true) : fnb xs lim = .int (i : Nat) := by
  obtain ⟨hi, ex⟩ := List.getElem?_eq_some_iff.mp hx
  have e : xs.findIdx? (fun x => !belowB x lim) = some i := by
    rw [List.findIdx?_eq_some_iff_getElem]
    refine ⟨hi, by rw [ex, hn]; rfl, fun j hj => ?_⟩
    have hj' : j < xs.length := Nat.lt_trans hj hi
    have := hb j xs[j] hj (by simp [hj'])
    simp [this]
  unfold fnb
  rw [e]
theorem fnb_none {xs : List V} {lim : Int} (hb : ∀ j y, j < xs.length → xs[j]? = some y → belowB y lim = true) : fnb xs lim = .non := by
  have e : xs.findIdx? (fun x => !belowB x lim) = none := by
    rw [List.findIdx?_eq_none_iff]
    intro x hx
    obtain ⟨j, hj, e⟩ := List.mem_iff_getElem.mp hx
    have := hb j xs[j] hj (by simp [hj])
    rw [← e, this]; rfl
  unfold fnb
  rw [e]
/-- a list or tuple at a -/
def SeqA (H : Hp) (a : Addr) (xs : List V) : Prop := H a = some (.lst xs) ∨ H a = some (.tup xs)
theorem SeqA.same {H H' : Hp} {a : Addr} {xs : List V} (h : SeqA H a xs) (s : Same H H') : SeqA H' a xs := h.elim (fun h => .inl (s _ _ h)) fun h => .inr (s _ _ h)
theorem SeqA.kv {K : PySem.W.Frag} {H : Hp} {a : Addr} {xs : List V} (h : SeqA H a xs) : KV K H (.ref a) (some xs) := h.elim .lst .tup
/-- each item is of some kind -/
def Kinds (K : PySem.W.Frag) (H : Hp) (xs : List V) : Prop := ∀ x ∈ xs, ∃ o, KV K H x o
theorem Kinds.same {K : PySem.W.Frag} {H H' : Hp} {xs : List V} (h : Kinds K H xs) (s : Same H H') : Kinds K H' xs := fun x hx => let ⟨o, k⟩ := h x hx; ⟨o, k.same s⟩
theorem same_new {H : Hp} {p : Addr} {o : HO} (hp : H p = none) : Same H (upd H p o) := fun b u e => by rw [upd_ne (ne_of_none e hp)]; exact e
def spFnb (K : PySem.W.Frag) : Sp := fun vs H Q _ => ∃ a xs lim, vs = [.ref a, .int lim] ∧ SeqA H a xs ∧ Kinds K H xs ∧ ∀ H', Same H H' → Q (fnb xs lim) H'
section
variable {P : Program} {w : World} {K : PySem.W.Frag} {mg : Str → Option Value} {base : Heap}
theorem scF : FnScope ["items", "limit", "at", "item"] ["items", "limit"] (defScope sFnb) := ⟨rfl, rfl, rfl, by decide +kernel, rfl, by decide +kernel, by decide +kernel⟩
/-- one turn of the search, and the way behind it: the iterator is a list's or a tuple's -/
theorem ok_fnb {f fB : Addr} {fd fdB : FuncData} (D : Df K mg "first_not_below" sFnb ["items", "limit"] f fd) (DB : Df K mg "is_below" sBelow ["value", "limit"] fB fdB) (B : Bt mg)
    (GB : FnOk P w K mg base CX0 2 fB fdB ["value", "limit"] (spBelow K)) : FnOk P w K mg base CX0 3 f fd ["items", "limit"] (spFnb K) := by
  refine D.F.ok scF (fun vs H Q E h => ?_) (fun cdv A outer s H vs Q E hr h => ?_)
  · obtain ⟨a, xs, lim, rfl, _⟩ := h
    rfl
  · obtain ⟨a, xs, lim, rfl, hS, hK, q⟩ := h
    refine ⟨_, pss_cons (ps_for PassesOwn.never rfl (pi_enumA (by rfl) B.enumerate (pa_cons (pv 0) pa_nil))
        (pg_tup rfl (pgs_cons (pg_name (i := 2) scF.nd rfl (.inl rfl)) (pgs_cons (pg_name (i := 3) scF.nd rfl (.inl rfl)) pgs_nil)))
        (pss_one (ps_if (pt_not (pt_val (pc DB GB hr pass0 (pa_cons (pv 3) (pa_cons (pv 1) pa_nil))))) (pss_one (ps_ret (pv 2))) pss_nil)))
      (pss_one (ps_ret pe_non)), ?_⟩
    let Pv : Nat → L2.St → Hp → Prop := fun i σ H' => ∃ v2 v3 : Option V, σ = [some (.ref a), some (.int lim), v2, v3] ∧ Same H H' ∧ ∀ j y, j < i → xs[j]? = some y → belowB y lim = true
    have end_ : ∀ σ H', Pv xs.length σ H' → Q .non H' := fun σ H' ⟨v2, v3, _, sm, hb⟩ => by
      have := q H' sm
      rw [fnb_none hb] at this
      exact this
    refine ⟨_, rfl, a, rfl, ?_⟩
    rcases hS with hS | hS
    · refine .inl ⟨xs, SqL.of hS, for_enumL (K := K) Pv ⟨none, none, rfl, Same.refl H, fun j y hj => absurd hj (Nat.not_lt_zero _)⟩ (fun i σ H' _ ⟨_, _, _, sm, _⟩ => SqL.of (sm _ _ hS)) ?_ end_⟩
      rintro i x T σ H' hx hT ⟨v2, v3, rfl, sm, hb⟩
      have sm2 : Same H (upd H' T (.tup [.int (i : Nat), x])) := sm.trans (same_new hT)
      obtain ⟨o, kv⟩ := hK x (List.mem_of_getElem? hx)
      refine ⟨T, _, rfl, SqT.of upd_same, rfl, _, _, rfl, _, _, rfl, rfl, ?_⟩
      refine ⟨_, rfl, _, rfl, _, o, lim, rfl, kv.same sm2, _, rfl, ?_⟩
      refine ifD (fun e => ?_) fun e => ?_
      · refine ⟨_, rfl, ?_⟩
        have e' : belowB x lim = false := by simpa using e
        have := q _ sm2
        rw [fnb_at hx e' hb] at this
        exact this
      · have e' : belowB x lim = true := by simpa using e
        refine ⟨_, _, rfl, sm2, fun j y hj hy => ?_⟩
        rcases Nat.lt_succ_iff_lt_or_eq.mp hj with z | z
        · exact hb j y z hy
        · subst z
          rw [hx] at hy
          rw [← Option.some.inj hy]
          exact e'
    · refine .inr ⟨xs, SqT.of hS, for_enumT (K := K) Pv ⟨none, none, rfl, Same.refl H, fun j y hj => absurd hj (Nat.not_lt_zero _)⟩ (fun i σ H' _ ⟨_, _, _, sm, _⟩ => SqT.of (sm _ _ hS)) ?_ end_⟩
      rintro i x T σ H' hx hT ⟨v2, v3, rfl, sm, hb⟩
      have sm2 : Same H (upd H' T (.tup [.int (i : Nat), x])) := sm.trans (same_new hT)
      obtain ⟨o, kv⟩ := hK x (List.mem_of_getElem? hx)
      refine ⟨T, _, rfl, SqT.of upd_same, rfl, _, _, rfl, _, _, rfl, rfl, ?_⟩
      refine ⟨_, rfl, _, rfl, _, o, lim, rfl, kv.same sm2, _, rfl, ?_⟩
      refine ifD (fun e => ?_) fun e => ?_
      · refine ⟨_, rfl, ?_⟩
        have e' : belowB x lim = false := by simpa using e
        have := q _ sm2
        rw [fnb_at hx e' hb] at this
        exact this
      · have e' : belowB x lim = true := by simpa using e
        refine ⟨_, _, rfl, sm2, fun j y hj hy => ?_⟩
        rcases Nat.lt_succ_iff_lt_or_eq.mp hj with z | z
        · exact hb j y z hy
        · subst z
          rw [hx] at hy
          rw [← Option.some.inj hy]
          exact e'
end
end K1
namespace K1
open PySem PySem.Spec PyProof.Rows L2
/-! ### small words -/
theorem seqG {t u : TS} {D : Ends} {σ : L2.St} {H : Hp} (G : L2.St → Hp → Prop) (hu : ∀ σ H, G σ H → u D σ H) (ht : (∀ σ H, G σ H → u D σ H) → t { D with nx := u D } σ H) : tSeq t u D σ H := ht hu
theorem gn {i : Nat} {x : V} {σ : L2.St} {H : Hp} {Q : L2.St → Hp → Prop} (h : Q (σ.set i (some x)) H) : gName i x σ H Q := h
theorem nxP {D : Ends} {σ : L2.St} {H : Hp} (h : D.nx σ H) : tNext D σ H := h
theorem nilP {σ : L2.St} {H : Hp} {Q : List V → Hp → Prop} (h : Q [] H) : tNil σ H Q := h
theorem cP {v : V} {σ : L2.St} {H : Hp} {Q : VK} (h : Q v H) : tC v σ H Q := h
theorem noP {σ : L2.St} {H : Hp} {Q : Option Int → Hp → Prop} (h : Q none H) : tNoPart σ H Q := h
theorem iteN {c : Bool} {A B : Prop} (e : c = false) (h : B) : if c = true then A else B := by subst e; exact iteF h
theorem iteY {c : Bool} {A B : Prop} (e : c = true) (h : A) : if c = true then A else B := by subst e; exact iteT h
theorem neV {x : V} {Q : VK} {H : Hp} (hs : scal x x = true) (q : Q (.bl false) H) : rNe x x H Q := ⟨hs, qbl (by rw [decide_eq_true rfl]; rfl) q⟩
theorem eqVV {x : V} {Q : VK} {H : Hp} (hs : scal x x = true) (q : Q (.bl true) H) : rEq x x H Q := ⟨hs, qbl (by rw [decide_eq_true rfl]) q⟩
theorem passF {X : Cx} : Passes (L2.CX X.prog X.w) X (fun _ _ _ => False) := passes_call LamX.takes0 fun _ _ _ _ h => h
theorem take_succ {α : Type} {l : List α} {i : Nat} {x : α} (h : l[i]? = some x) : l.take (i + 1) = l.take i ++ [x] := by
  rw [List.take_add_one, h]; rfl
theorem fnb_all {xs : List V} {lim : Int} (h : ∀ x ∈ xs, belowB x lim = true) : fnb xs lim = .non := fnb_none fun j y _ hy => h y (List.mem_of_getElem? hy)
theorem find_at {α : Type} {rs : List α} {p : α → Bool} {i : Nat} {r : α} (hr : rs[i]? = some r) (hn : p r = true) (hb : ∀ (j : Nat) y, j < i → rs[j]? = some y → p y = false) : rs.findIdx? p = some i := by
  obtain ⟨hi, ex⟩ := List.getElem?_eq_some_iff.mp hr
  rw [List.findIdx?_eq_some_iff_getElem]
  refine ⟨hi, by rw [ex, hn], fun j hj => ?_⟩
  have hj' : j < rs.length := Nat.lt_trans hj hi
  have := hb j rs[j] hj (by simp [hj'])
  simp [this]
theorem find_none {α : Type} {rs : List α} {p : α → Bool} (hb : ∀ (j : Nat) y, j < rs.length → rs[j]? = some y → p y = false) : rs.findIdx? p = none := by
  rw [List.findIdx?_eq_none_iff]
  intro x hx
  obtain ⟨j, hj, e⟩ := List.mem_iff_getElem.mp hx
  exact e ▸ hb j rs[j] hj (by simp [hj])
theorem lookup_same {α : Type} {l : List α} {i : Nat} {x y : α} (h1 : l[i]? = some x) (h2 : l[i]? = some y) : x = y := Option.some.inj (h1.symm.trans h2)
theorem ex_at {α : Type} {l : List α} {i : Nat} (h : i < l.length) : ∃ x, l[i]? = some x := ⟨l[i], List.getElem?_eq_getElem h⟩
theorem lt_at {α : Type} {l : List α} {i : Nat} {x : α} (h : l[i]? = some x) : i < l.length := (List.getElem?_eq_some_iff.mp h).1
theorem map_at {α β : Type} {f : α → β} {l : List α} {i : Nat} {x : α} (h : l[i]? = some x) : (l.map f)[i]? = some (f x) := by rw [List.getElem?_map, h]; rfl
theorem at_map {α β : Type} {f : α → β} {l : List α} {i : Nat} {y : β} (h : (l.map f)[i]? = some y) : ∃ x, l[i]? = some x ∧ y = f x := by
  rw [List.getElem?_map] at h
  cases e : l[i]? with
  | none => rw [e] at h; cases h
  | some x => rw [e] at h; exact ⟨x, rfl, (Option.some.inj h).symm⟩
theorem at_i {xs : List V} {i : Nat} {x : V} (h : xs[i]? = some x) : atI xs (i : Int) = some x := at_of (j := i) rfl h
theorem sz {n : Nat} (h : n ≤ 16777216) : n ≤ sizeLine := by rw [sizeLine_eq]; exact h
theorem szl {n : Nat} (h : n < 16777216) : n < sizeLine := by rw [sizeLine_eq]; exact h
/-! ### rules with the fragment told -/
section
variable {X : Cx} {K : PySem.W.Frag}
theorem neD (h : X.K = K) (hu : X.A.units + 64 < cLine) : OpR X (compareOp .NotEq) (rNeD K) := by subst h; exact op_neD hu
theorem eqD (h : X.K = K) (hu : X.A.units + 64 < cLine) : OpR X (compareOp .Eq) (rEqD K) := by subst h; exact op_eqD hu
def rList (K : PySem.W.Frag) : List V → Hp → VK → Prop := fun xs H Q => ∃ p ys, xs = [.ref p] ∧ (SqL K H p ys ∨ SqT K H p ys) ∧ ∀ l, H l = none → Q (.ref l) (upd H l (.lst ys))
theorem clist (h : X.K = K) : CallR X (.type "list") (rList K) := by subst h; exact call_list_of
def rTup (K : PySem.W.Frag) : List V → Hp → VK → Prop := fun xs H Q => ∃ p ys, xs = [.ref p] ∧ ((SqL K H p ys ∧ ∀ l, H l = none → Q (.ref l) (upd H l (.tup ys))) ∨ (SqT K H p ys ∧ Q (.ref p) H))
theorem ctup (h : X.K = K) : CallR X (.type "tuple") (rTup K) := by subst h; exact call_tuple_of
theorem slL (h : X.K = K) : SlR X (rSlL K) := by subst h; exact sl_list
theorem slA (h : X.K = K) : SlR X (rSlA K) := by subst h; exact sl_tupA
theorem piL {tg l : Expr} {tl : TE} (h : X.K = K) (hl : PE X l tl) : PI X tg l (iList K tl) := by subst h; exact pi_list hl
theorem ixTK (h : X.K = K) : IxR X (rIxT K) := by subst h; exact ix_tup
theorem ixLK (h : X.K = K) : IxR X (rIxL K) := by subst h; exact ix_list
def rLenK (K : PySem.W.Frag) : List V → Hp → VK → Prop := fun xs H Q => ∃ p ys, xs = [.ref p] ∧ (SqL K H p ys ∨ SqT K H p ys) ∧ Q (.int (ys.length : Int)) H
theorem clen (h : X.K = K) : CallR X (.builtin "len") (rLenK K) := by subst h; exact call_len_seq
theorem opInK (h : X.K = K) : OpR X (compareOp .In) (rIn K false) := by subst h; exact op_in_seq
theorem opNotInK (h : X.K = K) : OpR X (compareOp .NotIn) (rIn K true) := by subst h; exact op_notIn_seq
theorem opCatA (h : X.K = K) : OpR X (binaryOp .Add) (rCatA K) := by subst h; exact op_catA
theorem pe_fldK {e : Expr} {f : Str} {te : TE} {pos : Pos} (h : X.K = K) (he : PE X e te) (hb : attributeBase e f X.env (eval e X.env) = eval e X.env) : PE X (.Attribute e f pos) (tFld K te f) := by subst h; exact pe_fld he hb
end
/-! ### slices and sums of tuples -/
theorem cut_to {xs : List V} {k : Nat} (h : k ≤ xs.length) : cutV xs none (some (k : Int)) = xs.take k := by
  unfold cutV
  rw [HT.sIx_nat, HT.sIx_none, Nat.min_eq_left h]; rfl
theorem cut_from {xs : List V} {k : Nat} (h : k ≤ xs.length) : cutV xs (some (k : Int)) none = xs.drop k := by
  unfold cutV
  rw [HT.sIx_nat, HT.sIx_none, Nat.min_eq_left h, ← List.length_drop, List.take_length]
theorem catA_by {K : PySem.W.Frag} {H : Hp} {Q : VK} {a b : Addr} {xs ys : List V} (ha : H a = some (.tup xs)) (hb : H b = some (.tup ys)) (hl : xs.length + ys.length ≤ sizeLine) (q : ∀ p H', Same H H' → H' p = some (.tup (xs ++ ys)) → Q (.ref p) H') : rCatA K (.ref a) (.ref b) H Q := by
  refine ⟨a, b, xs, ys, rfl, rfl, SqT.of ha, SqT.of hb, hl, fun e => ?_, fun _ e => ?_, fun _ _ p hp => q p _ (K1.same_new hp) upd_same⟩
  · subst e
    exact q b H (fun _ _ e => e) hb
  · subst e
    exact q a H (fun _ _ e => e) (by rw [List.append_nil]; exact ha)
theorem slA_by {K : PySem.W.Frag} {H : Hp} {Q : VK} {a : Addr} {xs : List V} {lo hi : Option Int} (ha : H a = some (.tup xs)) (q : ∀ p H', Same H H' → H' p = some (.tup (cutV xs lo hi)) → Q (.ref p) H') : rSlA K (.ref a) lo hi H Q := by
  refine ⟨a, xs, rfl, SqT.of ha, fun e => ?_, fun _ p hp => q p _ (K1.same_new hp) upd_same⟩
  refine q a H (fun _ _ e => e) ?_
  rw [ha]
  unfold cutV
  rw [e.1, e.2, List.drop_zero, Nat.sub_zero, List.take_length]
/-! ### errors, rows of values -/
/-- an error of the class at C, its field f at v -/
def Rz (C : Addr) (f : Str) (v : V) (H : Hp) (E : XK) : Prop := ∀ d H', Same H H' → H d = none → H' d = some (.xd [(f, v)]) → E (.ref C) (some d) H'
/-- a value, whose items (if it has some) are of known kinds -/
structure Rw (K : PySem.W.Frag) (H : Hp) (x : V) (r : Option (List V)) : Prop where
  kv : KV K H x r
  ks : ∀ ys, r = some ys → Kinds K H ys
theorem Rw.same {K : PySem.W.Frag} {H H' : Hp} {x : V} {r : Option (List V)} (h : Rw K H x r) (s : Same H H') : Rw K H' x r := ⟨h.kv.same s, fun ys e => (h.ks ys e).same s⟩
theorem KV.seqA {K : PySem.W.Frag} {H : Hp} {x : V} {ys : List V} (h : KV K H x (some ys)) : ∃ a, x = .ref a ∧ SeqA H a ys := by
  cases h with
  | lst h => exact ⟨_, rfl, .inl h⟩
  | tup h => exact ⟨_, rfl, .inr h⟩
theorem kv_any {K K' : PySem.W.Frag} {H : Hp} {v : V} {o : Option (List V)} (kv : KV K' H v o) : KV K H v o := by cases kv <;> first | exact .int _ | exact .bl _ | exact .non | exact .str _ | exact .lst (by assumption) | exact .tup (by assumption)
/-! ### whole numbers by rows -/
def vrow (t : List Int) : List V := t.map V.int
def dI (t : List Int) : List PyData := t.map PyData.int
theorem dp_ints {K : PySem.W.Frag} {H : Hp} : ∀ t : List Int, DpAll K H (vrow t) (dI t)
  | [] => .nil
  | i :: r => .cons (.int i) (dp_ints r)
theorem dp_tup {K : PySem.W.Frag} {H : Hp} {a : Addr} {t : List Int} (h : H a = some (.tup (vrow t))) : Dp K H (.ref a) (.tuple (dI t)) := .tup (SqT.of h) (dp_ints t)
theorem dp_lst {K : PySem.W.Frag} {H : Hp} {a : Addr} {t : List Int} (h : H a = some (.lst (vrow t))) : Dp K H (.ref a) (.list (dI t)) := .lst (SqL.of h) (dp_ints t)
theorem vrow_set (t : List Int) (i : Nat) (x : Int) : vrow (t.set i x) = (vrow t).set i (.int x) := by unfold vrow; rw [List.map_set]
theorem vrow_len (t : List Int) : (vrow t).length = t.length := List.length_map _
theorem vrow_at {t : List Int} {i : Nat} {v : V} (h : (vrow t)[i]? = some v) : ∃ x, t[i]? = some x ∧ v = .int x := at_map h
theorem vrow_get {t : List Int} {i : Nat} (h : i < t.length) : (vrow t)[i]? = some (V.int (t.getD i 0)) := by
  rw [vrow, List.getElem?_map, List.getD_eq_getElem?_getD, List.getElem?_eq_getElem h]; rfl
/-- plain data: shown shortly, compared by what they hold -/
structure Pl (d : PyData) (n w : Nat) : Prop where
  lay : d.canLay0 = true
  sh : d.showable = true
  nd : d.hasDict = false
  dp : d.depth ≤ n
  wt : d.weight ≤ w
  sr : d.leavesShort 20 = true
structure PlA (ds : List PyData) (n w : Nat) : Prop where
  lay : PyData.canLayAll0 ds = true
  sh : PyData.showableAll ds = true
  nd : PyData.hasDictAll ds = false
  dp : PyData.depthAll ds ≤ n
  wt : PyData.weightAll ds ≤ w
  sr : PyData.leavesShortAll 20 ds = true
theorem Pl.int {i : Int} (h : i.natAbs < 10 ^ 19) : Pl (.int i) 0 64 := by
  have h3 : i.natAbs ≠ 0 → i.natAbs.log2 < 64 := fun z => (Nat.log2_lt z).mpr (Nat.lt_of_lt_of_le h (by decide))
  refine ⟨by simp only [PyData.canLay0], ?_, by simp only [PyData.hasDict], by simp only [PyData.depth]; omega, ?_, ?_⟩
  · simp only [PyData.showable, decide_eq_true_eq]
    by_cases z : i.natAbs = 0
    · rw [z]; decide
    · have := h3 z
      omega
  · simp only [PyData.weight]
    split
    · omega
    · rename_i z
      have := h3 (fun e => z (by rw [Int.natAbs_eq_zero.mp e]; rfl))
      omega
  · have e := int_text_length_le10 (a := i) (k := 19) (by decide) h
    simp only [PyData.leavesShort, decide_eq_true_eq, PyData.shown]
    exact decide_eq_true (Nat.le_trans (Nat.le_of_eq (PySem.ofString_length _)) e)
theorem Pl.bl (b : Bool) : Pl (.bool b) 0 0 := ⟨by simp only [PyData.canLay0], by simp only [PyData.showable], by simp only [PyData.hasDict], by simp only [PyData.depth]; omega, by simp only [PyData.weight]; omega, by simp only [PyData.leavesShort]⟩
theorem PlA.nil : PlA [] 0 0 := ⟨by simp only [PyData.canLayAll0], by simp only [PyData.showableAll], by simp only [PyData.hasDictAll], by simp only [PyData.depthAll]; omega, by simp only [PyData.weightAll]; omega, by simp only [PyData.leavesShortAll]⟩
theorem PlA.cons {d : PyData} {ds : List PyData} {n m u v : Nat} (a : Pl d n u) (b : PlA ds m v) : PlA (d :: ds) (max n m) (u + 1 + v) := by
  refine ⟨by simp only [PyData.canLayAll0, a.lay, b.lay, Bool.and_self], by simp only [PyData.showableAll, a.sh, b.sh, Bool.and_self], by simp only [PyData.hasDictAll, a.nd, b.nd, Bool.or_self], ?_, ?_, by simp only [PyData.leavesShortAll, a.sr, b.sr, Bool.and_self]⟩
  · have h1 := a.dp; have h2 := b.dp
    simp only [PyData.depthAll]; omega
  · have h1 := a.wt; have h2 := b.wt
    simp only [PyData.weightAll]; omega
theorem Pl.list {ds : List PyData} {n w : Nat} (a : PlA ds n w) : Pl (.list ds) (n + 1) w := by
  refine ⟨by simp only [PyData.canLay0, a.lay], by simp only [PyData.showable, a.sh], by simp only [PyData.hasDict, a.nd], ?_, ?_, by simp only [PyData.leavesShort, a.sr]⟩
  · have h1 := a.dp
    simp only [PyData.depth]; omega
  · have h1 := a.wt
    simp only [PyData.weight]; omega
theorem Pl.tuple {ds : List PyData} {n w : Nat} (a : PlA ds n w) : Pl (.tuple ds) (n + 1) w := by
  refine ⟨by simp only [PyData.canLay0, a.lay], by simp only [PyData.showable, a.sh], by simp only [PyData.hasDict, a.nd], ?_, ?_, by simp only [PyData.leavesShort, a.sr]⟩
  · have h1 := a.dp
    simp only [PyData.depth]; omega
  · have h1 := a.wt
    simp only [PyData.weight]; omega
theorem Pl.mono {d : PyData} {n w m v : Nat} (a : Pl d n w) (h1 : n ≤ m) (h2 : w ≤ v) : Pl d m v := ⟨a.lay, a.sh, a.nd, Nat.le_trans a.dp h1, Nat.le_trans a.wt h2, a.sr⟩
theorem PlA.mono {d : List PyData} {n w m v : Nat} (a : PlA d n w) (h1 : n ≤ m) (h2 : w ≤ v) : PlA d m v := ⟨a.lay, a.sh, a.nd, Nat.le_trans a.dp h1, Nat.le_trans a.wt h2, a.sr⟩
theorem Pl.shaped {d : PyData} {n w : Nat} (a : Pl d n w) (h : n ≤ 40) : SeqAt.shaped d = true := by
  have := a.dp
  unfold SeqAt.shaped
  rw [a.lay, decide_eq_true (by omega)]; rfl
theorem Pl.short {d : PyData} {n w : Nat} (a : Pl d n w) (h : w ≤ 100000) : d.shown.length ≤ sizeLine := by
  have h1 := PyData.shown_le 20 (by decide) d a.sr
  have h2 := a.wt
  rw [sizeLine_eq]
  omega
/-- rows of whole numbers below 10 ^ 19 -/
theorem pla_ints : ∀ t : List Int, (∀ i ∈ t, i.natAbs < 10 ^ 19) → PlA (dI t) 0 (t.length * 65)
  | [], _ => PlA.nil
  | i :: r, h => (PlA.cons (Pl.int (h i List.mem_cons_self)) (pla_ints r fun j hj => h j (List.mem_cons_of_mem _ hj))).mono (by omega) (by show 64 + 1 + r.length * 65 ≤ (r.length + 1) * 65; omega)
abbrev Ts := List (List Int)
theorem pla_rows {n : Nat} : ∀ ts : Ts, (∀ t ∈ ts, t.length ≤ n ∧ ∀ i ∈ t, i.natAbs < 10 ^ 19) → PlA (ts.map fun t => PyData.tuple (dI t)) 1 (ts.length * (n * 65 + 1))
  | [], _ => PlA.nil.mono (by omega) (by omega)
  | t :: r, h => by
    obtain ⟨h1, h2⟩ := h t List.mem_cons_self
    refine (PlA.cons (Pl.tuple (pla_ints t h2)) (pla_rows r fun u hu => h u (List.mem_cons_of_mem _ hu))).mono (by omega) ?_
    show t.length * 65 + 1 + r.length * (n * 65 + 1) ≤ (r.length + 1) * (n * 65 + 1)
    rw [Nat.add_mul]
    omega

theorem pl_str {x : Str} (h1 : PyData.strOk x = true) (h2 : x.cps.size ≤ 100) (h3 : (x.cps.toList.all fun c => decide (c < 16 ^ 8)) = true) : Pl (.str x) 0 100 :=
  ⟨by simp only [PyData.canLay0]; exact h1, by simp only [PyData.showable], by simp only [PyData.hasDict], by simp only [PyData.depth]; omega, by simp only [PyData.weight]; exact h2, by simp only [PyData.leavesShort]; exact h3⟩
theorem pl_non : Pl .none 0 100 := ⟨rfl, rfl, rfl, by show 0 ≤ 0; decide, by show _ ≤ 100; decide +kernel, rfl⟩
/-! ### what repr gives -/
theorem reprP {K : PySem.W.Frag} {p : Addr} {d : PyData} {n w : Nat} {H : Hp} {Q : VK} (hd : Dp K H (.ref p) d) (pl : Pl d n w) (hn : n ≤ 40) (hw : w ≤ 100000) (q : Q (.str d.shown) H) : rRepr K [.ref p] H Q := ⟨p, d, rfl, hd, pl.sh, pl.nd, Nat.le_trans pl.dp hn, pl.short hw, q⟩
theorem neDP {K : PySem.W.Frag} {x y : V} {d : PyData} {n w : Nat} {H : Hp} {Q : VK} (h1 : Dp K H x d) (h2 : Dp K H y d) (pl : Pl d n w) (hn : n ≤ 40) (q : Q (.bl false) H) : rNeD K x y H Q := ⟨d, d, h1, h2, pl.shaped hn, pl.shaped hn, qbl (by rw [SeqAt.eqv_refl _ pl.lay]; rfl) q⟩
theorem eqDP {K : PySem.W.Frag} {x y : V} {d : PyData} {n w : Nat} {H : Hp} {Q : VK} (h1 : Dp K H x d) (h2 : Dp K H y d) (pl : Pl d n w) (hn : n ≤ 40) (q : Q (.bl true) H) : rEqD K x y H Q := ⟨d, d, h1, h2, pl.shaped hn, pl.shaped hn, qbl (SeqAt.eqv_refl _ pl.lay) q⟩
/-! ### what stays: all but the things at xs, and the tables of code -/
def Ks (xs : List Addr) (H H' : Hp) : Prop := ∀ c o, H c = some o → c ∉ xs → (∀ ps, o ≠ .tbl ps) → H' c = some o
section
variable {xs ys : List Addr} {H H1 H2 : Hp}
theorem Ks.refl : Ks xs H H := fun _ _ e _ _ => e
theorem Ks.trans (a : Ks xs H H1) (b : Ks xs H1 H2) : Ks xs H H2 := fun c o e n1 n2 => b c o (a c o e n1 n2) n1 n2
theorem Ks.same (a : Ks xs H H1) (s : Same H1 H2) : Ks xs H H2 := fun c o e n1 n2 => s _ _ (a c o e n1 n2)
theorem Same.ks (s : Same H H1) : Ks xs H H1 := fun c o e _ _ => s _ _ e
theorem Ks.mono (a : Ks xs H H1) (h : ∀ c ∈ xs, c ∈ ys) : Ks ys H H1 := fun c o e n1 n2 => a c o e (fun z => n1 (h c z)) n2
theorem Ks.tup {c : Addr} {vs : List V} (a : Ks xs H H1) (h : H c = some (.tup vs)) (n : c ∉ xs) : H1 c = some (.tup vs) := a c _ h n fun ps z => by cases z
theorem Ks.lst {c : Addr} {vs : List V} (a : Ks xs H H1) (h : H c = some (.lst vs)) (n : c ∉ xs) : H1 c = some (.lst vs) := a c _ h n fun ps z => by cases z
theorem Ks.ins {c C dx : Addr} {fs : List (Str × V)} (a : Ks xs H H1) (h : H c = some (.ins C dx fs)) (n : c ∉ xs) : H1 c = some (.ins C dx fs) := a c _ h n fun ps z => by cases z
end
end K1
namespace K1
open PySem PySem.Spec PyProof.Rows L2
/-! ### replaced -/
/-! ### webs -/
abbrev Prs := List (Nat × Nat)
def pV (p : Nat × Nat) : List V := [.int (p.1 : Int), .int (p.2 : Int)]
structure Wv (n : Nat) (ts : Prs) : Prop where
  n1 : 1 ≤ n
  n12 : n ≤ 12
  t20 : ts.length ≤ 20
  pr : ∀ p ∈ ts, p.1 < n ∧ p.2 < n ∧ p.1 ≠ p.2
theorem Wv.at_ {n : Nat} {ts : Prs} (h : Wv n ts) {i : Nat} {p : Nat × Nat} (e : ts[i]? = some p) : p.1 < n ∧ p.2 < n ∧ p.1 ≠ p.2 := h.pr p (List.mem_of_getElem? e)
def wf (ta : Addr) (n : Int) : List (Str × V) := putF "houses" (.int n) (putF "ties" (.ref ta) [])
theorem wf_t (ta : Addr) (n : Int) : (wf ta n).lookup ("ties" : Str) = some (.ref ta) := by
  unfold wf
  rw [lookup_putF, if_neg (by decide +kernel), lookup_putF, if_pos rfl]
theorem wf_h (ta : Addr) (n : Int) : (wf ta n).lookup ("houses" : Str) = some (.int n) := by
  unfold wf
  rw [lookup_putF, if_pos rfl]
/-- pairs as tuples -/
def PrsA (H : Hp) (as : List Addr) (ts : Prs) : Prop := as.length = ts.length ∧ ∀ (i : Nat) a t, as[i]? = some a → ts[i]? = some t → H a = some (.tup (pV t))
theorem PrsA.same {H H' : Hp} {as : List Addr} {ts : Prs} (h : PrsA H as ts) (s : Same H H') : PrsA H' as ts := ⟨h.1, fun i a t e1 e2 => s _ _ (h.2 i a t e1 e2)⟩
theorem PrsA.get {H : Hp} {as : List Addr} {ts : Prs} (h : PrsA H as ts) {i : Nat} {t : Nat × Nat} (e : ts[i]? = some t) : ∃ a, as[i]? = some a ∧ H a = some (.tup (pV t)) := by
  obtain ⟨a, ha⟩ := ex_at (l := as) (i := i) (by rw [h.1]; exact lt_at e)
  exact ⟨a, ha, h.2 i a t ha e⟩
theorem PrsA.get' {H : Hp} {as : List Addr} {ts : Prs} (h : PrsA H as ts) {i : Nat} {x : V} (e : (as.map V.ref)[i]? = some x) : ∃ a t, x = .ref a ∧ as[i]? = some a ∧ ts[i]? = some t ∧ H a = some (.tup (pV t)) := by
  obtain ⟨a, ha, rfl⟩ := at_map e
  obtain ⟨t, ht⟩ := ex_at (l := ts) (i := i) (by rw [← h.1]; exact lt_at ha)
  exact ⟨a, t, rfl, ha, ht, h.2 i a t ha ht⟩
def TiesT (H : Hp) (ta : Addr) (ts : Prs) : Prop := ∃ as : List Addr, H ta = some (.tup (as.map V.ref)) ∧ PrsA H as ts
theorem TiesT.same {H H' : Hp} {ta : Addr} {ts : Prs} (h : TiesT H ta ts) (s : Same H H') : TiesT H' ta ts := let ⟨as, h1, h2⟩ := h; ⟨as, s _ _ h1, h2.same s⟩
/-- the web at w -/
def WebAt (W : Addr) (H : Hp) (w : Addr) (n : Nat) (ts : Prs) : Prop := ∃ dx ta, H w = some (.ins W dx (wf ta (n : Int))) ∧ TiesT H ta ts
theorem WebAt.same {W : Addr} {H H' : Hp} {w : Addr} {n : Nat} {ts : Prs} (h : WebAt W H w n ts) (s : Same H H') : WebAt W H' w n ts := let ⟨dx, ta, h1, h2⟩ := h; ⟨dx, ta, s _ _ h1, h2.same s⟩
/-- what the walk asks of the class Web, at W -/
structure WcT (K : PySem.W.Frag) (mg : Str → Option Value) (W : Addr) : Prop where
  cl : Cls K W
  nT : NoAttr K W "ties"
  nH : NoAttr K W "houses"
  g : mg "Web" = some (.ref W)
/-- the module's numbers -/
structure Cw (mg : Str → Option Value) : Prop where
  houses : ∃ t, mg "MOST_HOUSES" = some (.int 12 t)
  ties : ∃ t, mg "MOST_TIES" = some (.int 20 t)
/-- a pair of unlike numbers below n -/
def pairB (o : Option (List V)) (n : Int) : Bool := match o with
  | some [x, y] => belowB x n && belowB y n && !decide (x = y)
  | _ => false
theorem fnb_two (x y : V) (n : Int) : decide (fnb [x, y] n = .non) = (belowB x n && belowB y n) := by
  unfold fnb
  rw [List.findIdx?_cons, List.findIdx?_cons, List.findIdx?_nil]
  cases belowB x n <;> cases belowB y n <;> rfl
theorem scal_int {x y : V} {n : Int} (h1 : belowB x n = true) (h2 : belowB y n = true) : scal x y = true := by
  cases x <;> first | (cases h1; done) | skip
  cases y <;> first | (cases h2; done) | rfl
def spPair (K : PySem.W.Frag) : Sp := fun vs H Q _ => ∃ v o n, vs = [v, .int n] ∧ Rw K H v o ∧ ∀ H', Same H H' → Q (.bl (pairB o n)) H'
/-- checked_ties of a good web -/
def spCTies : Sp := fun vs H Q _ => ∃ (n : Nat) (p : Addr) (as : List Addr) (ts : Prs), vs = [.int (n : Int), .ref p] ∧ SeqA H p (as.map V.ref) ∧ PrsA H as ts ∧ Wv n ts ∧ ∀ ta H', Same H H' → TiesT H' ta ts → Q (.ref ta) H'
def spWInit (W : Addr) : Sp := fun vs H Q _ => ∃ (w dx : Addr) (n : Nat) (p : Addr) (as : List Addr) (ts : Prs), vs = [.ref w, .int (n : Int), .ref p] ∧ H w = some (.ins W dx []) ∧ SeqA H p (as.map V.ref) ∧ PrsA H as ts ∧ Wv n ts ∧
  ∀ H', (∀ b u, H b = some u → b ≠ w → H' b = some u) → WebAt W H' w n ts → Q .non H'
def spNeedH (K : PySem.W.Frag) (W C : Addr) : Sp := fun vs H Q E => ∃ w v o n ts, vs = [.ref w, v] ∧ WebAt W H w n ts ∧ KV K H v o ∧ (belowB v (n : Int) = true → Q v H) ∧ (belowB v (n : Int) = false → Rz C "house" v H E)
section
variable {P : Program} {w : World} {K : PySem.W.Frag} {mg : Str → Option Value} {base : Heap}
theorem scPr : FnScope ["value", "houses"] ["value", "houses"] (defScope sPair) := ⟨rfl, rfl, rfl, by decide +kernel, rfl, by decide +kernel, by decide +kernel⟩
theorem ok_pair {f fS fF : Addr} {fd fdS fdF : FuncData} (D : Df K mg "is_pair" sPair ["value", "houses"] f fd) (DS : Df K mg "is_sequence" sSeq ["value", "least", "most"] fS fdS) (DF : Df K mg "first_not_below" sFnb ["items", "limit"] fF fdF)
    (GS : FnOk P w K mg base CX0 1 fS fdS ["value", "least", "most"] (spSeq K)) (GF : FnOk P w K mg base CX0 3 fF fdF ["items", "limit"] (spFnb K)) : FnOk P w K mg base CX0 4 f fd ["value", "houses"] (spPair K) := by
  refine D.F.ok scPr (fun vs H Q E h => ?_) (fun cdv A outer s H vs Q E hr h => ?_)
  · obtain ⟨v, o, n, rfl, _⟩ := h
    rfl
  · obtain ⟨v, o, n, rfl, hw, q⟩ := h
    refine ⟨_, pss_cons (ps_if (PW.pt (pw_or (pt_not (pt_val (pc DS GS (hr.mono (by decide)) pass0 (pa_cons (pv 0) (pa_cons pe_int (pa_cons pe_int pa_nil)))))) (pw_or1 (pt_cmp (pc_notN (pc DF GF hr pass0 (pa_cons (pv 0) (pa_cons (pv 1) pa_nil)))))))) (pss_one (ps_ret pe_bl)) pss_nil)
      (pss_one (ps_ret (pe_cmpR op_ne (pe_ix ix_seq (pv 0) pe_int (fun _ _ => rfl)) (pe_ix ix_seq (pv 0) pe_int (fun _ _ => rfl)) (nomark _)))), ?_⟩
    refine ⟨_, rfl, _, o, 2, 2, rfl, hw.kv, fun H1 s1 => ⟨_, rfl, ?_⟩⟩
    by_cases e : seqB o 2 2 = true
    · rw [e]
      refine iteF ?_
      cases o with
      | none => cases e
      | some ys =>
        have hl : ys.length = 2 := by
          have z : (decide ((2 : Int) ≤ (ys.length : Int)) && decide ((ys.length : Int) ≤ 2)) = true := e
          simp only [Bool.and_eq_true, decide_eq_true_eq] at z
          omega
        obtain ⟨x, y, rfl⟩ : ∃ x y, ys = [x, y] := by
          match ys, hl with
          | [x, y], _ => exact ⟨x, y, rfl⟩
        obtain ⟨a, rfl, hS⟩ := hw.kv.seqA
        refine ⟨_, rfl, _, rfl, a, _, n, rfl, hS.same s1, (hw.ks _ rfl).same s1, fun H2 s2 => ⟨_, rfl, ?_⟩⟩
        have s12 := s1.trans s2
        have hS2 := hS.same s12
        have fe := fnb_two x y n
        rw [fe]
        by_cases e2 : (belowB x n && belowB y n) = true
        · have hb := e2
          simp only [Bool.and_eq_true] at hb
          rw [e2]
          refine iteF (nxP ?_)
          have rd : ∀ (j : Nat) (v : V) (Q : VK), [x, y][j]? = some v → Q v H2 → rIx K (.ref a) (.int (j : Int)) H2 Q := fun j v Q hj q => by
            rcases hS2 with h | h
            · exact .inl ⟨a, _, _, v, rfl, rfl, SqL.of h, at_i hj, q⟩
            · exact .inr (.inl ⟨a, _, _, v, rfl, rfl, SqT.of h, at_i hj, q⟩)
          refine ⟨_, rfl, rd 0 x _ rfl ⟨_, rfl, rd 1 y _ rfl ⟨scal_int hb.1 hb.2, qbl ?_ (q _ s12)⟩⟩⟩
          show _ = (belowB x n && belowB y n && !decide (x = y))
          rw [e2]; rfl
        · have e3 : (belowB x n && belowB y n) = false := by simpa using e2
          rw [e3]
          refine iteT (qbl ?_ (q _ s12))
          show _ = (belowB x n && belowB y n && !decide (x = y))
          rw [e3]; rfl
    · have e3 : seqB o 2 2 = false := by simpa using e
      rw [e3]
      refine iteT (iteT (qbl ?_ (q _ s1)))
      cases o with
      | none => rfl
      | some ys =>
        match ys, e3 with
        | [], _ => rfl
        | [x], _ => rfl
        | [x, y], e3 => cases e3
        | x :: y :: z :: r, _ => rfl
end
end K1
namespace K1
open PySem PySem.Spec PyProof.Rows L2
/-! ### walks over a list or a tuple -/
def iSeqA (K : PySem.W.Frag) (tl : TE) : TI := fun σ H R => tl σ H fun x H1 => ∃ a, x = .ref a ∧ ((∃ xs, SqL K H1 a xs ∧ R (Itl K a) H1) ∨ (∃ xs, SqT K H1 a xs ∧ R (Itt K a) H1))
theorem pi_seqA {X : Cx} {tg l : Expr} {tl : TE} (hl : PE X l tl) : PI X tg l (iSeqA X.K tl) := by
  refine ⟨fun pins s σ H R I h => ?_⟩
  refine thn (hl.run pins s σ H _ I h) fun v s1 ⟨x, H1, I1, r1, q1⟩ => ?_
  obtain ⟨a, e, q⟩ := q1
  subst e
  cases r1
  rcases q with ⟨xs, hq, q⟩ | ⟨xs, hq, q⟩
  · obtain ⟨its, rv, p, hz⟩ := I1.list hq
    refine wpAny_pyIter_list p.isList ?_
    refine ⟨s1.heap.objs.size, [s1.heap.objs.size], _, _, H1, rfl, I1.kept (t' := s1.toks) fun b o e => Heap.get?_push_of_some _ e, turn_list a _, ⟨_, Heap.get?_push_size _ rfl, rfl, rfl⟩, fun b hb => ?_, q⟩
    have e : b = s1.heap.objs.size := by simpa using hb
    subst e
    exact I1.fpOk (Nat.le_refl _) (I1.hok.fresh (Nat.le_refl _))
  · obtain ⟨its, rv, p, hz⟩ := I1.tuple hq
    refine wpAny_pyIter_tuple (show s1.heap.IsTuple a its.toArray from p) ?_
    refine ⟨s1.heap.objs.size, [s1.heap.objs.size], _, _, H1, rfl, I1.kept (t' := s1.toks) fun b o e => Heap.get?_push_of_some _ e, turn_tuple a _, ⟨_, Heap.get?_push_size _ rfl, rfl, rfl⟩, fun b hb => ?_, q⟩
    have e : b = s1.heap.objs.size := by simpa using hb
    subst e
    exact I1.fpOk (Nat.le_refl _) (I1.hok.fresh (Nat.le_refl _))
theorem pi_seqK {X : Cx} {K : PySem.W.Frag} {tg l : Expr} {tl : TE} (h : X.K = K) (hl : PE X l tl) : PI X tg l (iSeqA K tl) := by subst h; exact pi_seqA hl
theorem pi_enumK {X : Cx} {K : PySem.W.Frag} {e : Expr} {ta : TA} {p pos tpos : Pos} {elts : List Expr} {kk : Nat} (h : X.K = K) (hg : Gl X "enumerate") (hm : X.mg "enumerate" = none) (ha : PA X [e] ta) (hs : starEach [e] X.env = [(false, eval e X.env)] := by rfl) :
    PI X (.Tuple elts kk tpos) (.Call (.Name "enumerate" p) [e] [] pos) (iEnumA K ta) := by subst h; exact pi_enumA hg hm ha hs
/-- a list, or a tuple, at a wherever Pv holds -/
def AtA {α : Type} (Pv : α → Hp → Prop) (a : Addr) (xs : List V) : Prop := (∀ y H, Pv y H → H a = some (.lst xs)) ∨ (∀ y H, Pv y H → H a = some (.tup xs))
section
variable {K : PySem.W.Frag} {a : Addr} {xs : List V}
/-- a comprehension over enumerate of a tuple -/
theorem lc_enumT {g : TG} {tt : TT} {te : TE} {vs : List Nat} {σ : L2.St} {H1 : Hp} {D : Addr} {Qd : Hp → Prop} (Pv : Nat → Hp → Prop) (h0 : Pv 0 (upd H1 D (.lst []))) (hl : ∀ i H, i ≤ xs.length → Pv i H → SqT K H a xs)
    (hs : ∀ i x T H, xs[i]? = some x → H T = none → Pv i H → g (.ref T) (wipe σ vs) (upd H T (.tup [.int (i : Nat), x])) fun σ2 H2 => wipe σ2 vs = wipe σ vs ∧ tt σ2 H2 fun b H3 =>
      if b = true then te σ2 H3 fun y H4 => ∃ acc, H4 D = some (.lst acc) ∧ acc.length < sizeLine ∧ Pv (i + 1) (upd H4 D (.lst (acc ++ [y]))) else Pv (i + 1) H3) (hd : ∀ H, Pv xs.length H → Qd H) :
    ∃ W : Nat → Nat → Hp → Prop, (∃ m, W 0 m (upd H1 D (.lst []))) ∧ ∀ i m H, W i m H →
      ((IteT K a).stop i H ∧ Qd H) ∨ ((IteT K a).go i H ∧ ∃ Nx : Hp → Prop, (∀ H', Nx H' → ∃ m', m' < m ∧ W (i + 1) m' H') ∧ ∀ x H', (IteT K a).yld i H x H' → g x (wipe σ vs) H' fun σ2 H2 => wipe σ2 vs = wipe σ vs ∧ tt σ2 H2 fun b H3 =>
        if b = true then te σ2 H3 fun y H4 => ∃ acc, H4 D = some (.lst acc) ∧ acc.length < sizeLine ∧ Nx (upd H4 D (.lst (acc ++ [y]))) else Nx H3) := by
  refine ⟨fun i m H => m = xs.length - i ∧ i ≤ xs.length ∧ Pv i H, ⟨xs.length, by simp, Nat.zero_le _, h0⟩, ?_⟩
  rintro i m H ⟨rfl, hi, p⟩
  have q := hl i H hi p
  by_cases hlt : i < xs.length
  · refine .inr ⟨⟨xs, xs[i], q, by simp [hlt]⟩, Pv (i + 1), fun H' p' => ⟨xs.length - (i + 1), by omega, rfl, hlt, p'⟩, fun x H' y => ?_⟩
    obtain ⟨T, x', e1, e2, e3, e4⟩ := y
    subst e1 e3
    exact hs i x' T H (e4 xs q) e2 p
  · have e : i = xs.length := by omega
    subst e
    exact .inl ⟨⟨xs, q, Nat.le_refl _⟩, hd H p⟩
end
section
variable {P : Program} {w : World} {K : PySem.W.Frag} {mg : Str → Option Value} {base : Heap}
theorem pair_ok {n : Nat} {ts : Prs} (hW : Wv n ts) {i : Nat} {t : Nat × Nat} (ht : ts[i]? = some t) : pairB (some (pV t)) (n : Int) = true := by
  obtain ⟨h1, h2, h3⟩ := hW.at_ ht
  show ((decide (0 ≤ (t.1 : Int)) && decide ((t.1 : Int) < (n : Int))) && (decide (0 ≤ (t.2 : Int)) && decide ((t.2 : Int) < (n : Int))) && !decide (V.int (t.1 : Int) = V.int (t.2 : Int))) = true
  rw [decide_eq_true (by omega), decide_eq_true (by omega), decide_eq_true (by omega), decide_eq_true (by omega), decide_eq_false (by intro e; injection e with e; omega)]; rfl
theorem kinds_pV {H : Hp} (t : Nat × Nat) : Kinds K H (pV t) := fun x hx => by
  simp only [pV, List.mem_cons, List.mem_nil_iff, or_false] at hx
  rcases hx with rfl | rfl <;> exact ⟨_, .int _⟩
theorem rw_pV {H : Hp} {a : Addr} {t : Nat × Nat} (h : H a = some (.tup (pV t))) : Rw K H (.ref a) (some (pV t)) := ⟨.tup h, fun ys e => by obtain rfl := Option.some.inj e; exact kinds_pV t⟩
theorem scCT : FnScope ["houses", "ties", "at", "pair"] ["houses", "ties"] (defScope sCTies) := ⟨rfl, rfl, rfl, by decide +kernel, rfl, by decide +kernel, by decide +kernel⟩
theorem ok_cties {f fW fS fP C cI : Addr} {fd fdW fdS fdP : FuncData} {bm : List Value} {ql : Str} (D : Df K mg "checked_ties" sCTies ["houses", "ties"] f fd) (DW : Df K mg "is_whole" sWhole ["value"] fW fdW) (DS : Df K mg "is_sequence" sSeq ["value", "least", "most"] fS fdS) (DP : Df K mg "is_pair" sPair ["value", "houses"] fP fdP)
    (B : Bt mg) (c : Cw mg) (T : LAt.Txt K mg "BadWeb" ql bm C cI) (GW : FnOk P w K mg base CX0 1 fW fdW ["value"] (spWhole K)) (GS : FnOk P w K mg base CX0 1 fS fdS ["value", "least", "most"] (spSeq K)) (GP : FnOk P w K mg base CX0 4 fP fdP ["value", "houses"] (spPair K)) :
    FnOk P w K mg base (L2.CX P w) 5 f fd ["houses", "ties"] spCTies := by
  obtain ⟨t1, hc1⟩ := c.houses
  obtain ⟨t2, hc2⟩ := c.ties
  refine D.F.okX scCT (fun vs H Q E h => ?_) (fun cdv A outer s H vs Q E hr h => ?_)
  · obtain ⟨n, p, as, ts, rfl, _⟩ := h
    rfl
  · obtain ⟨n, p, as, ts, rfl, hS, hA, hW, q⟩ := h
    have hr1 : Room 1 _ := hr.mono (by decide)
    refine ⟨_, pss_cons (ps_if (PW.pt (pw_or (pt_not (pt_val (pc DW GW hr1 pass0 (pa_cons (pv 0) pa_nil)))) (pw_or (pt_not (pt_chain op_le op_le pe_int (pv 0) (pe_glob (v := .int 12) (by rfl) hc1 ⟨_, rfl⟩))) (pw_or1 (pt_not (pt_val (pc DS GS hr1 pass0 (pa_cons (pv 1) (pa_cons pe_int (pa_cons (pe_glob (v := .int 20) (by rfl) hc2 ⟨_, rfl⟩) pa_nil)))))))))) (pss_one (ps_raise_LAt rfl T hr (takes_of rfl rfl rfl rfl) (pa_cons (pe_un un_neg pe_int) pa_nil))) pss_nil)
      (pss_cons (ps_for (passes_of rfl) rfl (pi_enumA (by rfl) B.enumerate (pa_cons (pv 1) pa_nil)) (pg_tup rfl (pgs_cons (pg_name (i := 2) scCT.nd rfl (.inl rfl)) (pgs_cons (pg_name (i := 3) scCT.nd rfl (.inl rfl)) pgs_nil)))
        (pss_one (ps_if (pt_not (pt_val (pc DP GP hr pass0 (pa_cons (pv 3) (pa_cons (pv 0) pa_nil))))) (pss_one (ps_raise_LAt rfl T hr (takes_of rfl rfl rfl rfl) (pa_cons (pv 2) pa_nil))) pss_nil)))
      (pss_one (ps_ret (pe_callTy call_tuple_of (by rfl) B.tuple (by decide +kernel) (pa_cons
        (pe_lc (own := [("pair", 3)]) (g := gName 3) (tt := tYes) rfl scCT.nd (pi_seqA (pv 1)) (blkOk_by (N := ["houses", "ties", "at", "pair"]) (sc := defScope sCTies) (by decide +kernel)) (fun _ _ _ _ _ => pg_name (i := 3) scCT.nd rfl (Or.inl rfl)) (fun _ _ _ _ _ => pts_nil)
          (fun _ _ _ _ _ => pe_callTy (ctup (K := K) rfl) (by rfl) B.tuple PyProof.Rows.boot_tuple (pa_cons (pv 3) pa_nil))) pa_nil))))), ?_⟩
    have n1 := hW.n1
    have n12 := hW.n12
    have t20 := hW.t20
    have la : (as.map V.ref).length = ts.length := by rw [List.length_map, hA.1]
    have lt20 : (as.map V.ref).length ≤ 20 := by omega
    have sq : seqB (some (as.map V.ref)) 0 20 = true := by
      show (decide ((0 : Int) ≤ ((as.map V.ref).length : Int)) && decide (((as.map V.ref).length : Int) ≤ 20)) = true
      rw [decide_eq_true (by omega), decide_eq_true (by omega)]; rfl
    refine ⟨_, rfl, _, none, rfl, .int _, true, rfl, iteF ?_⟩
    refine ⟨_, rfl, _, _, rfl, rfl, _, rfl, iteY (decide_eq_true (by omega)) ⟨_, _, rfl, rfl, true, congrArg V.bl (decide_eq_true (show (n : Int) ≤ 12 by omega)), iteF ?_⟩⟩
    refine ⟨_, rfl, _, some (as.map V.ref), 0, 20, rfl, hS.kv, fun H1 s1 => ⟨_, rfl, ?_⟩⟩
    rw [sq]
    refine iteF (nxP ?_)
    refine ⟨_, rfl, p, rfl, ?_⟩
    rcases hS with hS | hS
    · refine .inl ⟨_, SqL.of (s1 _ _ hS), for_enumL (K := K) (fun (_ : Nat) (σ : L2.St) (H' : Hp) => ∃ v2 v3 : Option V, σ = [some (.int (n : Int)), some (.ref p), v2, v3] ∧ Same H H') ⟨none, none, rfl, s1⟩ (fun i σ H' _ ⟨_, _, _, sm⟩ => SqL.of (sm _ _ hS)) ?_ ?_⟩
      · rintro i x T σ H' hx hT ⟨v2, v3, rfl, sm⟩
        obtain ⟨a, t, rfl, ha, ht, hat⟩ := hA.get' hx
        have sm2 := sm.trans (same_new (o := HO.tup [.int (i : Nat), .ref a]) hT)
        refine ⟨T, _, rfl, SqT.of upd_same, rfl, _, _, rfl, _, _, rfl, rfl, ?_⟩
        refine ⟨_, rfl, _, rfl, .ref a, some (pV t), (n : Int), rfl, rw_pV (sm2 _ _ hat), fun H3 s3 => ⟨_, rfl, ?_⟩⟩
        rw [pair_ok hW ht]
        exact iteF ⟨_, _, rfl, sm2.trans s3⟩
      · rintro σ H' ⟨v2, v3, rfl, sm⟩
        refine ⟨_, rfl, p, rfl, .inl ⟨_, SqL.of (sm _ _ hS), fun D hD => lc_list (K := K) (a := p) (xs := as.map V.ref) (fun i H2 => Same H' H2 ∧ H2 D = some (.lst ((as.map V.ref).take i))) ⟨same_new hD, by rw [upd_same]; rfl⟩ (fun i H2 _ ⟨s5, _⟩ => SqL.of (s5 _ _ (sm _ _ hS))) ?_ ?_⟩⟩
        · rintro i x H2 hx ⟨s5, hD2⟩
          obtain ⟨a, t, e, ha, ht, hat⟩ := hA.get' hx
          subst e
          refine ⟨rfl, _, rfl, a, pV t, rfl, .inr ⟨SqT.of (s5 _ _ (sm _ _ hat)), _, hD2, szl (by rw [List.length_take]; omega), fun c o e => ?_, ?_⟩⟩
          · rw [upd_ne (ne_of_none e hD)]
            exact s5 _ _ e
          · rw [upd_same, take_succ hx]
        · rintro H2 ⟨s5, hD2⟩
          rw [List.take_of_length_le (Nat.le_refl _)] at hD2
          refine ⟨D, _, rfl, .inl ⟨SqL.of hD2, fun ta hta => ?_⟩⟩
          have s6 := (sm.trans s5).trans (same_new (o := HO.tup (as.map V.ref)) hta)
          exact q ta _ s6 ⟨as, upd_same, hA.same s6⟩
    · refine .inr ⟨_, SqT.of (s1 _ _ hS), for_enumT (K := K) (fun (_ : Nat) (σ : L2.St) (H' : Hp) => ∃ v2 v3 : Option V, σ = [some (.int (n : Int)), some (.ref p), v2, v3] ∧ Same H H') ⟨none, none, rfl, s1⟩ (fun i σ H' _ ⟨_, _, _, sm⟩ => SqT.of (sm _ _ hS)) ?_ ?_⟩
      · rintro i x T σ H' hx hT ⟨v2, v3, rfl, sm⟩
        obtain ⟨a, t, rfl, ha, ht, hat⟩ := hA.get' hx
        have sm2 := sm.trans (same_new (o := HO.tup [.int (i : Nat), .ref a]) hT)
        refine ⟨T, _, rfl, SqT.of upd_same, rfl, _, _, rfl, _, _, rfl, rfl, ?_⟩
        refine ⟨_, rfl, _, rfl, .ref a, some (pV t), (n : Int), rfl, rw_pV (sm2 _ _ hat), fun H3 s3 => ⟨_, rfl, ?_⟩⟩
        rw [pair_ok hW ht]
        exact iteF ⟨_, _, rfl, sm2.trans s3⟩
      · rintro σ H' ⟨v2, v3, rfl, sm⟩
        refine ⟨_, rfl, p, rfl, .inr ⟨_, SqT.of (sm _ _ hS), fun D hD => lc_tup (K := K) (a := p) (xs := as.map V.ref) (fun i H2 => Same H' H2 ∧ H2 D = some (.lst ((as.map V.ref).take i))) ⟨same_new hD, by rw [upd_same]; rfl⟩ (fun i H2 _ ⟨s5, _⟩ => SqT.of (s5 _ _ (sm _ _ hS))) ?_ ?_⟩⟩
        · rintro i x H2 hx ⟨s5, hD2⟩
          obtain ⟨a, t, e, ha, ht, hat⟩ := hA.get' hx
          subst e
          refine ⟨rfl, _, rfl, a, pV t, rfl, .inr ⟨SqT.of (s5 _ _ (sm _ _ hat)), _, hD2, szl (by rw [List.length_take]; omega), fun c o e => ?_, ?_⟩⟩
          · rw [upd_ne (ne_of_none e hD)]
            exact s5 _ _ e
          · rw [upd_same, take_succ hx]
        · rintro H2 ⟨s5, hD2⟩
          rw [List.take_of_length_le (Nat.le_refl _)] at hD2
          refine ⟨D, _, rfl, .inl ⟨SqL.of hD2, fun ta hta => ?_⟩⟩
          have s6 := (sm.trans s5).trans (same_new (o := HO.tup (as.map V.ref)) hta)
          exact q ta _ s6 ⟨as, upd_same, hA.same s6⟩
theorem scWI : FnScope ["self", "houses", "ties"] ["self", "houses", "ties"] (defScope sWInit) := ⟨rfl, rfl, rfl, by decide +kernel, rfl, by decide +kernel, by decide +kernel⟩
theorem ok_winit {f fC W : Addr} {fd fdC : FuncData} (F : Fun K "__init__" "Web.__init__" sWInit f fd) (DC : Df K mg "checked_ties" sCTies ["houses", "ties"] fC fdC) (T : WcT K mg W)
    (GC : FnOk P w K mg base (L2.CX P w) 5 fC fdC ["houses", "ties"] spCTies) : FnOk P w K mg base (L2.CX P w) 6 f fd ["self", "houses", "ties"] (spWInit W) := by
  refine F.okX scWI (fun vs H Q E h => ?_) (fun cdv A outer s H vs Q E hr h => ?_)
  · obtain ⟨w, dx, n, p, as, ts, rfl, _⟩ := h
    rfl
  · obtain ⟨w, dx, n, p, as, ts, rfl, hw, hS, hA, hW, q⟩ := h
    refine ⟨_, pss_cons (ps_fld (pv 0) (pc DC GC hr (pass1 (takes_of rfl rfl rfl rfl)) (pa_cons (pv 1) (pa_cons (pv 2) pa_nil))) rfl) (pss_one (ps_fld (pv 0) (pv 1) rfl)), ?_⟩
    refine ⟨_, rfl, _, rfl, n, p, as, ts, rfl, hS, hA, hW, fun ta H' sm hT => ?_⟩
    have hw1 := sm _ _ hw
    refine ⟨_, rfl, w, W, dx, [], rfl, hw1, T.cl, T.nT, (by show 0 < 1000; decide), ?_⟩
    refine ⟨_, rfl, _, rfl, w, W, dx, _, rfl, upd_same, T.cl, T.nH, (by show 1 < 1000; decide), ?_⟩
    rw [upd_upd]
    obtain ⟨bs, k1, k2⟩ := hT
    have kp : ∀ b u, H' b = some u → b ≠ w → (upd H' w (.ins W dx (wf ta (n : Int)))) b = some u := fun b u e nb => by rw [upd_ne nb]; exact e
    have nw : ∀ {c : Addr} {xs : List V}, H' c = some (.tup xs) → c ≠ w := fun h e => by rw [e, hw1] at h; cases h
    exact q _ (fun b u e nb => kp b u (sm _ _ e) nb) ⟨dx, ta, upd_same, bs, kp _ _ k1 (nw k1), k2.1, fun i a t e1 e2 => kp _ _ (k2.2 i a t e1 e2) (nw (k2.2 i a t e1 e2))⟩
theorem scNH : FnScope ["web", "house"] ["web", "house"] (defScope sNeedH) := ⟨rfl, rfl, rfl, by decide +kernel, rfl, by decide +kernel, by decide +kernel⟩
theorem ok_needH {f fB C W cI : Addr} {fd fdB : FuncData} {bm : List Value} {ql : Str} (D : Df K mg "need_house" sNeedH ["web", "house"] f fd) (DB : Df K mg "is_below" sBelow ["value", "limit"] fB fdB) (T : WcT K mg W) (TX : LHouse.Txt K mg "NoHouse" ql bm C cI)
    (GB : FnOk P w K mg base CX0 2 fB fdB ["value", "limit"] (spBelow K)) : FnOk P w K mg base (L2.CX P w) 3 f fd ["web", "house"] (spNeedH K W C) := by
  refine D.F.okX scNH (fun vs H Q E h => ?_) (fun cdv A outer s H vs Q E hr h => ?_)
  · obtain ⟨w, v, o, n, ts, rfl, _⟩ := h
    rfl
  · obtain ⟨w, v, o, n, ts, rfl, ⟨dx, ta, h1, _⟩, kv, q1, q2⟩ := h
    refine ⟨_, pss_cons (ps_if (pt_not (pt_val (pc DB GB hr pass0 (pa_cons (pv 1) (pa_cons (pe_fld (pv 0) rfl) pa_nil))))) (pss_one (ps_raise_LHouse rfl TX hr (takes_of rfl rfl rfl rfl) (pa_cons (pv 1) pa_nil))) pss_nil) (pss_one (ps_ret (pv 1))), ?_⟩
    refine ⟨_, rfl, _, rfl, w, W, dx, _, _, rfl, h1, T.cl, T.nH, wf_h _ _, v, o, _, rfl, kv, _, rfl, ifD (fun e => ?_) fun e => ?_⟩
    · exact ⟨_, rfl, _, rfl, fun d hd => q2 (by simpa using e) d _ (same_new hd) hd upd_same⟩
    · exact ⟨_, rfl, q1 (by simpa using e)⟩
end
end K1
namespace K1
open PySem PySem.Spec PyProof.Rows L2
/-- a source of draws -/
def BoxO (H : Hp) (b : Addr) : Prop := ∃ x y z : Int, H b = some (.lst [.int x, .int y, .int z])
/-- all but the source stands, which is one again -/
def Bx (b : Addr) (H H' : Hp) : Prop := BoxO H' b ∧ ∀ c o, H c = some o → c ≠ b → H' c = some o
theorem Bx.refl {b : Addr} {H : Hp} (h : BoxO H b) : Bx b H H := ⟨h, fun _ _ e _ => e⟩
theorem Bx.trans {b : Addr} {H H1 H2 : Hp} (a : Bx b H H1) (c : Bx b H1 H2) : Bx b H H2 := ⟨c.1, fun d o e n => c.2 d o (a.2 d o e n) n⟩
theorem Bx.same {b : Addr} {H H1 H2 : Hp} (a : Bx b H H1) (s : Same H1 H2) : Bx b H H2 := ⟨let ⟨x, y, z, e⟩ := a.1; ⟨x, y, z, s _ _ e⟩, fun d o e n => s _ _ (a.2 d o e n)⟩
theorem BoxO.same {b : Addr} {H H' : Hp} (h : BoxO H b) (s : Same H H') : BoxO H' b := let ⟨x, y, z, e⟩ := h; ⟨x, y, z, s _ _ e⟩
theorem Same.bx {b : Addr} {H H1 H2 : Hp} (s : Same H H1) (a : Bx b H1 H2) : Bx b H H2 := ⟨a.1, fun d o e n => a.2 d o (s _ _ e) n⟩
theorem Bx.set {b : Addr} {H : Hp} {x y z : Int} : Bx b H (upd H b (.lst [.int x, .int y, .int z])) := ⟨⟨x, y, z, upd_same⟩, fun c o e n => by rw [upd_ne n]; exact e⟩
theorem Bx.free {b c : Addr} {H H' : Hp} (a : Bx b H H') (hb : c ≠ b) (h : H' c = none) : H c = none := by
  cases q : H c with
  | none => rfl
  | some o => rw [a.2 c o q hb] at h; cases h
theorem BoxO.ne {b c : Addr} {H : Hp} {o : HO} (h : BoxO H b) (e : H c = some o) (n : ∀ xs, o ≠ .lst xs) : c ≠ b := fun z => by
  obtain ⟨x, y, u, hb⟩ := h
  rw [z, hb] at e
  exact n _ (Option.some.inj e).symm
theorem Bx.ne {b c : Addr} {H H' : Hp} (a : Bx b H H') (h : H' c = none) : c ≠ b := fun z => by
  obtain ⟨x, y, u, hb⟩ := a.1
  rw [z, hb] at h
  cases h
theorem Bx.new {b p : Addr} {H H' : Hp} {o : HO} (a : Bx b H H') (h : H' p = none) : Bx b H (upd H' p o) := a.same (same_new h)
theorem Bx.put {b p : Addr} {H H' : Hp} {o : HO} (a : Bx b H H') (hp : H p = none) (n : p ≠ b) : Bx b H (upd H' p o) := ⟨let ⟨x, y, u, e⟩ := a.1; ⟨x, y, u, by rw [upd_ne n.symm]; exact e⟩, fun c o' e n' => by rw [upd_ne (ne_of_none e hp)]; exact a.2 c o' e n'⟩
theorem Bx.tup {b c : Addr} {H H' : Hp} {xs : List V} (x : Bx b H H') (hb : BoxO H b) (h : H c = some (.tup xs)) : H' c = some (.tup xs) := x.2 _ _ h (hb.ne h fun xs => by intro z; cases z)
def spTake : Sp := fun vs H Q _ => ∃ b n, vs = [.ref b, .int n] ∧ BoxO H b ∧ 1 ≤ n ∧ n < 1073741824 ∧ ∀ r H', 0 ≤ r → r < n → Bx b H H' → Q (.int r) H'
def spPick : Sp := fun vs H Q _ => ∃ (b l : Addr) (xs : List V), vs = [.ref b, .ref l] ∧ BoxO H b ∧ H l = some (.lst xs) ∧ l ≠ b ∧ 1 ≤ xs.length ∧ xs.length ≤ 1000 ∧ ∀ (i : Nat) v H', xs[i]? = some v → Bx b H H' → Q v H'
def spBox (K : PySem.W.Frag) : Sp := fun vs H Q _ => ∃ (a : Addr) (ns : List Int) (k : Int), vs = [.ref a, .int k] ∧ SqL K H a (ns.map V.int) ∧ ns.length ≤ 63 ∧ 0 ≤ k ∧ k ≤ 10 ∧ ∀ b H', Same H H' → H b = none → BoxO H' b → Q (.ref b) H'
section
variable {P : Program} {w : World} {K : PySem.W.Frag} {mg : Str → Option Value} {base : Heap}
theorem scTk : FnScope ["_law_box_here", "_law_many", "_law_digit", "_law_raw"] ["_law_box_here", "_law_many"] (defScope sLTake) := ⟨rfl, rfl, rfl, by decide +kernel, rfl, by decide +kernel, by decide +kernel⟩
theorem ok_take {f : Addr} {fd : FuncData} (D : Df K mg "_law_take" sLTake ["_law_box_here", "_law_many"] f fd) (B : Bt mg) : FnOk P w K mg base CX0 1 f fd ["_law_box_here", "_law_many"] spTake := by
  refine D.F.ok scTk (fun vs H Q E h => ?_) (fun cdv A outer s H vs Q E hr h => ?_)
  · obtain ⟨b, n, rfl, _⟩ := h
    rfl
  · obtain ⟨b, n, rfl, ⟨x, y, z, hb⟩, h1, h2, q⟩ := h
    refine ⟨_, pss_cons (ps_if (pt_cmpR op_gt (pe_ix ix_list (pv 0) pe_int (fun _ _ => rfl)) pe_int (nomark _))
        (pss_cons (ps_set (i := 2) scTk.nd rfl (.inl rfl) (pe_op op_mod (pe_callTy call_int1 (by rfl) B.int PyProof.Rows.boot_int (pa_cons (pe_ix ix_list (pv 0) pe_int (fun _ _ => rfl)) pa_nil)) (pv 1)))
        (pss_cons (ps_asg (pe_op op_fdivN (pe_ix ix_list (pv 0) pe_int (fun _ _ => rfl)) (pv 1)) (pg_sub (pv 0) pe_int set_list))
        (pss_one (ps_ret (pv 2))))) pss_nil)
      (pss_cons (ps_asg (pe_op op_add (pe_ix ix_list (pv 0) pe_int (fun _ _ => rfl)) pe_int) (pg_sub (pv 0) pe_int set_list))
      (pss_cons (ps_set (i := 3) scTk.nd rfl (.inl rfl) (pe_op op_mod (pe_callTy call_int1 (by rfl) B.int PyProof.Rows.boot_int (pa_cons (pe_op op_add (pe_op op_mul (pe_op op_add (pe_ix ix_list (pv 0) pe_int (fun _ _ => rfl)) (pe_op op_mul pe_int (pe_ix ix_list (pv 0) pe_int (fun _ _ => rfl)))) pe_int) pe_int) pa_nil)) pe_int))
      (pss_cons (ps_asg (pe_op op_add (pe_op op_mod (pe_callTy call_int1 (by rfl) B.int PyProof.Rows.boot_int (pa_cons (pe_op op_add (pe_op op_mul (pv 3) pe_int) pe_int) pa_nil)) pe_int) pe_int) (pg_sub (pv 0) pe_int set_list))
      (pss_one (ps_ret (pe_op op_mod (pe_callTy call_int1 (by rfl) B.int PyProof.Rows.boot_int (pa_cons (pe_op op_fdivN (pe_op op_add (pe_op op_mul (pv 3) pe_int) (pe_ix ix_list (pv 0) pe_int (fun _ _ => rfl))) pe_int) pa_nil)) (pv 1))))))), ?_⟩
    have a0 : ∀ {u v t : Int}, atI [V.int u, V.int v, V.int t] 0 = some (V.int u) := fun {u v t} => atI_nat (j := 0) rfl
    have a1 : ∀ {u v t : Int}, atI [V.int u, V.int v, V.int t] 1 = some (V.int v) := fun {u v t} => atI_nat (j := 1) rfl
    have a2 : ∀ {u v t : Int}, atI [V.int u, V.int v, V.int t] 2 = some (V.int t) := fun {u v t} => atI_nat (j := 2) rfl
    have np : 0 < n := by omega
    refine ⟨_, rfl, b, _, 0, .int x, rfl, rfl, SqL.of hb, a0, _, _, rfl, rfl, _, rfl, ifD (fun e => ?_) fun e => ?_⟩
    · refine ⟨_, rfl, b, _, 0, .int x, rfl, rfl, SqL.of hb, a0, .inl ⟨x, rfl, _, rfl, _, _, rfl, rfl, np, ?_⟩⟩
      refine ⟨_, rfl, b, _, 0, .int x, rfl, rfl, SqL.of hb, a0, _, rfl, _, _, rfl, rfl, ⟨by omega, by omega⟩, _, rfl, b, _, 0, 0, rfl, rfl, hb, rfl, ?_⟩
      exact ⟨_, rfl, q _ _ (Int.emod_nonneg _ (by omega)) (Int.emod_lt_of_pos _ np) Bx.set⟩
    · refine ⟨_, rfl, b, _, 2, .int z, rfl, rfl, SqL.of hb, a2, _, _, rfl, rfl, _, rfl, b, _, 2, 2, rfl, rfl, hb, rfl, ?_⟩
      show tSeq _ _ _ _ (upd H b (.lst [.int x, .int y, .int (z + 1)]))
      generalize hH1 : upd H b (.lst [.int x, .int y, .int (z + 1)]) = H1
      have hb1 : H1 b = some (.lst [.int x, .int y, .int (z + 1)]) := by rw [← hH1, upd_same]
      refine ⟨_, rfl, b, _, 1, .int y, rfl, rfl, SqL.of hb1, a1, _, rfl, b, _, 2, .int (z + 1), rfl, rfl, SqL.of hb1, a2, _, _, rfl, rfl, .inl ⟨by decide, by decide⟩, _, _, rfl, rfl, _, _, rfl, rfl, .inr ⟨by decide, by decide⟩, _, _, rfl, rfl, .inl ⟨_, rfl, _, _, rfl, rfl, (by decide : (0 : Int) < 2147483423), ?_⟩⟩
      refine ⟨_, rfl, _, _, rfl, rfl, .inr ⟨by decide, by decide⟩, _, _, rfl, rfl, .inl ⟨_, rfl, _, _, rfl, rfl, (by decide : (0 : Int) < 2147483477), _, _, rfl, rfl, _, rfl, b, _, 1, 1, rfl, rfl, hb1, rfl, ?_⟩⟩
      generalize hH2 : upd H1 b _ = H2
      have hb2 : ∃ y', H2 b = some (.lst [.int x, .int y', .int (z + 1)]) := ⟨_, by rw [← hH2, upd_same]; rfl⟩
      obtain ⟨y', hb2⟩ := hb2
      have bx : Bx b H H2 := ⟨⟨_, _, _, hb2⟩, fun c o e n => by rw [← hH2, upd_ne n, ← hH1, upd_ne n]; exact e⟩
      refine ⟨_, rfl, _, _, rfl, rfl, .inr ⟨by decide, by decide⟩, _, rfl, b, _, 1, .int y', rfl, rfl, SqL.of hb2, a1, _, _, rfl, rfl, _, _, rfl, rfl, ⟨by decide, by decide⟩, .inl ⟨_, rfl, _, rfl, _, _, rfl, rfl, np, ?_⟩⟩
      exact q _ _ (Int.emod_nonneg _ (by omega)) (Int.emod_lt_of_pos _ np) bx
theorem scPi : FnScope ["_law_box_here", "_law_some"] ["_law_box_here", "_law_some"] (defScope sLPick) := ⟨rfl, rfl, rfl, by decide +kernel, rfl, by decide +kernel, by decide +kernel⟩
theorem ok_pick {f fT : Addr} {fd fdT : FuncData} (D : Df K mg "_law_pick" sLPick ["_law_box_here", "_law_some"] f fd) (DT : Df K mg "_law_take" sLTake ["_law_box_here", "_law_many"] fT fdT) (B : Bt mg) (GT : FnOk P w K mg base CX0 1 fT fdT ["_law_box_here", "_law_many"] spTake) :
    FnOk P w K mg base CX0 2 f fd ["_law_box_here", "_law_some"] spPick := by
  refine D.F.ok scPi (fun vs H Q E h => ?_) (fun cdv A outer s H vs Q E hr h => ?_)
  · obtain ⟨b, l, xs, rfl, _⟩ := h
    rfl
  · obtain ⟨b, l, xs, rfl, hb, hl, hne, h1, h2, q⟩ := h
    refine ⟨_, pss_one (ps_ret (pe_ix ix_list (pv 1) (pc DT GT hr pass0 (pa_cons (pv 0) (pa_cons (pe_callB call_len_seq (by rfl) B.len PySem.boot_len (pa_cons (pv 1) pa_nil)) pa_nil))) (fun _ _ => rfl))), ?_⟩
    refine ⟨_, rfl, _, rfl, _, rfl, l, xs, rfl, .inl (SqL.of hl), b, _, rfl, hb, by omega, by omega, fun r H' r0 r1 bx => ?_⟩
    have hi : r.toNat < xs.length := by omega
    refine ⟨l, xs, r, xs[r.toNat], rfl, rfl, SqL.of (bx.2 _ _ hl hne), at_of (j := r.toNat) (by omega) (List.getElem?_eq_getElem hi), q r.toNat _ H' (List.getElem?_eq_getElem hi) bx⟩
theorem scBx : FnScope ["_law_script", "_law_k", "_law_cell"] ["_law_script", "_law_k"] (defScope sLBox) := ⟨rfl, rfl, rfl, by decide +kernel, rfl, by decide +kernel, by decide +kernel⟩
theorem ok_box {f : Addr} {fd : FuncData} (D : Df K mg "_law_box" sLBox ["_law_script", "_law_k"] f fd) (B : Bt mg) : FnOk P w K mg base CX0 1 f fd ["_law_script", "_law_k"] (spBox K) := by
  refine D.F.ok scBx (fun vs H Q E h => ?_) (fun cdv A outer s H vs Q E hr h => ?_)
  · obtain ⟨a, ns, k, rfl, _⟩ := h
    rfl
  · obtain ⟨a, ns, k, rfl, hS, hl, k0, k1, q⟩ := h
    refine ⟨_, pss_cons (ps_set (i := 2) scBx.nd rfl (.inl rfl) (pe_op op_add (pe_op op_mul pe_int (pv 1)) pe_int))
      (pss_cons (ps_if (pt_cmpR op_lt (pv 1) (pe_callB call_len_seq (by rfl) B.len PySem.boot_len (pa_cons (pv 0) pa_nil)) (nomark _))
        (pss_one (ps_set (i := 2) scBx.nd rfl (.inl rfl) (pe_callB call_abs (by rfl) B.abs (by decide +kernel) (pa_cons (pe_ix ix_list (pv 0) (pv 1) (fun _ _ => rfl)) pa_nil))))
        (pss_one (ps_if (pt_cmpR op_gt (pe_callB call_len_seq (by rfl) B.len PySem.boot_len (pa_cons (pv 0) pa_nil)) pe_int (nomark _))
          (pss_one (ps_set (i := 2) scBx.nd rfl (.inl rfl) (pe_op op_add (pv 2) (pe_op op_mul (pe_op op_mod (pe_callTy call_int1 (by rfl) B.int PyProof.Rows.boot_int (pa_cons (pe_callB call_abs (by rfl) B.abs (by decide +kernel) (pa_cons (pe_ix ix_list (pv 0)
            (pe_op op_mod (pe_callTy call_int1 (by rfl) B.int PyProof.Rows.boot_int (pa_cons (pv 1) pa_nil)) (pe_callB call_len_seq (by rfl) B.len PySem.boot_len (pa_cons (pv 0) pa_nil))) (fun _ _ => rfl)) pa_nil)) pa_nil)) pe_int) pe_int)))) pss_nil)))
      (pss_one (ps_ret (pe_lst (pa_cons (pe_ix ix_list (pe_lst (pa_cons pe_int (pa_cons (pv 2) pa_nil))) (pe_callTy call_int1 (by rfl) B.int PyProof.Rows.boot_int (pa_cons (pe_cmpR op_ge (pv 2) (pe_op op_pow pe_int pe_int) (nomark _)) pa_nil)) (fun _ _ => rfl))
        (pa_cons (pe_op op_add (pe_op op_mod (pe_callTy call_int1 (by rfl) B.int PyProof.Rows.boot_int (pa_cons (pe_op op_add (pe_op op_mul (pe_op op_mod (pe_callTy call_int1 (by rfl) B.int PyProof.Rows.boot_int (pa_cons (pv 2) pa_nil)) pe_int) pe_int) (pe_op op_mul pe_int (pv 1))) pa_nil)) pe_int) pe_int)
        (pa_cons pe_int pa_nil))))))), ?_⟩
    have pk : ∀ (b : Bool) (c : Int), ∃ v : Int, atI [V.int 0, V.int c] (if b = true then 1 else 0) = some (V.int v) := fun b c => by
      cases b with
      | true => exact ⟨c, atI_nat (j := 1) rfl⟩
      | false => exact ⟨0, atI_nat (j := 0) rfl⟩
    have hget : ∀ (j : Int), 0 ≤ j → j < (ns.length : Int) → ∃ z : Int, atI (ns.map V.int) j = some (V.int z) := fun j h0 h1 => by
      have hj : j.toNat < ns.length := by omega
      exact ⟨ns[j.toNat], at_of (j := j.toNat) (by omega) (by rw [List.getElem?_map, List.getElem?_eq_getElem hj]; rfl)⟩
    have fin : ∀ (c x y : Int) (l p : Addr), H l = none → (upd H l (.lst [.int 0, .int c])) p = none → Q (.ref p) (upd (upd H l (.lst [.int 0, .int c])) p (.lst [.int x, .int y, .int 0])) := fun c x y l p hl hp =>
      q p _ ((same_new hl).trans (same_new hp)) ((same_new (o := HO.lst [.int 0, .int c]) hl).free hp) ⟨x, y, 0, upd_same⟩
    refine ⟨_, rfl, _, _, rfl, rfl, .inl ⟨by decide, by decide⟩, _, _, rfl, rfl, ?_⟩
    refine ⟨_, rfl, _, rfl, a, _, rfl, .inl (hS), _, _, rfl, rfl, _, rfl, ifD (fun e => ?_) fun e => ?_⟩
    · have e' : k < (ns.length : Int) := by
        have z := of_decide_eq_true e
        rw [List.length_map] at z
        exact z
      obtain ⟨z, hz⟩ := hget k k0 e'
      refine ⟨_, rfl, _, rfl, a, _, k, _, rfl, rfl, hS, hz, z, rfl, ?_⟩
      refine ⟨_, rfl, (by show 2 ≤ sizeLine; decide), fun l hl => ⟨_, rfl, _, _, rfl, rfl, ⟨by decide, by decide, by decide⟩, _, _, rfl, rfl, .inr ⟨_, rfl, l, _, _, .int (pk _ _).choose, rfl, rfl, SqL.of upd_same, (pk _ _).choose_spec, ?_⟩⟩⟩
      refine ⟨_, rfl, .inl ⟨_, rfl, _, _, rfl, rfl, (by decide : (0 : Int) < 2147483477), _, _, rfl, rfl, .inr ⟨by decide, by decide⟩, _, rfl, _, _, rfl, rfl, .inl ⟨by decide, by decide⟩, _, _, rfl, rfl, .inl ⟨_, rfl, _, _, rfl, rfl, (by decide : (0 : Int) < 2147483477), _, _, rfl, rfl, (by show 3 ≤ sizeLine; decide), fun p hp => ?_⟩⟩⟩
      exact fin _ _ _ l p hl hp
    · refine ⟨_, rfl, a, _, rfl, .inl hS, _, _, rfl, rfl, _, rfl, ifD (fun e => ?_) fun e => ?_⟩
      · have e' : 0 < (ns.length : Int) := by
          have z := of_decide_eq_true e
          rw [List.length_map] at z
          omega
        have em : (k % ((ns.map V.int).length : Int)) = k % (ns.length : Int) := by rw [List.length_map]
        obtain ⟨z, hz⟩ := hget (k % (ns.length : Int)) (Int.emod_nonneg _ (by omega)) (Int.emod_lt_of_pos _ e')
        refine ⟨_, rfl, _, rfl, _, rfl, .inl ⟨_, rfl, _, rfl, a, _, rfl, .inl hS, _, _, rfl, rfl, (by rw [List.length_map]; exact e'), a, _, _, _, rfl, rfl, hS, (by rw [em]; exact hz), z, rfl, .inl ⟨_, rfl, _, _, rfl, rfl, (by decide : (0 : Int) < 2147483477), _, _, rfl, rfl, .inr ⟨by decide, by decide⟩, _, _, rfl, rfl, ?_⟩⟩⟩
        refine ⟨_, rfl, (by show 2 ≤ sizeLine; decide), fun l hl => ⟨_, rfl, _, _, rfl, rfl, ⟨by decide, by decide, by decide⟩, _, _, rfl, rfl, .inr ⟨_, rfl, l, _, _, .int (pk _ _).choose, rfl, rfl, SqL.of upd_same, (pk _ _).choose_spec, ?_⟩⟩⟩
        refine ⟨_, rfl, .inl ⟨_, rfl, _, _, rfl, rfl, (by decide : (0 : Int) < 2147483477), _, _, rfl, rfl, .inr ⟨by decide, by decide⟩, _, rfl, _, _, rfl, rfl, .inl ⟨by decide, by decide⟩, _, _, rfl, rfl, .inl ⟨_, rfl, _, _, rfl, rfl, (by decide : (0 : Int) < 2147483477), _, _, rfl, rfl, (by show 3 ≤ sizeLine; decide), fun p hp => ?_⟩⟩⟩
        exact fin _ _ _ l p hl hp
      · refine ⟨_, rfl, (by show 2 ≤ sizeLine; decide), fun l hl => ⟨_, rfl, _, _, rfl, rfl, ⟨by decide, by decide, by decide⟩, _, _, rfl, rfl, .inr ⟨_, rfl, l, _, _, .int (pk _ _).choose, rfl, rfl, SqL.of upd_same, (pk _ _).choose_spec, ?_⟩⟩⟩
        refine ⟨_, rfl, .inl ⟨_, rfl, _, _, rfl, rfl, (by decide : (0 : Int) < 2147483477), _, _, rfl, rfl, .inr ⟨by decide, by decide⟩, _, rfl, _, _, rfl, rfl, .inl ⟨by decide, by decide⟩, _, _, rfl, rfl, .inl ⟨_, rfl, _, _, rfl, rfl, (by decide : (0 : Int) < 2147483477), _, _, rfl, rfl, (by show 3 ≤ sizeLine; decide), fun p hp => ?_⟩⟩⟩
        exact fin _ _ _ l p hl hp
end
end K1
/-! several clauses 'except x as n', the same n -/
namespace K1
open PySem PySem.Spec PyProof.Rows L2
/-- what the clauses wish of an exception of the body, one after the other; slot i is the name's -/
def wAll (K : PySem.W.Frag) (i : Nat) (Wout : WX) (D : Ends) : List (Value × (Addr → Value → Option Addr → TS)) → WX
  | [] => Wout
  | (c, ts) :: r => fun cls d σ H => ∃ b, PySem.W.exmOne K cls c = some b ∧ (b = true → ∀ a, H a = none → ts a cls d { nx := fun σ' H' => D.nx (σ'.set i none) H', rt := D.rt, bk := fun σ' H' => D.bk (σ'.set i none) H', ct := fun σ' H' => D.ct (σ'.set i none) H' } (σ.set i (some (.ref a))) H) ∧
      (b = false → wAll K i Wout D r cls d σ H)
inductive HdsA (X : Cx) (n : Str) : List ExceptHandler → List (Value × (Addr → Value → Option Addr → TS)) → Prop
  | nil : HdsA X n [] []
  | cons {x : Str} {c : Value} {ts : Addr → Value → Option Addr → TS} {b₀ : Stmt} {suite : List Stmt} {np pos' : Pos} {hds : List ExceptHandler} {l : List (Value × (Addr → Value → Option Addr → TS))} (hc : Names X x c)
      (hsu : ∀ (a : Addr) (oe : Obj) (cls : Value) (d : Option Addr) (pn : List (Addr × Obj)), Zc cls d oe → (∃ vs, oe.data = .fields vs) → PSs (X.suite a ((a, oe) :: pn)) (b₀ :: suite) (ts a cls d)) (r : HdsA X n hds l) :
      HdsA X n (.ExceptHandler (some (.Name x np)) (some n) (b₀ :: suite) pos' :: hds) ((c, ts) :: l)
section
variable {X : Cx} {n : Str} {i : Nat} {body : List Stmt} {h₀ : ExceptHandler} {hds : List ExceptHandler} {l : List (Value × (Addr → Value → Option Addr → TS))} {pos : Pos} {tb : WX → TS} {Wout : WX}
theorem ps_try_all (hs : X.stack = X.env :: X.outer) (hf : X.env.frame = some X.env.locals) (hN : X.N.Nodup) (hi : X.N[i]? = some n) (hln : X.env.kindOf n = some .local) (tk : Takes X Wout)
    (hb : ∀ (W : WX) (pn : List (Addr × Obj)) (xe : Value → Shared → Prop), Takes (X.tr pn xe) W → PassesOwn (model X.prog X.w) X.A X.env xe → PSs (X.tr pn xe) body (tb W))
    (hh : HdsA X n (h₀ :: hds) l) : PS X (.Try body (h₀ :: hds) [] [] pos) (fun D σ H => tb (wAll X.K i Wout D l) D σ H) := by
  refine ⟨fun pins s σ H D I h => ?_⟩
  have ok := I.ok
  have hfr : X.A.frames = some (X.env :: X.outer) := by rw [ok.frames, hs]
  have hloc : Loc X.env.scope n := .inl hln
  refine wpAny_Try_except ?_
  refine wpAny_mono ((hb (wAll X.K i Wout D l) (X.pn ++ pins) (fun e s₁ => wpAny (model X.prog X.w) X.A (noteFrame e X.env) (fun _ s₂ => wpAny (model X.prog X.w) X.A (setFlight e none) (fun _ s₃ =>
    wpAny (model X.prog X.w) X.A (handleBy e X.env (h₀ :: hds)) (SP X pins D) X.xe s₃) X.xe s₂) X.xe s₁) (fun u s' xx => ?_) PassesOwn.looking).run [] s σ H D (I.toTry _) h) (fun f s1 hsp => ?_) (fun e s1 he => he)
  · -- the catch
    obtain ⟨a, B, sI, pins', σ', H', cls, d, rfl, J', nb, up, sky, na, os, ag, w⟩ := xx
    have J : Inv X pins σ' H' sI := J'.ofTry ok
    have sky' : Sky B (X.env :: X.outer) a (Zc cls d) X.env.locals s'.heap := by rw [← hs]; exact sky
    show wpAny (model X.prog X.w) X.A (noteFrame (.ref a) X.env) _ _ _
    refine Sky.land Zc.steady hfr hf sky' fun h3 fl3 up3 => ?_
    have J3 : Inv X pins σ' H' { s' with heap := h3 } := J.landed nb fl3.1 (up.trans up3) os ag
    obtain ⟨oe3, vs3, he3, hz3, hd3⟩ := fl3.there
    have notFr : ∀ {h : Heap} {o : Obj} {vs : Array Value}, h.FunFrames B (X.env :: X.outer) → h.get? a = some o → o.data = .fields vs → a ∉ frs (X.env :: X.outer) := fun {h o vs} ff e dd hm => by
      obtain ⟨_, o', e', hnf⟩ := ff.mem hm
      rw [e] at e'; cases e'
      exact hnf _ dd
    have nfr := notFr fl3.2.2.1 he3 hd3
    have nL : a ≠ X.env.locals := fun z => nfr (List.mem_filterMap.mpr ⟨X.env, List.mem_cons_self, by rw [hf, z]⟩)
    have nF : a ∉ X.fs := fun hm => by
      obtain ⟨e, he, q⟩ := List.mem_filterMap.mp hm
      exact nfr (List.mem_filterMap.mpr ⟨e, List.mem_cons_of_mem _ he, q⟩)
    have S3 := J3.suite he3 hd3 na nL nF
    have go : ∀ {hds' : List ExceptHandler} {l' : List (Value × (Addr → Value → Option Addr → TS))}, HdsA X n hds' l' → wAll X.K i Wout D l' cls d σ' H' →
        wpAny (model X.prog X.w) X.A (handleBy (.ref a) X.env hds') (SP X pins D) X.xe { s' with heap := h3 } := by
      intro hds' l' hk
      induction hk with
      | nil =>
        intro w
        refine wpAny_handleBy_nil ?_
        obtain ⟨k1, k2, k3, oe, vs, T, oT, ts', he, hz, hd, h1, hr⟩ := id fl3
        unfold PySem.passOn
        refine wpAny_bind (wpAny_field he hd h1 ?_)
        rw [if_neg (show ¬ ((Value.ref T == Value.none) = true) from by simp)]
        have fin : wpAny (model X.prog X.w) X.A (setFlight (.ref a) X.env.frame) (fun _ s4 => wpAny (model X.prog X.w) X.A (throw (.ref a) : Sem Flow) (SP X pins D) X.xe s4) X.xe { s' with heap := h3 } := by
          rw [hf]
          refine HandSPX.setFlight_upZ fl3 fun h4 hh4 up4 => wpAny_throw (tk _ _ ?_)
          exact ⟨a, B, sI, pins, σ', H', cls, d, rfl, J, nb, (up.trans up3).trans up4, .inr (.inr (by rw [hs]; exact hh4)), na, os, ag, w⟩
        first
          | exact wpAny_bind (wpAny_pure (wpAny_bind fin))
          | exact wpAny_bind fin
      | @cons x c ts b₀ suite np pos' hds2 l2 hc hsu r ih =>
        intro w
        obtain ⟨b, hb1, hyes, hno⟩ := w
        refine wpAny_handleBy_cons (codeAny_handlers_test ?_) (by intro q; cases q)
        have LT : PySem.W.Looks (model X.prog X.w) h3 (typeOf (.ref a)) cls := fun A Q E s k q => wpAny_typeOf_ref (k _ _ he3) (by rw [hz3.1]; exact q)
        have LM := PySem.W.exm_one (M := model X.prog X.w) (J3.kIn) LT hb1
        have test : ∀ {Q : Value → Shared → Prop} {E : Value → Shared → Prop}, Q c { s' with heap := h3 } → wpAny (model X.prog X.w) (X.A.mark (some (.ref a))) (eval (.Name x np) X.env) Q E { s' with heap := h3 } := fun {Q E} q => by
          obtain ⟨hg, hdbg, hm | ⟨hm, hv, hnn⟩⟩ := hc
          · exact ld_glob (X := X.suite a ((a, oe3) :: (X.pn ++ pins))) S3 hg hm q hdbg
          · exact ld_blt (X := X.suite a ((a, oe3) :: (X.pn ++ pins))) S3 hg hm hv q hnn hdbg
        refine test (LM.here ?_)
        cases b with
        | true =>
          refine codeAny_handlers_suite_as ?_
          refine HandSPX.lands_againZ fl3 fun h4 fl4 up4 => ?_
          have J4 : Inv X pins σ' H' { s' with heap := h4 } := J.landed nb fl4.1 ((up.trans up3).trans up4) os ag
          obtain ⟨oe4, vs4, he4, hz4, hd4⟩ := fl4.there
          have S4 := J4.suite he4 hd4 na nL nF
          refine store_ok (X := X.suite a ((a, oe4) :: (X.pn ++ pins))) (v := .ref a) S4 hN hi hloc rfl (fun s5 S5 => ?_) (.inr hln)
          refine wpAny_mono ((hsu a oe4 cls d (X.pn ++ pins) hz4 ⟨_, hd4⟩).run [] s5 _ H' _ S5 (hyes rfl a na)) (fun f s6 hsp => ?_) (fun _ _ z => False.elim z)
          have end_ : ∀ {σ6 : L2.St} {H6 : Hp} {Q : Shared → Prop}, Inv (X.suite a ((a, oe4) :: (X.pn ++ pins))) [] σ6 H6 s6 → (∀ s7, Inv X pins (σ6.set i none) H6 s7 → Q s7) →
              wpAny (model X.prog X.w) X.A (do bindName X.env n .none; unbindBehindTheSuite X.env n pos') (fun _ s7 => Q s7) X.xe s6 := fun {σ6 H6 Q} S6 hq => gone_ok (S6.unsuite ok) hN hi hln hq
          cases f with
          | next =>
            obtain ⟨σ6, H6, S6, q6⟩ := hsp
            exact end_ S6 fun s7 J7 => ⟨_, _, J7, q6⟩
          | brk =>
            obtain ⟨σ6, H6, S6, q6⟩ := hsp
            exact end_ S6 fun s7 J7 => ⟨_, _, J7, q6⟩
          | cont =>
            obtain ⟨σ6, H6, S6, q6⟩ := hsp
            exact end_ S6 fun s7 J7 => ⟨_, _, J7, q6⟩
          | ret u =>
            obtain ⟨v6, σ6, H6, S6, r6, q6⟩ := hsp
            exact end_ S6 fun s7 J7 => ⟨_, _, _, J7, r6, q6⟩
        | false =>
          show wpAny _ X.A (handleBy (.ref a) X.env hds2) _ _ _
          exact ih (hno rfl)
    exact go hh w
  · cases f with
    | next =>
      obtain ⟨σ', H', J', q⟩ := hsp
      exact wpAny_execs_nil ⟨σ', H', J'.ofTry ok, q⟩
    | brk =>
      obtain ⟨σ', H', J', q⟩ := hsp
      exact ⟨σ', H', J'.ofTry ok, q⟩
    | cont =>
      obtain ⟨σ', H', J', q⟩ := hsp
      exact ⟨σ', H', J'.ofTry ok, q⟩
    | ret u =>
      obtain ⟨v, σ', H', J', r, q⟩ := hsp
      exact ⟨v, σ', H', J'.ofTry ok, r, q⟩
end
end K1
/-! ### zip of two, each a list or a tuple -/
namespace ZM
open PySem PySem.Spec PyProof.Rows L2
def Sq (t : Bool) (K : PySem.W.Frag) (H : Hp) (a : Addr) (xs : List V) : Prop := match t with | true => SqT K H a xs | false => SqL K H a xs
def itOf (t : Bool) (h : Heap) (i l : Addr) (k : Nat) : Prop := match t with | true => h.IsTupleIter i l k | false => h.IsListIter i l k
def seqOf (t : Bool) (h : Heap) (l : Addr) (xs : Array Value) : Prop := match t with | true => h.IsTuple l xs | false => h.IsList l xs
theorem drawsM {prog : Program} {w : World} {A : Around} (t : Bool) (hh : A.handled = none) (it l : Addr) (hne : l ≠ it) (items : Array Value) :
    Draws prog w A it [it, l] items.size (fun i v => items[i]? = some v) (fun i h => itOf t h it l i ∧ seqOf t h l items) := match t with
  | true => Draws.tuple hh it l hne items
  | false => Draws.list hh it l hne items
theorem itOf.obj {t : Bool} {h : Heap} {i l : Addr} {k : Nat} (x : itOf t h i l k) : ∃ o, h.get? i = some o ∧ ∀ v, o.data ≠ .cell v := by
  cases t <;> (obtain ⟨o, e, _, d⟩ := x; exact ⟨o, e, fun v q => by rw [d] at q; cases q⟩)
theorem itOf.at {t : Bool} {h h' : Heap} {i l : Addr} {k : Nat} (x : itOf t h i l k) (m : ∀ o, h.get? i = some o → h'.get? i = some o) : itOf t h' i l k := by
  cases t
  · exact Heap.IsListIter.at x m
  · exact Heap.IsTupleIter.at x m
theorem Sq.real {X : Cx} {pins : List (Addr × Obj)} {σ : L2.St} {H : Hp} {s : Shared} {t : Bool} {a : Addr} {xs : List V} (I : Inv X pins σ H s) (q : Sq t X.K H a xs) : ∃ its, Vals xs its ∧ seqOf t s.heap a its.toArray ∧ a < s.heap.objs.size := by
  cases t
  · obtain ⟨its, rv, p, _⟩ := I.list q
    exact ⟨its, rv, p.isList, p.lt⟩
  · obtain ⟨its, rv, p, _⟩ := I.tuple q
    obtain ⟨o, ho, _⟩ := id p
    exact ⟨its, rv, p, Heap.lt_size ho⟩
theorem Sq.inj {X : Cx} {pins : List (Addr × Obj)} {σ : L2.St} {H : Hp} {s : Shared} {t : Bool} {a : Addr} {xs ys : List V} (I : Inv X pins σ H s) (q : Sq t X.K H a xs) (q2 : Sq t X.K H a ys) : xs = ys := by
  cases t
  · exact I.list_inj q q2
  · exact I.tuple_inj q q2
/-- what stands at a and b as it is at each turn, the items in new pairs -/
def ItzM (K : PySem.W.Frag) (t1 t2 : Bool) (a b : Addr) : It :=
  ⟨fun i H => ∃ (xs ys : List V) (x y : V), Sq t1 K H a xs ∧ Sq t2 K H b ys ∧ xs[i]? = some x ∧ ys[i]? = some y,
    fun i H v H' => ∃ T x y, v = .ref T ∧ H T = none ∧ H' = upd H T (.tup [x, y]) ∧ (∀ xs, Sq t1 K H a xs → xs[i]? = some x) ∧ ∀ ys, Sq t2 K H b ys → ys[i]? = some y,
    fun i H => ∃ xs ys : List V, Sq t1 K H a xs ∧ Sq t2 K H b ys ∧ i ≤ xs.length ∧ i ≤ ys.length ∧ (i = xs.length ∨ i = ys.length)⟩
theorem zlt {h : Heap} {c : Addr} {o : Obj} (e : h.get? c = some o) : c ≠ h.objs.size := Nat.ne_of_lt (Heap.lt_size e)
structure Sep (z TI TO i1 i2 a b : Addr) : Prop extends ZipSep2 z TI TO i1 i2 [i1, a] [i2, b] where
  na : a ≠ i1
  nb : b ≠ i2
  n1 : i1 ≠ z
  n2 : i2 ≠ z
theorem turnM {P : Program} {w : World} {K : PySem.W.Frag} {elts : List Expr} {kk : Nat} {tpos : Pos} {a b z TI TO i1 i2 : Addr} (t1 t2 : Bool) (S : Sep z TI TO i1 i2 a b) :
    Turn P w K (.Tuple elts kk tpos) (ItzM K t1 t2 a b) [z, TI, TO, i1, i2] z (fun i h => IsZip h z TI TO .none ∧ IsTupOf2 h TI (.ref i1) (.ref i2) ∧ (∃ x y, IsTupOf2 h TO x y) ∧ itOf t1 h i1 a i ∧ itOf t2 h i2 b i) where
  mem := by simp
  obj := fun i h st c hc => by
    obtain ⟨hz, hTI, ⟨x, y, hTO⟩, h1, h2⟩ := st
    simp only [List.mem_cons, List.mem_nil_iff, or_false] at hc
    rcases hc with rfl | rfl | rfl | rfl | rfl
    · exact ⟨_, hz, fun v q => nomatch q⟩
    · exact ⟨_, hTI, fun v q => nomatch q⟩
    · exact ⟨_, hTO, fun v q => nomatch q⟩
    · exact h1.obj
    · exact h2.obj
  keep := fun i h h' st k => by
    obtain ⟨hz, hTI, ⟨x, y, hTO⟩, h1, h2⟩ := st
    exact ⟨k _ (by simp) _ hz, k _ (by simp) _ hTI, ⟨x, y, k _ (by simp) _ hTO⟩, h1.at fun o q => k _ (by simp) o q, h2.at fun o q => k _ (by simp) o q⟩
  item := by
    intro X hP hw hK hc i pins s σ H E I hf st hg
    subst hP hw hK
    obtain ⟨hz, hTI, ⟨x0, y0, hTO⟩, h1, h2⟩ := st
    obtain ⟨xs, ys, x, y, hqx, hqy, hx, hy⟩ := hg
    obtain ⟨its, rv, p, _⟩ := hqx.real I
    obtain ⟨its2, rv2, p2, _⟩ := hqy.real I
    obtain ⟨u, hu, ru⟩ := rv.get hx
    obtain ⟨u2, hu2, ru2⟩ := rv2.get hy
    have l1 : i < its.toArray.size := by simpa using (List.getElem?_eq_some_iff.mp hu).1
    have l2 : i < its2.toArray.size := by simpa using (List.getElem?_eq_some_iff.mp hu2).1
    have d1 := drawsM (prog := X.prog) (w := X.w) (A := X.A.in1) t1 (I.ok.hd hc) i1 a S.na its.toArray
    have d2 := drawsM (prog := X.prog) (w := X.w) (A := X.A.in1) t2 (I.ok.hd hc) i2 b S.nb its2.toArray
    refine wpAny_pyNext_zipD2_item S.toZipSep2 d1 d2 hz hTI hTO ⟨h1, p⟩ ⟨h2, p2⟩ l1 l2 fun v1 v2 h' tk e1 e2 z' TO' s1' s2' hT hsz hk => ?_
    obtain rfl : u = v1 := by
      have q : its[i]? = some v1 := by simpa using e1
      exact Option.some.inj (hu.symm.trans q)
    obtain rfl : u2 = v2 := by
      have q : its2[i]? = some v2 := by simpa using e2
      exact Option.some.inj (hu2.symm.trans q)
    refine ⟨_, rfl, wpAny_letOwnedTupleGo_zip (s := { s with heap := h', toks := tk }) z' fun h'' z'' sb => ?_⟩
    have nz := zlt hz
    have hT2 : h''.get? s.heap.objs.size = some { cls := .type "tuple", data := .seq #[u, u2] } := (sb.2 _ (Ne.symm nz)).trans hT
    have new : ObjOk X.prog X.w (upd H s.heap.objs.size (.tup [x, y])) h'' s.heap.objs.size (.tup [x, y]) :=
      ⟨by show 2 ≤ sizeLine; decide, [u, u2], .cons ru (.cons ru2 .nil), ⟨_, hT2, rfl, _, rfl⟩⟩
    have I1 : Inv X pins σ (upd H s.heap.objs.size (.tup [x, y])) { s with heap := h'', toks := tk } :=
      I.turnedNew (t' := tk) (ch := [z, TI, TO, i1, i2]) (fun c o hb q => (sb.2 c (fun q' => hb (by simp [q']))).trans (hk c o (fun q' => hb (by simp [q'])) (fun q' => hb (by simp [q'])) (fun q' => hb (by simp [q'])) (fun q' => hb (by simp [q'])) q)) hf (Nat.le_refl _) new
    have back : ∀ c o, c ≠ z → h'.get? c = some o → h''.get? c = some o := fun c o k q => (sb.2 c k).trans q
    refine ⟨.ref s.heap.objs.size, _, I1, rfl, ⟨_, x, y, rfl, I.hok.fresh (Nat.le_refl _), rfl, fun l hl => by rw [hl.inj I hqx]; exact hx, fun l hl => by rw [hl.inj I hqy]; exact hy⟩, ⟨z'', back _ _ S.TIz (hk _ _ S.TIz S.TITO S.TIi1 S.TIi2 hTI), ⟨u, u2, back _ _ S.TOz TO'⟩, s1'.1.at fun o q => back _ o S.n1 q, s2'.1.at fun o q => back _ o S.n2 q⟩, fun c hcm => ?_⟩
    have hlt : c ≠ s.heap.objs.size := by
      simp only [List.mem_cons, List.mem_nil_iff, or_false] at hcm
      rcases hcm with rfl | rfl | rfl | rfl | rfl
      · exact nz
      · exact zlt hTI
      · exact zlt hTO
      · obtain ⟨o, e, _⟩ := h1.obj; exact zlt e
      · obtain ⟨o, e, _⟩ := h2.obj; exact zlt e
    rw [upd_ne hlt]
    exact (hf c hcm).1
  done := by
    intro X hP hw hK hc i pins s σ H E I hf st hg
    subst hP hw hK
    obtain ⟨hz, hTI, ⟨x0, y0, hTO⟩, h1, h2⟩ := st
    obtain ⟨xs, ys, hqx, hqy, k1, k2, hend⟩ := hg
    obtain ⟨its, rv, p, _⟩ := hqx.real I
    obtain ⟨its2, rv2, p2, _⟩ := hqy.real I
    have l1 : its.toArray.size = xs.length := by have := rv.length; simp; omega
    have l2 : its2.toArray.size = ys.length := by have := rv2.length; simp; omega
    have d1 := drawsM (prog := X.prog) (w := X.w) (A := X.A.in1) t1 (I.ok.hd hc) i1 a S.na its.toArray
    have d2 := drawsM (prog := X.prog) (w := X.w) (A := X.A.in1) t2 (I.ok.hd hc) i2 b S.nb its2.toArray
    exact wpAny_pyNext_zipD2_end S.toZipSep2 d1 d2 hz hTI hTO ⟨h1, p⟩ ⟨h2, p2⟩ (by rw [l1]; exact k1) (by rw [l2]; exact k2) (by rw [l1, l2]; exact hend) fun h' tk hk =>
      ⟨rfl, I.turnedL (t' := tk) (ch := [z, TI, TO, i1, i2]) (fun c o hb q => hk c o (fun q' => hb (by simp [q'])) (fun q' => hb (by simp [q'])) (fun q' => hb (by simp [q'])) (fun q' => hb (by simp [q'])) q) hf⟩
  self := fun A i s Q E st h => wpAny_pyIter_zip st.1 h
theorem nne (x y : Nat) (h : x < y ∨ y < x) : @Ne Addr x y := fun z => by
  have z' : @Eq Nat x y := z
  omega
theorem nin (x y y2 : Nat) (h : x < y ∨ y < x) (h2 : x < y2 ∨ y2 < x) : @Membership.mem Addr (List Addr) _ [y, y2] x → False := fun m => by
  rcases List.mem_cons.mp m with z | m
  · exact nne _ _ h z
  · exact nne _ _ h2 (List.mem_singleton.mp m)
theorem sep (n a b : Nat) (ha : a < n) (hb : b < n) : Sep (n + 4) (n + 2) (n + 3) n (n + 1) a b :=
  { TIz := nne _ _ (by omega), TOz := nne _ _ (by omega), TITO := nne _ _ (by omega), TIi1 := nne _ _ (by omega), mem1 := List.mem_cons_self, zf1 := nin _ _ _ (by omega) (by omega), Tf1 := nin _ _ _ (by omega) (by omega)
    TIi2 := nne _ _ (by omega), mem2 := List.mem_cons_self, zf2 := nin _ _ _ (by omega) (by omega), Tf2 := nin _ _ _ (by omega) (by omega)
    sep1_2 := nin _ _ _ (by omega) (by omega), sep2_1 := nin _ _ _ (by omega) (by omega)
    na := nne _ _ (by omega), nb := nne _ _ (by omega), n1 := nne _ _ (by omega), n2 := nne _ _ (by omega) }
theorem beginsM (t : Bool) (l : Addr) (items : Array Value) : ∃ o, Begins (.ref l) o (fun h => seqOf t h l items) ∧ ∀ (h : Heap) (i : Addr), h.get? i = some o → itOf t h i l 0 := by
  cases t
  · exact ⟨_, begins_list l items, fun h i e => ⟨_, e, rfl, rfl⟩⟩
  · exact ⟨_, begins_tuple l items, fun h i e => ⟨_, e, rfl, rfl⟩⟩
theorem five (n c : Nat) (h : c ∈ [n + 4, n + 2, n + 3, n, n + 1]) : n ≤ c := by
  simp only [List.mem_cons, List.mem_nil_iff, or_false] at h
  omega
def iZipM (K : PySem.W.Frag) (ta : TA) : TI := fun σ H R => ta σ H fun vs H1 => ∃ t1 t2 a b xs ys, vs = [.ref a, .ref b] ∧ Sq t1 K H1 a xs ∧ Sq t2 K H1 b ys ∧ R (ItzM K t1 t2 a b) H1
theorem pi_zipM {X : Cx} {e e2 : Expr} {ta : TA} {p pos tpos : Pos} {elts : List Expr} {kk : Nat} (hg : Gl X "zip") (hm : X.mg "zip" = none) (ha : PA X [e, e2] ta)
    (hs : starEach [e, e2] X.env = (false, eval e X.env) :: starEach [e2] X.env := by rfl) (hpl : (backTo pos (starEach [e2] X.env)).any (·.1) = false := by rfl) :
    PI X (.Tuple elts kk tpos) (.Call (.Name "zip" p) [e, e2] [] pos) (iZipM X.K ta) := by
  refine ⟨fun pins s σ H R I h => ?_⟩
  have run := ha.run pos pins s σ H _ I h
  refine Call_ (ld_blt I hg hm PyProof.Rows.boot_zip ?_)
  refine PyProof.Rows.callWith_type1 (thn run ?_) hs hpl
  rintro us s1 ⟨vs, H1, I1, r1, t1, t2, a, b, xs, ys, rfl, hqx, hqy, q⟩
  cases r1 with
  | cons r rr =>
   cases rr with
   | cons r' rr =>
    cases rr
    cases r
    cases r'
    obtain ⟨its, rv, p1, la⟩ := hqx.real I1
    obtain ⟨its2, rv2, p2, lb⟩ := hqy.real I1
    obtain ⟨o1, B1, i1⟩ := beginsM t1 a its.toArray
    obtain ⟨o2, B2, i2⟩ := beginsM t2 b its2.toArray
    refine zip_begins2 B1 B2 p1 p2 fun h' hz hTI hTO g1 g2 hsz hk => wpAny_pyIter_zip hz ?_
    have I2 : Inv X pins σ H1 { s1 with heap := h' } := I1.kept (t' := s1.toks) hk
    refine ⟨_, [s1.heap.objs.size + 4, s1.heap.objs.size + 2, s1.heap.objs.size + 3, s1.heap.objs.size, s1.heap.objs.size + 1], _, _, H1, rfl, I2, turnM t1 t2 (sep _ _ _ la lb), ⟨hz, hTI, ⟨_, _, hTO⟩, i1 _ _ g1, i2 _ _ g2⟩, fun c hcm => ?_, q⟩
    have hle : s1.heap.objs.size ≤ c := five _ _ hcm
    exact I1.fpOk hle (I1.hok.fresh hle)
theorem for_zipM {K : PySem.W.Frag} {t1 t2 : Bool} {a b : Addr} {xs ys : List V} {g : TG} {tb : TS} {D : Ends} {σ : L2.St} {H : Hp} (hl : xs.length = ys.length) (Pv : Nat → L2.St → Hp → Prop) (h0 : Pv 0 σ H) (hq : ∀ i σ H, Pv i σ H → Sq t1 K H a xs ∧ Sq t2 K H b ys)
    (hs : ∀ (i : Nat) (x y : V) (T : Addr) (σ : L2.St) (H : Hp), xs[i]? = some x → ys[i]? = some y → Pv i σ H → H T = none → g (.ref T) σ (upd H T (.tup [x, y])) fun σ2 H2 => tb { D with nx := Pv (i + 1), ct := Pv (i + 1), bk := D.nx } σ2 H2) (hd : ∀ σ H, Pv xs.length σ H → D.nx σ H) :
    ∃ W : Nat → Nat → L2.St → Hp → Prop, (∃ m, W 0 m σ H) ∧ ∀ i m σ H, W i m σ H →
      ((ItzM K t1 t2 a b).stop i H ∧ D.nx σ H) ∨ ((ItzM K t1 t2 a b).go i H ∧ ∃ N : L2.St → Hp → Prop, (∀ σ' H', N σ' H' → ∃ m', m' < m ∧ W (i + 1) m' σ' H') ∧ ∀ v H', (ItzM K t1 t2 a b).yld i H v H' → g v σ H' fun σ2 H2 => tb { D with nx := N, ct := N, bk := D.nx } σ2 H2) := by
  refine ⟨fun i m σ H => m = xs.length - i ∧ i ≤ xs.length ∧ Pv i σ H, ⟨xs.length, rfl, Nat.zero_le _, h0⟩, ?_⟩
  rintro i m σ H ⟨rfl, hi, p⟩
  obtain ⟨qx, qy⟩ := hq i σ H p
  rcases Nat.lt_or_ge i xs.length with hlt | hge
  · refine .inr ⟨⟨xs, ys, _, _, qx, qy, List.getElem?_eq_getElem hlt, List.getElem?_eq_getElem (hl ▸ hlt)⟩, Pv (i + 1), fun σ' H' p' => ⟨xs.length - (i + 1), by omega, rfl, hlt, p'⟩, ?_⟩
    rintro v H' ⟨T, x', y', rfl, hT, rfl, f1, f2⟩
    exact hs i x' y' T σ H (f1 xs qx) (f2 ys qy) p hT
  · obtain rfl : i = xs.length := Nat.le_antisymm hi hge
    exact .inl ⟨⟨xs, ys, qx, qy, hi, hl ▸ hi, .inl rfl⟩, hd σ H p⟩
end ZM
namespace K1
open PySem PySem.Spec PyProof.Rows L2
def vn (ns : List Nat) : List V := ns.map fun (x : Nat) => V.int (x : Int)
theorem vn_len (ns : List Nat) : (vn ns).length = ns.length := List.length_map _
theorem vn_at {ns : List Nat} {i : Nat} {x : Nat} (h : ns[i]? = some x) : (vn ns)[i]? = some (.int (x : Int)) := map_at h
theorem at_vn {ns : List Nat} {i : Nat} {v : V} (h : (vn ns)[i]? = some v) : ∃ x, ns[i]? = some x ∧ v = .int (x : Int) := at_map h
theorem flat_vn (ns : List Nat) : (vn ns).all flatV = true := by
  rw [List.all_eq_true]
  intro x hx
  obtain ⟨y, _, rfl⟩ := List.mem_map.mp hx
  rfl
theorem inV_vn (a : Nat) (ns : List Nat) : inV (.int (a : Int)) (vn ns) = decide (a ∈ ns) := by
  unfold inV vn
  rw [List.any_map]
  induction ns with
  | nil => rfl
  | cons b r ih =>
    rw [List.any_cons, ih]
    have e : (eqV (V.int (b : Int)) (V.int (a : Int))) = decide (a = b) := by
      show ((b : Int) == (a : Int)) = _
      by_cases z : a = b
      · rw [decide_eq_true z, z]; simp
      · rw [decide_eq_false z]
        simp only [beq_eq_false_iff_ne, ne_eq]
        omega
    show (eqV (V.int (b : Int)) (V.int (a : Int)) || _) = _
    rw [e]
    by_cases z : a = b
    · rw [decide_eq_true z, decide_eq_true (show a ∈ b :: r by rw [z]; exact List.mem_cons_self)]; rfl
    · rw [decide_eq_false z, Bool.false_or]
      congr 1
      exact propext ⟨fun h => List.mem_cons_of_mem _ h, fun h => (List.mem_cons.mp h).resolve_left z⟩
section
variable {P : Program} {w : World} {K : PySem.W.Frag} {mg : Str → Option Value} {base : Heap}
def cby (m x : Int) : Int := if m = 0 then x else x % m
def spCBy : Sp := fun vs H Q _ => ∃ (m x : Int), vs = [.int m, .int x] ∧ 0 ≤ m ∧ Q (.int (cby m x)) H
theorem scCB : FnScope ["modulus", "number"] ["modulus", "number"] (defScope sCBy) := ⟨rfl, rfl, rfl, by decide +kernel, rfl, by decide +kernel, by decide +kernel⟩
theorem ok_cby {f : Addr} {fd : FuncData} (D : Df K mg "counted_by" sCBy ["modulus", "number"] f fd) : FnOk P w K mg base CX0 1 f fd ["modulus", "number"] spCBy := by
  refine D.F.ok scCB (fun vs H Q E h => ?_) (fun cdv A outer s H vs Q E hr h => ?_)
  · obtain ⟨m, x, rfl, _⟩ := h
    rfl
  · obtain ⟨m, x, rfl, h0, q⟩ := h
    refine ⟨_, pss_one (ps_ret (pe_ifExp (pt_cmpR op_eq (pv 0) pe_int (nomark _)) (pv 1) (pe_op op_mod (pv 1) (pv 0)))), ?_⟩
    refine ⟨_, rfl, rfl, _, rfl, ifD (fun e => ?_) fun e => ?_⟩
    · have e3 : m = 0 := by
        have z : V.int m = V.int 0 := of_decide_eq_true e
        injection z
      refine ⟨_, rfl, ?_⟩
      unfold cby at q
      rw [if_pos e3] at q
      exact q
    · have e3 : ¬ m = 0 := fun z => by
        have y : ¬ (V.int m = V.int 0) := of_decide_eq_false e
        exact y (by rw [z])
      unfold cby at q
      rw [if_neg e3] at q
      exact ⟨_, rfl, _, rfl, _, _, rfl, rfl, by omega, q⟩
end
theorem vn_row (ns : List Nat) : vn ns = vrow (ns.map fun (x : Nat) => (x : Int)) := by unfold vn vrow; rw [List.map_map]; rfl
theorem kinds_vn {K : PySem.W.Frag} {H : Hp} (ns : List Nat) : Kinds K H (vn ns) := fun x hx => by
  obtain ⟨y, _, rfl⟩ := List.mem_map.mp hx
  exact ⟨_, .int _⟩
theorem dp_vn {K : PySem.W.Frag} {H : Hp} {a : Addr} {ns : List Nat} (h : H a = some (.tup (vn ns))) : Dp K H (.ref a) (.tuple (dI (ns.map fun (x : Nat) => (x : Int)))) := dp_tup (by rw [← vn_row]; exact h)
abbrev gM : List Value → List Value → List Value := fun us ws => us ++ ws.reverse
abbrev gMV : List V → List V → List V := fun us ws => us ++ ws.reverse
section
variable {X : Cx} {k : Nat} {f C : Addr} {fd : FuncData} {ps ks : List Str} {sp : Sp} {x m : Str} {st : Stmt} {p pos apos : Pos} {o : Expr} {kws : List Keyword} {tk : TA} {ta : TE}
theorem pe_callW {CX : CXT} {E : XK} {g : List Value → List Value → List Value} {gV : List V → List V → List V} (D : Df X.K X.mg x st ps f fd) (G : FnOk X.prog X.w X.K X.mg X.base CX k f fd ps sp) (hr : Room k X.A) (hb : KBn X.K fd ps 0 ks g gV) (hx : Passes CX X E) (hkw : PK X kws tk) (hg : Gl X x := by rfl)
    (hall : (backToKw pos (keywordEach kws X.env)).all (·.1.isSome) = true := by rfl) (hks : (backToKw pos (keywordEach kws X.env)).filterMap (·.1) = ks := by rfl) (hdb : (x == ("__debug__" : Str)) = false := by decide)
    (hpl : ((backTo pos (starEach [] X.env)).any (·.1) || (backToKw pos (keywordEach kws X.env)).any (·.1.isNone)) = false := by rfl) :
    PE X (.Call (.Name x p) [] kws pos) (fun σ H Q => tk σ H fun zs H1 => zs.length = ks.length ∧ sp (gV [] zs) H1 Q E) := by
  refine ⟨fun pins s σ H Q I h => ?_⟩
  refine wpAny_Call_Name_kw (ld_glob I hg D.g ?_ hdb)
  refine PySem.W.callWith_KW0 (h₀ := X.base) I.ok.mod.kin D.F.kp hall ?_ hpl
  refine thn (hkw.run pos pins s σ H _ I h) fun ws s2 ⟨zs, H2, I2, rz, l2, q2⟩ => ⟨I2.kIn, ?_⟩
  rw [hks]
  exact run_fnN (us := []) (vs := []) G hr hb hx I2 .nil rz rfl l2 q2
end
/-- what a turn of a while leaves to show -/
def WT (Pv : L2.St → Hp → Prop) (μ : L2.St → Hp → Nat) (tb : TS) (D : Ends) (σ : L2.St) (H H1 : Hp) : Prop := ∃ N : L2.St → Hp → Prop, (∀ σ' H', N σ' H' → ∃ m', m' < μ σ H ∧ m' = μ σ' H' ∧ Pv σ' H') ∧ tb { D with nx := N, ct := N, bk := D.nx } σ H1
theorem while_D {c : TT} {tb : TS} {D : Ends} {σ : L2.St} {H : Hp} (Pv : L2.St → Hp → Prop) (μ : L2.St → Hp → Nat) (h0 : Pv σ H)
    (hs : ∀ σ H, Pv σ H → c σ H fun b H1 => if b = true then WT Pv μ tb D σ H H1 else D.nx σ H1) : tWhile c tb D σ H :=
  ⟨fun m σ H => m = μ σ H ∧ Pv σ H, ⟨_, rfl, h0⟩, fun m σ H ⟨e, p⟩ => by subst e; exact hs σ H p⟩
theorem whT {tb : TS} {D : Ends} {σ : L2.St} {H H1 : Hp} {Pv : L2.St → Hp → Prop} {μ : L2.St → Hp → Nat} (h : tb { D with nx := fun σ' H' => Pv σ' H' ∧ μ σ' H' < μ σ H, ct := fun σ' H' => Pv σ' H' ∧ μ σ' H' < μ σ H, bk := D.nx } σ H1) : WT Pv μ tb D σ H H1 :=
  ⟨_, fun σ' H' ⟨p', l⟩ => ⟨_, l, rfl, p'⟩, h⟩
theorem rows_at {α : Type} {n x : Nat} {f : Nat → α} (h : x < n) : ((List.range n).map f)[x]? = some (f x) := by rw [List.getElem?_map, List.getElem?_range h]; rfl
end K1
namespace K1
open PySem PySem.Spec PyProof.Rows L2
theorem kints {K : PySem.W.Frag} {H : Hp} {tu : List Nat} : ∀ ys, some (vn tu) = some ys → Kinds K H ys := fun ys e => by
  obtain rfl := Option.some.inj e
  exact kinds_vn _
theorem rw_vnT {K : PySem.W.Frag} {H : Hp} {p : Addr} {tu : List Nat} (h : H p = some (.tup (vn tu))) : Rw K H (.ref p) (some (vn tu)) := ⟨.tup h, kints⟩
theorem rw_vnL {K : PySem.W.Frag} {H : Hp} {p : Addr} {tu : List Nat} (h : H p = some (.lst (vn tu))) : Rw K H (.ref p) (some (vn tu)) := ⟨.lst h, kints⟩
theorem Rz.of_same {C : Addr} {f : Str} {v : V} {H H1 : Hp} {E : XK} (r : Rz C f v H E) (s : Same H H1) : Rz C f v H1 E := fun d H' s' hd hx => r d H' (s.trans s') (s.free hd) hx
theorem below_nat {v : V} {n : Nat} (hb : belowB v (n : Int) = true) : ∃ h : Nat, v = .int (h : Int) ∧ h < n := by
  cases v <;> first | (cases hb; done) | skip
  rename_i i
  have z : (decide (0 ≤ i) && decide (i < (n : Int))) = true := hb
  simp only [Bool.and_eq_true, decide_eq_true_eq] at z
  exact ⟨i.toNat, by congr 1; omega, by omega⟩
theorem ixN_nat {i n : Nat} (h : i < n) : ixN n (i : Int) = some i := by
  unfold ixN
  rw [if_pos (by omega), if_pos (by omega)]
  simp
/-! ### counts, of houses and then of ties -/
def metV (m : Int) (n : Nat) (cs : List Int) (p : Nat × Nat) (t : Nat) : Int := cby m (cs.getD p.1 0 + cs.getD p.2 0 - cs.getD (n + t) 0)
def metC (m : Int) (n : Nat) (ts : Prs) (cs : List Int) (t : Nat) : List Int := match ts[t]? with
  | some p => ((cs.set p.1 (metV m n cs p t)).set p.2 (metV m n cs p t)).set (n + t) (metV m n cs p t)
  | none => cs
theorem metC_at {m : Int} {n : Nat} {ts : Prs} {cs : List Int} {t : Nat} {p : Nat × Nat} (hp : ts[t]? = some p) : metC m n ts cs t = ((cs.set p.1 (metV m n cs p t)).set p.2 (metV m n cs p t)).set (n + t) (metV m n cs p t) := by unfold metC; rw [hp]
theorem metC_len (m : Int) (n : Nat) (ts : Prs) (cs : List Int) (t : Nat) : (metC m n ts cs t).length = cs.length := by
  unfold metC
  cases ts[t]? with
  | none => rfl
  | some p => simp only [List.length_set]
def runC (m : Int) (n : Nat) (ts : Prs) (cs : List Int) (o : List Nat) : List Int := o.foldl (metC m n ts) cs
theorem runC_snoc (m : Int) (n : Nat) (ts : Prs) (cs : List Int) (o : List Nat) (t : Nat) : runC m n ts cs (o ++ [t]) = metC m n ts (runC m n ts cs o) t := by unfold runC; rw [List.foldl_append]; rfl
theorem runC_len (m : Int) (n : Nat) (ts : Prs) : ∀ (o : List Nat) (cs : List Int), (runC m n ts cs o).length = cs.length
  | [], _ => rfl
  | t :: o, cs => by
    show (runC m n ts (metC m n ts cs t) o).length = cs.length
    rw [runC_len m n ts o, metC_len]
def dlt (N x : Nat) : List Int := (List.range N).map fun i => if i = x then 1 else 0
theorem dlt_len (N x : Nat) : (dlt N x).length = N := by simp [dlt]
structure Cm (mg : Str → Option Value) : Prop where
  mm : ∃ t, mg "MOST_MEETINGS" = some (.int 10000 t)
def spCM (K : PySem.W.Frag) (W C : Addr) : Sp := fun vs H Q E => ∃ (w : Addr) (v : V) (o : Option (List V)) (n : Nat) (ts : Prs), vs = [.ref w, v] ∧ WebAt W H w n ts ∧ Wv n ts ∧ Rw K H v o ∧
  ((seqB o 0 10000 = false ∧ Rz C "at" (.int (-1)) H E) ∨ (∃ (xs : List V) (i : Nat), o = some xs ∧ seqB o 0 10000 = true ∧ fnb xs (ts.length : Int) = .int (i : Nat) ∧ Rz C "at" (.int (i : Nat)) H E) ∨
    ∃ tu, o = some (vn tu) ∧ tu.length ≤ 10000 ∧ (∀ t ∈ tu, t < ts.length) ∧ ∀ p H', Same H H' → H' p = some (.tup (vn tu)) → Q (.ref p) H')
def spOneAt (W : Addr) : Sp := fun vs H Q _ => ∃ (w : Addr) (n : Nat) (ts : Prs) (k : Nat), vs = [.ref w, .int (k : Int)] ∧ WebAt W H w n ts ∧ Wv n ts ∧ ∀ p H', Same H H' → H' p = some (.tup (vrow (dlt (n + ts.length) k))) → Q (.ref p) H'
def spCB (W : Addr) : Sp := fun vs H Q _ => ∃ (w c p : Addr) (m : Int) (n : Nat) (ts : Prs) (cs : List Int) (tu : List Nat), vs = [.ref w, .ref c, .ref p, .int m] ∧ WebAt W H w n ts ∧ Wv n ts ∧ H c = some (.tup (vrow cs)) ∧ cs.length = n + ts.length ∧ H p = some (.tup (vn tu)) ∧ (∀ t ∈ tu, t < ts.length) ∧ 0 ≤ m ∧
  ∀ r H', Same H H' → H' r = some (.tup (vrow (runC m n ts cs tu))) → Q (.ref r) H'
def spParted (W : Addr) : Sp := fun vs H Q _ => ∃ (w c : Addr) (n : Nat) (ts : Prs) (cs : List Int), vs = [.ref w, .ref c] ∧ WebAt W H w n ts ∧ H c = some (.tup (vrow cs)) ∧ n ≤ cs.length ∧
  ∀ r a b H', Same H H' → H' r = some (.tup [.ref a, .ref b]) → H' a = some (.tup (vrow (cs.take n))) → H' b = some (.tup (vrow (cs.drop n))) → Q (.ref r) H'
theorem vrow_take (cs : List Int) (n : Nat) : (vrow cs).take n = vrow (cs.take n) := by unfold vrow; rw [List.map_take]
theorem vrow_drop (cs : List Int) (n : Nat) : (vrow cs).drop n = vrow (cs.drop n) := by unfold vrow; rw [List.map_drop]
section
variable {P : Program} {w : World} {K : PySem.W.Frag} {mg : Str → Option Value} {base : Heap}
theorem scCM : FnScope ["web", "value", "at"] ["web", "value"] (defScope sCheckMeetings) := ⟨rfl, rfl, rfl, by decide +kernel, rfl, by decide +kernel, by decide +kernel⟩
theorem ok_cm {f fS fF W C cI : Addr} {fd fdS fdF : FuncData} {bm : List Value} {ql : Str} (D : Df K mg "check_meetings" sCheckMeetings ["web", "value"] f fd) (DS : Df K mg "is_sequence" sSeq ["value", "least", "most"] fS fdS) (DF : Df K mg "first_not_below" sFnb ["items", "limit"] fF fdF) (B : Bt mg) (c : Cm mg) (T : WcT K mg W) (TX : LAt.Txt K mg "BadSteps" ql bm C cI)
    (GS : FnOk P w K mg base CX0 1 fS fdS ["value", "least", "most"] (spSeq K)) (GF : FnOk P w K mg base CX0 3 fF fdF ["items", "limit"] (spFnb K)) : FnOk P w K mg base (L2.CX P w) 4 f fd ["web", "value"] (spCM K W C) := by
  obtain ⟨t1, hc1⟩ := c.mm
  refine D.F.okX scCM (fun vs H Q E h => ?_) (fun cdv A outer s H vs Q E hr h => ?_)
  · obtain ⟨w, v, o, n, ts, rfl, _⟩ := h
    rfl
  · obtain ⟨w, v, o, n, ts, rfl, hw, hW, hv, q⟩ := h
    refine ⟨_, pss_cons (ps_if (pt_not (pt_val (pc DS GS (hr.mono (by decide)) pass0 (pa_cons (pv 1) (pa_cons pe_int (pa_cons (pe_glob (v := .int 10000) (by rfl) hc1 ⟨_, rfl⟩) pa_nil)))))) (pss_one (ps_raise_LAt rfl TX hr (takes_of rfl rfl rfl rfl) (pa_cons (pe_un un_neg pe_int) pa_nil))) pss_nil)
      (pss_cons (ps_set (i := 2) scCM.nd rfl (.inl rfl) (pc DF GF hr pass0 (pa_cons (pv 1) (pa_cons (pe_callB call_len_seq (by rfl) B.len PySem.boot_len (pa_cons (pe_fld (pv 0) rfl) pa_nil)) pa_nil))))
      (pss_cons (ps_if (pt_cmp (pc_notN (pv 2))) (pss_one (ps_raise_LAt rfl TX hr (takes_of rfl rfl rfl rfl) (pa_cons (pv 2) pa_nil))) pss_nil)
      (pss_one (ps_ret (pe_callTy call_tuple_of (by rfl) B.tuple PyProof.Rows.boot_tuple (pa_cons (pv 1) pa_nil)))))), ?_⟩
    obtain ⟨dx, ta, h1, tas, h2, h3⟩ := id hw
    have el : ((tas.map V.ref).length : Int) = (ts.length : Int) := by rw [List.length_map, h3.1]
    refine ⟨_, rfl, v, o, 0, 10000, rfl, hv.kv, fun H1 s1 => ⟨_, rfl, ?_⟩⟩
    have hw1 := hw.same s1
    rcases q with ⟨e, r⟩ | ⟨xs, i, eo, e, ef, r⟩ | ⟨tu, eo, lt, hlt, q⟩
    · rw [e]
      exact iteT ⟨_, rfl, _, rfl, fun d hd => r d _ (s1.trans (same_new hd)) (s1.free hd) upd_same⟩
    all_goals subst eo
    · rw [e]
      refine iteF (nxP ?_)
      obtain ⟨a, rfl, hS⟩ := hv.kv.seqA
      refine ⟨_, rfl, _, rfl, w, W, dx, _, _, rfl, s1 _ _ h1, T.cl, T.nT, wf_t _ _, ta, _, rfl, .inr (SqT.of (s1 _ _ h2)), ?_⟩
      rw [el]
      refine ⟨a, xs, (ts.length : Int), rfl, hS.same s1, (hv.ks _ rfl).same s1, fun H2 s2 => ?_⟩
      rw [ef]
      refine gn ⟨_, rfl, _, rfl, iteT ⟨_, rfl, _, rfl, fun d hd => r d _ ((s1.trans s2).trans (same_new hd)) ((s1.trans s2).free hd) upd_same⟩⟩
    · have sq : seqB (some (vn tu)) 0 10000 = true := by
        show (decide (0 ≤ ((vn tu).length : Int)) && decide (((vn tu).length : Int) ≤ 10000)) = true
        rw [vn_len, decide_eq_true (by omega), decide_eq_true (by omega)]; rfl
      rw [sq]
      refine iteF (nxP ?_)
      obtain ⟨a, rfl, hS⟩ := hv.kv.seqA
      refine ⟨_, rfl, _, rfl, w, W, dx, _, _, rfl, s1 _ _ h1, T.cl, T.nT, wf_t _ _, ta, _, rfl, .inr (SqT.of (s1 _ _ h2)), ?_⟩
      rw [el]
      refine ⟨a, vn tu, (ts.length : Int), rfl, hS.same s1, (hv.ks _ rfl).same s1, fun H2 s2 => ?_⟩
      have fn : fnb (vn tu) (ts.length : Int) = .non := fnb_none fun j y _ hy => by
        obtain ⟨x, hx, rfl⟩ := at_vn hy
        have := hlt x (List.mem_of_getElem? hx)
        show (decide (0 ≤ (x : Int)) && decide ((x : Int) < (ts.length : Int))) = true
        rw [decide_eq_true (by omega), decide_eq_true (by omega)]; rfl
      rw [fn]
      refine gn ⟨_, rfl, _, rfl, iteF (nxP ?_)⟩
      have s12 := s1.trans s2
      have hS2 := hS.same s12
      refine ⟨_, rfl, a, vn tu, rfl, ?_⟩
      rcases hS2 with h | h
      · exact .inl ⟨SqL.of h, fun l hl => q l _ (s12.trans (same_new hl)) upd_same⟩
      · exact .inr ⟨SqT.of h, q a _ s12 h⟩
abbrev nOA : List Str := ["web", "place", "at"]
theorem scOA : FnScope nOA ["web", "place"] (defScope sOneAt) := ⟨rfl, rfl, rfl, by decide +kernel, rfl, by decide +kernel, by decide +kernel⟩
theorem ok_oneAt {f W : Addr} {fd : FuncData} (D : Df K mg "one_at" sOneAt ["web", "place"] f fd) (B : Bt mg) (T : WcT K mg W) : FnOk P w K mg base CX0 1 f fd ["web", "place"] (spOneAt W) := by
  refine D.F.ok scOA (fun vs H Q E h => ?_) (fun cdv A outer s H vs Q E hr h => ?_)
  · obtain ⟨w, n, ts, k, rfl, _⟩ := h
    rfl
  · obtain ⟨w, n, ts, k, rfl, hw, hW, q⟩ := h
    refine ⟨_, pss_one (ps_ret (pe_callTy call_tuple_of (by rfl) B.tuple PyProof.Rows.boot_tuple (pa_cons (pe_lc (own := [("at", 2)]) (g := gName 2) (tt := tYes) rfl scOA.nd (pi_range1 (by rfl) B.range (pa_cons (pe_op op_add (pe_fld (pv 0) rfl) (pe_callB call_len_seq (by rfl) B.len PySem.boot_len (pa_cons (pe_fld (pv 0) rfl) pa_nil))) pa_nil)) (blkOk_by (N := nOA) (sc := defScope sOneAt) (by decide +kernel)) (fun _ _ _ _ _ => pg_name (i := 2) scOA.nd rfl (.inl rfl)) (fun _ _ _ _ _ => pts_nil)
          (fun _ _ _ _ _ => pe_callTy call_int1 (by rfl) B.int PyProof.Rows.boot_int (pa_cons (pe_cmpR op_eq (pv 2) (pv 1) (nomark _)) pa_nil))) pa_nil))), ?_⟩
    obtain ⟨dxw, tw, w1, tas, w2, w3⟩ := id hw
    have n12 := hW.n12
    have t20 := hW.t20
    have el : ((tas.map V.ref).length : Int) = (ts.length : Int) := by rw [List.length_map, w3.1]
    refine ⟨_, rfl, w, W, dxw, _, _, rfl, w1, T.cl, T.nH, wf_h _ _, _, rfl, w, W, dxw, _, _, rfl, w1, T.cl, T.nT, wf_t _ _, tw, _, rfl, .inr (SqT.of w2), _, _, rfl, rfl, ?_⟩
    rw [el]
    obtain ⟨N, hN, eN⟩ : ∃ N : Nat, (n : Int) + (ts.length : Int) = (N : Int) ∧ N = n + ts.length := ⟨n + ts.length, by omega, rfl⟩
    rw [← eN] at q
    refine ⟨(N : Int), congrArg (fun z => [V.int z]) hN, by omega, by omega, fun D1 hE0 => lc_range (fun j H' => Same H H' ∧ H' D1 = some (.lst (vrow ((dlt N k).take j)))) ⟨same_new hE0, by rw [upd_same]; rfl⟩ ?_ ?_⟩
    · rintro j H2 hj ⟨s2, hD2⟩
      have hj' : j < N := by omega
      refine ⟨rfl, _, rfl, _, rfl, rfl, .inr ⟨_, rfl, _, hD2, szl (by rw [vrow_len, List.length_take, dlt_len]; omega), fun c o e => ?_, ?_⟩⟩
      · rw [upd_ne (ne_of_none e hE0)]
        exact s2 _ _ e
      · have e : (dlt N k)[j]? = some (if j = k then 1 else 0) := rows_at hj'
        rw [upd_same, take_succ e, vrow, vrow, List.map_append]
        congr 4
        by_cases c : j = k
        · rw [if_pos c, if_pos (decide_eq_true (by rw [c, Int.zero_add]))]
        · rw [if_neg c, if_neg (by
            intro z
            have z := of_decide_eq_true z
            injection z with z
            omega)]
    · rintro H2 ⟨s2, hD2⟩
      rw [List.take_of_length_le (by rw [dlt_len]; omega)] at hD2
      exact ⟨D1, _, rfl, .inl ⟨SqL.of hD2, fun l hl => q l _ (s2.trans (same_new hl)) upd_same⟩⟩
abbrev nCB : List Str := ["web", "counts", "meetings", "modulus", "numbers", "tie", "one", "other", "at", "joined"]
theorem scCBh : FnScope nCB ["web", "counts", "meetings", "modulus"] (defScope sCountsBehind) := ⟨rfl, rfl, rfl, by decide +kernel, rfl, by decide +kernel, by decide +kernel⟩
theorem ok_cb {f fC W : Addr} {fd fdC : FuncData} (D : Df K mg "counts_behind" sCountsBehind ["web", "counts", "meetings", "modulus"] f fd) (DC : Df K mg "counted_by" sCBy ["modulus", "number"] fC fdC) (B : Bt mg) (T : WcT K mg W) (GC : FnOk P w K mg base CX0 1 fC fdC ["modulus", "number"] spCBy) : FnOk P w K mg base CX0 2 f fd ["web", "counts", "meetings", "modulus"] (spCB W) := by
  refine D.F.ok scCBh (fun vs H Q E h => ?_) (fun cdv A outer s H vs Q E hr h => ?_)
  · obtain ⟨w, c, p, m, n, ts, cs, tu, rfl, _⟩ := h
    rfl
  · obtain ⟨w, c, p, m, n, ts, cs, tu, rfl, hw, hW, hc, hl, hp, hlt, m0, q⟩ := h
    refine ⟨_, pss_cons (ps_set (i := 4) scCBh.nd rfl (.inl rfl) (pe_callTy call_list_of (by rfl) B.list PyProof.Rows.boot_list (pa_cons (pv 1) pa_nil)))
      (pss_cons (ps_for PassesOwn.never rfl (pi_tup (pv 2)) (pg_name (i := 5) scCBh.nd rfl (.inl rfl))
        (pss_cons (ps_asg (pe_ix ix_tup (pe_fld (pv 0) rfl) (pv 5) (fun _ _ => rfl)) (pg_tup rfl (pgs_cons (pg_name (i := 6) scCBh.nd rfl (.inl rfl)) (pgs_cons (pg_name (i := 7) scCBh.nd rfl (.inl rfl)) pgs_nil))))
        (pss_cons (ps_set (i := 8) scCBh.nd rfl (.inl rfl) (pe_op op_add (pe_fld (pv 0) rfl) (pv 5)))
        (pss_cons (ps_set (i := 9) scCBh.nd rfl (.inl rfl) (pc DC GC hr pass0 (pa_cons (pv 3) (pa_cons (pe_op op_sub (pe_op op_add (pe_ix ix_list (pv 4) (pv 6) (fun _ _ => rfl)) (pe_ix ix_list (pv 4) (pv 7) (fun _ _ => rfl))) (pe_ix ix_list (pv 4) (pv 8) (fun _ _ => rfl))) pa_nil))))
        (pss_one (ps_asg3 (pv 9) (pg_sub (pv 4) (pv 6) set_list) (pg_sub (pv 4) (pv 7) set_list) (pg_sub (pv 4) (pv 8) set_list)))))))
      (pss_one (ps_ret (pe_callTy call_tuple_of (by rfl) B.tuple PyProof.Rows.boot_tuple (pa_cons (pv 4) pa_nil))))), ?_⟩
    refine ⟨_, rfl, c, _, rfl, .inr (SqT.of hc), fun D0 hD0 => ?_⟩
    have s0 := same_new (o := HO.lst (vrow cs)) hD0
    refine gn ?_
    dsimp only [List.set]
    refine ⟨_, rfl, p, rfl, ⟨_, SqT.of (s0 _ _ hp)⟩, for_tup (K := K) (a := p) (xs := vn tu) (fun i σ H' => ∃ (v5 v6 v7 v8 v9 : Option V), σ = [some (.ref w), some (.ref c), some (.ref p), some (.int m), some (.ref D0), v5, v6, v7, v8, v9] ∧ Same H H' ∧ H' D0 = some (.lst (vrow (runC m n ts cs (tu.take i)))))
      ⟨none, none, none, none, none, rfl, s0, upd_same⟩ (fun i σ H' _ ⟨_, _, _, _, _, _, s', _⟩ => SqT.of (s' _ _ hp)) ?_ ?_⟩
    · rintro i x σ H1 hx ⟨v5, v6, v7, v8, v9, rfl, s1, hD⟩
      obtain ⟨t, ht, rfl⟩ := at_vn hx
      have tl := hlt t (List.mem_of_getElem? ht)
      obtain ⟨pr, hpr⟩ := ex_at tl
      obtain ⟨p1, p2, p3⟩ := hW.at_ hpr
      obtain ⟨dxw, tw, w1, tas, w2, w3⟩ := id (hw.same s1)
      obtain ⟨pa, hpa0, hpa⟩ := w3.get hpr
      have hpa' : H1 pa = some (.tup [.int (pr.1 : Int), .int (pr.2 : Int)]) := hpa
      have lr : (runC m n ts cs (tu.take i)).length = n + ts.length := by rw [runC_len, hl]
      have hrun : runC m n ts cs (tu.take (i + 1)) = metC m n ts (runC m n ts cs (tu.take i)) t := by rw [take_succ ht, runC_snoc]
      generalize runC m n ts cs (tu.take i) = xs at hD lr hrun ⊢
      refine ⟨_, rfl, w, W, dxw, _, _, rfl, w1, T.cl, T.nT, wf_t _ _, _, rfl, tw, _, (t : Int), .ref pa, rfl, rfl, SqT.of w2, at_i (map_at hpa0), pa, _, rfl, SqT.of hpa', rfl, _, _, rfl, _, _, rfl, rfl, ?_⟩
      refine ⟨_, rfl, w, W, dxw, _, _, rfl, w1, T.cl, T.nH, wf_h _ _, _, rfl, _, _, rfl, rfl, ?_⟩
      have et : (n : Int) + (t : Int) = ((n + t : Nat) : Int) := by omega
      refine gn ?_
      dsimp only [List.set]
      rw [et]
      refine ⟨_, rfl, _, rfl, _, rfl, D0, _, (pr.1 : Int), .int (xs.getD pr.1 0), rfl, rfl, SqL.of hD, at_i (vrow_get (by omega)), _, rfl, _, rfl, D0, _, (pr.2 : Int), .int (xs.getD pr.2 0), rfl, rfl, SqL.of hD, at_i (vrow_get (by omega)), _, _, rfl, rfl, _, rfl, _, rfl, D0, _, ((n + t : Nat) : Int), .int (xs.getD (n + t) 0), rfl, rfl, SqL.of hD, at_i (vrow_get (by omega)), _, _, rfl, rfl, m, _, rfl, m0, ?_⟩
      refine gn ?_
      dsimp only [List.set]
      have em := metC_at (m := m) (n := n) (cs := xs) hpr
      unfold metV at em
      generalize cby m (xs.getD pr.1 0 + xs.getD pr.2 0 - xs.getD (n + t) 0) = y at em ⊢
      refine ⟨_, rfl, _, rfl, _, rfl, D0, _, (pr.1 : Int), pr.1, rfl, rfl, hD, ixN_nat (by rw [vrow_len]; omega), ?_⟩
      rw [← vrow_set]
      refine ⟨_, rfl, _, rfl, D0, _, (pr.2 : Int), pr.2, rfl, rfl, upd_same, ixN_nat (by rw [vrow_len, List.length_set]; omega), ?_⟩
      rw [← vrow_set]
      refine ⟨_, rfl, _, rfl, D0, _, ((n + t : Nat) : Int), n + t, rfl, rfl, upd_same, ixN_nat (by rw [vrow_len, List.length_set, List.length_set]; omega), ?_⟩
      rw [← vrow_set]
      refine ⟨_, _, _, _, _, rfl, fun c' o e => ?_, by rw [upd_same, hrun, em]⟩
      have nD : c' ≠ D0 := ne_of_none e hD0
      rw [upd_ne nD, upd_ne nD, upd_ne nD]
      exact s1 _ _ e
    · rintro σ H1 ⟨v5, v6, v7, v8, v9, rfl, s1, hD⟩
      rw [vn_len, List.take_of_length_le (Nat.le_refl _)] at hD
      exact ⟨_, rfl, D0, _, rfl, .inl ⟨SqL.of hD, fun l hl => q l _ (s1.trans (same_new hl)) upd_same⟩⟩
theorem scPt : FnScope ["web", "counts"] ["web", "counts"] (defScope sParted) := ⟨rfl, rfl, rfl, by decide +kernel, rfl, by decide +kernel, by decide +kernel⟩
theorem ok_parted {f W : Addr} {fd : FuncData} (D : Df K mg "parted" sParted ["web", "counts"] f fd) (T : WcT K mg W) : FnOk P w K mg base CX0 1 f fd ["web", "counts"] (spParted W) := by
  refine D.F.ok scPt (fun vs H Q E h => ?_) (fun cdv A outer s H vs Q E hr h => ?_)
  · obtain ⟨w, c, n, ts, cs, rfl, _⟩ := h
    rfl
  · obtain ⟨w, c, n, ts, cs, rfl, hw, hc, hn, q⟩ := h
    refine ⟨_, pss_one (ps_ret (pe_tup (pa_cons (pe_slice (slA (K := K) rfl) (pv 1) po_none (po_some (pe_fld (pv 0) rfl))) (pa_cons (pe_slice (slA (K := K) rfl) (pv 1) (po_some (pe_fld (pv 0) rfl)) po_none) pa_nil)))), ?_⟩
    obtain ⟨dxw, tw, w1, tas, w2, w3⟩ := id hw
    refine ⟨_, rfl, noP ⟨_, rfl, w, W, dxw, _, _, rfl, w1, T.cl, T.nH, wf_h _ _, _, rfl, slA_by hc fun a H1 s1 ha => ?_⟩⟩
    rw [cut_to (by rw [vrow_len]; exact hn), vrow_take] at ha
    refine ⟨_, rfl, _, rfl, w, W, dxw, _, _, rfl, s1 _ _ w1, T.cl, T.nH, wf_h _ _, _, rfl, noP (slA_by (s1 _ _ hc) fun b H2 s2 hb => ?_)⟩
    rw [cut_from (by rw [vrow_len]; exact hn), vrow_drop] at hb
    exact ⟨(by show 2 ≤ sizeLine; decide), fun r hr => q r a b _ ((s1.trans s2).trans (same_new hr)) upd_same (same_new hr _ _ (s2 _ _ ha)) (same_new hr _ _ hb)⟩
end
end K1
namespace K1
open PySem PySem.Spec PyProof.Rows L2
/-! ### ways that are gone in meetings -/
abbrev Wy := List Nat
def isL (t : Nat) (w : Wy) : Bool := decide (w.getLast? = some t)
def noL (t : Nat) (w : Wy) : Bool := !isL t w
theorem last_snoc (w : Wy) (t : Nat) : (w ++ [t]).getLast? = some t := by simp
theorem isL_snoc (w : Wy) (t u : Nat) : isL u (w ++ [t]) = decide (t = u) := by
  unfold isL
  rw [last_snoc]
  by_cases c : t = u
  · rw [c]; simp
  · rw [decide_eq_false c, decide_eq_false fun e => c (Option.some.inj e)]
theorem isL_iff {t : Nat} {w : Wy} : isL t w = true ↔ ∃ v, w = v ++ [t] := by
  unfold isL
  rw [decide_eq_true_eq]
  refine ⟨fun e => ?_, fun ⟨v, e⟩ => by rw [e]; exact last_snoc v t⟩
  have ne : w ≠ [] := fun z => by rw [z] at e; cases e
  rw [List.getLast?_eq_some_getLast ne] at e
  have := Option.some.inj e
  exact ⟨w.dropLast, by rw [← this]; exact (List.dropLast_concat_getLast ne).symm⟩
inductive Walk (ts : Prs) (h : Nat) : Wy → Nat → Prop
  | nil : Walk ts h [] h
  | snoc {w : Wy} {y x t : Nat} {p : Nat × Nat} : Walk ts h w y → ts[t]? = some p → w.getLast? ≠ some t → ((y = p.1 ∧ x = p.2) ∨ (y = p.2 ∧ x = p.1)) → Walk ts h (w ++ [t]) x
theorem Walk.inv {ts : Prs} {h : Nat} {w : Wy} {x : Nat} (a : Walk ts h w x) : (w = [] ∧ x = h) ∨ ∃ v y t p, w = v ++ [t] ∧ Walk ts h v y ∧ ts[t]? = some p ∧ v.getLast? ≠ some t ∧ ((y = p.1 ∧ x = p.2) ∨ (y = p.2 ∧ x = p.1)) := by
  cases a with
  | nil => exact .inl ⟨rfl, rfl⟩
  | snoc b c d e => exact .inr ⟨_, _, _, _, rfl, b, c, d, e⟩
theorem Walk.inv2 {ts : Prs} {h : Nat} {v : Wy} {t x : Nat} (a : Walk ts h (v ++ [t]) x) : ∃ y p, Walk ts h v y ∧ ts[t]? = some p ∧ v.getLast? ≠ some t ∧ ((y = p.1 ∧ x = p.2) ∨ (y = p.2 ∧ x = p.1)) := by
  rcases a.inv with ⟨e, _⟩ | ⟨v', y, t', p, e, b, c, d, f⟩
  · exact absurd e (by simp)
  · obtain ⟨e1, e2⟩ := List.append_inj' e rfl
    cases e1
    cases e2
    exact ⟨y, p, b, c, d, f⟩
theorem Walk.uniq {n : Nat} {ts : Prs} (hW : Wv n ts) {h : Nat} {w : Wy} {x : Nat} (a : Walk ts h w x) : ∀ {x' : Nat}, Walk ts h w x' → x = x' := by
  induction a with
  | nil =>
    intro x' b
    rcases b.inv with ⟨_, e⟩ | ⟨v, _, _, _, e, _⟩
    · exact e.symm
    · exact absurd e.symm (by simp)
  | snoc a hp hl hx ih =>
    intro x' b
    obtain ⟨y', p', b1, b2, b3, b4⟩ := b.inv2
    have ey := ih b1
    have ep := Option.some.inj (hp.symm.trans b2)
    subst ey ep
    obtain ⟨_, _, ne⟩ := hW.at_ hp
    rcases hx with ⟨h1, h2⟩ | ⟨h1, h2⟩ <;> rcases b4 with ⟨h3, h4⟩ | ⟨h3, h4⟩
    · rw [h2, h4]
    · exact absurd (h1.symm.trans h3) ne
    · exact absurd (h3.symm.trans h1) ne
    · rw [h2, h4]
theorem sub_snoc {v m : List Nat} {t u : Nat} : (v ++ [t]).Sublist (m ++ [u]) ↔ (v ++ [t]).Sublist m ∨ (t = u ∧ v.Sublist m) := by
  refine ⟨fun h => ?_, fun h => ?_⟩
  · obtain ⟨l1, l2, e, h1, h2⟩ := List.sublist_append_iff.mp h
    cases l2 with
    | nil => rw [List.append_nil] at e; exact .inl (e ▸ h1)
    | cons a r =>
      have hr : r = [] := by
        have := h2.length_le
        simp only [List.length_cons, List.length_nil] at this
        exact List.eq_nil_of_length_eq_zero (by omega)
      subst hr
      obtain ⟨e1, e2⟩ := List.append_inj' e rfl
      cases e2
      have := h2.subset (List.mem_singleton.mpr rfl)
      exact .inr ⟨List.mem_singleton.mp this, e1 ▸ h1⟩
  · rcases h with h | ⟨rfl, h⟩
    · exact h.trans (List.sublist_append_left m [u])
    · exact h.append (List.Sublist.refl _)
theorem sub_of {w m : List Nat} {u : Nat} (h : w.Sublist (m ++ [u])) : w.Sublist m ∨ ∃ v, w = v ++ [u] ∧ v.Sublist m := by
  by_cases e : w = []
  · rw [e]; exact .inl (List.nil_sublist _)
  · have := (List.dropLast_concat_getLast e).symm
    rw [this] at h ⊢
    rcases sub_snoc.mp h with k | ⟨k1, k2⟩
    · exact .inl k
    · exact .inr ⟨_, by rw [k1], k2⟩
end K1
namespace K1
open PySem PySem.Spec PyProof.Rows L2
/-- the program's standing: by house the ways to it, by tie how many ways of its two houses have gone on over it -/
structure WSt where
  ways : Nat → List Wy
  pa : Nat → Nat
  pb : Nat → Nat
def gon (t : Nat) (ws : List Wy) : List Wy := (ws.filter (noL t)).map (· ++ [t])
def wext (S : WSt) (t : Nat) (p : Nat × Nat) (x : Nat) : List Wy := if x = p.1 then gon t ((S.ways p.2).drop (S.pb t)) else if x = p.2 then gon t ((S.ways p.1).drop (S.pa t)) else []
def wput (S : WSt) (t : Nat) (p : Nat × Nat) : WSt := ⟨fun x => S.ways x ++ wext S t p x, fun u => if u = t then (S.ways p.1).length else S.pa u, fun u => if u = t then (S.ways p.2).length else S.pb u⟩
def wstep (ts : Prs) (S : WSt) (t : Nat) : WSt := match ts[t]? with
  | some p => wput S t p
  | none => S
def wst0 (h : Nat) : WSt := ⟨fun x => if x = h then [[]] else [], fun _ => 0, fun _ => 0⟩
def wrun (ts : Prs) (h : Nat) (m : List Nat) : WSt := m.foldl (wstep ts) (wst0 h)
theorem gon_mem {t : Nat} {ws : List Wy} {w : Wy} : w ∈ gon t ws ↔ ∃ v, v ∈ ws ∧ v.getLast? ≠ some t ∧ w = v ++ [t] := by
  unfold gon
  simp only [List.mem_map, List.mem_filter, noL, isL, Bool.not_eq_true', decide_eq_false_iff_not]
  refine ⟨fun ⟨v, ⟨a, b⟩, c⟩ => ⟨v, a, b, c.symm⟩, fun ⟨v, a, b, c⟩ => ⟨v, ⟨a, b⟩, c.symm⟩⟩
theorem gon_app (t : Nat) (a b : List Wy) : gon t (a ++ b) = gon t a ++ gon t b := by unfold gon; rw [List.filter_append, List.map_append]
theorem gon_isL (t u : Nat) (ws : List Wy) : (gon t ws).filter (isL u) = if t = u then gon t ws else [] := by
  by_cases c : t = u
  · rw [if_pos c]
    refine List.filter_eq_self.mpr fun w hw => ?_
    obtain ⟨v, _, _, rfl⟩ := gon_mem.mp hw
    rw [isL_snoc, c]; simp
  · rw [if_neg c]
    refine List.filter_eq_nil_iff.mpr fun w hw => ?_
    obtain ⟨v, _, _, rfl⟩ := gon_mem.mp hw
    rw [isL_snoc, decide_eq_false c]; simp
theorem wext_isL (S : WSt) (t u : Nat) (p : Nat × Nat) (x : Nat) : (wext S t p x).filter (isL u) = if t = u then wext S t p x else [] := by
  unfold wext
  split
  · exact gon_isL _ _ _
  · split
    · exact gon_isL _ _ _
    · split <;> rfl
structure WI (n : Nat) (ts : Prs) (h : Nat) (m : List Nat) (S : WSt) : Prop where
  nd : ∀ x, (S.ways x).Nodup
  la : ∀ (t : Nat) (p : Nat × Nat), ts[t]? = some p → S.pa t ≤ (S.ways p.1).length ∧ S.pb t ≤ (S.ways p.2).length
  eA : ∀ (t : Nat) (p : Nat × Nat), ts[t]? = some p → (S.ways p.2).filter (isL t) = gon t ((S.ways p.1).take (S.pa t))
  eB : ∀ (t : Nat) (p : Nat × Nat), ts[t]? = some p → (S.ways p.1).filter (isL t) = gon t ((S.ways p.2).take (S.pb t))
  mem : ∀ w x, w ∈ S.ways x ↔ Walk ts h w x ∧ w.Sublist m
theorem wi0 {n : Nat} (ts : Prs) (h : Nat) : WI n ts h [] (wst0 h) := by
  have fz : ∀ t x, ((wst0 h).ways x).filter (isL t) = [] := fun t x => by
    show (if x = h then [[]] else []).filter (isL t) = []
    split <;> rfl
  refine ⟨fun x => ?_, fun t p _ => ⟨Nat.zero_le _, Nat.zero_le _⟩, fun t p _ => by rw [fz]; rfl, fun t p _ => by rw [fz]; rfl, fun w x => ?_⟩
  · show (if x = h then [[]] else [] : List Wy).Nodup
    split <;> simp
  · show w ∈ (if x = h then [[]] else [] : List Wy) ↔ _
    refine ⟨fun a => ?_, fun ⟨a, b⟩ => ?_⟩
    · split at a
      · rename_i e
        rw [List.mem_singleton.mp a, e]
        exact ⟨.nil, List.Sublist.refl _⟩
      · cases a
    · have ew : w = [] := List.sublist_nil.mp b
      subst ew
      rcases a.inv with ⟨_, e⟩ | ⟨v, _, _, _, e, _⟩
      · rw [if_pos e]; exact List.mem_singleton.mpr rfl
      · exact absurd e.symm (by simp)
theorem WI.step {n : Nat} {ts : Prs} (hW : Wv n ts) {h : Nat} {m : List Nat} {S : WSt} (I : WI n ts h m S) (t : Nat) : WI n ts h (m ++ [t]) (wstep ts S t) := by
  unfold wstep
  cases hp : ts[t]? with
  | none =>
    refine ⟨I.nd, I.la, I.eA, I.eB, fun w x => ?_⟩
    rw [I.mem]
    refine ⟨fun ⟨a, b⟩ => ⟨a, b.trans (List.sublist_append_left _ _)⟩, fun ⟨a, b⟩ => ⟨a, ?_⟩⟩
    rcases sub_of b with k | ⟨v, rfl, k⟩
    · exact k
    · obtain ⟨y, p, _, e, _⟩ := a.inv2
      rw [hp] at e
      cases e
  | some p =>
    obtain ⟨p1, p2, pn⟩ := hW.at_ hp
    have ex1 : wext S t p p.1 = gon t ((S.ways p.2).drop (S.pb t)) := by unfold wext; rw [if_pos rfl]
    have ex2 : wext S t p p.2 = gon t ((S.ways p.1).drop (S.pa t)) := by unfold wext; rw [if_neg (fun e => pn e.symm), if_pos rfl]
    have tk : ∀ x k, k ≤ (S.ways x).length → (S.ways x ++ wext S t p x).take k = (S.ways x).take k := fun x k hk => List.take_append_of_le_length hk
    have ndg : ∀ x k u, (gon u ((S.ways x).drop k)).Nodup := fun x k u => by
      unfold gon
      exact List.pairwise_map.mpr ((((I.nd x).sublist (List.drop_sublist _ _)).filter _).imp fun ne e => ne (List.append_inj' e rfl).1)
    have dis : ∀ x k v, v ∈ (S.ways x).take k → v ∈ (S.ways x).drop k → False := fun x k v h1 h2 => by
      have := I.nd x
      rw [← List.take_append_drop k (S.ways x)] at this
      exact (List.nodup_append.mp this).2.2 v h1 v h2 rfl
    refine ⟨fun x => ?_, fun u q hq => ?_, fun u q hq => ?_, fun u q hq => ?_, fun w x => ?_⟩
    · show (S.ways x ++ wext S t p x).Nodup
      refine List.nodup_append.mpr ⟨I.nd x, ?_, fun a ha b hb e => ?_⟩
      · unfold wext
        split
        · exact ndg _ _ _
        · split
          · exact ndg _ _ _
          · simp
      · subst e
        unfold wext at hb
        split at hb
        · rename_i e
          subst e
          obtain ⟨v, hv, hl, rfl⟩ := gon_mem.mp hb
          have : v ++ [t] ∈ (S.ways p.1).filter (isL t) := List.mem_filter.mpr ⟨ha, isL_iff.mpr ⟨v, rfl⟩⟩
          rw [I.eB t p hp] at this
          obtain ⟨v', hv', _, e⟩ := gon_mem.mp this
          rw [(List.append_inj' e rfl).1] at hv
          exact dis _ _ _ hv' hv
        · split at hb
          · rename_i e
            subst e
            obtain ⟨v, hv, hl, rfl⟩ := gon_mem.mp hb
            have : v ++ [t] ∈ (S.ways p.2).filter (isL t) := List.mem_filter.mpr ⟨ha, isL_iff.mpr ⟨v, rfl⟩⟩
            rw [I.eA t p hp] at this
            obtain ⟨v', hv', _, e⟩ := gon_mem.mp this
            rw [(List.append_inj' e rfl).1] at hv
            exact dis _ _ _ hv' hv
          · cases hb
    · obtain ⟨a, b⟩ := I.la u q hq
      show (if u = t then (S.ways p.1).length else S.pa u) ≤ (S.ways q.1 ++ wext S t p q.1).length ∧ (if u = t then (S.ways p.2).length else S.pb u) ≤ (S.ways q.2 ++ wext S t p q.2).length
      rw [List.length_append, List.length_append]
      by_cases c : u = t
      · subst c
        obtain rfl := lookup_same hp hq
        rw [if_pos rfl, if_pos rfl]
        omega
      · rw [if_neg c, if_neg c]
        omega
    · show (S.ways q.2 ++ wext S t p q.2).filter (isL u) = gon u ((S.ways q.1 ++ wext S t p q.1).take (if u = t then (S.ways p.1).length else S.pa u))
      rw [List.filter_append, wext_isL, I.eA u q hq]
      by_cases c : u = t
      · subst c
        obtain rfl := lookup_same hp hq
        rw [if_pos rfl, if_pos rfl, tk _ _ (Nat.le_refl _), List.take_length, ex2, ← gon_app, List.take_append_drop]
      · rw [if_neg (fun e => c e.symm), if_neg c, List.append_nil, tk _ _ (I.la u q hq).1]
    · show (S.ways q.1 ++ wext S t p q.1).filter (isL u) = gon u ((S.ways q.2 ++ wext S t p q.2).take (if u = t then (S.ways p.2).length else S.pb u))
      rw [List.filter_append, wext_isL, I.eB u q hq]
      by_cases c : u = t
      · subst c
        obtain rfl := lookup_same hp hq
        rw [if_pos rfl, if_pos rfl, tk _ _ (Nat.le_refl _), List.take_length, ex1, ← gon_app, List.take_append_drop]
      · rw [if_neg (fun e => c e.symm), if_neg c, List.append_nil, tk _ _ (I.la u q hq).2]
    · show w ∈ S.ways x ++ wext S t p x ↔ _
      rw [List.mem_append]
      refine ⟨fun a => ?_, fun ⟨a, b⟩ => ?_⟩
      · rcases a with a | a
        · obtain ⟨b, c⟩ := (I.mem w x).mp a
          exact ⟨b, c.trans (List.sublist_append_left _ _)⟩
        · unfold wext at a
          split at a
          · rename_i e
            obtain ⟨v, hv, hl, rfl⟩ := gon_mem.mp a
            obtain ⟨b, c⟩ := (I.mem v p.2).mp (List.mem_of_mem_drop hv)
            exact ⟨.snoc b hp hl (.inr ⟨rfl, e⟩), sub_snoc.mpr (.inr ⟨rfl, c⟩)⟩
          · split at a
            · rename_i e
              obtain ⟨v, hv, hl, rfl⟩ := gon_mem.mp a
              obtain ⟨b, c⟩ := (I.mem v p.1).mp (List.mem_of_mem_drop hv)
              exact ⟨.snoc b hp hl (.inl ⟨rfl, e⟩), sub_snoc.mpr (.inr ⟨rfl, c⟩)⟩
            · cases a
      · rcases sub_of b with k | ⟨v, rfl, k⟩
        · exact .inl ((I.mem w x).mpr ⟨a, k⟩)
        · obtain ⟨y, q, a1, a2, a3, a4⟩ := a.inv2
          obtain rfl := lookup_same hp a2
          have hv := (I.mem v y).mpr ⟨a1, k⟩
          rcases a4 with ⟨rfl, rfl⟩ | ⟨rfl, rfl⟩
          · rw [← List.take_append_drop (S.pa t) (S.ways p.1)] at hv
            rcases List.mem_append.mp hv with z | z
            · have : v ++ [t] ∈ (S.ways p.2).filter (isL t) := by rw [I.eA t p hp]; exact gon_mem.mpr ⟨v, z, a3, rfl⟩
              exact .inl (List.mem_filter.mp this).1
            · exact .inr (by rw [ex2]; exact gon_mem.mpr ⟨v, z, a3, rfl⟩)
          · rw [← List.take_append_drop (S.pb t) (S.ways p.2)] at hv
            rcases List.mem_append.mp hv with z | z
            · have : v ++ [t] ∈ (S.ways p.1).filter (isL t) := by rw [I.eB t p hp]; exact gon_mem.mpr ⟨v, z, a3, rfl⟩
              exact .inl (List.mem_filter.mp this).1
            · exact .inr (by rw [ex1]; exact gon_mem.mpr ⟨v, z, a3, rfl⟩)
end K1
namespace ZM
open PySem PySem.Spec PyProof.Rows L2
theorem lc_zipM {K : PySem.W.Frag} {t1 t2 : Bool} {a b : Addr} {xs ys : List V} {g : TG} {tt : TT} {te : TE} {vs : List Nat} {σ : L2.St} {H1 : Hp} {D : Addr} {Qd : Hp → Prop} (hl : xs.length = ys.length) (Pv : Nat → Hp → Prop) (h0 : Pv 0 (upd H1 D (.lst []))) (hq : ∀ i H, i ≤ xs.length → Pv i H → Sq t1 K H a xs ∧ Sq t2 K H b ys)
    (hs : ∀ i x y T H, xs[i]? = some x → ys[i]? = some y → H T = none → Pv i H → g (.ref T) (wipe σ vs) (upd H T (.tup [x, y])) fun σ2 H2 => wipe σ2 vs = wipe σ vs ∧ tt σ2 H2 fun b H3 =>
      if b = true then te σ2 H3 fun y H4 => ∃ acc, H4 D = some (.lst acc) ∧ acc.length < sizeLine ∧ Pv (i + 1) (upd H4 D (.lst (acc ++ [y]))) else Pv (i + 1) H3) (hd : ∀ H, Pv xs.length H → Qd H) :
    ∃ W : Nat → Nat → Hp → Prop, (∃ m, W 0 m (upd H1 D (.lst []))) ∧ ∀ i m H, W i m H →
      ((ItzM K t1 t2 a b).stop i H ∧ Qd H) ∨ ((ItzM K t1 t2 a b).go i H ∧ ∃ Nx : Hp → Prop, (∀ H', Nx H' → ∃ m', m' < m ∧ W (i + 1) m' H') ∧ ∀ x H', (ItzM K t1 t2 a b).yld i H x H' → g x (wipe σ vs) H' fun σ2 H2 => wipe σ2 vs = wipe σ vs ∧ tt σ2 H2 fun b H3 =>
        if b = true then te σ2 H3 fun y H4 => ∃ acc, H4 D = some (.lst acc) ∧ acc.length < sizeLine ∧ Nx (upd H4 D (.lst (acc ++ [y]))) else Nx H3) := by
  refine ⟨fun i m H => m = xs.length - i ∧ i ≤ xs.length ∧ Pv i H, ⟨xs.length, by simp, Nat.zero_le _, h0⟩, ?_⟩
  rintro i m H ⟨rfl, hi, p⟩
  obtain ⟨q1, q2⟩ := hq i H hi p
  by_cases hlt : i < xs.length
  · have hlt2 : i < ys.length := by omega
    refine .inr ⟨⟨xs, ys, _, _, q1, q2, List.getElem?_eq_getElem hlt, List.getElem?_eq_getElem hlt2⟩, Pv (i + 1), fun H' p' => ⟨xs.length - (i + 1), by omega, rfl, hlt, p'⟩, fun x H' y => ?_⟩
    obtain ⟨T, x', y', e1, e2, e3, e4, e5⟩ := y
    subst e1 e3
    exact hs i x' y' T H (e4 xs q1) (e5 ys q2) e2 p
  · have e : i = xs.length := by omega
    subst e
    exact .inl ⟨⟨xs, ys, q1, q2, Nat.le_refl _, by omega, .inl rfl⟩, hd H p⟩
end ZM
namespace K1
open PySem PySem.Spec PyProof.Rows L2
theorem map_getD {n x : Nat} {f : Nat → Int} : ((List.range n).map f).getD x 0 = if x < n then f x else 0 := by
  rw [List.getD_eq_getElem?_getD, List.getElem?_map]
  by_cases h : x < n
  · rw [List.getElem?_range h, if_pos h]; rfl
  · rw [List.getElem?_eq_none (by rw [List.length_range]; omega), if_neg h]; rfl
def lin (N : Nat) (c f : Nat → Int) : Int := ((List.range N).map fun i => c i * f i).sum
theorem lin_succ (N : Nat) (c f : Nat → Int) : lin (N + 1) c f = lin N c f + c N * f N := by
  unfold lin
  rw [List.range_succ, List.map_append, List.sum_append]
  simp
theorem lin_cong {N : Nat} {c f g : Nat → Int} (h : ∀ i, i < N → f i = g i) : lin N c f = lin N c g := by
  unfold lin
  rw [List.map_congr_left fun i hi => by rw [h i (List.mem_range.mp hi)]]
theorem lin_unit {N x : Nat} (c : Nat → Int) (hx : x < N) : lin N c (fun i => if x = i then 1 else 0) = c x := by
  induction N with
  | zero => omega
  | succ N ih =>
    rw [lin_succ]
    by_cases e : x = N
    · subst e
      have : lin x c (fun i => if x = i then 1 else 0) = 0 := by
        have : ∀ M, M ≤ x → lin M c (fun i => if x = i then 1 else 0) = 0 := fun M => by
          induction M with
          | zero => intro _; rfl
          | succ M ih2 => intro h; rw [lin_succ, ih2 (by omega), if_neg (by omega)]; simp
        exact this x (Nat.le_refl _)
      rw [this, if_pos rfl]; omega
    · rw [ih (by omega), if_neg e]; omega
theorem lin_met (N : Nat) (c f g h : Nat → Int) : lin N c (fun i => f i + g i - h i) = lin N c f + lin N c g - lin N c h := by
  induction N with
  | zero => rfl
  | succ N ih =>
    simp only [lin_succ, ih]
    have : c N * (f N + g N - h N) = c N * f N + c N * g N - c N * h N := by rw [Int.mul_sub, Int.mul_add]
    omega
abbrev Rws := List (List Int)
def RwsA (H : Hp) (as : List Addr) (rs : Rws) : Prop := as.length = rs.length ∧ ∀ (i : Nat) a r, as[i]? = some a → rs[i]? = some r → H a = some (.tup (vrow r))
theorem RwsA.same {H H' : Hp} {as : List Addr} {rs : Rws} (h : RwsA H as rs) (s : Same H H') : RwsA H' as rs := ⟨h.1, fun i a t e1 e2 => s _ _ (h.2 i a t e1 e2)⟩
theorem RwsA.kp {H H' : Hp} {as : List Addr} {rs : Rws} (h : RwsA H as rs) (k : ∀ a xs, H a = some (.tup xs) → H' a = some (.tup xs)) : RwsA H' as rs := ⟨h.1, fun i a t e1 e2 => k _ _ (h.2 i a t e1 e2)⟩
theorem RwsA.get {H : Hp} {as : List Addr} {rs : Rws} (h : RwsA H as rs) {i : Nat} {r : List Int} (e : rs[i]? = some r) : ∃ a, as[i]? = some a ∧ H a = some (.tup (vrow r)) := by
  obtain ⟨a, ha⟩ := ex_at (l := as) (i := i) (by rw [h.1]; exact lt_at e)
  exact ⟨a, ha, h.2 i a r ha e⟩
theorem refs_set (as : List Addr) (i : Nat) (a : Addr) : (as.set i a).map V.ref = (as.map V.ref).set i (.ref a) := by rw [List.map_set]
/-! ### counts are sums of what each count alone becomes -/
theorem dlt_getD (N x i : Nat) : (dlt N x).getD i 0 = if i < N then (if i = x then 1 else 0) else 0 := map_getD
theorem set_getD {xs : List Int} {i j : Nat} {v : Int} (h : i < xs.length) : (xs.set i v).getD j 0 = if j = i then v else xs.getD j 0 := by
  rw [List.getD_eq_getElem?_getD, List.getD_eq_getElem?_getD, List.getElem?_set]
  by_cases c : i = j
  · rw [if_pos c, if_pos h, if_pos c.symm]; rfl
  · rw [if_neg c, if_neg fun z => c z.symm]
theorem metC_getD {m : Int} {n : Nat} {ts : Prs} {cs : List Int} {t : Nat} {p : Nat × Nat} (hW : Wv n ts) (hl : cs.length = n + ts.length) (hp : ts[t]? = some p) (i : Nat) : (metC m n ts cs t).getD i 0 = if i = p.1 ∨ i = p.2 ∨ i = n + t then metV m n cs p t else cs.getD i 0 := by
  obtain ⟨p1, p2, _⟩ := hW.at_ hp
  have tl := lt_at hp
  rw [metC_at hp, set_getD (by rw [List.length_set, List.length_set]; omega), set_getD (by rw [List.length_set]; omega), set_getD (by omega)]
  by_cases c1 : i = n + t
  · rw [if_pos c1, if_pos (.inr (.inr c1))]
  · rw [if_neg c1]
    by_cases c2 : i = p.2
    · rw [if_pos c2, if_pos (.inr (.inl c2))]
    · rw [if_neg c2]
      by_cases c3 : i = p.1
      · rw [if_pos c3, if_pos (.inl c3)]
      · rw [if_neg c3, if_neg (by omega)]
/-- what of xs becomes of the counts that the images are of each alone -/
def mo (N : Nat) (xs : List Int) (col : Nat → List Int) (i : Nat) : Int := lin N (fun j => xs.getD j 0) fun j => (col j).getD i 0
theorem run_mo {n : Nat} {ts : Prs} (hW : Wv n ts) {xs : List Int} (hl : xs.length = n + ts.length) : ∀ (o : List Nat) (i : Nat), i < n + ts.length → (runC 0 n ts xs o).getD i 0 = mo (n + ts.length) xs (fun j => runC 0 n ts (dlt (n + ts.length) j) o) i := fun o => by
  have base0 : ∀ i, i < n + ts.length → (runC 0 n ts xs []).getD i 0 = mo (n + ts.length) xs (fun j => runC 0 n ts (dlt (n + ts.length) j) []) i := fun i hi => by
    show xs.getD i 0 = lin _ _ fun j => (dlt (n + ts.length) j).getD i 0
    rw [lin_cong (g := fun j => if i = j then 1 else 0) fun j hj => by rw [dlt_getD, if_pos hi]]
    exact (lin_unit (fun j => xs.getD j 0) hi).symm
  have step0 : ∀ (o : List Nat) (t : Nat), (∀ i, i < n + ts.length → (runC 0 n ts xs o).getD i 0 = mo (n + ts.length) xs (fun j => runC 0 n ts (dlt (n + ts.length) j) o) i) → ∀ i, i < n + ts.length → (runC 0 n ts xs (o ++ [t])).getD i 0 = mo (n + ts.length) xs (fun j => runC 0 n ts (dlt (n + ts.length) j) (o ++ [t])) i := fun o t ih i hi => by
    unfold mo
    rw [runC_snoc, lin_cong (g := fun j => (metC 0 n ts (runC 0 n ts (dlt (n + ts.length) j) o) t).getD i 0) fun j _ => by show (runC 0 n ts (dlt (n + ts.length) j) (o ++ [t])).getD i 0 = _; rw [runC_snoc]]
    cases hp : ts[t]? with
    | none =>
      have e : ∀ cs, metC 0 n ts cs t = cs := fun cs => by unfold metC; rw [hp]
      simp only [e]
      exact ih i hi
    | some p =>
      obtain ⟨p1, p2, _⟩ := hW.at_ hp
      have tl := lt_at hp
      have ll : (runC 0 n ts xs o).length = n + ts.length := by rw [runC_len, hl]
      rw [metC_getD hW ll hp, lin_cong (g := fun j => if i = p.1 ∨ i = p.2 ∨ i = n + t then metV 0 n (runC 0 n ts (dlt (n + ts.length) j) o) p t else (runC 0 n ts (dlt (n + ts.length) j) o).getD i 0) fun j _ => metC_getD hW (by rw [runC_len, dlt_len]) hp i]
      by_cases c : i = p.1 ∨ i = p.2 ∨ i = n + t
      · rw [if_pos c]
        simp only [if_pos c]
        have e : ∀ cs, metV 0 n cs p t = cs.getD p.1 0 + cs.getD p.2 0 - cs.getD (n + t) 0 := fun cs => by unfold metV cby; rw [if_pos rfl]
        simp only [e]
        rw [lin_met, ih p.1 (by omega), ih p.2 (by omega), ih (n + t) (by omega)]
        rfl
      · rw [if_neg c]
        simp only [if_neg c]
        exact ih i hi
  have key : ∀ (k : Nat) (o : List Nat), o.length = k → ∀ i, i < n + ts.length → (runC 0 n ts xs o).getD i 0 = mo (n + ts.length) xs (fun j => runC 0 n ts (dlt (n + ts.length) j) o) i := fun k => by
    induction k with
    | zero =>
      intro o ho i hi
      obtain rfl := List.length_eq_zero_iff.mp ho
      exact base0 i hi
    | succ k ih =>
      intro o ho i hi
      have ne : o ≠ [] := fun z => by rw [z] at ho; cases ho
      obtain ⟨o', t, rfl⟩ : ∃ o' t, o = o' ++ [t] := ⟨o.dropLast, o.getLast ne, (List.dropLast_concat_getLast ne).symm⟩
      rw [List.length_append] at ho
      exact step0 o' t (ih o' (by simp only [List.length_cons, List.length_nil] at ho; omega)) i hi
  exact key o.length o rfl
/-- alike, counted by m -/
def Cg (m : Int) (xs ys : List Int) : Prop := xs.length = ys.length ∧ ∀ i, xs.getD i 0 % m = ys.getD i 0 % m
theorem Cg.rfl' {m : Int} {xs : List Int} : Cg m xs xs := ⟨rfl, fun _ => rfl⟩
theorem Cg.sym {m : Int} {xs ys : List Int} (h : Cg m xs ys) : Cg m ys xs := ⟨h.1.symm, fun i => (h.2 i).symm⟩
theorem Cg.trans {m : Int} {xs ys zs : List Int} (h : Cg m xs ys) (k : Cg m ys zs) : Cg m xs zs := ⟨h.1.trans k.1, fun i => (h.2 i).trans (k.2 i)⟩
def red (m : Int) (xs : List Int) : List Int := xs.map fun x => x % m
theorem red_len (m : Int) (xs : List Int) : (red m xs).length = xs.length := List.length_map _
theorem red_getD {m : Int} {xs : List Int} (i : Nat) : (red m xs).getD i 0 = xs.getD i 0 % m := by
  unfold red
  rw [List.getD_eq_getElem?_getD, List.getD_eq_getElem?_getD, List.getElem?_map]
  cases xs[i]? with
  | none => exact (Int.zero_emod m).symm
  | some x => rfl
theorem red_cg {m : Int} {xs : List Int} : Cg m (red m xs) xs := ⟨red_len m xs, fun i => by rw [red_getD, Int.emod_emod]⟩
theorem getD_ext {xs ys : List Int} (hl : xs.length = ys.length) (h : ∀ i, i < xs.length → xs.getD i 0 = ys.getD i 0) : xs = ys := by
  refine List.ext_getElem? fun i => ?_
  by_cases c : i < xs.length
  · have := h i c
    rw [List.getD_eq_getElem?_getD, List.getD_eq_getElem?_getD, List.getElem?_eq_getElem c, List.getElem?_eq_getElem (hl ▸ c)] at this
    rw [List.getElem?_eq_getElem c, List.getElem?_eq_getElem (hl ▸ c)]
    exact congrArg some this
  · rw [List.getElem?_eq_none (by omega), List.getElem?_eq_none (by omega)]
theorem cg_red {m : Int} {xs ys : List Int} (h : Cg m xs ys) : red m xs = red m ys := getD_ext (by rw [red_len, red_len]; exact h.1) fun i _ => by rw [red_getD, red_getD]; exact h.2 i
theorem metC_cg {m k : Int} {n : Nat} {ts : Prs} (hW : Wv n ts) {xs ys : List Int} (hl : xs.length = n + ts.length) (hk : k = 0 ∨ k = m) (m0 : m ≠ 0) (h : Cg m xs ys) (t : Nat) : Cg m (metC k n ts xs t) (metC 0 n ts ys t) := by
  refine ⟨by rw [metC_len, metC_len]; exact h.1, fun i => ?_⟩
  cases hp : ts[t]? with
  | none =>
    have e : ∀ k cs, metC k n ts cs t = cs := fun k cs => by unfold metC; rw [hp]
    rw [e, e]
    exact h.2 i
  | some p =>
    rw [metC_getD hW hl hp, metC_getD hW (h.1 ▸ hl) hp]
    by_cases c : i = p.1 ∨ i = p.2 ∨ i = n + t
    · rw [if_pos c, if_pos c]
      have key : (xs.getD p.1 0 + xs.getD p.2 0 - xs.getD (n + t) 0) % m = (ys.getD p.1 0 + ys.getD p.2 0 - ys.getD (n + t) 0) % m := by
        rw [Int.sub_emod, Int.add_emod, h.2 p.1, h.2 p.2, h.2 (n + t), ← Int.add_emod, ← Int.sub_emod]
      unfold metV cby
      rw [if_pos rfl]
      rcases hk with rfl | rfl
      · rw [if_pos rfl]; exact key
      · rw [if_neg m0, Int.emod_emod]; exact key
    · rw [if_neg c, if_neg c]
      exact h.2 i
theorem runC_cg {m k : Int} {n : Nat} {ts : Prs} (hW : Wv n ts) (hk : k = 0 ∨ k = m) (m0 : m ≠ 0) : ∀ (o : List Nat) {xs ys : List Int}, xs.length = n + ts.length → Cg m xs ys → Cg m (runC k n ts xs o) (runC 0 n ts ys o)
  | [], _, _, _, h => h
  | t :: o, xs, ys, hl, h => runC_cg hW hk m0 o (by rw [metC_len]; exact hl) (metC_cg hW hl hk m0 h t)
theorem lin_cg {m : Int} (N : Nat) {c d f g : Nat → Int} (h1 : ∀ i, i < N → c i % m = d i % m) (h2 : ∀ i, i < N → f i % m = g i % m) : lin N c f % m = lin N d g % m := by
  induction N with
  | zero => rfl
  | succ N ih =>
    rw [lin_succ, lin_succ, Int.add_emod, Int.mul_emod, ih (fun i hi => h1 i (by omega)) (fun i hi => h2 i (by omega)), h1 N (by omega), h2 N (by omega), ← Int.mul_emod, ← Int.add_emod]
/-- the meetings of so many rounds -/
def rep (k : Nat) (tu : List Nat) : List Nat := (List.replicate k tu).flatten
theorem rep_add (a b : Nat) (tu : List Nat) : rep (a + b) tu = rep a tu ++ rep b tu := by unfold rep; rw [← List.replicate_append_replicate, List.flatten_append]
theorem rep_one (tu : List Nat) : rep 1 tu = tu := by unfold rep; simp
theorem rep_zero (tu : List Nat) : rep 0 tu = [] := rfl
theorem runC_app (m : Int) (n : Nat) (ts : Prs) (cs : List Int) (a b : List Nat) : runC m n ts cs (a ++ b) = runC m n ts (runC m n ts cs a) b := by unfold runC; rw [List.foldl_append]
end K1
namespace K1
open PySem PySem.Spec PyProof.Rows L2
theorem gon_len (t : Nat) (ws : List Wy) : (gon t ws).length + (ws.filter (isL t)).length = ws.length := by
  unfold gon
  rw [List.length_map]
  induction ws with
  | nil => rfl
  | cons a r ih =>
    cases e : isL t a with
    | true =>
      rw [List.filter_cons_of_neg (by unfold noL; rw [e]; decide), List.filter_cons_of_pos e, List.length_cons, List.length_cons]
      omega
    | false =>
      rw [List.filter_cons_of_pos (by unfold noL; rw [e]; rfl), List.filter_cons_of_neg (by rw [e]; decide), List.length_cons, List.length_cons]
      omega
/-- counts tell how many ways there are -/
structure CI (n : Nat) (ts : Prs) (cs : List Int) (S : WSt) : Prop where
  ln : cs.length = n + ts.length
  ho : ∀ x, x < n → cs.getD x 0 = ((S.ways x).length : Int)
  ti : ∀ (t : Nat) (p : Nat × Nat), ts[t]? = some p → cs.getD (n + t) 0 = (((S.ways p.1).filter (isL t)).length + ((S.ways p.2).filter (isL t)).length : Int)
theorem ci0 {n : Nat} (ts : Prs) (h : Nat) : CI n ts (dlt (n + ts.length) h) (wst0 h) ∨ n ≤ h := by
  by_cases hn : h < n
  · refine .inl ⟨dlt_len _ _, fun x hx => ?_, fun t p hp => ?_⟩
    · rw [dlt_getD, if_pos (by omega)]
      show _ = ((if x = h then [[]] else [] : List Wy).length : Int)
      split <;> rfl
    · have := lt_at hp
      rw [dlt_getD, if_pos (by omega), if_neg (by omega)]
      have fz : ∀ x, ((wst0 h).ways x).filter (isL t) = [] := fun x => by
        show (if x = h then [[]] else []).filter (isL t) = []
        split <;> rfl
      rw [fz, fz]; rfl
  · exact .inr (by omega)
theorem CI.step {n : Nat} {ts : Prs} (hW : Wv n ts) {h : Nat} {m : List Nat} {S : WSt} (I : WI n ts h m S) {cs : List Int} (C : CI n ts cs S) (t : Nat) : CI n ts (metC 0 n ts cs t) (wstep ts S t) := by
  unfold wstep
  cases hp : ts[t]? with
  | none =>
    have e : metC 0 n ts cs t = cs := by unfold metC; rw [hp]
    rw [e]
    exact C
  | some p =>
    obtain ⟨p1, p2, pn⟩ := hW.at_ hp
    have gd := metC_getD (m := 0) hW C.ln hp
    have ev : metV 0 n cs p t = cs.getD p.1 0 + cs.getD p.2 0 - cs.getD (n + t) 0 := by unfold metV cby; rw [if_pos rfl]
    rw [ev] at gd
    have ex1 : wext S t p p.1 = gon t ((S.ways p.2).drop (S.pb t)) := by unfold wext; rw [if_pos rfl]
    have ex2 : wext S t p p.2 = gon t ((S.ways p.1).drop (S.pa t)) := by unfold wext; rw [if_neg (fun e => pn e.symm), if_pos rfl]
    have hA := congrArg List.length (I.eA t p hp)
    have hB := congrArg List.length (I.eB t p hp)
    have sp1 : (gon t ((S.ways p.1).take (S.pa t))).length + (gon t ((S.ways p.1).drop (S.pa t))).length + ((S.ways p.1).filter (isL t)).length = (S.ways p.1).length := by
      rw [← List.length_append, ← gon_app, List.take_append_drop]; exact gon_len _ _
    have sp2 : (gon t ((S.ways p.2).take (S.pb t))).length + (gon t ((S.ways p.2).drop (S.pb t))).length + ((S.ways p.2).filter (isL t)).length = (S.ways p.2).length := by
      rw [← List.length_append, ← gon_app, List.take_append_drop]; exact gon_len _ _
    have h1 := C.ho p.1 p1
    have h2 := C.ho p.2 p2
    have h3 := C.ti t p hp
    refine ⟨by rw [metC_len]; exact C.ln, fun x hx => ?_, fun u q hq => ?_⟩
    · rw [gd]
      show _ = ((S.ways x ++ wext S t p x).length : Int)
      rw [List.length_append]
      by_cases c1 : x = p.1
      · rw [if_pos (.inl c1), c1, ex1]
        omega
      · by_cases c2 : x = p.2
        · rw [if_pos (.inr (.inl c2)), c2, ex2]
          omega
        · rw [if_neg (by omega), C.ho x hx]
          have : wext S t p x = [] := by unfold wext; rw [if_neg c1, if_neg c2]
          rw [this]; rfl
    · obtain ⟨q1, q2, _⟩ := hW.at_ hq
      rw [gd]
      show _ = (((S.ways q.1 ++ wext S t p q.1).filter (isL u)).length + ((S.ways q.2 ++ wext S t p q.2).filter (isL u)).length : Int)
      rw [List.filter_append, List.filter_append, wext_isL, wext_isL]
      by_cases c : u = t
      · subst c
        obtain rfl := lookup_same hp hq
        rw [if_pos (.inr (.inr rfl)), if_pos rfl, if_pos rfl, ex1, ex2, List.length_append, List.length_append]
        omega
      · rw [if_neg (by omega), if_neg (fun e => c e.symm), if_neg (fun e => c e.symm), List.append_nil, List.append_nil]
        exact C.ti u q hq
theorem wrun_snoc (ts : Prs) (h : Nat) (m : List Nat) (t : Nat) : wrun ts h (m ++ [t]) = wstep ts (wrun ts h m) t := by unfold wrun; rw [List.foldl_append]; rfl
theorem run_both {n : Nat} {ts : Prs} (hW : Wv n ts) {h : Nat} (hn : h < n) (m : List Nat) : WI n ts h m (wrun ts h m) ∧ CI n ts (runC 0 n ts (dlt (n + ts.length) h) m) (wrun ts h m) := by
  have key : ∀ l, ∀ m : List Nat, m.length = l → WI n ts h m (wrun ts h m) ∧ CI n ts (runC 0 n ts (dlt (n + ts.length) h) m) (wrun ts h m) := by
    intro l
    induction l with
    | zero =>
      intro m hm
      rw [List.eq_nil_of_length_eq_zero hm]
      exact ⟨wi0 ts h, (ci0 ts h).resolve_right (by omega)⟩
    | succ l ih =>
      intro m hm
      have ne : m ≠ [] := fun z => by rw [z] at hm; cases hm
      have e := (List.dropLast_concat_getLast ne).symm
      have hl : m.dropLast.length = l := by rw [List.length_dropLast]; omega
      obtain ⟨a, b⟩ := ih _ hl
      rw [e, wrun_snoc, runC_snoc]
      exact ⟨a.step hW _, b.step hW a _⟩
  exact key _ m rfl
end K1
namespace K1
open PySem PySem.Spec PyProof.Rows L2
/-! ### the law's search: each way is walked on over the next meeting of each tie -/
abbrev It := Wy × Nat × Nat
def spots (m : List Nat) (a t : Nat) : List Nat := (List.range' a (m.length - a)).filter fun s => decide (m[s]? = some t)
theorem spots_mem {m : List Nat} {a t s : Nat} : s ∈ spots m a t ↔ a ≤ s ∧ m[s]? = some t := by
  unfold spots
  rw [List.mem_filter, List.mem_range'_1, decide_eq_true_eq]
  refine ⟨fun ⟨⟨x, _⟩, y⟩ => ⟨x, y⟩, fun ⟨x, y⟩ => ⟨⟨x, ?_⟩, y⟩⟩
  have := lt_at y
  omega
theorem spots_head {m : List Nat} {a t s : Nat} {r : List Nat} (e : spots m a t = s :: r) : a ≤ s ∧ m[s]? = some t ∧ ∀ s', a ≤ s' → m[s']? = some t → s ≤ s' := by
  have h0 : s ∈ spots m a t := by rw [e]; exact List.mem_cons_self
  obtain ⟨h1, h2⟩ := spots_mem.mp h0
  refine ⟨h1, h2, fun s' a1 a2 => ?_⟩
  have h3 : s' ∈ spots m a t := spots_mem.mpr ⟨a1, a2⟩
  have hp : (spots m a t).Pairwise (· < ·) := (List.pairwise_lt_range' 1 (pos := Nat.one_pos)).filter _
  rw [e] at h3 hp
  rcases List.mem_cons.mp h3 with c | c
  · rw [c]; exact Nat.le_refl _
  · exact Nat.le_of_lt ((List.pairwise_cons.mp hp).1 s' c)
def wkid (ts : Prs) (m : List Nat) (it : It) (t : Nat) : Option It := match ts[t]? with
  | some p => if (it.2.1 = p.1 ∨ it.2.1 = p.2) ∧ it.1.getLast? ≠ some t then (match spots m it.2.2 t with
    | s :: _ => some (it.1 ++ [t], (if p.1 = it.2.1 then p.2 else p.1), s + 1)
    | [] => none) else none
  | none => none
def wkids (ts : Prs) (m : List Nat) (it : It) : List It := (List.range ts.length).filterMap (wkid ts m it)
theorem wkid_some {ts : Prs} {m : List Nat} {it k : It} {t : Nat} (h : wkid ts m it t = some k) : ∃ p s r, ts[t]? = some p ∧ (it.2.1 = p.1 ∨ it.2.1 = p.2) ∧ it.1.getLast? ≠ some t ∧ spots m it.2.2 t = s :: r ∧ k = (it.1 ++ [t], (if p.1 = it.2.1 then p.2 else p.1), s + 1) := by
  unfold wkid at h
  cases hp : ts[t]? with
  | none => rw [hp] at h; cases h
  | some p =>
    rw [hp] at h
    dsimp only at h
    by_cases c : (it.2.1 = p.1 ∨ it.2.1 = p.2) ∧ it.1.getLast? ≠ some t
    · rw [if_pos c] at h
      cases hs : spots m it.2.2 t with
      | nil => rw [hs] at h; cases h
      | cons s r =>
        rw [hs] at h
        exact ⟨p, s, r, rfl, c.1, c.2, rfl, (Option.some.inj h).symm⟩
    · rw [if_neg c] at h; cases h
theorem wkids_way {ts : Prs} {m : List Nat} {it k : It} (h : k ∈ wkids ts m it) : ∃ t, t < ts.length ∧ wkid ts m it t = some k ∧ k.1 = it.1 ++ [t] := by
  obtain ⟨t, ht, e⟩ := List.mem_filterMap.mp h
  obtain ⟨p, s, r, _, _, _, _, rfl⟩ := wkid_some e
  exact ⟨t, List.mem_range.mp ht, e, rfl⟩
/-- behind k turns -/
structure WJ (ts : Prs) (h : Nat) (m : List Nat) (k : Nat) (L : List It) : Prop where
  eq : L = ([], h, 0) :: (L.take k).flatMap (wkids ts m)
  le : k ≤ L.length
  nd : (L.map (·.1)).Nodup
theorem wj0 (ts : Prs) (h : Nat) (m : List Nat) : WJ ts h m 0 [([], h, 0)] := ⟨rfl, Nat.zero_le _, by simp⟩
theorem WJ.step {ts : Prs} {h : Nat} {m : List Nat} {k : Nat} {L : List It} (J : WJ ts h m k L) {it : It} (hk : L[k]? = some it) : WJ ts h m (k + 1) (L ++ wkids ts m it) := by
  have lt := lt_at hk
  have tk : (L ++ wkids ts m it).take (k + 1) = L.take k ++ [it] := by
    rw [List.take_append_of_le_length (by omega), List.take_add_one, hk]; rfl
  refine ⟨?_, by rw [List.length_append]; omega, ?_⟩
  · rw [tk, List.flatMap_append]
    have : ([it] : List It).flatMap (wkids ts m) = wkids ts m it := by simp
    rw [this]
    conv => lhs; rw [J.eq]
    rfl
  · rw [List.map_append]
    refine List.nodup_append.mpr ⟨J.nd, ?_, fun a ha b hb e => ?_⟩
    · refine List.pairwise_map.mpr (List.pairwise_filterMap.mpr (List.nodup_range.imp fun {t u} ne b hb c hc e => ?_))
      obtain ⟨_, _, _, _, _, _, _, rfl⟩ := wkid_some hb
      obtain ⟨_, _, _, _, _, _, _, rfl⟩ := wkid_some hc
      exact ne (List.singleton_inj.mp (List.append_inj' e rfl).2)
    · subst e
      obtain ⟨k2, hk2, rfl⟩ := List.mem_map.mp hb
      obtain ⟨t, _, _, e2⟩ := wkids_way hk2
      obtain ⟨k1, hk1, e1⟩ := List.mem_map.mp ha
      rw [e2] at e1
      rw [J.eq] at hk1
      rcases List.mem_cons.mp hk1 with c | c
      · rw [c] at e1
        exact absurd e1.symm (by simp)
      · obtain ⟨u, hu, c2⟩ := List.mem_flatMap.mp c
        obtain ⟨t', _, _, e3⟩ := wkids_way c2
        rw [e3] at e1
        have ew : u.1 = it.1 := (List.append_inj' e1 rfl).1
        obtain ⟨i, hi⟩ := List.getElem?_of_mem hu
        have il : i < k := by have := lt_at hi; rw [List.length_take] at this; omega
        have hi' : L[i]? = some u := by rw [List.getElem?_take_of_lt il] at hi; exact hi
        have g1 : (L.map (·.1))[i]? = some it.1 := by rw [List.getElem?_map, hi', ← ew]; rfl
        have g2 : (L.map (·.1))[k]? = some it.1 := by rw [List.getElem?_map, hk]; rfl
        have := (List.getElem?_inj (by rw [List.length_map]; omega) J.nd).mp (g1.trans g2.symm)
        omega
/-- a stands right behind the first place where the way is gone -/
structure AtP (m : List Nat) (w : Wy) (a : Nat) : Prop where
  s : w.Sublist (m.take a)
  f : ∀ b, w.Sublist (m.take b) → a ≤ b
theorem sub_take {m v : List Nat} {t : Nat} : ∀ {b : Nat}, (v ++ [t]).Sublist (m.take b) → ∃ s, s < b ∧ m[s]? = some t ∧ v.Sublist (m.take s)
  | 0, h => by
    rw [List.take_zero] at h
    exact absurd (List.sublist_nil.mp h) (by simp)
  | b + 1, h => by
    rw [List.take_add_one] at h
    cases e : m[b]? with
    | none =>
      rw [e] at h
      obtain ⟨s, h1, h2, h3⟩ := sub_take (b := b) (by simpa using h)
      exact ⟨s, by omega, h2, h3⟩
    | some u =>
      rw [e] at h
      rcases sub_snoc.mp h with k | ⟨rfl, k⟩
      · obtain ⟨s, h1, h2, h3⟩ := sub_take k
        exact ⟨s, by omega, h2, h3⟩
      · exact ⟨b, by omega, e, k⟩
theorem WJ.sound {ts : Prs} {h : Nat} {m : List Nat} {k : Nat} {L : List It} (J : WJ ts h m k L) : ∀ l, ∀ it ∈ L, it.1.length = l → Walk ts h it.1 it.2.1 ∧ AtP m it.1 it.2.2 := by
  intro l
  induction l with
  | zero =>
    intro it hit hl
    rw [J.eq] at hit
    rcases List.mem_cons.mp hit with rfl | c
    · exact ⟨.nil, List.nil_sublist _, fun b _ => Nat.zero_le _⟩
    · obtain ⟨u, hu, c2⟩ := List.mem_flatMap.mp c
      obtain ⟨t, _, _, e⟩ := wkids_way c2
      rw [e] at hl
      exact absurd hl (by simp)
  | succ l ih =>
    intro it hit hl
    rw [J.eq] at hit
    rcases List.mem_cons.mp hit with rfl | c
    · exact absurd hl (by simp)
    · obtain ⟨u, hu, c2⟩ := List.mem_flatMap.mp c
      obtain ⟨t, _, e1, e⟩ := wkids_way c2
      obtain ⟨a1, a2⟩ := ih u (List.mem_of_mem_take hu) (by rw [e] at hl; simp at hl; exact hl)
      obtain ⟨p, s, r, b1, b2, b3, b4, rfl⟩ := wkid_some e1
      obtain ⟨s1, s2, s3⟩ := spots_head b4
      refine ⟨.snoc a1 b1 b3 ?_, ?_, fun b hb => ?_⟩
      · by_cases c : p.1 = u.2.1
        · rw [if_pos c]; exact .inl ⟨c.symm, rfl⟩
        · rw [if_neg c]
          rcases b2 with z | z
          · exact absurd z.symm c
          · exact .inr ⟨z, rfl⟩
      · show (u.1 ++ [t]).Sublist (m.take (s + 1))
        rw [List.take_add_one, s2]
        refine sub_snoc.mpr (.inr ⟨rfl, a2.s.trans ?_⟩)
        have : m.take u.2.2 = (m.take s).take u.2.2 := by rw [List.take_take, Nat.min_eq_left s1]
        rw [this]
        exact List.take_sublist _ _
      · obtain ⟨s', h1, h2, h3⟩ := sub_take (v := u.1) (t := t) hb
        have := s3 s' (a2.f s' h3) h2
        show s + 1 ≤ b
        omega
theorem WJ.all {n : Nat} {ts : Prs} (hW : Wv n ts) {h : Nat} {m : List Nat} {L : List It} (J : WJ ts h m L.length L) {w : Wy} {x : Nat} (a : Walk ts h w x) : w.Sublist m → ∃ at_, (w, x, at_) ∈ L := by
  induction a with
  | nil =>
    intro _
    exact ⟨0, by rw [J.eq]; exact List.mem_cons_self⟩
  | @snoc w y x t p a hp hl hx ih =>
    intro hs
    obtain ⟨a0, ha⟩ := ih ((List.sublist_append_left _ _).trans hs)
    obtain ⟨_, b2⟩ := J.sound _ _ ha rfl
    obtain ⟨s', h1, h2, h3⟩ := sub_take (b := m.length) (by rw [List.take_length]; exact hs)
    have hm : s' ∈ spots m a0 t := spots_mem.mpr ⟨b2.f s' h3, h2⟩
    obtain ⟨_, _, pn⟩ := hW.at_ hp
    cases e : spots m a0 t with
    | nil => rw [e] at hm; cases hm
    | cons s r =>
      refine ⟨s + 1, ?_⟩
      rw [J.eq]
      refine List.mem_cons_of_mem _ (List.mem_flatMap.mpr ⟨(w, y, a0), by rw [List.take_length]; exact ha, List.mem_filterMap.mpr ⟨t, List.mem_range.mpr (lt_at hp), ?_⟩⟩)
      unfold wkid
      rw [hp]
      dsimp only
      rw [if_pos ⟨by rcases hx with ⟨z, _⟩ | ⟨z, _⟩ <;> simp [z], hl⟩, e]
      rcases hx with ⟨h1, h2⟩ | ⟨h1, h2⟩
      · rw [if_pos h1.symm, h2]
      · rw [if_neg (by rw [h1]; exact pn), h2]
end K1
namespace K1
open PySem PySem.Spec PyProof.Rows L2
/-! ### what the law's search finds, and what the program keeps -/
theorem sum_add {α : Type} (f g : α → Nat) : ∀ l : List α, (l.map fun x => f x + g x).sum = (l.map f).sum + (l.map g).sum
  | [] => rfl
  | a :: l => by
    simp only [List.map_cons, List.sum_cons, sum_add f g l]
    omega
theorem sum_zero {α : Type} (f : α → Nat) : ∀ l : List α, (∀ x ∈ l, f x = 0) → (l.map f).sum = 0
  | [], _ => rfl
  | a :: l, h => by
    simp only [List.map_cons, List.sum_cons, h a List.mem_cons_self, sum_zero f l fun x hx => h x (List.mem_cons_of_mem _ hx)]
theorem sum_ind (y : Nat) : ∀ n, y < n → ((List.range n).map fun x => if y = x then 1 else 0).sum = 1
  | 0, h => absurd h (Nat.not_lt_zero _)
  | n + 1, h => by
    rw [List.range_succ, List.map_append, List.sum_append]
    by_cases c : y = n
    · rw [sum_zero _ _ fun x hx => if_neg (by have := List.mem_range.mp hx; omega)]
      simp [c]
    · rw [sum_ind y n (by omega)]
      simp [c]
theorem part_sum {α : Type} (f : α → Option Nat) (n : Nat) : ∀ L : List α, (∀ a ∈ L, ∀ x, f a = some x → x < n) → ((List.range n).map fun x => (L.filter fun a => decide (f a = some x)).length).sum = (L.filter fun a => (f a).isSome).length
  | [], _ => sum_zero _ _ fun _ _ => rfl
  | a :: L, h => by
    have ih := part_sum f n L fun b hb => h b (List.mem_cons_of_mem _ hb)
    have e : (fun x => ((a :: L).filter fun a => decide (f a = some x)).length) = fun x => (if f a = some x then 1 else 0) + (L.filter fun a => decide (f a = some x)).length := by
      funext x
      by_cases c : f a = some x
      · rw [List.filter_cons_of_pos (by rw [c]; exact decide_eq_true rfl), List.length_cons, if_pos c]; omega
      · rw [List.filter_cons_of_neg (by rw [decide_eq_false c]; decide), if_neg c]; omega
    rw [e, sum_add, ih]
    cases hf : f a with
    | none =>
      rw [sum_zero _ _ fun x _ => if_neg (by simp), List.filter_cons_of_neg (by rw [hf]; decide)]; omega
    | some y =>
      have := sum_ind y n (h a List.mem_cons_self y hf)
      rw [List.filter_cons_of_pos (by rw [hf]; rfl), List.length_cons]
      have e2 : (fun x => if some y = some x then 1 else 0) = fun x => if y = x then 1 else 0 := by
        funext x
        by_cases c : y = x
        · rw [if_pos c, if_pos (congrArg some c)]
        · rw [if_neg c, if_neg fun e => c (Option.some.inj e)]
      rw [e2, this]; omega
theorem Walk.lt {n : Nat} {ts : Prs} (hW : Wv n ts) {h : Nat} (hn : h < n) {w : Wy} {x : Nat} (a : Walk ts h w x) : x < n := by
  rcases a.inv with ⟨_, rfl⟩ | ⟨v, y, t, p, _, _, hp, _, e⟩
  · exact hn
  · obtain ⟨p1, p2, _⟩ := hW.at_ hp
    rcases e with ⟨_, rfl⟩ | ⟨_, rfl⟩ <;> assumption
theorem Walk.last {ts : Prs} {h : Nat} {w : Wy} {x : Nat} (a : Walk ts h w x) {t : Nat} (e : w.getLast? = some t) : t < ts.length := by
  rcases a.inv with ⟨rfl, _⟩ | ⟨v, y, t', p, rfl, _, hp, _, _⟩
  · cases e
  · rw [last_snoc] at e
    cases e
    exact lt_at hp
section
variable {n h : Nat} {ts : Prs} {m : List Nat} {L : List It} {S : WSt}
theorem WJ.in_ {k : Nat} (J : WJ ts h m k L) {it : It} (hi : it ∈ L) : Walk ts h it.1 it.2.1 ∧ it.1.Sublist m := let ⟨a, b⟩ := J.sound _ it hi rfl; ⟨a, b.s.trans (List.take_sublist _ _)⟩
theorem WJ.bound {k : Nat} (hW : Wv n ts) (hn : h < n) (I : WI n ts h m S) (J : WJ ts h m k L) : L.length ≤ ((List.range n).map fun x => (S.ways x).length).sum := by
  have := J.nd.length_le_of_subset (l₂ := (List.range n).flatMap S.ways) fun w hw => by
    obtain ⟨it, hi, rfl⟩ := List.mem_map.mp hw
    obtain ⟨a, b⟩ := J.in_ hi
    exact List.mem_flatMap.mpr ⟨it.2.1, List.mem_range.mpr (a.lt hW hn), (I.mem _ _).mpr ⟨a, b⟩⟩
  rw [List.length_map, List.length_flatMap] at this
  exact this
theorem WJ.house (hW : Wv n ts) (I : WI n ts h m S) (J : WJ ts h m L.length L) (x : Nat) : ((L.filter fun it => decide (it.2.1 = x)).map (·.1)).Perm (S.ways x) := by
  refine (List.perm_ext_iff_of_nodup (J.nd.sublist (List.filter_sublist.map _)) (I.nd x)).mpr fun w => ?_
  rw [I.mem, List.mem_map]
  refine ⟨fun ⟨it, hi, e⟩ => ?_, fun ⟨a, b⟩ => ?_⟩
  · obtain ⟨h1, h2⟩ := List.mem_filter.mp hi
    have := of_decide_eq_true h2
    rw [← e, ← this]
    exact J.in_ h1
  · obtain ⟨at_, ha⟩ := J.all hW a b
    exact ⟨_, List.mem_filter.mpr ⟨ha, decide_eq_true rfl⟩, rfl⟩
theorem WJ.tie (hW : Wv n ts) (I : WI n ts h m S) (J : WJ ts h m L.length L) {t : Nat} {p : Nat × Nat} (hp : ts[t]? = some p) : (L.filter fun it => isL t it.1).length = ((S.ways p.1).filter (isL t)).length + ((S.ways p.2).filter (isL t)).length := by
  have key : ((L.filter fun it => isL t it.1).map (·.1)).Perm ((S.ways p.1).filter (isL t) ++ (S.ways p.2).filter (isL t)) := by
    refine (List.perm_ext_iff_of_nodup (J.nd.sublist (List.filter_sublist.map _)) (List.nodup_append.mpr ⟨(I.nd _).filter _, (I.nd _).filter _, fun a ha b hb e => ?_⟩)).mpr fun w => ?_
    · subst e
      have h1 := ((I.mem _ _).mp (List.mem_filter.mp ha).1).1
      have h2 := ((I.mem _ _).mp (List.mem_filter.mp hb).1).1
      exact (hW.at_ hp).2.2 (h1.uniq hW h2)
    · rw [List.mem_map, List.mem_append, List.mem_filter, List.mem_filter, I.mem, I.mem]
      refine ⟨fun ⟨it, hi, e⟩ => ?_, fun hw => ?_⟩
      · obtain ⟨h1, h2⟩ := List.mem_filter.mp hi
        obtain ⟨a, b⟩ := J.in_ h1
        subst e
        obtain ⟨v, ev⟩ := isL_iff.mp h2
        rw [ev] at a
        obtain ⟨y, q, _, hq, _, z⟩ := a.inv2
        rw [← ev] at a
        obtain rfl := lookup_same hp hq
        rcases z with ⟨_, z⟩ | ⟨_, z⟩
        · rw [z] at a; exact .inr ⟨⟨a, b⟩, h2⟩
        · rw [z] at a; exact .inl ⟨⟨a, b⟩, h2⟩
      · have : ∃ x, Walk ts h w x ∧ w.Sublist m ∧ isL t w = true := by
          rcases hw with ⟨⟨a, b⟩, c⟩ | ⟨⟨a, b⟩, c⟩
          · exact ⟨_, a, b, c⟩
          · exact ⟨_, a, b, c⟩
        obtain ⟨x, a, b, c⟩ := this
        obtain ⟨at_, ha⟩ := J.all hW a b
        exact ⟨_, List.mem_filter.mpr ⟨ha, c⟩, rfl⟩
  have := key.length_eq
  rw [List.length_map, List.length_append] at this
  exact this
theorem WJ.sum_house {k : Nat} (hW : Wv n ts) (hn : h < n) (J : WJ ts h m k L) : ((List.range n).map fun x => (L.filter fun it => decide (it.2.1 = x)).length).sum = L.length := by
  have := part_sum (fun it : It => some it.2.1) n L fun it hi x e => by cases e; exact (J.in_ hi).1.lt hW hn
  have e1 : (fun x => (L.filter fun it : It => decide (some it.2.1 = some x)).length) = fun x => (L.filter fun it : It => decide (it.2.1 = x)).length := by
    funext x; congr 2; funext it; exact decide_eq_decide.mpr ⟨Option.some.inj, congrArg some⟩
  rw [e1] at this
  rw [this]
  exact congrArg List.length (List.filter_eq_self.mpr fun _ _ => rfl)
theorem WJ.sum_tie {k : Nat} (J : WJ ts h m k L) : ((List.range ts.length).map fun t => (L.filter fun it => isL t it.1).length).sum + 1 = L.length := by
  have := part_sum (fun it : It => it.1.getLast?) ts.length L fun it hi x e => (J.in_ hi).1.last e
  have e1 : (fun t => (L.filter fun it : It => isL t it.1).length) = fun x => (L.filter fun it : It => decide (it.1.getLast? = some x)).length := rfl
  rw [e1, this]
  have h1 : L.filter (fun it : It => it.1.getLast?.isSome) = (L.take k).flatMap (wkids ts m) := by
    conv => lhs; rw [J.eq]
    rw [List.filter_cons_of_neg (by simp)]
    refine List.filter_eq_self.mpr fun it hi => ?_
    obtain ⟨u, hu, c2⟩ := List.mem_flatMap.mp hi
    obtain ⟨t, _, _, e⟩ := wkids_way c2
    rw [e, last_snoc]; rfl
  rw [h1]
  have h2 := congrArg List.length J.eq
  rw [List.length_cons] at h2
  exact h2.symm
end
end K1
namespace K1
open PySem PySem.Spec PyProof.Rows L2
theorem takes_len {X : Cx} {W : WX} (tk : Takes X W) : Takes X (fun cls d σ H => σ.length = X.N.length → W cls d σ H) := fun u s' ⟨a, B, sI, pins', σ', H', cls, d, e, J, nb, up, sky, na, os, ag, w⟩ =>
  tk u s' ⟨a, B, sI, pins', σ', H', cls, d, e, J, nb, up, sky, na, os, ag, w J.len⟩
/-- isinstance(e, N) in a suite, the exception's dict with any fields -/
def rIsF (K : PySem.W.Frag) (C : Addr) (cls : Value) (d : Option Addr) (a : Addr) : List V → Hp → VK → Prop := fun xs H Q => ∃ (dd N : Addr) (fs : List (Str × V)) (b : Bool), cls = .ref C ∧ d = some dd ∧ xs = [.ref a, .ref N] ∧ H dd = some (.xd fs) ∧ PySem.W.kitOne K (.ref C) (.ref N) = some b ∧ Q (.bl b) H
theorem call_isF {X : Cx} {a C : Addr} {cls : Value} {d : Option Addr} {oe : Obj} {pn : List (Addr × Obj)} (T : ExcK X.K C) (hz : Zc cls d oe) (hf : ∃ vs, oe.data = .fields vs) : CallR (X.suite a ((a, oe) :: pn)) (.builtin "isinstance") (rIsF X.K C cls d a) := by
  intro pins s σ H xs us Q I r h
  obtain ⟨dd, N, fs, b, rfl, rfl, rfl, hx, e, q⟩ := h
  obtain ⟨u1, u2, rfl, r1, r2⟩ := vals2 r
  cases r1
  cases r2
  obtain ⟨hget, _⟩ := I.pin (a, oe) (List.mem_append.mpr (.inl List.mem_cons_self))
  obtain ⟨vs, hd⟩ := hf
  have hx' : ObjOk X.prog X.w H s.heap dd (.xd fs) := I.hok dd _ hx
  obtain ⟨mA, hns, hr⟩ := hx'
  obtain ⟨od, ho, hl⟩ := lookIn_ns hns
  have J : PySem.W.InstAt s.heap a oe C (some od) := ⟨hget, hz.1, by unfold PySem.W.notCls; rw [hd] <;> rfl, by rw [hz.2]; exact ho⟩
  exact PySem.W.kia_one (PySem.W.kitx_exc T.cl T.ga T.gt T.sb T.ca T.sp T.tk T.mo) I.kIn J e (fun z => nomatch z) fun tk => ⟨.bl b, H, I.kept (t' := tk) fun _ _ z => z, rfl, q⟩
/-- isinstance(e, N), N a class of the language -/
def rIsT (K : PySem.W.Frag) (C : Addr) (n : String) (cls : Value) (d : Option Addr) (a : Addr) : List V → Hp → VK → Prop := fun xs H Q => ∃ (dd : Addr) (fs : List (Str × V)) (b : Bool), cls = .ref C ∧ d = some dd ∧ xs = [.ref a, .ty n] ∧ H dd = some (.xd fs) ∧ PySem.W.kitOne K (.ref C) (.type n) = some b ∧ Q (.bl b) H
theorem call_isT {X : Cx} {a C : Addr} {n : String} {cls : Value} {d : Option Addr} {oe : Obj} {pn : List (Addr × Obj)} (T : ExcK X.K C) (hz : Zc cls d oe) (hf : ∃ vs, oe.data = .fields vs) : CallR (X.suite a ((a, oe) :: pn)) (.builtin "isinstance") (rIsT X.K C n cls d a) := by
  intro pins s σ H xs us Q I r h
  obtain ⟨dd, fs, b, rfl, rfl, rfl, hx, e, q⟩ := h
  obtain ⟨u1, u2, rfl, r1, r2⟩ := vals2 r
  cases r1
  cases r2
  obtain ⟨hget, _⟩ := I.pin (a, oe) (List.mem_append.mpr (.inl List.mem_cons_self))
  obtain ⟨vs, hd⟩ := hf
  have hx' : ObjOk X.prog X.w H s.heap dd (.xd fs) := I.hok dd _ hx
  obtain ⟨mA, hns, hr⟩ := hx'
  obtain ⟨od, ho, hl⟩ := lookIn_ns hns
  have J : PySem.W.InstAt s.heap a oe C (some od) := ⟨hget, hz.1, by unfold PySem.W.notCls; rw [hd] <;> rfl, by rw [hz.2]; exact ho⟩
  exact PySem.W.kia_one (PySem.W.kitx_exc T.cl T.ga T.gt T.sb T.ca T.sp T.tk T.mo) I.kIn J e (fun z => nomatch z) fun tk => ⟨.bl b, H, I.kept (t' := tk) fun _ _ z => z, rfl, q⟩
structure Exm (K : PySem.W.Frag) (CH CB CR CG N : Addr) : Prop where
  hh : PySem.W.exmOne K (.ref CH) (.ref CH) = some true
  bh : PySem.W.exmOne K (.ref CB) (.ref CH) = some false
  bb : PySem.W.exmOne K (.ref CB) (.ref CB) = some true
  rh : PySem.W.exmOne K (.ref CR) (.ref CH) = some false
  rb : PySem.W.exmOne K (.ref CR) (.ref CB) = some false
  rr : PySem.W.exmOne K (.ref CR) (.ref CR) = some true
  gh : PySem.W.exmOne K (.ref CG) (.ref CH) = some false
  gb : PySem.W.exmOne K (.ref CG) (.ref CB) = some false
  gr : PySem.W.exmOne K (.ref CG) (.ref CR) = some false
  gg : PySem.W.exmOne K (.ref CG) (.ref CG) = some true
  ib : PySem.W.kitOne K (.ref CB) (.ref N) = some true
  ir : PySem.W.kitOne K (.ref CR) (.ref N) = some true
  ig : PySem.W.kitOne K (.ref CG) (.ref N) = some true
  xh : ExcK K CH
  xb : ExcK K CB
  xr : ExcK K CR
  xg : ExcK K CG
/-- x is the text that repr gives for v -/
def RS (v : V) (x : Str) : Prop := ∀ (H : Hp) (Q : VK), Q (.str x) H → rReprS [v] H Q
/-- as much, for a tuple of numbers too -/
def RSo (K : PySem.W.Frag) (H0 : Hp) (v : V) (x : Str) : Prop := ∀ (H : Hp) (Q : VK), Same H0 H → Q (.str x) H → rReprS [v] H Q ∨ rRepr K [v] H Q
section
theorem call_or2 {X : Cx} {c : Value} {r q : List V → Hp → VK → Prop} (a : CallR X c r) (b : CallR X c q) : CallR X c (fun xs H Q => r xs H Q ∨ q xs H Q) := fun pins s σ H xs us Q I rv h => h.elim (a pins s σ H xs us Q I rv) (b pins s σ H xs us Q I rv)
theorem pe_or2 {X : Cx} {e : Expr} {t u : TE} (a : PE X e t) (b : PE X e u) : PE X e (fun σ H Q => t σ H Q ∨ u σ H Q) := ⟨fun pins s σ H Q I h => h.elim (a.run pins s σ H Q I) (b.run pins s σ H Q I)⟩
theorem op_or2 {X : Cx} {f : Value → Value → Sem Value} {r q : R2} (a : OpR X f r) (b : OpR X f q) : OpR X f (fun x y H Q => r x y H Q ∨ q x y H Q) := fun pins s σ H x y v u Q I rx ry h => h.elim (a pins s σ H x y v u Q I rx ry) (b pins s σ H x y v u Q I rx ry)
end
def HE (K : PySem.W.Frag) (CH CB CR CG : Addr) (Q : VK) : XK := fun cls d H => ∃ dd : Addr, d = some dd ∧
  ((cls = .ref CH ∧ ∃ v, H dd = some (.xd [("house", v)]) ∧ ∃ x, RSo K H v x ∧ ∀ p H', Same H H' → H' p = some (.tup [.str "house", .str x]) → Q (.ref p) H') ∨
   (cls = .ref CB ∧ ∃ v, H dd = some (.xd [("at", v)]) ∧ ∀ p H', Same H H' → H' p = some (.tup [.str "steps", v, .bl true]) → Q (.ref p) H') ∨
   (cls = .ref CR ∧ ∃ v, H dd = some (.xd [("at", v)]) ∧ ∃ x, RSo K H v x ∧ ∀ p H', Same H H' → H' p = some (.tup [.str "refused", .str x, .bl true]) → Q (.ref p) H') ∨
   (cls = .ref CG ∧ ∃ v, H dd = some (.xd [("most", v)]) ∧ ∀ p H', Same H H' → H' p = some (.tup [.str "great", v, .bl true]) → Q (.ref p) H'))
def TTh (K : PySem.W.Frag) (CH CB CR CG : Addr) : (XK → Hp → VK → Prop) → Hp → VK → Prop := fun tl H Q => tl (HE K CH CB CR CG Q) H fun v H' => 2 ≤ sizeLine ∧ ∀ p, H' p = none → Q (.ref p) (upd H' p (.tup [.str "told", v]))
theorem scHe : FnScope ["_law_ask", "e"] ["_law_ask"] (defScope sLHeard) := ⟨rfl, rfl, rfl, by decide +kernel, rfl, by decide +kernel, by decide +kernel⟩
theorem call_reprZ {Z : Cx} {a : Addr} {pn : List (Addr × Obj)} (hgd : Z.A.guards = some []) (hu : Z.A.units + 64 < cLine) : CallR (Z.suite a pn) (.builtin "repr") (rRepr Z.K) := call_repr (X := Z.suite a pn) hgd hu
theorem heard_gives {X : Cx} {CH CB CR CG N i1 i2 i3 i4 g : Addr} {k : Nat} {b1 b2 b3 b4 : List Value} {q1 q2 q3 q4 : Str} {cdg : Value} {q : Str} (B : Bt X.mg) (T1 : LHouse.Txt X.K X.mg "NoHouse" q1 b1 CH i1) (T2 : LAt.Txt X.K X.mg "BadSteps" q2 b2 CB i2)
    (T3 : LAt.Txt X.K X.mg "Refused" q3 b3 CR i3) (T4 : LMost.Txt X.K X.mg "TooGreat" q4 b4 CG i4) (hN : X.mg "NetError" = some (.ref N)) (ex : Exm X.K CH CB CR CG N) (hgd : X.A.guards = some []) (hr : Room (k + 2) X.A) :
    LamX.GivesTo X ["_law_ask", "e"] "_law_heard" (defScope sLHeard) g cdg (defBody sLHeard) "_law_ask" q (TTh X.K CH CB CR CG) := by
  intro f c' s H Q tl act hc h
  have hu := (hr.deeper (envOfC "_law_heard" (defScope sLHeard) s.heap.objs.size g cdg)).units
  generalize hZ : (cxOf C8.CX0 X.prog X.w X.K X.mg X.base ["_law_ask", "e"] "_law_heard" (defScope sLHeard) g cdg X.A X.stack s H C8.E0) = Z at act ⊢
  subst hZ
  refine ⟨_, pss_one (ps_try_all (n := "e") (i := 1) (tb := fun W D σ H => ∃ Ech : XK, (∀ cls d (σ' : L2.St) H', σ'.length = 2 → Ech cls d H' → W cls d σ' H') ∧ σ[0]? = some (some (.ref f)) ∧ H c' = some (LamX.CodeO c' q) ∧ tl Ech H fun v H1 => 2 ≤ sizeLine ∧ ∀ p, H1 p = none → D.rt (.ref p) (upd H1 p (.tup [.str "told", v])))
      rfl rfl scHe.nd rfl rfl LamX.takes0 (fun W pn xe tk _ => ?_)
      (.cons (c := .ref CH) ⟨rfl, by decide, .inl T1.gC⟩ (fun a oe cls d pn hz hf => pss_one (ps_ret (pe_tup (pa_cons pe_str (pa_cons (pe_callB (call_or2 call_reprS (call_reprZ (Z := cxOf C8.CX0 X.prog X.w X.K X.mg X.base ["_law_ask", "e"] "_law_heard" (defScope sLHeard) g cdg X.A X.stack s H C8.E0) hgd hu)) rfl B.repr (by decide +kernel) (pa_cons (pe_by_LHouse T1 hz hf (pv 1)) pa_nil)) pa_nil)))))
      (.cons (c := .ref CB) ⟨rfl, by decide, .inl T2.gC⟩ (fun a oe cls d pn hz hf => pss_one (ps_ret (pe_tup (pa_cons pe_str (pa_cons (pe_by_LAt T2 hz hf (pv 1)) (pa_cons (pe_callB (call_isF ex.xb hz hf) rfl B.isinstance (by decide +kernel) (pa_cons (pv 1) (pa_cons (pe_glob (v := .ref N) rfl hN rfl) pa_nil))) pa_nil))))))
      (.cons (c := .ref CR) ⟨rfl, by decide, .inl T3.gC⟩ (fun a oe cls d pn hz hf => pss_one (ps_ret (pe_tup (pa_cons pe_str (pa_cons (pe_callB (call_or2 call_reprS (call_reprZ (Z := cxOf C8.CX0 X.prog X.w X.K X.mg X.base ["_law_ask", "e"] "_law_heard" (defScope sLHeard) g cdg X.A X.stack s H C8.E0) hgd hu)) rfl B.repr (by decide +kernel) (pa_cons (pe_by_LAt T3 hz hf (pv 1)) pa_nil)) (pa_cons (pe_callB (call_isF ex.xr hz hf) rfl B.isinstance (by decide +kernel) (pa_cons (pv 1) (pa_cons (pe_glob (v := .ref N) rfl hN rfl) pa_nil))) pa_nil))))))
      (.cons (c := .ref CG) ⟨rfl, by decide, .inl T4.gC⟩ (fun a oe cls d pn hz hf => pss_one (ps_ret (pe_tup (pa_cons pe_str (pa_cons (pe_by_LMost T4 hz hf (pv 1)) (pa_cons (pe_callB (call_isF ex.xg hz hf) rfl B.isinstance (by decide +kernel) (pa_cons (pv 1) (pa_cons (pe_glob (v := .ref N) rfl hN rfl) pa_nil))) pa_nil)))))) .nil))))), ?_⟩
  · refine ⟨fun pins s' σ H' D I h' => ?_⟩
    obtain ⟨Ech, hW, h1, h2, h3⟩ := h'
    have hp := fun p1 p2 => act (fun cls d σ H => σ.length = 2 → W cls d σ H) pn xe Ech p1 p2 (takes_len tk) (fun cls d σ' H' e hl => hW cls d σ' H' hl e)
    exact (pss_one (ps_ret (pe_tup (pa_cons pe_str (pa_cons (hp _ _) pa_nil))))).run pins s' σ H' D I ⟨h1, h2, h3⟩
  · refine ⟨HE X.K CH CB CR CG Q, fun cls d σ' H' hl he => ?_, rfl, hc, h⟩
    obtain ⟨dd, rfl, k⟩ := he
    obtain ⟨v0, v1, rfl⟩ : ∃ v0 v1, σ' = [v0, v1] := by
      match σ', hl with
      | [v0, v1], _ => exact ⟨v0, v1, rfl⟩
    rcases k with ⟨rfl, v, hx, x, rs, k⟩ | ⟨rfl, v, hx, k⟩ | ⟨rfl, v, hx, x, rs, k⟩ | ⟨rfl, v, hx, k⟩
    · refine ⟨true, ex.hh, fun _ a na => ?_, fun z => (by cases z)⟩
      refine ⟨_, rfl, rfl, rfl, dd, v, rfl, hx, ?_⟩
      unfold tNil
      dsimp only
      exact rs _ _ (Same.refl _) ⟨(by show 2 ≤ sizeLine; decide), fun p hp => k p _ (same_new hp) upd_same⟩
    · refine ⟨false, ex.bh, fun z => (by cases z), fun _ => ⟨true, ex.bb, fun _ a na => ?_, fun z => (by cases z)⟩⟩
      exact ⟨_, rfl, rfl, rfl, dd, v, rfl, hx, _, rfl, dd, N, _, true, rfl, rfl, rfl, hx, ex.ib, (by show 3 ≤ sizeLine; decide), fun p hp => k p _ (same_new hp) upd_same⟩
    · refine ⟨false, ex.rh, fun z => (by cases z), fun _ => ⟨false, ex.rb, fun z => (by cases z), fun _ => ⟨true, ex.rr, fun _ a na => ?_, fun z => (by cases z)⟩⟩⟩
      refine ⟨_, rfl, rfl, rfl, dd, v, rfl, hx, ?_⟩
      unfold tNil
      dsimp only
      exact rs _ _ (Same.refl _) ⟨_, rfl, dd, N, _, true, rfl, rfl, rfl, hx, ex.ir, (by show 3 ≤ sizeLine; decide), fun p hp => k p _ (same_new hp) upd_same⟩
    · refine ⟨false, ex.gh, fun z => (by cases z), fun _ => ⟨false, ex.gb, fun z => (by cases z), fun _ => ⟨false, ex.gr, fun z => (by cases z), fun _ => ⟨true, ex.gg, fun _ a na => ?_, fun z => (by cases z)⟩⟩⟩⟩
      exact ⟨_, rfl, rfl, rfl, dd, v, rfl, hx, _, rfl, dd, N, _, true, rfl, rfl, rfl, hx, ex.ig, (by show 3 ≤ sizeLine; decide), fun p hp => k p _ (same_new hp) upd_same⟩
structure FunC (K : PySem.W.Frag) (x qual : Str) (st : Stmt) (f : Addr) (fd : FuncData) (cdv : Value) : Prop where
  ex : ∃ (oc : Value) (od : Option Addr) (kV doc pm : Value) (an : Option Addr) (ct : Value) (osl : Array (Option Value)),
    fd = PySem.W.fnOf x qual (defArgs st) (defBody st) (defScope st) .none kV doc pm an cdv ct ∧ K.lookup f = some ⟨oc, od, .func fd, osl⟩ ∧ PySem.W.codeIn K cdv qual = true
  kp : PySem.W.keepIn K (.ref f) = true
theorem FunC.fun {K : PySem.W.Frag} {x qual : Str} {st : Stmt} {f : Addr} {fd : FuncData} {cdv : Value} (F : FunC K x qual st f fd cdv) : Fun K x qual st f fd := by
  obtain ⟨⟨oc, od, kV, doc, pm, an, ct, osl, h1, h2, h3⟩, kp⟩ := F
  exact ⟨⟨oc, od, kV, doc, pm, an, cdv, ct, osl, h1, h2, h3⟩, kp⟩
section
variable {P : Program} {w : World} {K : PySem.W.Frag} {mg : Str → Option Value} {base : Heap}
theorem FunC.ok {x qual : Str} {st : Stmt} {f : Addr} {fd : FuncData} {cdv : Value} {N ps : List Str} {k : Nat} {sp : Sp} (F : FunC K x qual st f fd cdv) (S : FnScope N ps (defScope st)) (len : ∀ vs H Q E, sp vs H Q E → vs.length = ps.length)
    (hbody : ∀ (A : Around) (outer : List Env) (s : Shared) (H : Hp) (vs : List V) (Q : VK) (E : XK), Room k (A.deeper (envOfC qual (defScope st) s.heap.objs.size f cdv)) → sp vs H Q E →
      ∃ t, PSs (cxOf CX0 P w K mg base N qual (defScope st) f cdv A outer s H E).nox (defBody st) t ∧ t { nx := fun _ H' => Q .non H', rt := Q } (start N vs) H) : FnOk P w K mg base CX0 (k + 1) f fd ps sp := by
  obtain ⟨oc, od, kV, doc, pm, an, ct, osl, rfl, lk, hcd⟩ := F.ex
  refine fn_of lk hcd S len fun A outer s H vs Q E hr hsp => ?_
  obtain ⟨t, h, q⟩ := hbody A outer s H vs Q E hr hsp
  exact ⟨t, h.nox, q⟩
theorem FunC.okG {x qual : Str} {st : Stmt} {f : Addr} {fd : FuncData} {cdv : Value} {N ps : List Str} {k : Nat} {sp : Sp} (F : FunC K x qual st f fd cdv) (S : FnScope N ps (defScope st)) (len : ∀ vs H Q E, sp vs H Q E → vs.length = ps.length)
    (hbody : ∀ (A : Around) (outer : List Env) (s : Shared) (H : Hp) (vs : List V) (Q : VK) (E : XK), Room k (A.deeper (envOfC qual (defScope st) s.heap.objs.size f cdv)) → (A.deeper (envOfC qual (defScope st) s.heap.objs.size f cdv)).guards = some [] → sp vs H Q E →
      ∃ t, PSs (cxOf CX0 P w K mg base N qual (defScope st) f cdv A outer s H E).nox (defBody st) t ∧ t { nx := fun _ H' => Q .non H', rt := Q } (start N vs) H) : FnG P w K mg base (k + 1) f fd ps sp := by
  obtain ⟨oc, od, kV, doc, pm, an, ct, osl, rfl, lk, hcd⟩ := F.ex
  refine ⟨len, fun A outer s H args us vs Q E hr hgd e0 hb r hsp => ?_⟩
  refine LamX.run_ofS lk hcd S hr e0 hb r (len _ _ _ _ hsp) fun hr' => ?_
  obtain ⟨t, h, q⟩ := hbody A outer s H vs Q E hr' hgd hsp
  exact ⟨t, h.nox, q⟩
end
structure Hd (K : PySem.W.Frag) (mg : Str → Option Value) (base : Heap) (CH CB CR CG : Addr) : Prop where
  B : Bt mg
  df : ∃ g fd, Df K mg "_law_heard" sLHeard ["_law_ask"] g fd
  t1 : ∃ q b i, LHouse.Txt K mg "NoHouse" q b CH i
  t2 : ∃ q b i, LAt.Txt K mg "BadSteps" q b CB i
  t3 : ∃ q b i, LAt.Txt K mg "Refused" q b CR i
  t4 : ∃ q b i, LMost.Txt K mg "TooGreat" q b CG i
  ex : ∃ N, mg "NetError" = some (.ref N) ∧ Exm K CH CB CR CG N
theorem pHeard {X : Cx} {c P CH CB CR CG : Addr} {k : Nat} {qn : Str} {T : List (Addr × Str)} {params : Arguments} {body : Expr} {scope : Scope} {t : XK → TE} {p lpos pos : Pos} (hd : Hd X.K X.mg X.base CH CB CR CG) (TB : LamX.TabB X.base X.mg c P) (hgd : X.A.guards = some []) (hr : Room (k + 2) X.A) (hcode : X.env.code = .ref c)
    (hq : X.env.qual ++ "<lambda>" = qn) (hm : (P, qn) ∈ T) (hun : ∀ p ∈ T, p.1 = P → p.2 = qn) (hg : Gl X "_law_heard") (L : LamX.LamS X.env.scope scope) (hdef : defaultsOf params X.env = ([], []))
    (hbind : ∀ (q : Str) (cl : List (Str × Addr)) (pm cv ctv : Value), bindArgs (PySem.W.kla_fn "<lambda>" q params body scope cl pm cv ctv) ⟨[], []⟩ = pure [])
    (hbody : ∀ (A : Around) (outer : List Env) (s : Shared) (H : Hp) (E : XK) (f c' : Addr), Room k (A.deeper (LamX.lamEnv X scope s.heap.objs.size f c')) → PE (LamX.lamCx X A outer s H E scope f c') body (t E)) :
    PE X (.Call (.Name "_law_heard" p) [.Lambda params body scope lpos] [] pos) (LamX.tLam T (TTh X.K CH CB CR CG) t) := by
  obtain ⟨g, fd, D⟩ := hd.df
  obtain ⟨q1, b1, i1, T1⟩ := hd.t1
  obtain ⟨q2, b2, i2, T2⟩ := hd.t2
  obtain ⟨q3, b3, i3, T3⟩ := hd.t3
  obtain ⟨q4, b4, i4, T4⟩ := hd.t4
  obtain ⟨N, hN, ex⟩ := hd.ex
  have hb := D.b
  obtain ⟨oc, od, kV, doc, pm, an, cdv, ct, osl, rfl, lk, hcd⟩ := D.F.ex
  exact LamX.pe_lamcall (a := "_law_ask") hg D.g D.F.kp lk hcd hb scHe rfl (.inl rfl) (heard_gives hd.B T1 T2 T3 T4 hN ex hgd hr) TB hcode (by rw [hq]; exact hm) (fun p hp e => by rw [hq]; exact hun p hp e) hr L hdef hbind hbody
/-! ### what stays behind a step of the law: all but the source, the things at xs, and the tables of code -/
theorem BoxO.ext {b : Addr} {H1 H2 : Hp} (h : BoxO H1 b) (e : LamX.ExtN H1 H2) : BoxO H2 b := let ⟨x, y, u, q⟩ := h; ⟨x, y, u, e _ _ q (fun ps z => by cases z)⟩
theorem BoxO.nn {b p : Addr} {H : Hp} (h : BoxO H b) (hp : H p = none) : p ≠ b := (Bx.refl h).ne hp
theorem tabs_bx {b : Addr} {T : List (Addr × Str)} {H1 H2 : Hp} (t : LamX.Tabs T H1) (hb : BoxO H1 b) (x : Bx b H1 H2) : LamX.Tabs T H2 := fun p hp => by
  obtain ⟨ps, h1, h2, h3⟩ := t p hp
  refine ⟨ps, x.2 _ _ h1 (hb.ne h1 fun xs => by intro z; cases z), h2, fun pos cv hc => ?_⟩
  obtain ⟨c, e1, e2⟩ := h3 pos cv hc
  exact ⟨c, e1, x.2 _ _ e2 (hb.ne e2 fun xs => by intro z; unfold LamX.CodeO at z; cases z)⟩
structure Lw (b : Addr) (T : List (Addr × Str)) (xs : List Addr) (H H' : Hp) : Prop where
  bx : BoxO H' b
  tb : LamX.Tabs T H'
  ks : Ks (b :: xs) H H'
section
variable {b : Addr} {T : List (Addr × Str)} {xs : List Addr} {H H1 H2 : Hp}
theorem Lw.refl (hb : BoxO H b) (t : LamX.Tabs T H) : Lw b T xs H H := ⟨hb, t, Ks.refl⟩
theorem Lw.trans (a : Lw b T xs H H1) (c : Lw b T xs H1 H2) : Lw b T xs H H2 := ⟨c.bx, c.tb, a.ks.trans c.ks⟩
theorem Lw.same (a : Lw b T xs H H1) (s : Same H1 H2) : Lw b T xs H H2 := ⟨a.bx.same s, a.tb.ext s, a.ks.same s⟩
theorem Lw.new {p : Addr} {o : HO} (a : Lw b T xs H H1) (hp : H1 p = none) : Lw b T xs H (upd H1 p o) := a.same (same_new hp)
theorem ks_bx (x : Bx b H1 H2) : Ks (b :: xs) H1 H2 := fun c o e n _ => x.2 c o e fun z => n (by rw [z]; exact List.mem_cons_self)
theorem Lw.box (a : Lw b T xs H H1) (x : Bx b H1 H2) : Lw b T xs H H2 := ⟨x.1, tabs_bx a.tb a.bx x, a.ks.trans (ks_bx x)⟩
theorem Lw.ext (a : Lw b T xs H H1) (e : LamX.ExtN H1 H2) (t : LamX.Tabs T H2) : Lw b T xs H H2 := ⟨a.bx.ext e, t, a.ks.trans fun c o q _ n => e _ _ q n⟩
theorem Lw.nn {p : Addr} (a : Lw b T xs H H1) (hp : H1 p = none) : p ≠ b := a.bx.nn hp
end
/-! ### texts -/
theorem strOk_iff {x : Str} : PyData.strOk x = true ↔ ∀ c ∈ x.cps.toList, c < 0x110000 := by
  unfold PyData.strOk
  rw [← Array.all_toList, List.all_eq_true]
  exact ⟨fun h c hc => of_decide_eq_true (h c hc), fun h c hc => decide_eq_true (h c hc)⟩
theorem ok_int (i : Int) : PyData.strOk (PyData.int i).shown = true := strOk_iff.mpr fun c hc => by
  by_cases z : c ≠ 45 ∧ (c < 48 ∨ 57 < c)
  · exact absurd hc (shown_int_free' z i)
  · omega
theorem ok_shAll : ∀ ds : List PyData, (∀ d ∈ ds, PyData.strOk d.shown = true) → ∀ t ∈ PyData.shownAll ds, PyData.strOk t = true
  | [], _, t, ht => by
    unfold PyData.shownAll at ht
    cases ht
  | d :: r, h, t, ht => by
    unfold PyData.shownAll at ht
    rcases List.mem_cons.mp ht with e | e
    · rw [e]; exact h d List.mem_cons_self
    · exact ok_shAll r (fun x hx => h x (List.mem_cons_of_mem _ hx)) t e
theorem ok_list {ds : List PyData} (h : ∀ d ∈ ds, PyData.strOk d.shown = true) : PyData.strOk (PyData.list ds).shown = true := strOk_iff.mpr fun c hc => by
  rw [PyData.shown_list, mem_cps_append, mem_cps_append, mem_join] at hc
  rcases hc with (hc | (⟨t, ht, hc⟩ | ⟨_, hc⟩)) | hc
  · exact strOk_iff.mp (by decide +kernel : PyData.strOk "[" = true) c hc
  · exact strOk_iff.mp (ok_shAll ds h t ht) c hc
  · exact strOk_iff.mp (by decide +kernel : PyData.strOk ", " = true) c hc
  · exact strOk_iff.mp (by decide +kernel : PyData.strOk "]" = true) c hc
/-- a value with the text that repr gives for it, as long as all but xs stands -/
structure Vl (K : PySem.W.Frag) (xs : List Addr) (H : Hp) (v : V) (o : Option (List V)) (x : Str) : Prop where
  ok : PyData.strOk x = true
  sh : ∀ H' Q, Ks xs H H' → Q (.str x) H' → rReprS [v] H' Q ∨ rRepr K [v] H' Q
  rd : ∀ H', Ks xs H H' → Rw K H' v o
theorem Vl.ks {K : PySem.W.Frag} {xs : List Addr} {H H1 : Hp} {v : V} {o : Option (List V)} {x : Str} (h : Vl K xs H v o x) (k : Ks xs H H1) : Vl K xs H1 v o x := ⟨h.ok, fun H' Q k2 q => h.sh H' Q (k.trans k2) q, fun H' k2 => h.rd H' (k.trans k2)⟩
theorem Vl.rso {K : PySem.W.Frag} {xs : List Addr} {H : Hp} {v : V} {o : Option (List V)} {x : Str} (h : Vl K xs H v o x) : RSo K H v x := fun H' Q s q => h.sh H' Q (fun c o e _ _ => s _ _ e) q
theorem log64 {i : Int} (h : i.natAbs < 2 ^ 64) : i.natAbs.log2 < 1920 := by
  by_cases z : i.natAbs = 0
  · rw [z]; decide
  · have : i.natAbs.log2 < 64 := (Nat.log2_lt z).mpr h
    omega
/-- an item of a list -/
structure Im (K : PySem.W.Frag) (xs : List Addr) (H : Hp) (v : V) (d : PyData) : Prop where
  ok : PyData.strOk d.shown = true
  pl : Pl d 1 200
  rd : ∀ H', Ks xs H H' → Dp K H' v d ∧ ∃ o, KV K H' v o
inductive Ims (K : PySem.W.Frag) (xs : List Addr) (H : Hp) : List V → List PyData → Prop
  | nil : Ims K xs H [] []
  | cons {v : V} {d : PyData} {vs : List V} {ds : List PyData} (a : Im K xs H v d) (r : Ims K xs H vs ds) : Ims K xs H (v :: vs) (d :: ds)
section
variable {K : PySem.W.Frag} {xs : List Addr} {H : Hp}
theorem rw0 {H' : Hp} {v : V} (h : KV K H' v none) : Rw K H' v none := ⟨h, fun ys e => by cases e⟩
theorem vl_int {i : Int} (h : i.natAbs < 2 ^ 64) : Vl K xs H (.int i) none (toString i) := ⟨ok_int i, fun H' Q _ q => .inl ⟨_, rfl, .inr (.inr (.inl ⟨i, rfl, log64 h, q⟩))⟩, fun H' _ => rw0 (.int i)⟩
theorem vl_non : Vl K xs H .non none "None" := ⟨by decide +kernel, fun H' Q _ q => .inl ⟨_, rfl, .inl ⟨rfl, q⟩⟩, fun H' _ => rw0 .non⟩
theorem vl_true : Vl K xs H (.bl true) none "True" := ⟨by decide +kernel, fun H' Q _ q => .inl ⟨_, rfl, .inr (.inl ⟨true, rfl, q⟩)⟩, fun H' _ => rw0 (.bl true)⟩
theorem vl_str {s : Str} (h1 : PyData.strOk (reprText s) = true) (h2 : (reprText s).length ≤ sizeLine) : Vl K xs H (.str s) none (reprText s) := ⟨h1, fun H' Q _ q => .inl ⟨_, rfl, .inr (.inr (.inr ⟨s, rfl, h2, q⟩))⟩, fun H' _ => rw0 (.str s)⟩
theorem im_int {i : Int} (h : i.natAbs < 10 ^ 19) : Im K xs H (.int i) (.int i) := ⟨ok_int i, (Pl.int h).mono (by decide) (by decide), fun H' _ => ⟨.int i, none, .int i⟩⟩
theorem im_non : Im K xs H .non .none := ⟨by decide +kernel, pl_non.mono (by decide) (by decide), fun H' _ => ⟨.non, none, .non⟩⟩
theorem im_true : Im K xs H (.bl true) (.bool true) := ⟨by decide +kernel, (Pl.bl true).mono (by decide) (by decide), fun H' _ => ⟨.bl true, none, .bl true⟩⟩
theorem im_str {s : Str} (h0 : PyData.strOk (PyData.str s).shown = true) (h1 : PyData.strOk s = true) (h2 : s.cps.size ≤ 100) (h3 : (s.cps.toList.all fun c => decide (c < 16 ^ 8)) = true) : Im K xs H (.str s) (.str s) := ⟨h0, (pl_str h1 h2 h3).mono (by decide) (by decide), fun H' _ => ⟨.str s, none, .str s⟩⟩
theorem im_one {p : Addr} (hp : H p = some (.lst [.int 1])) (n : p ∉ xs) : Im K xs H (.ref p) (.list [.int 1]) :=
  ⟨by decide +kernel, (Pl.list (PlA.cons (Pl.int (i := 1) (by decide)) PlA.nil)).mono (by decide) (by decide), fun H' k => ⟨.lst (SqL.of (k.lst hp n)) (.cons (.int 1) .nil), _, .lst (k.lst hp n)⟩⟩
theorem ims_ints : ∀ t : List Int, (∀ i ∈ t, i.natAbs < 10 ^ 19) → Ims K xs H (vrow t) (dI t)
  | [], _ => .nil
  | i :: r, h => .cons (im_int (h i List.mem_cons_self)) (ims_ints r fun j hj => h j (List.mem_cons_of_mem _ hj))
theorem Ims.app {vs ws : List V} {ds es : List PyData} (a : Ims K xs H vs ds) (b : Ims K xs H ws es) : Ims K xs H (vs ++ ws) (ds ++ es) := by
  induction a with
  | nil => exact b
  | cons x _ ih => exact .cons x ih
theorem Ims.ok {vs : List V} {ds : List PyData} (a : Ims K xs H vs ds) : ∀ d ∈ ds, PyData.strOk d.shown = true := by
  induction a with
  | nil => intro d h; cases h
  | cons x _ ih =>
    intro d h
    rcases List.mem_cons.mp h with e | e
    · rw [e]; exact x.ok
    · exact ih d e
theorem Ims.pl {vs : List V} {ds : List PyData} (a : Ims K xs H vs ds) : PlA ds 1 (vs.length * 201) := by
  induction a with
  | nil => exact PlA.nil.mono (by decide) (by decide)
  | cons x _ ih => exact (PlA.cons x.pl ih).mono (by decide) (by simp only [List.length_cons]; omega)
theorem Ims.rd {vs : List V} {ds : List PyData} (a : Ims K xs H vs ds) {H' : Hp} (k : Ks xs H H') : DpAll K H' vs ds ∧ Kinds K H' vs := by
  induction a with
  | nil => exact ⟨.nil, fun x hx => by cases hx⟩
  | cons x _ ih =>
    obtain ⟨h1, h2⟩ := x.rd H' k
    refine ⟨.cons h1 ih.1, fun y hy => ?_⟩
    rcases List.mem_cons.mp hy with e | e
    · rw [e]; exact h2
    · exact ih.2 y e
theorem vl_lst {p : Addr} {vs : List V} {ds : List PyData} (hp : H p = some (.lst vs)) (n : p ∉ xs) (a : Ims K xs H vs ds) (hl : vs.length ≤ 400) : Vl K xs H (.ref p) (some vs) (PyData.list ds).shown := by
  refine ⟨ok_list a.ok, fun H' Q k q => .inr (reprP (.lst (SqL.of (k.lst hp n)) (a.rd k).1) (Pl.list a.pl) (by decide) (by omega) q), fun H' k => ⟨.lst (k.lst hp n), fun ys e => ?_⟩⟩
  obtain rfl := Option.some.inj e
  exact (a.rd k).2
/-- what is no number below n -/
def oddH (n : Int) : List V := [.int n, .int (-1), .non, .bl true, .str "0"]
theorem oddH_vl {n : Int} {v : V} (h0 : 0 ≤ n) (h1 : n ≤ 1000) (h : v ∈ oddH n) : belowB v n = false ∧ ∃ x, Vl K xs H v none x := by
  simp only [oddH, List.mem_cons, List.mem_nil_iff, or_false] at h
  rcases h with rfl | rfl | rfl | rfl | rfl
  · refine ⟨?_, _, vl_int (by omega)⟩
    show (decide (0 ≤ n) && decide (n < n)) = false
    rw [decide_eq_false (Int.lt_irrefl _), Bool.and_false]
  · exact ⟨rfl, _, vl_int (by decide)⟩
  · exact ⟨rfl, _, vl_non⟩
  · exact ⟨rfl, _, vl_true⟩
  · exact ⟨rfl, _, vl_str (by decide +kernel) (by decide +kernel)⟩
end
/-! ### what the ear tells, compared -/
theorem ear {K : PySem.W.Frag} {Q : VK} {p p2 : Addr} {H : Hp} {vs : List V} {ds : List PyData} (h1 : H p = some (.tup vs)) (h2 : H p2 = some (.tup vs)) (hd : DpAll K H vs ds) (lay : PyData.canLay0 (.tuple ds) = true) (sh : SeqAt.shaped (.tuple ds) = true) (q : Q (.bl false) H) : rNeD K (.ref p) (.ref p2) H Q :=
  ⟨_, _, .tup (SqT.of h1) hd, .tup (SqT.of h2) hd, sh, sh, qbl (by rw [SeqAt.eqv_refl _ lay]; rfl) q⟩
theorem layS {y x : Str} {b : Bool} (hy : PyData.strOk y = true) (hx : PyData.strOk x = true) : PyData.canLay0 (.tuple [.str y, .str x, .bool b]) = true := by simp only [PyData.canLay0, PyData.canLayAll0, Bool.and_self, hx, hy]
theorem shS {y x : Str} {b : Bool} (hy : PyData.strOk y = true) (hx : PyData.strOk x = true) : SeqAt.shaped (.tuple [.str y, .str x, .bool b]) = true := by
  unfold SeqAt.shaped
  rw [layS hy hx]
  simp only [PyData.depth, PyData.depthAll]
  exact (by decide : (true && decide (max 0 (max 0 (max 0 0)) + 1 ≤ 64)) = true)
theorem earS {K : PySem.W.Frag} {Q : VK} {p p2 : Addr} {H : Hp} {y x : Str} {b : Bool} (hy : PyData.strOk y = true) (hx : PyData.strOk x = true) (h1 : H p = some (.tup [.str y, .str x, .bl b])) (h2 : H p2 = some (.tup [.str y, .str x, .bl b])) (q : Q (.bl false) H) : rNeD K (.ref p) (.ref p2) H Q :=
  ear h1 h2 (.cons (.str y) (.cons (.str x) (.cons (.bl b) .nil))) (layS hy hx) (shS hy hx) q
theorem earE {K : PySem.W.Frag} {Q : VK} {p p2 : Addr} {H : Hp} {y x : Str} {b : Bool} (hy : PyData.strOk y = true) (hx : PyData.strOk x = true) (h1 : H p = some (.tup [.str y, .str x, .bl b])) (h2 : H p2 = some (.tup [.str y, .str x, .bl b])) (q : Q (.bl true) H) : rEqD K (.ref p) (.ref p2) H Q :=
  have hd : DpAll K H [V.str y, .str x, .bl b] [.str y, .str x, .bool b] := .cons (.str y) (.cons (.str x) (.cons (.bl b) .nil))
  ⟨_, _, .tup (SqT.of h1) hd, .tup (SqT.of h2) hd, shS hy hx, shS hy hx, qbl (by rw [SeqAt.eqv_refl _ (layS hy hx)]) q⟩
theorem Vl.same {K : PySem.W.Frag} {xs : List Addr} {H H1 : Hp} {v : V} {o : Option (List V)} {x : Str} (h : Vl K xs H v o x) (s : Same H H1) : Vl K xs H1 v o x := h.ks fun c o e _ _ => s _ _ e
section
variable {P : Program} {w : World} {K : PySem.W.Frag} {mg : Str → Option Value} {base : Heap}
theorem okG {x qual : Str} {st : Stmt} {f : Addr} {fd : FuncData} {N ps : List Str} {k : Nat} {sp : Sp} (F : Fun K x qual st f fd) (S : FnScope N ps (defScope st)) (len : ∀ vs H Q E, sp vs H Q E → vs.length = ps.length)
    (hbody : ∀ (cdv : Value) (A : Around) (outer : List Env) (s : Shared) (H : Hp) (vs : List V) (Q : VK) (E : XK), Room k (A.deeper (envOfC qual (defScope st) s.heap.objs.size f cdv)) → (A.deeper (envOfC qual (defScope st) s.heap.objs.size f cdv)).guards = some [] → sp vs H Q E →
      ∃ t, PSs (cxOf CX0 P w K mg base N qual (defScope st) f cdv A outer s H E).nox (defBody st) t ∧ t { nx := fun _ H' => Q .non H', rt := Q } (start N vs) H) : FnG P w K mg base (k + 1) f fd ps sp := by
  obtain ⟨oc, od, kV, doc, pm, an, cdv, ct, osl, rfl, lk, hcd⟩ := F.ex
  refine ⟨len, fun A outer s H args us vs Q E hr hgd e0 hb r hsp => ?_⟩
  refine LamX.run_ofS lk hcd S hr e0 hb r (len _ _ _ _ hsp) fun hr' => ?_
  obtain ⟨t, h, q⟩ := hbody cdv A outer s H vs Q E hr' hgd hsp
  exact ⟨t, h.nox, q⟩
end
end K1
namespace K1
open PySem PySem.Spec PyProof.Rows L2
theorem snoc_at {α : Type} {l : List α} {i : Nat} {a b : α} (h : (l ++ [a])[i]? = some b) : l[i]? = some b ∨ (i = l.length ∧ a = b) := by
  by_cases hi : i < l.length
  · rw [List.getElem?_append_left hi] at h
    exact .inl h
  · rw [List.getElem?_append_right (by omega)] at h
    cases z : i - l.length with
    | zero =>
      rw [z] at h
      exact .inr ⟨by omega, Option.some.inj h⟩
    | succ n => rw [z] at h; cases h
theorem lc_enumL {K : PySem.W.Frag} {a : Addr} {xs : List V} {g : TG} {tt : TT} {te : TE} {vs : List Nat} {σ : L2.St} {H1 : Hp} {D : Addr} {Qd : Hp → Prop} (Pv : Nat → Hp → Prop) (h0 : Pv 0 (upd H1 D (.lst []))) (hl : ∀ i H, i ≤ xs.length → Pv i H → SqL K H a xs)
    (hs : ∀ i x T H, xs[i]? = some x → H T = none → Pv i H → g (.ref T) (wipe σ vs) (upd H T (.tup [.int (i : Nat), x])) fun σ2 H2 => wipe σ2 vs = wipe σ vs ∧ tt σ2 H2 fun b H3 =>
      if b = true then te σ2 H3 fun y H4 => ∃ acc, H4 D = some (.lst acc) ∧ acc.length < sizeLine ∧ Pv (i + 1) (upd H4 D (.lst (acc ++ [y]))) else Pv (i + 1) H3) (hd : ∀ H, Pv xs.length H → Qd H) :
    ∃ W : Nat → Nat → Hp → Prop, (∃ m, W 0 m (upd H1 D (.lst []))) ∧ ∀ i m H, W i m H →
      ((Ite K a).stop i H ∧ Qd H) ∨ ((Ite K a).go i H ∧ ∃ Nx : Hp → Prop, (∀ H', Nx H' → ∃ m', m' < m ∧ W (i + 1) m' H') ∧ ∀ x H', (Ite K a).yld i H x H' → g x (wipe σ vs) H' fun σ2 H2 => wipe σ2 vs = wipe σ vs ∧ tt σ2 H2 fun b H3 =>
        if b = true then te σ2 H3 fun y H4 => ∃ acc, H4 D = some (.lst acc) ∧ acc.length < sizeLine ∧ Nx (upd H4 D (.lst (acc ++ [y]))) else Nx H3) := by
  refine ⟨fun i m H => m = xs.length - i ∧ i ≤ xs.length ∧ Pv i H, ⟨xs.length, by simp, Nat.zero_le _, h0⟩, ?_⟩
  rintro i m H ⟨rfl, hi, p⟩
  have q := hl i H hi p
  by_cases hlt : i < xs.length
  · refine .inr ⟨⟨xs, xs[i], q, by simp [hlt]⟩, Pv (i + 1), fun H' p' => ⟨xs.length - (i + 1), by omega, rfl, hlt, p'⟩, fun x H' y => ?_⟩
    obtain ⟨T, x', e1, e2, e3, e4⟩ := y
    subst e1 e3
    exact hs i x' T H (e4 xs q) e2 p
  · have e : i = xs.length := by omega
    subst e
    exact .inl ⟨⟨xs, q, Nat.le_refl _⟩, hd H p⟩
theorem PrsA.snoc {H : Hp} {as : List Addr} {ts : Prs} {a : Addr} {t : Nat × Nat} (h : PrsA H as ts) (ha : H a = some (.tup (pV t))) : PrsA H (as ++ [a]) (ts ++ [t]) := by
  refine ⟨by rw [List.length_append, List.length_append, h.1]; rfl, fun i b u e1 e2 => ?_⟩
  by_cases hi : i < as.length
  · rw [List.getElem?_append_left hi] at e1
    rw [List.getElem?_append_left (by rw [← h.1]; exact hi)] at e2
    exact h.2 i b u e1 e2
  · rw [List.getElem?_append_right (by omega)] at e1
    rw [List.getElem?_append_right (by rw [← h.1]; omega), ← h.1] at e2
    cases z : i - as.length with
    | zero =>
      rw [z] at e1 e2
      obtain rfl : a = b := Option.some.inj e1
      obtain rfl : t = u := Option.some.inj e2
      exact ha
    | succ n => rw [z] at e1; cases e1
theorem PrsA.kp {H H' : Hp} {as : List Addr} {ts : Prs} (h : PrsA H as ts) (k : ∀ a xs, H a = some (.tup xs) → H' a = some (.tup xs)) : PrsA H' as ts := ⟨h.1, fun i a t e1 e2 => k _ _ (h.2 i a t e1 e2)⟩
theorem TiesT.kp {H H' : Hp} {ta : Addr} {ts : Prs} (h : TiesT H ta ts) (k : ∀ a xs, H a = some (.tup xs) → H' a = some (.tup xs)) : TiesT H' ta ts := let ⟨as, h1, h2⟩ := h; ⟨as, k _ _ h1, h2.kp k⟩
theorem WebAt.kp {W w : Addr} {H H' : Hp} {n : Nat} {ts : Prs} (h : WebAt W H w n ts) (k : ∀ a xs, H a = some (.tup xs) → H' a = some (.tup xs)) (k2 : ∀ dx fs, H w = some (.ins W dx fs) → H' w = some (.ins W dx fs)) : WebAt W H' w n ts := let ⟨dx, ta, h1, h2⟩ := h; ⟨dx, ta, k2 _ _ h1, h2.kp k⟩
theorem other_house {n a y : Nat} (ha : a < n) (hy : y + 1 < n) : (a + 1 + y) % n < n ∧ (a + 1 + y) % n ≠ a := by
  refine ⟨Nat.mod_lt _ (by omega), ?_⟩
  rcases Nat.lt_or_ge (a + 1 + y) n with c | c
  · rw [Nat.mod_eq_of_lt c]; omega
  · rw [Nat.mod_eq_sub_mod c, Nat.mod_eq_of_lt (by omega)]; omega
def TiesL (H : Hp) (l : Addr) (ts : Prs) : Prop := ∃ as : List Addr, H l = some (.lst (as.map V.ref)) ∧ PrsA H as ts
def RwsL (H : Hp) (as : List Addr) (rs : Rws) : Prop := as.length = rs.length ∧ ∀ (i : Nat) a r, as[i]? = some a → rs[i]? = some r → H a = some (.lst (vrow r))
theorem RwsL.get {H : Hp} {as : List Addr} {rs : Rws} (h : RwsL H as rs) {i : Nat} {r : List Int} (e : rs[i]? = some r) : ∃ a, as[i]? = some a ∧ H a = some (.lst (vrow r)) := by
  obtain ⟨a, ha⟩ := ex_at (l := as) (i := i) (by rw [h.1]; exact lt_at e)
  exact ⟨a, ha, h.2 i a r ha e⟩
theorem RwsL.snoc {H H' : Hp} {as : List Addr} {rs : Rws} {a : Addr} {r : List Int} (h : RwsL H as rs) (k : ∀ c xs, c ∈ as → H c = some (.lst xs) → H' c = some (.lst xs)) (ha : H' a = some (.lst (vrow r))) : RwsL H' (as ++ [a]) (rs ++ [r]) := by
  refine ⟨by rw [List.length_append, List.length_append, h.1]; rfl, fun i c t e1 e2 => ?_⟩
  have l := h.1
  rcases snoc_at e1 with e1 | ⟨i1, rfl⟩
  · rcases snoc_at e2 with e2 | ⟨i2, rfl⟩
    · exact k _ _ (List.mem_of_getElem? e1) (h.2 i c t e1 e2)
    · have := lt_at e1
      omega
  · rcases snoc_at e2 with e2 | ⟨i2, rfl⟩
    · have := lt_at e2
      omega
    · exact ha
theorem at_last {xs : List V} {x : V} (h : xs[xs.length - 1]? = some x) : atI xs (-1) = some x := by
  have l := lt_at h
  unfold atI ixN
  rw [if_neg (by omega), if_pos (by omega)]
  show xs[((xs.length : Int) + -1).toNat]? = some x
  rw [show ((xs.length : Int) + -1).toNat = xs.length - 1 by omega]
  exact h
theorem metL_eq {n : Nat} {ts : Prs} {cs : List Int} {t : Nat} {p : Nat × Nat} (hW : Wv n ts) (hl : cs.length = n + ts.length) (hp : ts[t]? = some p) : metC 0 n ts cs t = (List.range cs.length).map fun i => if i ∈ [p.1, p.2, n + t] then cs.getD p.1 0 + cs.getD p.2 0 - cs.getD (n + t) 0 else cs.getD i 0 := by
  refine getD_ext (by rw [metC_len, List.length_map, List.length_range]) fun i hi => ?_
  rw [metC_len] at hi
  rw [map_getD, if_pos hi, metC_getD hW hl hp]
  have e : metV 0 n cs p t = cs.getD p.1 0 + cs.getD p.2 0 - cs.getD (n + t) 0 := by unfold metV cby; rw [if_pos rfl]
  rw [e]
  by_cases c : i = p.1 ∨ i = p.2 ∨ i = n + t
  · rw [if_pos c, if_pos (by simpa using c)]
  · rw [if_neg c, if_neg (by simpa using c)]
theorem dlt_app {n L h : Nat} (hn : h < n) : dlt (n + L) h = dlt n h ++ (List.range L).map fun _ => (0 : Int) := by
  refine getD_ext (by rw [dlt_len, List.length_append, dlt_len, List.length_map, List.length_range]) fun i hi => ?_
  rw [dlt_len] at hi
  rw [dlt_getD, if_pos hi, List.getD_eq_getElem?_getD, List.getElem?_append, dlt_len]
  by_cases c : i < n
  · rw [if_pos c, dlt, rows_at c]; rfl
  · rw [if_neg c, rows_at (by omega), if_neg (by omega)]; rfl
def spTies : Sp := fun vs H Q _ => ∃ (b : Addr) (n k : Nat), vs = [.ref b, .int (n : Int), .int (k : Int)] ∧ BoxO H b ∧ 2 ≤ n ∧ n ≤ 12 ∧ k ≤ 20 ∧ ∀ l ts H', Bx b H H' → H l = none → TiesL H' l ts → Wv n ts → ts.length ≤ k → Q (.ref l) H'
def spMetL : Sp := fun vs H Q _ => ∃ (tl cl ml : Addr) (n : Nat) (ts : Prs) (cs : List Int) (o : List Nat), vs = [.ref tl, .int (n : Int), .ref cl, .ref ml] ∧ TiesL H tl ts ∧ Wv n ts ∧ H cl = some (.lst (vrow cs)) ∧ cs.length = n + ts.length ∧ H ml = some (.lst (vn o)) ∧ (∀ t ∈ o, t < ts.length) ∧ ∀ r H', Same H H' → (r = cl ∨ H r = none) → H' r = some (.lst (vrow (runC 0 n ts cs o))) → Q (.ref r) H'
def spBegun : Sp := fun vs H Q _ => ∃ (tl : Addr) (n h : Nat) (ts : Prs), vs = [.ref tl, .int (n : Int), .int (h : Int)] ∧ TiesL H tl ts ∧ n ≤ 12 ∧ ts.length ≤ 20 ∧ h < n ∧ ∀ r H', Same H H' → H r = none → H' r = some (.lst (vrow (dlt (n + ts.length) h))) → Q (.ref r) H'
def spSplit : Sp := fun vs H Q _ => ∃ (c : Addr) (n : Nat) (cs : List Int), vs = [.int (n : Int), .ref c] ∧ H c = some (.lst (vrow cs)) ∧ n ≤ cs.length ∧ ∀ r a b H', Same H H' → H' r = some (.tup [.ref a, .ref b]) → H' a = some (.tup (vrow (cs.take n))) → H' b = some (.tup (vrow (cs.drop n))) → Q (.ref r) H'
section
variable {P : Program} {w : World} {K : PySem.W.Frag} {mg : Str → Option Value} {base : Heap}
abbrev nTs : List Str := ["_law_box_here", "_law_houses", "_law_most", "_law_found", "_law_turn", "_law_one"]
theorem scTs : FnScope nTs ["_law_box_here", "_law_houses", "_law_most"] (defScope sLTies) := ⟨rfl, rfl, rfl, by decide +kernel, rfl, by decide +kernel, by decide +kernel⟩
theorem ok_ties {f fT : Addr} {fd fdT : FuncData} (D : Df K mg "_law_ties" sLTies ["_law_box_here", "_law_houses", "_law_most"] f fd) (DT : Df K mg "_law_take" sLTake ["_law_box_here", "_law_many"] fT fdT) (B : Bt mg) (GT : FnOk P w K mg base CX0 1 fT fdT ["_law_box_here", "_law_many"] spTake) : FnOk P w K mg base CX0 2 f fd ["_law_box_here", "_law_houses", "_law_most"] spTies := by
  refine D.F.ok scTs (fun vs H Q E h => ?_) (fun cdv A outer s H vs Q E hr h => ?_)
  · obtain ⟨b, n, k, rfl, _⟩ := h
    rfl
  · obtain ⟨b, n, k, rfl, hb, n2, n12, k20, q⟩ := h
    refine ⟨_, pss_cons (ps_set (i := 3) scTs.nd rfl (.inl rfl) (pe_lst pa_nil))
      (pss_cons (ps_for PassesOwn.never rfl (pi_range1 (by rfl) B.range (pa_cons (pc DT GT hr pass0 (pa_cons (pv 0) (pa_cons (pe_op op_add (pv 2) pe_int) pa_nil))) pa_nil)) (pg_name (i := 4) scTs.nd rfl (.inl rfl))
        (pss_cons (ps_set (i := 5) scTs.nd rfl (.inl rfl) (pc DT GT hr pass0 (pa_cons (pv 0) (pa_cons (pv 1) pa_nil))))
        (pss_one (ps_expr (pe_bm PySem.F.plainAttrs_list PySem.F.slot_list_append PySem.F.type_list_append mt_append (pv 3) (pa_cons (pe_tup (pa_cons (pv 5) (pa_cons (pe_op op_mod (pe_callTy call_int1 (by rfl) B.int PyProof.Rows.boot_int (pa_cons (pe_op op_add (pe_op op_add (pv 5) pe_int) (pc DT GT hr pass0 (pa_cons (pv 0) (pa_cons (pe_op op_sub (pv 1) pe_int) pa_nil)))) pa_nil)) (pv 1)) pa_nil))) pa_nil))))))
      (pss_one (ps_ret (pv 3)))), ?_⟩
    refine ⟨(by show 0 ≤ sizeLine; decide), fun l hl => ?_⟩
    have nl : l ≠ b := (Bx.refl hb).ne hl
    have bx0 := (Bx.refl hb).new (o := HO.lst []) hl
    have hl0 : (upd H l (.lst [])) l = some (.lst []) := upd_same
    generalize upd H l (.lst []) = H1 at bx0 hl0 ⊢
    refine gn ?_
    dsimp only [List.set]
    refine ⟨_, rfl, _, rfl, _, _, rfl, rfl, b, _, rfl, bx0.1, by omega, by omega, fun many H2 m0 m1 bx1 => ?_⟩
    obtain ⟨M, rfl⟩ : ∃ M : Nat, many = (M : Int) := ⟨many.toNat, by omega⟩
    have bx2 := bx0.trans bx1
    have hl2 := bx1.2 _ _ hl0 nl
    refine ⟨(M : Int), rfl, by omega, by omega, for_range (fun j σ H' => ∃ (as : List Addr) (ts : Prs) (v4 v5 : Option V), σ = [some (.ref b), some (.int (n : Int)), some (.int (k : Int)), some (.ref l), v4, v5] ∧ Bx b H H' ∧ H' l = some (.lst (as.map V.ref)) ∧ PrsA H' as ts ∧ (∀ p ∈ ts, p.1 < n ∧ p.2 < n ∧ p.1 ≠ p.2) ∧ ts.length = j) ⟨[], [], none, none, rfl, bx2, hl2, ⟨rfl, fun i a t e => by cases e⟩, fun p hp => (by cases hp), rfl⟩ ?_ ?_⟩
    · rintro j σ H3 hj ⟨as, ts, v4, v5, rfl, bx3, hl3, pa, pr, lt⟩
      refine ⟨_, rfl, _, rfl, b, n, rfl, bx3.1, by omega, by omega, fun x H4 x0 x1 bx4 => ?_⟩
      obtain ⟨c, rfl⟩ : ∃ c : Nat, x = (c : Int) := ⟨x.toNat, by omega⟩
      refine gn ?_
      dsimp only [List.set]
      have bx5 := bx3.trans bx4
      have hl4 := bx4.2 _ _ hl3 nl
      refine ⟨_, rfl, .inl ⟨rfl, _, SqL.of hl4⟩, _, rfl, _, rfl, _, _, rfl, rfl, _, rfl, _, rfl, _, _, rfl, rfl, b, _, rfl, bx5.1, by omega, by omega, fun y H5 y0 y1 bx6 => ⟨_, _, rfl, rfl, .inl ⟨_, rfl, _, rfl, _, _, rfl, rfl, by omega, ?_⟩⟩⟩
      obtain ⟨e, rfl⟩ : ∃ e : Nat, y = (e : Int) := ⟨y.toNat, by omega⟩
      have bx7 := bx5.trans bx6
      have hl5 := bx6.2 _ _ hl4 nl
      obtain ⟨on, one⟩ := other_house (n := n) (a := c) (y := e) (by omega) (by omega)
      have eo : ((c : Int) + 1 + (e : Int)) % (n : Int) = (((c + 1 + e) % n : Nat) : Int) := by rw [Int.natCast_emod]; rfl
      refine ⟨(by show 2 ≤ sizeLine; decide), fun T hT => ?_⟩
      have sT := same_new (o := HO.tup [V.int (c : Int), .int (((c : Int) + 1 + (e : Int)) % (n : Int))]) hT
      have la := pa.1
      refine ⟨l, _, _, rfl, rfl, sT _ _ hl5, szl (by rw [List.length_map]; omega), as ++ [T], ts ++ [(c, (c + 1 + e) % n)], _, _, rfl, ?_, by rw [upd_same, List.map_append]; rfl, ?_, fun p hp => ?_, by rw [List.length_append, lt]; rfl⟩
      · exact (bx7.same sT).put hl nl
      · have pa5 : PrsA H5 as ts := (pa.kp fun a xs h => bx4.tup bx3.1 h).kp fun a xs h => bx6.tup bx5.1 h
        refine ((pa5.same sT).snoc (a := T) (t := (c, (c + 1 + e) % n)) (by rw [upd_same]; unfold pV; dsimp only; rw [eo])).kp fun a xs h => ?_
        rw [upd_ne (ne_of h (sT _ _ hl5) (by intro z; cases z))]
        exact h
      · rcases List.mem_append.mp hp with h | h
        · exact pr p h
        · rw [List.mem_singleton.mp h]; exact ⟨by show c < n; omega, on, one.symm⟩
    · rintro σ H3 ⟨as, ts, v4, v5, rfl, bx3, hl3, pa, pr, lt⟩
      have : ts.length ≤ k := by omega
      exact ⟨_, rfl, q l ts H3 bx3 hl ⟨as, hl3, pa⟩ ⟨by omega, n12, by omega, pr⟩ this⟩
abbrev nMt : List Str := ["_law_ties_here", "_law_houses", "_law_counts", "_law_meetings", "_law_tie", "_law_one", "_law_other", "_law_both", "_law_at", "_law_count"]
theorem scMt : FnScope nMt ["_law_ties_here", "_law_houses", "_law_counts", "_law_meetings"] (defScope sLMet) := ⟨rfl, rfl, rfl, by decide +kernel, rfl, by decide +kernel, by decide +kernel⟩
theorem ok_metL {f : Addr} {fd : FuncData} (D : Df K mg "_law_met" sLMet ["_law_ties_here", "_law_houses", "_law_counts", "_law_meetings"] f fd) (B : Bt mg) : FnOk P w K mg base CX0 1 f fd ["_law_ties_here", "_law_houses", "_law_counts", "_law_meetings"] spMetL := by
  refine D.F.ok scMt (fun vs H Q E h => ?_) (fun cdv A outer s H vs Q E hr h => ?_)
  · obtain ⟨tl, cl, ml, n, ts, cs, o, rfl, _⟩ := h
    rfl
  · obtain ⟨tl, cl, ml, n, ts, cs, o, rfl, ⟨tas, ht, hA⟩, hW, hc, hl, hm, hlt, q⟩ := h
    refine ⟨_, pss_cons (ps_for PassesOwn.never rfl (pi_list (pv 3)) (pg_name (i := 4) scMt.nd rfl (.inr rfl))
        (pss_cons (ps_asg (pe_ix ix_list (pv 0) (pv 4) (fun _ _ => rfl)) (pg_tup rfl (pgs_cons (pg_name (i := 5) scMt.nd rfl (.inr rfl)) (pgs_cons (pg_name (i := 6) scMt.nd rfl (.inr rfl)) pgs_nil))))
        (pss_cons (ps_set (i := 7) scMt.nd rfl (.inr rfl) (pe_op op_sub (pe_op op_add (pe_ix ix_list (pv 2) (pv 5) (fun _ _ => rfl)) (pe_ix ix_list (pv 2) (pv 6) (fun _ _ => rfl))) (pe_ix ix_list (pv 2) (pe_op op_add (pv 1) (pv 4)) (fun _ _ => rfl))))
        (pss_one (ps_setLc (i := 2) (own := [("_law_at", 8), ("_law_count", 9)]) (g := gTup K 2 (gCons (gName 8) (gCons (gName 9) gNil))) (tt := tYes) rfl scMt.nd rfl rfl (sw_true rfl rfl rfl rfl) (pi_enumA (by rfl) B.enumerate (pa_cons (pv 2) pa_nil)) (blkOk_by (N := nMt) (sc := defScope sLMet) (by decide +kernel))
          (fun _ _ _ _ _ => pg_tup rfl (pgs_cons (pg_name (i := 8) scMt.nd rfl (.inl rfl)) (pgs_cons (pg_name (i := 9) scMt.nd rfl (.inl rfl)) pgs_nil))) (fun _ _ _ _ _ => pts_nil)
          (fun _ _ _ _ _ => pe_ifExp (pt_cmpR (opInK (K := K) rfl) (pv 8) (pe_tup (pa_cons (pv 5) (pa_cons (pv 6) (pa_cons (pe_op op_add (pv 1) (pv 4)) pa_nil)))) rfl) (pv 7) (pv 9)))))))
      (pss_one (ps_ret (pv 2))), ?_⟩
    have n12 := hW.n12
    have t20 := hW.t20
    refine ⟨_, rfl, ml, rfl, ⟨_, SqL.of hm⟩, for_list (K := K) (a := ml) (xs := vn o) (fun i σ H' => ∃ (c : Addr) (v4 v5 v6 v7 : Option V), σ = [some (.ref tl), some (.int (n : Int)), some (.ref c), some (.ref ml), v4, v5, v6, v7, none, none] ∧ Same H H' ∧ (c = cl ∨ H c = none) ∧ H' c = some (.lst (vrow (runC 0 n ts cs (o.take i))))) ⟨cl, none, none, none, none, rfl, Same.refl _, .inl rfl, hc⟩ (fun i σ H' _ ⟨_, _, _, _, _, _, s', _⟩ => SqL.of (s' _ _ hm)) ?_ ?_⟩
    · rintro i x σ H1 hx ⟨c, v4, v5, v6, v7, rfl, s1, _, hD⟩
      obtain ⟨t, hto, rfl⟩ := at_vn hx
      have tl' := hlt t (List.mem_of_getElem? hto)
      obtain ⟨pr, hpr⟩ := ex_at tl'
      obtain ⟨p1, p2, p3⟩ := hW.at_ hpr
      obtain ⟨pa, hpa0, hpa⟩ := (hA.same s1).get hpr
      have hpa' : H1 pa = some (.tup [.int (pr.1 : Int), .int (pr.2 : Int)]) := hpa
      have lr : (runC 0 n ts cs (o.take i)).length = n + ts.length := by rw [runC_len, hl]
      have hrun : runC 0 n ts cs (o.take (i + 1)) = metC 0 n ts (runC 0 n ts cs (o.take i)) t := by rw [take_succ hto, runC_snoc]
      generalize runC 0 n ts cs (o.take i) = xs at hD lr hrun ⊢
      have em := metL_eq hW lr hpr
      have et : (n : Int) + (t : Int) = ((n + t : Nat) : Int) := by omega
      refine ⟨_, rfl, _, rfl, tl, _, (t : Int), .ref pa, rfl, rfl, SqL.of (s1 _ _ ht), at_i (map_at hpa0), pa, _, rfl, SqT.of hpa', rfl, _, _, rfl, _, _, rfl, rfl, ?_⟩
      refine ⟨_, rfl, _, rfl, c, _, (pr.1 : Int), .int (xs.getD pr.1 0), rfl, rfl, SqL.of hD, at_i (vrow_get (by omega)), _, rfl, _, rfl, c, _, (pr.2 : Int), .int (xs.getD pr.2 0), rfl, rfl, SqL.of hD, at_i (vrow_get (by omega)), _, _, rfl, rfl, _, rfl, _, rfl, _, rfl, _, _, rfl, rfl, ?_⟩
      refine ⟨c, _, (n : Int) + (t : Int), .int (xs.getD (n + t) 0), rfl, rfl, SqL.of hD, (by rw [et]; exact at_i (vrow_get (by omega))), _, _, rfl, rfl, ?_⟩
      refine gn ?_
      dsimp only [List.set]
      generalize xs.getD pr.1 0 + xs.getD pr.2 0 - xs.getD (n + t) 0 = y at em ⊢
      refine ⟨_, rfl, c, rfl, .inl ⟨_, SqL.of hD, fun D1 hD1 => lc_enumL (K := K) (a := c) (xs := vrow xs) (fun j H' => Same H1 H' ∧ H' D1 = some (.lst (vrow (((List.range xs.length).map fun i => if i ∈ [pr.1, pr.2, n + t] then y else xs.getD i 0).take j)))) ⟨same_new hD1, by rw [upd_same]; rfl⟩ (fun j H' _ ⟨s', _⟩ => SqL.of (s' _ _ hD)) ?_ ?_⟩⟩
      · rintro j x' T H2 hx' hT ⟨s2, hE⟩
        obtain ⟨z, hz, rfl⟩ := vrow_at hx'
        have jl := lt_at hz
        have sT := same_new (o := HO.tup [V.int (j : Nat), .int z]) hT
        refine ⟨T, _, rfl, SqT.of upd_same, rfl, _, _, rfl, _, _, rfl, rfl, rfl, ?_⟩
        refine ⟨_, rfl, _, rfl, _, rfl, _, rfl, _, rfl, _, _, rfl, rfl, (by show 3 ≤ sizeLine; decide), fun T2 hT2 => ?_⟩
        have sT2 := same_new (o := HO.tup (vn [pr.1, pr.2, n + t])) hT2
        refine ⟨T2, vn [pr.1, pr.2, n + t], rfl, .inr (SqT.of upd_same), rfl, flat_vn _, _, rfl, ?_⟩
        simp only [Bool.false_eq_true, if_false]
        have ej : ((List.range xs.length).map fun i => if i ∈ [pr.1, pr.2, n + t] then y else xs.getD i 0)[j]? = some (if j ∈ [pr.1, pr.2, n + t] then y else xs.getD j 0) := rows_at jl
        have ez : xs.getD j 0 = z := by rw [List.getD_eq_getElem?_getD, hz]; rfl
        have fin : ∀ v : V, v = .int (if j ∈ [pr.1, pr.2, n + t] then y else xs.getD j 0) → ∃ acc, (upd (upd H2 T (.tup [V.int (j : Nat), .int z])) T2 (.tup (vn [pr.1, pr.2, n + t]))) D1 = some (.lst acc) ∧ acc.length < sizeLine ∧ Same H1 (upd (upd (upd H2 T (.tup [V.int (j : Nat), .int z])) T2 (.tup (vn [pr.1, pr.2, n + t]))) D1 (.lst (acc ++ [v]))) ∧ (upd (upd (upd H2 T (.tup [V.int (j : Nat), .int z])) T2 (.tup (vn [pr.1, pr.2, n + t]))) D1 (.lst (acc ++ [v]))) D1 = some (.lst (vrow (((List.range xs.length).map fun i => if i ∈ [pr.1, pr.2, n + t] then y else xs.getD i 0).take (j + 1)))) := fun v ev => by
          refine ⟨_, (sT.trans sT2) _ _ hE, szl (by rw [vrow_len, List.length_take, List.length_map, List.length_range]; omega), fun c' o' e' => ?_, ?_⟩
          · rw [upd_ne (ne_of_none e' hD1)]
            exact (sT.trans sT2) _ _ (s2 _ _ e')
          · rw [upd_same, take_succ ej, ev, vrow, vrow, List.map_append]; rfl
        have ein : inV (V.int (j : Int)) (vn [pr.1, pr.2, n + t]) = decide (j ∈ [pr.1, pr.2, n + t]) := inV_vn j _
        rw [show inV (V.int ((j : Nat) : Int)) (vn [pr.1, pr.2, n + t]) = decide (j ∈ [pr.1, pr.2, n + t]) from ein]
        by_cases cj : j ∈ [pr.1, pr.2, n + t]
        · rw [decide_eq_true cj]
          exact iteT ⟨_, rfl, fin _ (by rw [if_pos cj])⟩
        · rw [decide_eq_false cj]
          exact iteF ⟨_, rfl, fin _ (by rw [if_neg cj, ez])⟩
      · rintro H2 ⟨s2, hE⟩
        rw [List.take_of_length_le (by simp [vrow_len])] at hE
        refine gn ⟨D1, _, _, _, _, rfl, s1.trans s2, .inr (s1.free hD1), ?_⟩
        rw [hrun, em]
        exact hE
    · rintro σ H1 ⟨c, v4, v5, v6, v7, rfl, s1, fr, hD⟩
      rw [vn_len, List.take_of_length_le (Nat.le_refl _)] at hD
      exact ⟨_, rfl, q c H1 s1 fr hD⟩
end
end K1
namespace K1
open PySem PySem.Spec PyProof.Rows L2
/-- the law's rows: behind 0, 1, .. rounds -/
def trl (m : Int) (n : Nat) (ts : Prs) (h : Nat) (tu : List Nat) (j : Nat) : List Int := if m = 0 ∨ j = 0 then runC 0 n ts (dlt (n + ts.length) h) (rep j tu) else red m (runC 0 n ts (dlt (n + ts.length) h) (rep j tu))
theorem trl_len (m : Int) (n : Nat) (ts : Prs) (h : Nat) (tu : List Nat) (j : Nat) : (trl m n ts h tu j).length = n + ts.length := by
  unfold trl
  split
  · rw [runC_len, dlt_len]
  · rw [red_len, runC_len, dlt_len]
theorem trl_next {m : Int} {n : Nat} {ts : Prs} {h : Nat} {tu : List Nat} (hW : Wv n ts) (j : Nat) : trl m n ts h tu (j + 1) = if m = 0 then runC 0 n ts (trl m n ts h tu j) tu else red m (runC 0 n ts (trl m n ts h tu j) tu) := by
  have e : runC 0 n ts (dlt (n + ts.length) h) (rep (j + 1) tu) = runC 0 n ts (runC 0 n ts (dlt (n + ts.length) h) (rep j tu)) tu := by rw [rep_add, rep_one, runC_app]
  by_cases m0 : m = 0
  · rw [if_pos m0]
    unfold trl
    rw [if_pos (.inl m0), if_pos (.inl m0), e]
  · rw [if_neg m0]
    unfold trl
    rw [if_neg (by omega), e]
    by_cases j0 : j = 0
    · rw [if_pos (.inr j0)]
    · rw [if_neg (by omega)]
      exact (cg_red (runC_cg hW (.inl rfl) m0 tu (by rw [red_len, runC_len, dlt_len]) red_cg)).symm
theorem trl_red {m : Int} {n : Nat} {ts : Prs} {h : Nat} {tu : List Nat} (m0 : m ≠ 0) (j : Nat) : red m (trl m n ts h tu j) = red m (runC 0 n ts (dlt (n + ts.length) h) (rep j tu)) := by
  unfold trl
  split
  · rfl
  · exact cg_red red_cg
/-- rows that came round -/
theorem trl_round {m : Int} {n : Nat} {ts : Prs} {h : Nat} {tu : List Nat} (hW : Wv n ts) {i j : Nat} (lt : i < j) (e : trl m n ts h tu i = trl m n ts h tu j) (k : Nat) (hk : i ≤ k) : trl m n ts h tu k = trl m n ts h tu (i + (k - i) % (j - i)) := by
  have sh : ∀ s, trl m n ts h tu (i + s) = trl m n ts h tu (j + s) := fun s => by
    induction s with
    | zero => exact e
    | succ s ih =>
      rw [show i + (s + 1) = i + s + 1 by omega, show j + (s + 1) = j + s + 1 by omega, trl_next hW, trl_next hW, ih]
  have key : ∀ q r, trl m n ts h tu (i + (r + (j - i) * q)) = trl m n ts h tu (i + r) := fun q => by
    induction q with
    | zero => intro r; rw [Nat.mul_zero, Nat.add_zero]
    | succ q ih =>
      intro r
      have : i + (r + (j - i) * (q + 1)) = j + (r + (j - i) * q) := by rw [Nat.mul_succ]; omega
      rw [this, ← sh, ih]
  have := key ((k - i) / (j - i)) ((k - i) % (j - i))
  rw [show i + ((k - i) % (j - i) + (j - i) * ((k - i) / (j - i))) = k by rw [Nat.mod_add_div]; omega] at this
  exact this
theorem ne_rows {H : Hp} {a l : Addr} {r : List Int} {as : List Addr} (ha : H a = some (.lst (vrow r))) (hl : H l = some (.lst (as.map V.ref))) (hr : r ≠ []) : a ≠ l := fun z => by
  rw [z, hl] at ha
  have e : as.map V.ref = vrow r := by
    injection ha with ha
    injection ha
  cases r with
  | nil => exact hr rfl
  | cons x r =>
    cases as with
    | nil => cases e
    | cons y as =>
      injection e with e _
      cases e
theorem set_end (xs : List V) (a b : V) : (xs ++ [a]).set xs.length b = xs ++ [b] := by
  rw [List.set_append, if_neg (Nat.lt_irrefl _), Nat.sub_self]; rfl
theorem ixN_last {n : Nat} (h : 0 < n) : ixN n (-1) = some (n - 1) := by
  unfold ixN
  rw [if_neg (by omega), if_pos (by omega)]
  congr 1
  omega
def spTrail : Sp := fun vs H Q _ => ∃ (tl ol : Addr) (n h k : Nat) (m : Int) (ts : Prs) (tu : List Nat), vs = [.ref tl, .int (n : Int), .int (h : Int), .ref ol, .int (k : Int), .int m] ∧ TiesL H tl ts ∧ Wv n ts ∧ h < n ∧ H ol = some (.lst (vn tu)) ∧ (∀ t ∈ tu, t < ts.length) ∧ k ≤ 1000 ∧ 0 ≤ m ∧
  ∀ l as H', Same H H' → H l = none → H' l = some (.lst (as.map V.ref)) → RwsL H' as ((List.range (k + 1)).map (trl m n ts h tu)) → (∀ a ∈ as, H a = none) → Q (.ref l) H'
theorem rep0 (N : Nat) : (List.replicate N [V.int 0]).flatten = vrow ((List.range N).map fun _ => (0 : Int)) := by
  induction N with
  | zero => rfl
  | succ N ih => rw [List.replicate_succ', List.flatten_append, ih, List.range_succ, List.map_append, vrow, vrow, List.map_append]; rfl
section
variable {P : Program} {w : World} {K : PySem.W.Frag} {mg : Str → Option Value} {base : Heap}
abbrev nBg : List Str := ["_law_ties_here", "_law_houses", "_law_house", "_law_at"]
theorem scBg : FnScope nBg ["_law_ties_here", "_law_houses", "_law_house"] (defScope sLBegun) := ⟨rfl, rfl, rfl, by decide +kernel, rfl, by decide +kernel, by decide +kernel⟩
theorem ok_begun {f : Addr} {fd : FuncData} (D : Df K mg "_law_begun" sLBegun ["_law_ties_here", "_law_houses", "_law_house"] f fd) (B : Bt mg) : FnOk P w K mg base CX0 1 f fd ["_law_ties_here", "_law_houses", "_law_house"] spBegun := by
  refine D.F.ok scBg (fun vs H Q E h => ?_) (fun cdv A outer s H vs Q E hr h => ?_)
  · obtain ⟨tl, n, h, ts, rfl, _⟩ := h
    rfl
  · obtain ⟨tl, n, h, ts, rfl, ⟨tas, ht, hA⟩, n12, t20, hn, q⟩ := h
    refine ⟨_, pss_one (ps_ret (pe_op op_cat (pe_lc (own := [("_law_at", 3)]) (g := gName 3) (tt := tYes) rfl scBg.nd (pi_range1 (by rfl) B.range (pa_cons (pv 1) pa_nil)) (blkOk_by (N := nBg) (sc := defScope sLBegun) (by decide +kernel)) (fun _ _ _ _ _ => pg_name (i := 3) scBg.nd rfl (.inl rfl)) (fun _ _ _ _ _ => pts_nil)
          (fun _ _ _ _ _ => pe_ifExp (pt_cmpR op_eq (pv 3) (pv 2) (nomark _)) pe_int pe_int)) (pe_op op_rep (pe_lst (pa_cons pe_int pa_nil)) (pe_callB call_len_seq (by rfl) B.len PySem.boot_len (pa_cons (pv 0) pa_nil))))), ?_⟩
    have el : (tas.map V.ref).length = ts.length := by rw [List.length_map, hA.1]
    refine ⟨_, rfl, (n : Int), rfl, by omega, by omega, fun D0 hD0 => lc_range (fun j H' => Same H H' ∧ H' D0 = some (.lst (vrow ((dlt n h).take j)))) ⟨same_new hD0, by rw [upd_same]; rfl⟩ ?_ ?_⟩
    · rintro j H1 hj ⟨s1, hD⟩
      have jl : j < n := by omega
      have e : (dlt n h)[j]? = some (if j = h then 1 else 0) := rows_at jl
      have fin : ∀ v : V, v = .int (if j = h then 1 else 0) → ∃ acc, H1 D0 = some (.lst acc) ∧ acc.length < sizeLine ∧ Same H (upd H1 D0 (.lst (acc ++ [v]))) ∧ (upd H1 D0 (.lst (acc ++ [v]))) D0 = some (.lst (vrow ((dlt n h).take (j + 1)))) := fun v ev => by
        refine ⟨_, hD, szl (by rw [vrow_len, List.length_take, dlt_len]; omega), fun c o eo => ?_, ?_⟩
        · rw [upd_ne (ne_of_none eo hD0)]
          exact s1 _ _ eo
        · rw [upd_same, take_succ e, ev, vrow, vrow, List.map_append]; rfl
      refine ⟨rfl, _, rfl, _, rfl, rfl, _, rfl, ifD (fun c => fin _ ?_) fun c => fin _ ?_⟩
      · have z : V.int (0 + (j : Int)) = V.int (h : Int) := of_decide_eq_true c
        injection z with z
        rw [if_pos (by omega)]
      · have z : ¬ (V.int (0 + (j : Int)) = V.int (h : Int)) := of_decide_eq_false c
        rw [if_neg fun y => z (by rw [y, Int.zero_add])]
    · rintro H1 ⟨s1, hD⟩
      rw [List.take_of_length_le (by rw [dlt_len]; omega)] at hD
      refine ⟨(by show 1 ≤ sizeLine; decide), fun l1 hl1 => ⟨_, rfl, tl, _, rfl, .inl (SqL.of (same_new hl1 _ _ (s1 _ _ ht))), l1, _, _, rfl, rfl, upd_same, by omega, by omega, sz (by rw [Int.toNat_natCast]; simp only [List.length_cons, List.length_nil]; omega), fun l2 hl2 => ?_⟩⟩
      have s2 := (same_new (o := HO.lst [V.int 0]) hl1).trans (same_new (o := HO.lst (List.replicate ((tas.map V.ref).length : Int).toNat [V.int 0]).flatten) hl2)
      refine ⟨D0, l2, _, _, rfl, rfl, s2 _ _ hD, upd_same, sz (by rw [vrow_len, dlt_len, Int.toNat_natCast, rep0, vrow_len, List.length_map, List.length_range]; omega), fun r hr' => ?_⟩
      have s3 := s2.trans (same_new (o := HO.lst (vrow (dlt n h) ++ (List.replicate ((tas.map V.ref).length : Int).toNat [V.int 0]).flatten)) hr')
      refine q r _ (s1.trans s3) ((s1.trans s2).free hr') ?_
      rw [upd_same, Int.toNat_natCast, rep0, el, dlt_app hn, vrow, vrow, vrow, List.map_append]
theorem scSp : FnScope ["_law_houses", "_law_counts"] ["_law_houses", "_law_counts"] (defScope sLSplit) := ⟨rfl, rfl, rfl, by decide +kernel, rfl, by decide +kernel, by decide +kernel⟩
theorem ok_split {f : Addr} {fd : FuncData} (D : Df K mg "_law_split" sLSplit ["_law_houses", "_law_counts"] f fd) (B : Bt mg) : FnOk P w K mg base CX0 1 f fd ["_law_houses", "_law_counts"] spSplit := by
  refine D.F.ok scSp (fun vs H Q E h => ?_) (fun cdv A outer s H vs Q E hr h => ?_)
  · obtain ⟨c, n, cs, rfl, _⟩ := h
    rfl
  · obtain ⟨c, n, cs, rfl, hc, hn, q⟩ := h
    refine ⟨_, pss_one (ps_ret (pe_tup (pa_cons (pe_callTy call_tuple_of (by rfl) B.tuple PyProof.Rows.boot_tuple (pa_cons (pe_slice sl_list (pv 1) po_none (po_some (pv 0))) pa_nil)) (pa_cons (pe_callTy call_tuple_of (by rfl) B.tuple PyProof.Rows.boot_tuple (pa_cons (pe_slice sl_list (pv 1) (po_some (pv 0)) po_none) pa_nil)) pa_nil)))), ?_⟩
    refine ⟨_, rfl, noP ⟨_, rfl, _, rfl, c, _, rfl, SqL.of hc, fun u1 hu1 => ?_⟩⟩
    rw [cut_to (by rw [vrow_len]; exact hn), vrow_take]
    have s1 := same_new (o := HO.lst (vrow (cs.take n))) hu1
    refine ⟨u1, _, rfl, .inl ⟨SqL.of upd_same, fun a ha => ?_⟩⟩
    have s2 := s1.trans (same_new (o := HO.tup (vrow (cs.take n))) ha)
    have ha' : (upd (upd H u1 (.lst (vrow (cs.take n)))) a (.tup (vrow (cs.take n)))) a = some (.tup (vrow (cs.take n))) := upd_same
    generalize upd (upd H u1 (.lst (vrow (cs.take n)))) a (.tup (vrow (cs.take n))) = H1 at s2 ha' ⊢
    refine ⟨_, rfl, _, rfl, _, rfl, noP ⟨c, _, rfl, SqL.of (s2 _ _ hc), fun u2 hu2 => ?_⟩⟩
    rw [cut_from (by rw [vrow_len]; exact hn), vrow_drop]
    have s3 := same_new (o := HO.lst (vrow (cs.drop n))) hu2
    refine ⟨u2, _, rfl, .inl ⟨SqL.of upd_same, fun b hb => ?_⟩⟩
    have s4 := s3.trans (same_new (o := HO.tup (vrow (cs.drop n))) hb)
    exact ⟨(by show 2 ≤ sizeLine; decide), fun r hr' => q r a b _ ((s2.trans s4).trans (same_new hr')) upd_same (same_new hr' _ _ (s4 _ _ ha')) (same_new hr' _ _ upd_same)⟩
end
end K1
namespace K1
open PySem PySem.Spec PyProof.Rows L2
theorem below_bad {h n : Nat} (hn : h < n) (hb : belowB (.int (h : Int)) (n : Int) = false) : False := by
  have : (decide (0 ≤ (h : Int)) && decide ((h : Int) < (n : Int))) = false := hb
  rw [decide_eq_true (by omega), decide_eq_true (by omega)] at this
  cases this
def BadM (L : Nat) (o : Option (List V)) (i : Int) : Prop := (seqB o 0 10000 = false ∧ i = -1) ∨ ∃ (xs : List V) (j : Nat), o = some xs ∧ seqB o 0 10000 = true ∧ fnb xs (L : Int) = .int (j : Nat) ∧ i = (j : Nat)
def spWC (K : PySem.W.Frag) (W CH CB : Addr) : Sp := fun vs H Q E => ∃ (w : Addr) (vh vo : V) (oh oo : Option (List V)) (n : Nat) (ts : Prs), vs = [.ref w, vh, vo] ∧ WebAt W H w n ts ∧ Wv n ts ∧ KV K H vh oh ∧ Rw K H vo oo ∧
  ((belowB vh (n : Int) = false ∧ Rz CH "house" vh H E) ∨ ∃ h : Nat, vh = .int (h : Int) ∧ h < n ∧ ((∃ i, BadM ts.length oo i ∧ Rz CB "at" (.int i) H E) ∨ ∃ tu, oo = some (vn tu) ∧ tu.length ≤ 10000 ∧ (∀ t ∈ tu, t < ts.length) ∧
    ∀ r a b H', Same H H' → H' r = some (.tup [.ref a, .ref b]) → H' a = some (.tup (vrow ((runC 0 n ts (dlt (n + ts.length) h) tu).take n))) → H' b = some (.tup (vrow ((runC 0 n ts (dlt (n + ts.length) h) tu).drop n))) → Q (.ref r) H'))
section
variable {P : Program} {w : World} {K : PySem.W.Frag} {mg : Str → Option Value} {base : Heap}
abbrev nWC : List Str := ["web", "house", "meetings", "ties"]
theorem scWC : FnScope nWC ["web", "house", "meetings"] (defScope sWayCounts) := ⟨rfl, rfl, rfl, by decide +kernel, rfl, by decide +kernel, by decide +kernel⟩
theorem ok_wc {f fN fK fO fP fB W CH CB : Addr} {fd fdN fdK fdO fdP fdB : FuncData} (D : Df K mg "way_counts" sWayCounts ["web", "house", "meetings"] f fd) (DN : Df K mg "need_house" sNeedH ["web", "house"] fN fdN) (DK : Df K mg "check_meetings" sCheckMeetings ["web", "value"] fK fdK) (DO : Df K mg "one_at" sOneAt ["web", "place"] fO fdO)
    (DP : Df K mg "parted" sParted ["web", "counts"] fP fdP) (DB : Df K mg "counts_behind" sCountsBehind ["web", "counts", "meetings", "modulus"] fB fdB) (B : Bt mg) (T : WcT K mg W)
    (GN : FnOk P w K mg base (L2.CX P w) 3 fN fdN ["web", "house"] (spNeedH K W CH)) (GK : FnOk P w K mg base (L2.CX P w) 4 fK fdK ["web", "value"] (spCM K W CB)) (GO : FnOk P w K mg base CX0 1 fO fdO ["web", "place"] (spOneAt W)) (GP : FnOk P w K mg base CX0 1 fP fdP ["web", "counts"] (spParted W))
    (GB : FnOk P w K mg base CX0 2 fB fdB ["web", "counts", "meetings", "modulus"] (spCB W)) : FnOk P w K mg base (L2.CX P w) 5 f fd ["web", "house", "meetings"] (spWC K W CH CB) := by
  refine D.F.okX scWC (fun vs H Q E h => ?_) (fun cdv A outer s H vs Q E hr h => ?_)
  · obtain ⟨w, vh, vo, oh, oo, n, ts, rfl, _⟩ := h
    rfl
  · obtain ⟨w, vh, vo, oh, oo, n, ts, rfl, hw, hW, kh, ko, q⟩ := h
    have r1 := hr.mono (show 1 ≤ 4 by decide)
    have r2 := hr.mono (show 2 ≤ 4 by decide)
    have r3 := hr.mono (show 3 ≤ 4 by decide)
    refine ⟨_, pss_cons (ps_expr (pc DN GN r3 (pass1 (takes_of rfl rfl rfl rfl)) (pa_cons (pv 0) (pa_cons (pv 1) pa_nil))))
      (pss_cons (ps_set (i := 3) scWC.nd rfl (.inl rfl) (pc DK GK hr (pass1 (takes_of rfl rfl rfl rfl)) (pa_cons (pv 0) (pa_cons (pv 2) pa_nil))))
      (pss_one (ps_ret (pc DP GP r1 pass0 (pa_cons (pv 0) (pa_cons (pc DB GB r2 pass0 (pa_cons (pv 0) (pa_cons (pc DO GO r1 pass0 (pa_cons (pv 0) (pa_cons (pv 1) pa_nil))) (pa_cons (pv 3) (pa_cons pe_int pa_nil))))) pa_nil)))))), ?_⟩
    refine ⟨_, rfl, _, rfl, w, vh, oh, n, ts, rfl, hw, kh, fun hb => ?_, fun hb => ?_⟩
    rotate_left
    · rcases q with ⟨_, q⟩ | ⟨h, rfl, hn, _⟩
      · exact q
      · exact (below_bad hn hb).elim
    obtain ⟨h, rfl, hn⟩ := below_nat hb
    rcases q with ⟨z, _⟩ | ⟨h', eh, hn', q⟩
    · rw [hb] at z; cases z
    injection eh with eh
    obtain rfl : h = h' := by omega
    refine ⟨_, rfl, _, rfl, w, vo, oo, n, ts, rfl, hw, hW, ko, ?_⟩
    rcases q with ⟨i, ⟨e, rfl⟩ | ⟨xs, j, eo, e, ef, rfl⟩, r⟩ | ⟨tu, eo, lt, hlt, q⟩
    · exact .inl ⟨e, r⟩
    · exact .inr (.inl ⟨xs, j, eo, e, ef, r⟩)
    refine .inr (.inr ⟨tu, eo, lt, hlt, fun p H1 s1 hp => ?_⟩)
    refine gn ?_
    dsimp only [List.set]
    have hw1 := hw.same s1
    have ll := dlt_len (n + ts.length) h
    refine ⟨_, rfl, _, rfl, _, rfl, _, rfl, w, n, ts, h, rfl, hw1, hW, fun o H2 s2 ho => ?_⟩
    have s12 := s1.trans s2
    refine ⟨_, rfl, w, o, p, 0, n, ts, _, tu, rfl, hw.same s12, hW, ho, ll, s2 _ _ hp, hlt, Int.le_refl _, fun r H3 s3 hr' => ?_⟩
    exact nilP ⟨w, r, n, ts, _, rfl, (hw.same s12).same s3, hr', by rw [runC_len, ll]; omega, fun r a b H4 s4 hr' ha' hb' => q r a b H4 ((s12.trans s3).trans s4) hr' ha' hb'⟩
end
end K1
namespace K1
open PySem PySem.Spec PyProof.Rows L2
/-! ### the last tie of a way, on the heap -/
def lastT (w : Wy) : Wy := w.drop (w.length - 1)
theorem lastT_snoc (v : Wy) (t : Nat) : lastT (v ++ [t]) = [t] := by
  unfold lastT
  rw [List.length_append, List.length_singleton, Nat.add_sub_cancel, List.drop_left]
theorem sIx_last (n d : Nat) : HT.sIx n d (some (-1)) = n - 1 := by
  show (if (-1 : Int) < 0 then ((-1 : Int) + (n : Int)).toNat else min (-1 : Int).toNat n) = n - 1
  rw [if_pos (by decide)]
  omega
theorem sl_last {K : PySem.W.Frag} {H : Hp} {Q : VK} {b : Addr} {w : Wy} (hb : H b = some (.tup (vn w))) (q : ∀ a H', Same H H' → H' a = some (.tup (vn (lastT w))) → Q (.ref a) H') : rSlA K (.ref b) (some (-1)) none H Q := by
  have lw := vn_len w
  refine ⟨b, vn w, rfl, SqT.of hb, fun ⟨e, _⟩ => ?_, fun e p hp => ?_⟩
  · rw [sIx_last, lw] at e
    refine q b H (Same.refl _) ?_
    unfold lastT
    rw [e, List.drop_zero]
    exact hb
  · have ec : cutV (vn w) (some (-1)) none = vn (lastT w) := by
      unfold cutV lastT
      rw [sIx_last, HT.sIx_none, lw, vn, vn, List.map_drop]
      exact List.take_of_length_le (by rw [List.length_drop, List.length_map]; exact Nat.le_refl _)
    rw [ec]
    exact q p _ (same_new hp) upd_same
theorem eqv_last (w : Wy) (t : Nat) : PyData.eqv (.tuple (dI ((lastT w).map fun (x : Nat) => (x : Int)))) (.tuple (dI ([t].map fun (x : Nat) => (x : Int)))) = isL t w := by
  by_cases e : w = []
  · subst e; rfl
  · have ew := (List.dropLast_concat_getLast e).symm
    rw [ew, lastT_snoc, isL_snoc]
    show (((w.getLast e : Nat) : Int) == ((t : Nat) : Int) && true) = decide (w.getLast e = t)
    rw [Bool.and_true]
    by_cases c : w.getLast e = t
    · rw [c, decide_eq_true rfl]; exact beq_self_eq_true _
    · rw [decide_eq_false c]
      exact beq_eq_false_iff_ne.mpr fun z => c (by omega)
theorem pla_nat {l : List Nat} (h : ∀ x ∈ l, x < 1000) : PlA (dI (l.map fun (x : Nat) => (x : Int))) 0 (l.length * 65) := (pla_ints _ fun i hi => by
  obtain ⟨x, hx, rfl⟩ := List.mem_map.mp hi
  have := h x hx
  omega).mono (Nat.le_refl _) (by rw [List.length_map]; exact Nat.le_refl _)
theorem lastT_len (w : Wy) : (lastT w).length ≤ 1 := by unfold lastT; rw [List.length_drop]; omega
theorem lastT_mem {w : Wy} {x : Nat} (h : x ∈ lastT w) : x ∈ w := List.mem_of_mem_drop h
/-- way[-1:] != (tie,) -/
theorem ne_last {K : PySem.W.Frag} {H : Hp} {Q : VK} {a b : Addr} {w : Wy} {t : Nat} (ha : H a = some (.tup (vn (lastT w)))) (hb : H b = some (.tup (vn [t]))) (hw : ∀ x ∈ w, x < 1000) (ht : t < 1000) (q : Q (.bl (noL t w)) H) : rNeD K (.ref a) (.ref b) H Q := by
  have p1 : Pl (.tuple (dI ((lastT w).map fun (x : Nat) => (x : Int)))) 1 1000 := (Pl.tuple (pla_nat fun x hx => hw x (lastT_mem hx))).mono (by decide) (by have := lastT_len w; omega)
  have p2 : Pl (.tuple (dI ([t].map fun (x : Nat) => (x : Int)))) 1 1000 := (Pl.tuple (pla_nat fun x hx => by rw [List.mem_singleton.mp hx]; exact ht)).mono (by decide) (by show 1 * 65 ≤ 1000; decide)
  refine ⟨_, _, dp_vn ha, dp_vn hb, p1.shaped (by decide), p2.shaped (by decide), qbl ?_ q⟩
  rw [eqv_last]
  rfl
end K1
namespace K1
open PySem PySem.Spec PyProof.Rows L2
/-! ### counts never fall, and grow threefold at most -/
theorem wstep_app (ts : Prs) (S : WSt) (t x : Nat) : ∃ e, (wstep ts S t).ways x = S.ways x ++ e := by
  unfold wstep
  cases ts[t]? with
  | none => exact ⟨[], (List.append_nil _).symm⟩
  | some p => exact ⟨wext S t p x, rfl⟩
theorem CI.grow {n : Nat} {ts : Prs} (hW : Wv n ts) {cs cs' : List Int} {S : WSt} {t : Nat} (C : CI n ts cs S) (C' : CI n ts cs' (wstep ts S t)) (i : Nat) (hi : i < n + ts.length) : cs.getD i 0 ≤ cs'.getD i 0 := by
  by_cases c : i < n
  · obtain ⟨e, he⟩ := wstep_app ts S t i
    rw [C.ho i c, C'.ho i c, he, List.length_append]
    omega
  · obtain ⟨u, rfl⟩ : ∃ u, i = n + u := ⟨i - n, by omega⟩
    obtain ⟨q, hq⟩ := ex_at (l := ts) (i := u) (by omega)
    obtain ⟨e1, h1⟩ := wstep_app ts S t q.1
    obtain ⟨e2, h2⟩ := wstep_app ts S t q.2
    rw [C.ti u q hq, C'.ti u q hq, h1, h2, List.filter_append, List.filter_append, List.length_append, List.length_append]
    omega
theorem sum_at (y k : Nat) : ∀ n, y < n → ((List.range n).map fun x => if y = x then k else 0).sum = k
  | 0, h => absurd h (Nat.not_lt_zero _)
  | n + 1, h => by
    rw [List.range_succ, List.map_append, List.sum_append]
    by_cases c : y = n
    · rw [sum_zero _ _ fun x hx => if_neg (by have := List.mem_range.mp hx; omega)]
      simp [c]
    · rw [sum_at y k n (by omega)]
      simp [c]
theorem le_sum (f : Nat → Nat) (x : Nat) : ∀ n, x < n → f x ≤ ((List.range n).map f).sum
  | 0, h => absurd h (Nat.not_lt_zero _)
  | n + 1, h => by
    rw [List.range_succ, List.map_append, List.sum_append]
    by_cases c : x = n
    · rw [c]; simp
    · have := le_sum f x n (by omega)
      omega
def wsum (n : Nat) (S : WSt) : Nat := ((List.range n).map fun x => (S.ways x).length).sum
theorem gon_le (t : Nat) (ws : List Wy) : (gon t ws).length ≤ ws.length := by have := gon_len t ws; omega
theorem wsum_step {n : Nat} {ts : Prs} (hW : Wv n ts) (S : WSt) (t : Nat) : wsum n (wstep ts S t) ≤ 3 * wsum n S := by
  unfold wstep
  cases hp : ts[t]? with
  | none =>
    show wsum n S ≤ _
    omega
  | some p =>
    obtain ⟨p1, p2, pn⟩ := hW.at_ hp
    have l1 : (gon t ((S.ways p.2).drop (S.pb t))).length ≤ wsum n S := by
      have h1 := gon_le t ((S.ways p.2).drop (S.pb t))
      have h2 := le_sum (fun x => (S.ways x).length) p.2 n p2
      rw [List.length_drop] at h1
      have h2' : (S.ways p.2).length ≤ wsum n S := h2
      omega
    have l2 : (gon t ((S.ways p.1).drop (S.pa t))).length ≤ wsum n S := by
      have h1 := gon_le t ((S.ways p.1).drop (S.pa t))
      have h2 := le_sum (fun x => (S.ways x).length) p.1 n p1
      rw [List.length_drop] at h1
      have h2' : (S.ways p.1).length ≤ wsum n S := h2
      omega
    have e : (fun x => ((wput S t p).ways x).length) = fun x => (S.ways x).length + ((if p.1 = x then (gon t ((S.ways p.2).drop (S.pb t))).length else 0) + (if p.2 = x then (gon t ((S.ways p.1).drop (S.pa t))).length else 0)) := by
      funext x
      show (S.ways x ++ wext S t p x).length = _
      rw [List.length_append]
      unfold wext
      by_cases c1 : x = p.1
      · rw [if_pos c1, if_pos c1.symm, if_neg (by rw [c1]; exact fun z => pn z.symm)]; rfl
      · rw [if_neg c1, if_neg (show ¬ p.1 = x from fun z => c1 z.symm)]
        by_cases c2 : x = p.2
        · rw [if_pos c2, if_pos (show p.2 = x from c2.symm), Nat.zero_add]
        · rw [if_neg c2, if_neg (show ¬ p.2 = x from fun z => c2 z.symm)]; rfl
    show ((List.range n).map fun x => ((wput S t p).ways x).length).sum ≤ _
    rw [e, sum_add, sum_add, sum_at _ _ _ p1, sum_at _ _ _ p2]
    have : ((List.range n).map fun x => (S.ways x).length).sum = wsum n S := rfl
    omega
end K1
namespace K1
open PySem PySem.Spec PyProof.Rows L2
theorem catAK {X : Cx} {K : PySem.W.Frag} (h : X.K = K) : OpR X (binaryOp .Add) (rCatA K) := by subst h; exact op_catA
theorem slAK {X : Cx} {K : PySem.W.Frag} (h : X.K = K) : SlR X (rSlA K) := by subst h; exact sl_tupA
/-- ways on the heap: a list of lists of tuples -/
def WysAt (H : Hp) (hs : List Addr) (f : Nat → List Wy) : Prop := ∀ x c, hs[x]? = some c → ∃ as : List Addr, H c = some (.lst (as.map V.ref)) ∧ as.length = (f x).length ∧ ∀ (i : Nat) (a : Addr) (w : Wy), as[i]? = some a → (f x)[i]? = some w → H a = some (.tup (vn w))
theorem refs_inj {as bs : List Addr} (h : as.map V.ref = bs.map V.ref) : as = bs := (List.map_inj_right (fun a b e => by injection e)).mp h
theorem WysAt.kp {H H' : Hp} {hs : List Addr} {f : Nat → List Wy} (a : WysAt H hs f) (k : ∀ c ∈ hs, ∀ o, H c = some o → H' c = some o) (t : ∀ c xs, H c = some (.tup xs) → H' c = some (.tup xs)) : WysAt H' hs f := fun x c hx =>
  let ⟨as, h1, h2, h3⟩ := a x c hx
  ⟨as, k c (List.mem_of_getElem? hx) _ h1, h2, fun i b w e1 e2 => t _ _ (h3 i b w e1 e2)⟩
theorem WysAt.ext {H : Hp} {hs as bs : List Addr} {f : Nat → List Wy} {x : Nat} {c : Addr} {g : List Wy} (a : WysAt H hs f) (nd : hs.Nodup) (hx : hs[x]? = some c) (hc : H c = some (.lst (as.map V.ref))) (lb : bs.length = g.length) (hb : ∀ (i : Nat) (b : Addr) (w : Wy), bs[i]? = some b → g[i]? = some w → H b = some (.tup (vn w))) :
    WysAt (upd H c (.lst (as.map V.ref ++ bs.map V.ref))) hs (fun y => if y = x then f y ++ g else f y) := fun y d hy => by
  have nt : ∀ b xs, H b = some (.tup xs) → b ≠ c := fun b xs e z => by rw [z, hc] at e; cases e
  obtain ⟨as', h1, h2, h3⟩ := a y d hy
  by_cases e : y = x
  · subst e
    rw [hx] at hy
    cases hy
    have ea : as' = as := refs_inj (by
      have := h1.symm.trans hc
      injection this with this
      injection this)
    subst ea
    refine ⟨as' ++ bs, by rw [upd_same, List.map_append], by dsimp only; rw [if_pos rfl, List.length_append, List.length_append, h2, lb], fun i b w e1 e2 => ?_⟩
    dsimp only at e2
    rw [if_pos rfl] at e2
    by_cases il : i < as'.length
    · rw [List.getElem?_append_left il] at e1
      rw [List.getElem?_append_left (by omega)] at e2
      have := h3 i b w e1 e2
      rw [upd_ne (nt _ _ this)]
      exact this
    · rw [List.getElem?_append_right (by omega)] at e1
      rw [List.getElem?_append_right (by omega), ← h2] at e2
      have := hb _ b w e1 e2
      rw [upd_ne (nt _ _ this)]
      exact this
  · have ne : d ≠ c := fun z => by
      subst z
      exact e ((List.getElem?_inj (lt_at hy) nd).mp (hy.trans hx.symm))
    refine ⟨as', by rw [upd_ne ne]; exact h1, by dsimp only; rw [if_neg e]; exact h2, fun i b w e1 e2 => ?_⟩
    dsimp only at e2
    rw [if_neg e] at e2
    have := h3 i b w e1 e2
    rw [upd_ne (nt _ _ this)]
    exact this
def spWG (W : Addr) : Sp := fun vs H Q _ => ∃ (w p : Addr) (n h : Nat) (ts : Prs) (tu : List Nat), vs = [.ref w, .int (h : Int), .ref p] ∧ WebAt W H w n ts ∧ Wv n ts ∧ h < n ∧ H p = some (.tup (vn tu)) ∧ (∀ t ∈ tu, t < ts.length) ∧ tu.length ≤ 10000 ∧ (∀ x, ((wrun ts h tu).ways x).length ≤ 100000) ∧
  ∀ r hs H', Same H H' → H' r = some (.lst (hs.map V.ref)) → hs.length = n → WysAt H' hs (wrun ts h tu).ways → Q (.ref r) H'
theorem wrun_app (ts : Prs) (h : Nat) (a : List Nat) : ∀ (b : List Nat) (x : Nat), ∃ e, (wrun ts h (a ++ b)).ways x = (wrun ts h a).ways x ++ e := by
  have key : ∀ (b : List Nat) (S : WSt) (x : Nat), ∃ e, (b.foldl (wstep ts) S).ways x = S.ways x ++ e := by
    intro b
    induction b with
    | nil => exact fun S x => ⟨[], (List.append_nil _).symm⟩
    | cons t b ih =>
      intro S x
      obtain ⟨e1, h1⟩ := ih (wstep ts S t) x
      obtain ⟨e2, h2⟩ := wstep_app ts S t x
      exact ⟨e2 ++ e1, by rw [List.foldl_cons, h1, h2, List.append_assoc]⟩
  intro b x
  unfold wrun
  rw [List.foldl_append]
  exact key b _ x
theorem wrun_take {ts : Prs} {h : Nat} (tu : List Nat) (i x : Nat) : ((wrun ts h (tu.take i)).ways x).length ≤ ((wrun ts h tu).ways x).length := by
  obtain ⟨e, he⟩ := wrun_app ts h (tu.take i) (tu.drop i) x
  rw [List.take_append_drop] at he
  rw [he, List.length_append]
  omega
def TupsAt (H : Hp) (bs : List Addr) (g : List Wy) : Prop := bs.length = g.length ∧ ∀ (i : Nat) (b : Addr) (w : Wy), bs[i]? = some b → g[i]? = some w → H b = some (.tup (vn w))
theorem TupsAt.kp {H H' : Hp} {bs : List Addr} {g : List Wy} (a : TupsAt H bs g) (s : ∀ c xs, H c = some (.tup xs) → H' c = some (.tup xs)) : TupsAt H' bs g := ⟨a.1, fun i b w e1 e2 => s _ _ (a.2 i b w e1 e2)⟩
theorem TupsAt.snoc {H : Hp} {bs : List Addr} {g : List Wy} {b : Addr} {w : Wy} (a : TupsAt H bs g) (hb : H b = some (.tup (vn w))) : TupsAt H (bs ++ [b]) (g ++ [w]) := by
  refine ⟨by rw [List.length_append, List.length_append, a.1]; rfl, fun i c v e1 e2 => ?_⟩
  by_cases il : i < bs.length
  · rw [List.getElem?_append_left il] at e1
    rw [List.getElem?_append_left (by rw [← a.1]; exact il)] at e2
    exact a.2 i c v e1 e2
  · rw [List.getElem?_append_right (by omega)] at e1
    rw [List.getElem?_append_right (by rw [← a.1]; omega), ← a.1] at e2
    cases hk : i - bs.length with
    | zero => rw [hk] at e1 e2; cases e1; cases e2; exact hb
    | succ k => rw [hk] at e1; cases e1
theorem gon_take {t j : Nat} {g : List Wy} {w : Wy} (h : g[j]? = some w) : gon t (g.take (j + 1)) = if noL t w = true then gon t (g.take j) ++ [w ++ [t]] else gon t (g.take j) := by
  rw [List.take_add_one, h, gon_app]
  show gon t (g.take j) ++ (([w].filter (noL t)).map (· ++ [t])) = _
  by_cases c : noL t w = true
  · rw [if_pos c, List.filter_cons_of_pos c]; rfl
  · rw [if_neg c, List.filter_cons_of_neg c]; exact List.append_nil _
section
variable {P : Program} {w : World} {K : PySem.W.Frag} {mg : Str → Option Value} {base : Heap}
abbrev nWG : List Str := ["web", "house", "meetings", "ways", "passed", "tie", "one", "other", "there", "back", "_", "way"]
theorem scWG : FnScope nWG ["web", "house", "meetings"] (defScope sWaysGone) := ⟨rfl, rfl, rfl, by decide +kernel, rfl, by decide +kernel, by decide +kernel⟩
theorem ok_wg {f W : Addr} {fd : FuncData} (D : Df K mg "ways_gone" sWaysGone ["web", "house", "meetings"] f fd) (B : Bt mg) (T : WcT K mg W) : FnOk P w K mg base CX0 1 f fd ["web", "house", "meetings"] (spWG W) := by
  refine D.F.ok scWG (fun vs H Q E h => ?_) (fun cdv A outer s H vs Q E hr h => ?_)
  · obtain ⟨w, p, n, h, ts, tu, rfl, _⟩ := h
    rfl
  · obtain ⟨w, p, n, h, ts, tu, rfl, hw, hW, hn, hp, hlt, ltu, bd, q⟩ := h
    have hu := hr.units
    refine ⟨_, pss_cons (ps_setLc (i := 3) (own := [("_", 10)]) (g := gName 10) (tt := tYes) rfl scWG.nd rfl rfl (sw_true rfl rfl rfl rfl) (pi_range1 (by rfl) B.range (pa_cons (pe_fld (pv 0) rfl) pa_nil)) (blkOk_by (N := nWG) (sc := defScope sWaysGone) (by decide +kernel)) (fun _ _ _ _ _ => pg_name (i := 10) scWG.nd rfl (.inl rfl)) (fun _ _ _ _ _ => pts_nil)
        (fun _ _ _ _ _ => pe_lst pa_nil))
      (pss_cons (ps_expr (pe_bm PySem.F.plainAttrs_list PySem.F.slot_list_append PySem.F.type_list_append mt_append (pe_ix ix_list (pv 3) (pv 1) (fun _ _ => rfl)) (pa_cons (pe_tup pa_nil) pa_nil)))
      (pss_cons (ps_set (i := 4) scWG.nd rfl (.inl rfl) (pe_op op_rep (pe_lst (pa_cons (pe_tup (pa_cons pe_int (pa_cons pe_int pa_nil))) pa_nil)) (pe_callB call_len_seq (by rfl) B.len PySem.boot_len (pa_cons (pe_fld (pv 0) rfl) pa_nil))))
      (pss_cons (ps_for PassesOwn.never rfl (pi_tup (pv 2)) (pg_name (i := 5) scWG.nd rfl (.inr rfl))
        (pss_cons (ps_asg (pe_ix ix_tup (pe_fld (pv 0) rfl) (pv 5) (fun _ _ => rfl)) (pg_tup rfl (pgs_cons (pg_name (i := 6) scWG.nd rfl (.inl rfl)) (pgs_cons (pg_name (i := 7) scWG.nd rfl (.inl rfl)) pgs_nil))))
        (pss_cons (ps_setLc (i := 8) (own := [("way", 11)]) (g := gName 11) rfl scWG.nd rfl rfl (sw_true rfl rfl rfl rfl) (pi_list (pe_slice sl_list (pe_ix ix_list (pv 3) (pv 6) (fun _ _ => rfl)) (po_some (pe_ix ix_tup (pe_ix ix_list (pv 4) (pv 5) (fun _ _ => rfl)) pe_int (fun _ _ => rfl))) po_none)) (blkOk_by (N := nWG) (sc := defScope sWaysGone) (by decide +kernel)) (fun _ _ _ _ _ => pg_name (i := 11) scWG.nd rfl (.inl rfl))
            (fun _ _ _ _ _ => pts_one (pt_cmpR (neD (K := K) rfl hu) (pe_slice (slAK (K := K) rfl) (pv 11) (po_some (pe_un un_neg pe_int)) po_none) (pe_tup (pa_cons (pv 5) pa_nil)) (nomark _))) (fun _ _ _ _ _ => pe_op (catAK (K := K) rfl) (pv 11) (pe_tup (pa_cons (pv 5) pa_nil))))
        (pss_cons (ps_setLc (i := 9) (own := [("way", 11)]) (g := gName 11) rfl scWG.nd rfl rfl (sw_true rfl rfl rfl rfl) (pi_list (pe_slice sl_list (pe_ix ix_list (pv 3) (pv 7) (fun _ _ => rfl)) (po_some (pe_ix ix_tup (pe_ix ix_list (pv 4) (pv 5) (fun _ _ => rfl)) pe_int (fun _ _ => rfl))) po_none)) (blkOk_by (N := nWG) (sc := defScope sWaysGone) (by decide +kernel)) (fun _ _ _ _ _ => pg_name (i := 11) scWG.nd rfl (.inl rfl))
            (fun _ _ _ _ _ => pts_one (pt_cmpR (neD (K := K) rfl hu) (pe_slice (slAK (K := K) rfl) (pv 11) (po_some (pe_un un_neg pe_int)) po_none) (pe_tup (pa_cons (pv 5) pa_nil)) (nomark _))) (fun _ _ _ _ _ => pe_op (catAK (K := K) rfl) (pv 11) (pe_tup (pa_cons (pv 5) pa_nil))))
        (pss_cons (ps_asg (pe_tup (pa_cons (pe_callB call_len_seq (by rfl) B.len PySem.boot_len (pa_cons (pe_ix ix_list (pv 3) (pv 6) (fun _ _ => rfl)) pa_nil)) (pa_cons (pe_callB call_len_seq (by rfl) B.len PySem.boot_len (pa_cons (pe_ix ix_list (pv 3) (pv 7) (fun _ _ => rfl)) pa_nil)) pa_nil))) (pg_sub (pv 4) (pv 5) set_list))
        (pss_cons (ps_expr (pe_bm PySem.F.plainAttrs_list PySem.F.slot_list_extend PySem.F.type_list_extend mt_extend (pe_ix ix_list (pv 3) (pv 6) (fun _ _ => rfl)) (pa_cons (pv 9) pa_nil)))
        (pss_one (ps_expr (pe_bm PySem.F.plainAttrs_list PySem.F.slot_list_extend PySem.F.type_list_extend mt_extend (pe_ix ix_list (pv 3) (pv 7) (fun _ _ => rfl)) (pa_cons (pv 8) pa_nil))))))))))
      (pss_one (ps_ret (pv 3)))))), ?_⟩
    obtain ⟨dxw, tw, w1, tas, w2, w3⟩ := id hw
    have n12 := hW.n12
    have t20 := hW.t20
    refine ⟨_, rfl, w, W, dxw, _, _, rfl, w1, T.cl, T.nH, wf_h _ _, (n : Int), rfl, by omega, by omega, fun D0 hD0 => lc_range (fun i H' => ∃ hs : List Addr, hs.length = i ∧ Same H H' ∧ H' D0 = some (.lst (hs.map V.ref)) ∧ hs.Nodup ∧ ∀ c ∈ hs, H' c = some (.lst []) ∧ c ≠ D0 ∧ H c = none) ⟨[], rfl, same_new hD0, by rw [upd_same]; rfl, by simp, fun c hc => (by cases hc)⟩ ?_ ?_⟩
    · rintro i H1 hi ⟨hs, lh, s1, hD, nd, hc⟩
      refine ⟨rfl, (by show 0 ≤ sizeLine; decide), fun e he => ?_⟩
      have nD : D0 ≠ e := fun z => by rw [z, he] at hD; cases hD
      refine ⟨_, by rw [upd_ne nD]; exact hD, szl (by rw [List.length_map]; omega), hs ++ [e], by rw [List.length_append, lh]; rfl, fun c o h0 => ?_, by rw [upd_same, List.map_append]; rfl, ?_, fun c h0 => ?_⟩
      · rw [upd_ne (ne_of_none h0 hD0), upd_ne (ne_of_none (s1 _ _ h0) he)]
        exact s1 _ _ h0
      · refine List.nodup_append.mpr ⟨nd, by simp, fun a ha b hb z => ?_⟩
        rw [List.mem_singleton.mp hb] at z
        have := (hc a ha).1
        rw [z, he] at this
        cases this
      · rcases List.mem_append.mp h0 with z | z
        · obtain ⟨a1, a2, a3⟩ := hc c z
          rw [upd_ne a2, upd_ne (ne_of_none a1 he)]
          exact ⟨a1, a2, a3⟩
        · rw [List.mem_singleton.mp z, upd_ne nD.symm, upd_same]
          exact ⟨rfl, nD.symm, s1.free he⟩
    rintro H1 ⟨hs, lh, s1, hD, nd, hc⟩
    refine gn ?_
    dsimp only [List.set]
    -- the way of no tie
    obtain ⟨ch, ech⟩ := ex_at (l := hs) (i := h) (by omega)
    obtain ⟨hch, nch, fch⟩ := hc ch (List.mem_of_getElem? ech)
    refine ⟨_, rfl, _, rfl, D0, _, (h : Int), .ref ch, rfl, rfl, SqL.of hD, at_i (map_at ech), .inl ⟨rfl, _, SqL.of hch⟩, (by show 0 ≤ sizeLine; decide), fun e he => ?_⟩
    have s2 := same_new (o := HO.tup []) he
    have he2 : (upd H1 e (.tup [])) e = some (.tup (vn [])) := upd_same
    have hch2 := s2 _ _ hch
    refine ⟨ch, [], _, rfl, rfl, hch2, szl (by decide), ?_⟩
    have W0 : WysAt (upd H1 e (.tup [])) hs (fun _ => []) := fun x c hx => ⟨[], s2 _ _ (hc c (List.mem_of_getElem? hx)).1, rfl, fun i a w e1 => (by cases e1)⟩
    have W1 := W0.ext (as := []) (bs := [e]) (g := [[]]) nd ech hch2 rfl (fun i b w e1 e2 => by
      cases i with
      | zero => cases e1; cases e2; exact he2
      | succ i => cases e1)
    rw [show (fun y => if y = h then ([] : List Wy) ++ [[]] else []) = (wst0 h).ways from rfl] at W1
    have s3 : Same H (upd (upd H1 e (.tup [])) ch (.lst ([] ++ [.ref e]))) := fun c o e1 => by rw [upd_ne (ne_of_none e1 fch)]; exact s2 _ _ (s1 _ _ e1)
    have hD3 : (upd (upd H1 e (.tup [])) ch (.lst ([] ++ [.ref e]))) D0 = some (.lst (hs.map V.ref)) := by rw [upd_ne nch.symm]; exact s2 _ _ hD
    have nnh : ∀ c ∈ hs, c ≠ D0 ∧ H c = none := fun c h0 => (hc c h0).2
    have W1' : WysAt (upd (upd H1 e (.tup [])) ch (.lst ([] ++ [.ref e]))) hs (wst0 h).ways := W1
    clear W1 W0
    generalize upd (upd H1 e (.tup [])) ch (.lst ([] ++ [.ref e])) = H3 at W1' s3 hD3 ⊢
    clear hc hch hch2 he he2 s2 hD s1
    refine gn ?_
    dsimp only [List.set]
    -- nothing has gone on
    refine ⟨(by show 2 ≤ sizeLine; decide), fun z hz => ⟨(by show 1 ≤ sizeLine; decide), fun l1 hl1 => ?_⟩⟩
    have sz_ := same_new (o := HO.tup [.int 0, .int 0]) hz
    have hz1 : (upd H3 z (.tup [.int 0, .int 0])) z = some (.tup [.int 0, .int 0]) := upd_same
    generalize upd H3 z (.tup [.int 0, .int 0]) = H4 at sz_ hz1 hl1 ⊢
    have sl1 := same_new (o := HO.lst [.ref z]) hl1
    have hl1' : (upd H4 l1 (.lst [.ref z])) l1 = some (.lst [.ref z]) := upd_same
    generalize upd H4 l1 (.lst [.ref z]) = H5 at sl1 hl1' ⊢
    have s5 := (s3.trans sz_).trans sl1
    have elt : (tas.map V.ref).length = ts.length := by rw [List.length_map, w3.1]
    refine ⟨_, rfl, w, W, dxw, _, _, rfl, s5 _ _ w1, T.cl, T.nT, wf_t _ _, tw, _, rfl, .inr (SqT.of (s5 _ _ w2)), l1, _, [.ref z], rfl, rfl, hl1', by omega, by omega, sz (by rw [Int.toNat_natCast]; simp only [List.length_cons, List.length_nil]; omega), fun pl hpl => ?_⟩
    rw [Int.toNat_natCast, elt]
    have hpl' : (upd H5 pl (.lst (List.replicate ts.length [V.ref z]).flatten)) pl = some (.lst (List.replicate ts.length (V.ref z))) := by
      rw [upd_same]
      congr 2
      induction ts.length with
      | zero => rfl
      | succ k ih => rw [List.replicate_succ, List.replicate_succ, List.flatten_cons, ih]; rfl
    have s6 := same_new (o := HO.lst (List.replicate ts.length [V.ref z]).flatten) hpl
    generalize upd H5 pl (.lst (List.replicate ts.length [V.ref z]).flatten) = H6 at s6 hpl' ⊢
    have s36 := (sz_.trans sl1).trans s6
    have fpl : H3 pl = none := (sz_.trans sl1).free hpl
    have hD6 := s36 _ _ hD3
    have W6 : WysAt H6 hs (wst0 h).ways := W1'.kp (fun c _ o e => s36 _ _ e) fun c xs e => s36 _ _ e
    have hz6 := s6 _ _ (sl1 _ _ hz1)
    have s06 : Same H H6 := s3.trans s36
    refine gn ?_
    dsimp only [List.set]
    have pl1 : pl ≠ D0 := fun e => by rw [e, hD3] at fpl; cases fpl
    have pl2 : ∀ c ∈ hs, c ≠ pl := fun c h0 e => by
      obtain ⟨x, hx⟩ := List.getElem?_of_mem h0
      obtain ⟨as, a1, _⟩ := W1' x c hx
      rw [e, fpl] at a1
      cases a1
    have fpH : H pl = none := s3.free fpl
    refine ⟨_, rfl, p, rfl, ⟨_, SqT.of (s06 _ _ hp)⟩, for_tup (K := K) (a := p) (xs := vn tu) (fun i σ H' => ∃ (v5 v6 v7 v8 v9 : Option V) (ps : List V), σ = [some (.ref w), some (.int (h : Int)), some (.ref p), some (.ref D0), some (.ref pl), v5, v6, v7, v8, v9, none, none] ∧ Same H H' ∧ H' D0 = some (.lst (hs.map V.ref)) ∧ WysAt H' hs (wrun ts h (tu.take i)).ways ∧ H' pl = some (.lst ps) ∧ ps.length = ts.length ∧ ∀ t, t < ts.length → ∃ c, ps[t]? = some (.ref c) ∧ H' c = some (.tup [.int ((wrun ts h (tu.take i)).pa t : Int), .int ((wrun ts h (tu.take i)).pb t : Int)]))
      ⟨none, none, none, none, none, _, rfl, s06, hD6, W6, hpl', List.length_replicate, fun t ht => ⟨z, by rw [List.getElem?_replicate, if_pos ht], hz6⟩⟩ (fun i σ H' _ ⟨_, _, _, _, _, _, _, s', _⟩ => SqT.of (s' _ _ hp)) ?_ ?_⟩
    rotate_left
    · rintro σ H7 ⟨v5, v6, v7, v8, v9, ps, rfl, s7, hD7, W7, _⟩
      rw [vn_len, List.take_of_length_le (Nat.le_refl _)] at W7
      exact ⟨_, rfl, q D0 hs H7 s7 hD7 lh W7⟩
    rintro i x σ H7 hx ⟨v5, v6, v7, v8, v9, ps, rfl, s7, hD7, W7, hp7, lps, hps⟩
    obtain ⟨t, ht, rfl⟩ := at_vn hx
    have tl := hlt t (List.mem_of_getElem? ht)
    obtain ⟨pr, hpr⟩ := ex_at tl
    obtain ⟨p1, p2, p3⟩ := hW.at_ hpr
    obtain ⟨pa, hpa0, hpa⟩ := w3.get hpr
    have hpa' : H7 pa = some (.tup [.int (pr.1 : Int), .int (pr.2 : Int)]) := s7 _ _ hpa
    have hS := run_both hW hn (tu.take i)
    have nx : wrun ts h (tu.take (i + 1)) = wput (wrun ts h (tu.take i)) t pr := by rw [take_succ ht, wrun_snoc]; unfold wstep; rw [hpr]
    have bdS : ∀ x, ((wrun ts h (tu.take i)).ways x).length ≤ 100000 := fun x => Nat.le_trans (wrun_take tu i x) (bd x)
    obtain ⟨la1, la2⟩ := hS.1.la t pr hpr
    have mem1 : ∀ x, ∀ v ∈ (wrun ts h (tu.take i)).ways x, v.length ≤ 10000 ∧ ∀ u ∈ v, u < 1000 := fun x v hv => by
      obtain ⟨_, b⟩ := (hS.1.mem v x).mp hv
      have b' := b.trans (List.take_sublist i tu)
      exact ⟨Nat.le_trans b'.length_le ltu, fun u hu' => by have := hlt u (b'.subset hu'); omega⟩
    generalize wrun ts h (tu.take i) = S at W7 hps nx bdS la1 la2 mem1
    clear hS
    obtain ⟨c1, e1⟩ := ex_at (l := hs) (i := pr.1) (by omega)
    obtain ⟨c2, e2⟩ := ex_at (l := hs) (i := pr.2) (by omega)
    obtain ⟨as1, g1, g2, g3⟩ := W7 _ _ e1
    obtain ⟨as2, k1, k2, k3⟩ := W7 _ _ e2
    obtain ⟨pc, epc, hpc⟩ := hps t tl
    have szb : ∀ x, ((wrun ts h tu).ways x).length ≤ 100000 := bd
    refine ⟨_, rfl, w, W, dxw, _, _, rfl, s7 _ _ w1, T.cl, T.nT, wf_t _ _, _, rfl, tw, _, (t : Int), .ref pa, rfl, rfl, SqT.of (s7 _ _ w2), at_i (map_at hpa0), pa, _, rfl, SqT.of hpa', rfl, _, _, rfl, _, _, rfl, rfl, ?_⟩
    dsimp only [List.set]
    refine ⟨_, rfl, _, rfl, D0, _, (pr.1 : Int), .ref c1, rfl, rfl, SqL.of hD7, at_i (map_at e1), _, rfl, _, rfl, pl, _, (t : Int), .ref pc, rfl, rfl, SqL.of hp7, at_i epc, pc, _, 0, .int (S.pa t : Int), rfl, rfl, SqT.of hpc, rfl, _, rfl, noP ⟨c1, _, rfl, SqL.of g1, fun u hu => ?_⟩⟩
    rw [cut_from (xs := as1.map V.ref) (by rw [List.length_map]; omega)]
    have su := same_new (o := HO.lst ((as1.map V.ref).drop (S.pa t))) hu
    have hu' : (upd H7 u (.lst ((as1.map V.ref).drop (S.pa t)))) u = some (.lst ((as1.drop (S.pa t)).map V.ref)) := by rw [upd_same, List.map_drop]
    generalize upd H7 u (.lst ((as1.map V.ref).drop (S.pa t))) = Ha at su hu' ⊢
    refine ⟨u, rfl, ⟨_, SqL.of hu'⟩, fun D1 hD1 => lc_list (K := K) (a := u) (xs := (as1.drop (S.pa t)).map V.ref) (fun j H' => ∃ bs : List Addr, Same Ha H' ∧ H' D1 = some (.lst (bs.map V.ref)) ∧ TupsAt H' bs (gon t (((S.ways pr.1).drop (S.pa t)).take j))) ⟨[], same_new hD1, by rw [upd_same]; rfl, rfl, fun i b w e => (by cases e)⟩ (fun j H' _ ⟨_, s', _⟩ => SqL.of (s' _ _ hu')) ?_ ?_⟩
    · rintro j x H8 hx ⟨bs, s8, hD8, T8⟩
      obtain ⟨b, hb, rfl⟩ := at_map hx
      have hb0 : as1[S.pa t + j]? = some b := by rw [List.getElem?_drop] at hb; exact hb
      obtain ⟨v, hv⟩ := ex_at (l := S.ways pr.1) (i := S.pa t + j) (by have := lt_at hb0; omega)
      have hbv := s8 _ _ (su _ _ (g3 _ _ _ hb0 hv))
      have hvj : ((S.ways pr.1).drop (S.pa t))[j]? = some v := by rw [List.getElem?_drop]; exact hv
      obtain ⟨lv, hv1⟩ := mem1 pr.1 v (List.mem_of_getElem? hv)
      have lbs : bs.length ≤ 100000 := by
        have h1 := T8.1
        have h2 := gon_le t (((S.ways pr.1).drop (S.pa t)).take j)
        have h3 := bdS pr.1
        rw [List.length_take, List.length_drop] at h2
        omega
      rw [gon_take hvj]
      refine ⟨rfl, ?_⟩
      refine ⟨_, rfl, _, rfl, _, rfl, noP (sl_last hbv fun a Hb sb ha => ?_)⟩
      refine ⟨_, rfl, (by show 1 ≤ sizeLine; decide), fun q' hq' => ?_⟩
      have sq := same_new (o := HO.tup [.int (t : Int)]) hq'
      have hq1 : (upd Hb q' (.tup [.int (t : Int)])) q' = some (.tup (vn [t])) := upd_same
      generalize upd Hb q' (.tup [.int (t : Int)]) = Hc at sq hq1 ⊢
      refine ne_last (sq _ _ ha) hq1 hv1 (by omega) ⟨_, rfl, ?_⟩
      have s8c := (s8.trans sb).trans sq
      have hD8c := sq _ _ (sb _ _ hD8)
      have T8c := T8.kp fun c xs e => sq _ _ (sb _ _ e)
      have hbc := sq _ _ (sb _ _ hbv)
      cases cn : noL t v with
      | false =>
        refine iteF ?_
        rw [if_neg (by decide)]
        exact ⟨bs, s8c, hD8c, T8c⟩
      | true =>
        refine iteT ?_
        rw [if_pos rfl]
        refine ⟨_, rfl, _, rfl, (by show 1 ≤ sizeLine; decide), fun q2 hq2 => ?_⟩
        have sr := same_new (o := HO.tup [.int (t : Int)]) hq2
        have hq3 : (upd Hc q2 (.tup [.int (t : Int)])) q2 = some (.tup (vn [t])) := upd_same
        generalize upd Hc q2 (.tup [.int (t : Int)]) = Hd at sr hq3 ⊢
        refine catA_by (sr _ _ hbc) hq3 (sz (by rw [vn_len, vn_len]; simp only [List.length_cons, List.length_nil]; omega)) fun r He se hr => ?_
        have s8e := (s8c.trans sr).trans se
        refine ⟨_, se _ _ (sr _ _ hD8c), szl (by rw [List.length_map]; omega), bs ++ [r], fun c o e => ?_, by rw [upd_same, List.map_append]; rfl, ?_⟩
        · rw [upd_ne (ne_of_none e hD1)]
          exact s8e _ _ e
        · have nr : ∀ c xs, He c = some (.tup xs) → (upd He D1 (.lst (bs.map V.ref ++ [.ref r]))) c = some (.tup xs) := fun c xs e => by
            rw [upd_ne fun z => by rw [z, se _ _ (sr _ _ hD8c)] at e; cases e]; exact e
          refine TupsAt.snoc (T8c.kp fun c xs e => nr _ _ (se _ _ (sr _ _ e))) (nr _ _ ?_)
          rw [hr, vn, vn, vn, List.map_append]
    rintro H9 ⟨th, s9, hD1', Tth⟩
    have Tth' : TupsAt H9 th (gon t ((S.ways pr.1).drop (S.pa t))) := by
      rw [List.take_of_length_le (by rw [List.length_map, List.length_drop, List.length_drop]; omega)] at Tth
      exact Tth
    have s79 := su.trans s9
    have hD9 := s79 _ _ hD7
    have hp9 := s79 _ _ hp7
    have hpc9 := s79 _ _ hpc
    have k19 := s79 _ _ k1
    have k39 := fun i a w (e1 : as2[i]? = some a) e2 => s79 _ _ (k3 i a w e1 e2)
    refine gn ?_
    dsimp only [List.set]
    refine ⟨_, rfl, _, rfl, D0, _, (pr.2 : Int), .ref c2, rfl, rfl, SqL.of hD9, at_i (map_at e2), _, rfl, _, rfl, pl, _, (t : Int), .ref pc, rfl, rfl, SqL.of hp9, at_i epc, pc, _, 1, .int (S.pb t : Int), rfl, rfl, SqT.of hpc9, rfl, _, rfl, noP ⟨c2, _, rfl, SqL.of k19, fun u2 hu2 => ?_⟩⟩
    rw [cut_from (xs := as2.map V.ref) (by rw [List.length_map]; omega)]
    have su2 := same_new (o := HO.lst ((as2.map V.ref).drop (S.pb t))) hu2
    have hu2' : (upd H9 u2 (.lst ((as2.map V.ref).drop (S.pb t)))) u2 = some (.lst ((as2.drop (S.pb t)).map V.ref)) := by rw [upd_same, List.map_drop]
    generalize upd H9 u2 (.lst ((as2.map V.ref).drop (S.pb t))) = Hf at su2 hu2' ⊢
    refine ⟨u2, rfl, ⟨_, SqL.of hu2'⟩, fun D2 hD2 => lc_list (K := K) (a := u2) (xs := (as2.drop (S.pb t)).map V.ref) (fun j H' => ∃ bs : List Addr, Same Hf H' ∧ H' D2 = some (.lst (bs.map V.ref)) ∧ TupsAt H' bs (gon t (((S.ways pr.2).drop (S.pb t)).take j))) ⟨[], same_new hD2, by rw [upd_same]; rfl, rfl, fun i b w e => (by cases e)⟩ (fun j H' _ ⟨_, s', _⟩ => SqL.of (s' _ _ hu2')) ?_ ?_⟩
    · rintro j x H10 hx ⟨bs, s8, hD8, T8⟩
      obtain ⟨b, hb, rfl⟩ := at_map hx
      have hb0 : as2[S.pb t + j]? = some b := by rw [List.getElem?_drop] at hb; exact hb
      obtain ⟨v, hv⟩ := ex_at (l := S.ways pr.2) (i := S.pb t + j) (by have := lt_at hb0; omega)
      have hbv := s8 _ _ (su2 _ _ (k39 _ _ _ hb0 hv))
      have hvj : ((S.ways pr.2).drop (S.pb t))[j]? = some v := by rw [List.getElem?_drop]; exact hv
      obtain ⟨lv, hv1⟩ := mem1 pr.2 v (List.mem_of_getElem? hv)
      have lbs : bs.length ≤ 100000 := by
        have h1 := T8.1
        have h2 := gon_le t (((S.ways pr.2).drop (S.pb t)).take j)
        have h3 := bdS pr.2
        rw [List.length_take, List.length_drop] at h2
        omega
      rw [gon_take hvj]
      refine ⟨rfl, ?_⟩
      refine ⟨_, rfl, _, rfl, _, rfl, noP (sl_last hbv fun a Hb sb ha => ?_)⟩
      refine ⟨_, rfl, (by show 1 ≤ sizeLine; decide), fun q' hq' => ?_⟩
      have sq := same_new (o := HO.tup [.int (t : Int)]) hq'
      have hq1 : (upd Hb q' (.tup [.int (t : Int)])) q' = some (.tup (vn [t])) := upd_same
      generalize upd Hb q' (.tup [.int (t : Int)]) = Hc at sq hq1 ⊢
      refine ne_last (sq _ _ ha) hq1 hv1 (by omega) ⟨_, rfl, ?_⟩
      have s8c := (s8.trans sb).trans sq
      have hD8c := sq _ _ (sb _ _ hD8)
      have T8c := T8.kp fun c xs e => sq _ _ (sb _ _ e)
      have hbc := sq _ _ (sb _ _ hbv)
      cases cn : noL t v with
      | false =>
        refine iteF ?_
        rw [if_neg (by decide)]
        exact ⟨bs, s8c, hD8c, T8c⟩
      | true =>
        refine iteT ?_
        rw [if_pos rfl]
        refine ⟨_, rfl, _, rfl, (by show 1 ≤ sizeLine; decide), fun q2 hq2 => ?_⟩
        have sr := same_new (o := HO.tup [.int (t : Int)]) hq2
        have hq3 : (upd Hc q2 (.tup [.int (t : Int)])) q2 = some (.tup (vn [t])) := upd_same
        generalize upd Hc q2 (.tup [.int (t : Int)]) = Hd at sr hq3 ⊢
        refine catA_by (sr _ _ hbc) hq3 (sz (by rw [vn_len, vn_len]; simp only [List.length_cons, List.length_nil]; omega)) fun r He se hr => ?_
        have s8e := (s8c.trans sr).trans se
        refine ⟨_, se _ _ (sr _ _ hD8c), szl (by rw [List.length_map]; omega), bs ++ [r], fun c o e => ?_, by rw [upd_same, List.map_append]; rfl, ?_⟩
        · rw [upd_ne (ne_of_none e hD2)]
          exact s8e _ _ e
        · have nr : ∀ c xs, He c = some (.tup xs) → (upd He D2 (.lst (bs.map V.ref ++ [.ref r]))) c = some (.tup xs) := fun c xs e => by
            rw [upd_ne fun z => by rw [z, se _ _ (sr _ _ hD8c)] at e; cases e]; exact e
          refine TupsAt.snoc (T8c.kp fun c xs e => nr _ _ (se _ _ (sr _ _ e))) (nr _ _ ?_)
          rw [hr, vn, vn, vn, List.map_append]
    rintro H10 ⟨bk, s10, hD2', Tbk⟩
    have Tbk' : TupsAt H10 bk (gon t ((S.ways pr.2).drop (S.pb t))) := by
      rw [List.take_of_length_le (by rw [List.length_map, List.length_drop, List.length_drop]; omega)] at Tbk
      exact Tbk
    have s910 := su2.trans s10
    have s710 := s79.trans s910
    refine gn ?_
    dsimp only [List.set]
    have g110 := s710 _ _ g1
    have k110 := s710 _ _ k1
    have hD10 := s710 _ _ hD7
    have hp10 := s710 _ _ hp7
    have hD1x := s910 _ _ hD1'
    refine ⟨_, rfl, _, rfl, D0, _, (pr.1 : Int), .ref c1, rfl, rfl, SqL.of hD10, at_i (map_at e1), c1, _, rfl, .inl (SqL.of g110), _, rfl, _, rfl, D0, _, (pr.2 : Int), .ref c2, rfl, rfl, SqL.of hD10, at_i (map_at e2), c2, _, rfl, .inl (SqL.of k110), (by show 2 ≤ sizeLine; decide), fun pt hpt => ?_⟩
    have e11 : ((as1.map V.ref).length : Int) = ((S.ways pr.1).length : Int) := by rw [List.length_map, g2]
    have e12 : ((as2.map V.ref).length : Int) = ((S.ways pr.2).length : Int) := by rw [List.length_map, k2]
    have s11 := same_new (o := HO.tup [.int ((as1.map V.ref).length : Int), .int ((as2.map V.ref).length : Int)]) hpt
    have hpt' : (upd H10 pt (.tup [.int ((as1.map V.ref).length : Int), .int ((as2.map V.ref).length : Int)])) pt = some (.tup [.int ((S.ways pr.1).length : Int), .int ((S.ways pr.2).length : Int)]) := by rw [upd_same, e11, e12]
    generalize upd H10 pt (.tup [.int ((as1.map V.ref).length : Int), .int ((as2.map V.ref).length : Int)]) = H11 at s11 hpt' ⊢
    have hp11 := s11 _ _ hp10
    refine ⟨_, rfl, _, rfl, pl, _, (t : Int), t, rfl, rfl, hp11, ixN_nat (by omega), ?_⟩
    have mc1 := List.mem_of_getElem? e1
    have mc2 := List.mem_of_getElem? e2
    have nc : c1 ≠ c2 := fun z => p3 ((List.getElem?_inj (lt_at e1) nd).mp (e1.trans (z ▸ e2.symm)))
    have ntup : ∀ {c : Addr} {xs : List V}, H11 c = some (.tup xs) → c ≠ pl := fun e z => by rw [z, hp11] at e; cases e
    have s711 := s710.trans s11
    have W11 : WysAt (upd H11 pl (.lst (ps.set t (.ref pt)))) hs S.ways := W7.kp (fun c hc o e => by rw [upd_ne (pl2 c hc)]; exact s711 _ _ e) fun c xs e => by
      have := s711 _ _ e
      rw [upd_ne (ntup this)]; exact this
    have hD12 : (upd H11 pl (.lst (ps.set t (.ref pt)))) D0 = some (.lst (hs.map V.ref)) := by rw [upd_ne pl1.symm]; exact s711 _ _ hD7
    have g112 : (upd H11 pl (.lst (ps.set t (.ref pt)))) c1 = some (.lst (as1.map V.ref)) := by rw [upd_ne (pl2 _ mc1)]; exact s711 _ _ g1
    have k112 : (upd H11 pl (.lst (ps.set t (.ref pt)))) c2 = some (.lst (as2.map V.ref)) := by rw [upd_ne (pl2 _ mc2)]; exact s711 _ _ k1
    have nD1 : D1 ≠ pl := fun z => by rw [z] at hD1; rw [su _ _ hp7] at hD1; cases hD1
    have nD2 : D2 ≠ pl := fun z => by rw [z] at hD2; rw [su2 _ _ hp9] at hD2; cases hD2
    have hth12 : (upd H11 pl (.lst (ps.set t (.ref pt)))) D1 = some (.lst (th.map V.ref)) := by rw [upd_ne nD1]; exact s11 _ _ hD1x
    have hbk12 : (upd H11 pl (.lst (ps.set t (.ref pt)))) D2 = some (.lst (bk.map V.ref)) := by rw [upd_ne nD2]; exact s11 _ _ hD2'
    have T12b : TupsAt (upd H11 pl (.lst (ps.set t (.ref pt)))) bk (gon t ((S.ways pr.2).drop (S.pb t))) := Tbk'.kp fun c xs e => by
      have := s11 _ _ e
      rw [upd_ne (ntup this)]; exact this
    have T12t : TupsAt (upd H11 pl (.lst (ps.set t (.ref pt)))) th (gon t ((S.ways pr.1).drop (S.pa t))) := Tth'.kp fun c xs e => by
      have := s11 _ _ (s910 _ _ e)
      rw [upd_ne (ntup this)]; exact this
    have hpl12 : (upd H11 pl (.lst (ps.set t (.ref pt)))) pl = some (.lst (ps.set t (.ref pt))) := upd_same
    have s12 : Same H (upd H11 pl (.lst (ps.set t (.ref pt)))) := fun c o e => by rw [upd_ne (ne_of_none e fpH)]; exact s711 _ _ (s7 _ _ e)
    have tup12 : ∀ c xs, H11 c = some (.tup xs) → (upd H11 pl (.lst (ps.set t (.ref pt)))) c = some (.tup xs) := fun c xs e => by rw [upd_ne (ntup e)]; exact e
    have hps12 : ∀ u, u < ts.length → ∃ c, ps[u]? = some (V.ref c) ∧ (upd H11 pl (.lst (ps.set t (.ref pt)))) c = some (HO.tup [.int (S.pa u : Int), .int (S.pb u : Int)]) := fun u hu => let ⟨c, a, b⟩ := hps u hu; ⟨c, a, tup12 _ _ (s711 _ _ b)⟩
    have hpt12 := tup12 _ _ hpt'
    generalize upd H11 pl (.lst (ps.set t (.ref pt))) = H12 at W11 hD12 g112 k112 hth12 hbk12 T12b T12t hpl12 s12 hps12 hpt12 ⊢
    have lth : th.length ≤ 100000 := by
      have h1 := T12t.1
      have h2 := gon_le t ((S.ways pr.1).drop (S.pa t))
      have h3 := bdS pr.1
      rw [List.length_drop] at h2
      omega
    have lbk : bk.length ≤ 100000 := by
      have h1 := T12b.1
      have h2 := gon_le t ((S.ways pr.2).drop (S.pb t))
      have h3 := bdS pr.2
      rw [List.length_drop] at h2
      omega
    have b1 := bdS pr.1
    have b2 := bdS pr.2
    have W13 := W11.ext nd e1 g112 T12b.1 T12b.2
    refine ⟨_, rfl, _, rfl, D0, _, (pr.1 : Int), .ref c1, rfl, rfl, SqL.of hD12, at_i (map_at e1), .inl ⟨rfl, _, SqL.of g112⟩, _, rfl, c1, D2, _, _, rfl, rfl, g112, hbk12, sz (by rw [List.length_map, List.length_map]; omega), ?_⟩
    have ntl : ∀ {c d : Addr} {xs ys : List V}, H12 c = some (.tup xs) → H12 d = some (.lst ys) → c ≠ d := fun a b z => by rw [z, b] at a; cases a
    have k113 : (upd H12 c1 (.lst (as1.map V.ref ++ bk.map V.ref))) c2 = some (.lst (as2.map V.ref)) := by rw [upd_ne nc.symm]; exact k112
    have nth : D1 ≠ c1 := fun z => by rw [z] at hD1; rw [su _ _ g1] at hD1; cases hD1
    have hth13 : (upd H12 c1 (.lst (as1.map V.ref ++ bk.map V.ref))) D1 = some (.lst (th.map V.ref)) := by rw [upd_ne nth]; exact hth12
    have hD13 : (upd H12 c1 (.lst (as1.map V.ref ++ bk.map V.ref))) D0 = some (.lst (hs.map V.ref)) := by rw [upd_ne (nnh c1 mc1).1.symm]; exact hD12
    have T13t : TupsAt (upd H12 c1 (.lst (as1.map V.ref ++ bk.map V.ref))) th (gon t ((S.ways pr.1).drop (S.pa t))) := T12t.kp fun c xs e => by rw [upd_ne (ntl e g112)]; exact e
    have W14 := W13.ext nd e2 k113 T13t.1 T13t.2
    refine ⟨_, rfl, _, rfl, D0, _, (pr.2 : Int), .ref c2, rfl, rfl, SqL.of hD13, at_i (map_at e2), .inl ⟨rfl, _, SqL.of k113⟩, _, rfl, c2, D1, _, _, rfl, rfl, k113, hth13, sz (by rw [List.length_map, List.length_map]; omega), ?_⟩
    have kp14 : ∀ c o, H12 c = some o → c ≠ c1 → c ≠ c2 → (upd (upd H12 c1 (.lst (as1.map V.ref ++ bk.map V.ref))) c2 (.lst (as2.map V.ref ++ th.map V.ref))) c = some o := fun c o e n1 n2 => by rw [upd_ne n2, upd_ne n1]; exact e
    have ew : (fun y => if y = pr.2 then (if y = pr.1 then S.ways y ++ gon t ((S.ways pr.2).drop (S.pb t)) else S.ways y) ++ gon t ((S.ways pr.1).drop (S.pa t)) else if y = pr.1 then S.ways y ++ gon t ((S.ways pr.2).drop (S.pb t)) else S.ways y) = (wput S t pr).ways := by
      funext y
      show _ = S.ways y ++ wext S t pr y
      unfold wext
      by_cases y1 : y = pr.1
      · rw [if_neg (show ¬ y = pr.2 from fun z => p3 (y1.symm.trans z)), if_pos y1, if_pos y1]
      · by_cases y2 : y = pr.2
        · rw [if_pos y2, if_neg y1, if_neg y1, if_pos y2]
        · rw [if_neg y2, if_neg y1, if_neg y1, if_neg y2, List.append_nil]
    rw [nx]
    refine ⟨_, _, _, _, _, ps.set t (.ref pt), rfl, fun c o e => kp14 c o (s12 _ _ e) (ne_of_none e (nnh c1 mc1).2) (ne_of_none e (nnh c2 mc2).2), kp14 _ _ hD12 (nnh c1 mc1).1.symm (nnh c2 mc2).1.symm, ew ▸ W14, kp14 _ _ hpl12 (pl2 _ mc1).symm (pl2 _ mc2).symm, by rw [List.length_set]; exact lps, fun v hv => ?_⟩
    by_cases ev : v = t
    · subst ev
      refine ⟨pt, by rw [List.getElem?_set_self (by omega)], ?_⟩
      show _ = some (HO.tup [.int ((if v = v then (S.ways pr.1).length else S.pa v : Nat) : Int), .int ((if v = v then (S.ways pr.2).length else S.pb v : Nat) : Int)])
      rw [if_pos rfl, if_pos rfl]
      exact kp14 _ _ hpt12 (ntl hpt12 g112) (ntl hpt12 k112)
    · obtain ⟨c, ec, hc'⟩ := hps12 v hv
      refine ⟨c, by rw [List.getElem?_set_ne (fun z => ev z.symm)]; exact ec, ?_⟩
      show _ = some (HO.tup [.int ((if v = t then (S.ways pr.1).length else S.pa v : Nat) : Int), .int ((if v = t then (S.ways pr.2).length else S.pb v : Nat) : Int)])
      rw [if_neg ev, if_neg ev]
      exact kp14 _ _ hc' (ntl hc' g112) (ntl hc' k112)
end
end K1
namespace K1
open PySem PySem.Spec PyProof.Rows L2
/-! ### sorted of a list of tuples of numbers, of any lengths -/
abbrev wN (w : Wy) : List Int := w.map fun (x : Nat) => (x : Int)
def wlt (a b : Wy) : Bool := PySem.W.dataLt (.tuple (dI (wN a))) (.tuple (dI (wN b)))
theorem toks_nil : PySem.W.keyToksAll (dI (wN [])) = [Sum.inl 0] := by
  show PySem.W.keyToksAll [] = _
  rw [PySem.W.keyToksAll]
theorem toks_cons (x : Nat) (a : Wy) : PySem.W.keyToksAll (dI (wN (x :: a))) = Sum.inl 1 :: Sum.inl (x : Int) :: PySem.W.keyToksAll (dI (wN a)) := by
  show PySem.W.keyToksAll (PyData.int (x : Int) :: dI (wN a)) = _
  rw [PySem.W.toks_all_cons, PySem.W.keyToks]
  rfl
theorem toks_inj : ∀ (a b : Wy), PySem.W.keyToksAll (dI (wN a)) = PySem.W.keyToksAll (dI (wN b)) → a = b
  | [], [], _ => rfl
  | [], y :: b, h => by
    rw [toks_nil, toks_cons] at h
    exact absurd (Sum.inl.inj (List.cons.inj h).1) (by decide)
  | x :: a, [], h => by
    rw [toks_nil, toks_cons] at h
    exact absurd (Sum.inl.inj (List.cons.inj h).1) (by decide)
  | x :: a, y :: b, h => by
    rw [toks_cons, toks_cons] at h
    obtain ⟨h4, h5⟩ := List.cons.inj (List.cons.inj h).2
    have h6 := Sum.inl.inj h4
    rw [toks_inj a b h5, show x = y by omega]
theorem wlt_def (a b : Wy) : wlt a b = lexLt PyProof.Rows.itemOrd (PySem.W.keyToksAll (dI (wN a))) (PySem.W.keyToksAll (dI (wN b))) := PySem.W.dataLt_tuple _ _
theorem wlt_swo : SrtO.Swo wlt := by
  refine ⟨fun x y h => ?_, fun x y z h1 h2 => ?_⟩
  · rw [wlt_def] at h ⊢
    rcases SrtO.bcase (lexLt PyProof.Rows.itemOrd (PySem.W.keyToksAll (dI (wN y))) (PySem.W.keyToksAll (dI (wN x)))) with c | c
    · have := lex_trans _ _ _ h c
      rw [lex_irrefl] at this
      cases this
    · exact c
  · rw [wlt_def] at h1 h2 ⊢
    rcases SrtO.bcase (lexLt PyProof.Rows.itemOrd (PySem.W.keyToksAll (dI (wN z))) (PySem.W.keyToksAll (dI (wN x)))) with c | c
    · rcases lex_negTrans _ (PySem.W.keyToksAll (dI (wN y))) _ c with k | k
      · rw [h2] at k; cases k
      · rw [h1] at k; cases k
    · exact c
theorem wlt_anti {a b : Wy} (h1 : wlt a b = false) (h2 : wlt b a = false) : a = b := by
  rw [wlt_def] at h1 h2
  exact toks_inj a b (lex_total _ _ h1 h2)
abbrev WSrt (l : List Wy) : Prop := l.Pairwise fun x y => wlt y x = false
theorem wsrt_uniq {l m : List Wy} (p : l.Perm m) (h1 : WSrt l) (h2 : WSrt m) : l = m :=
  p.eq_of_pairwise (fun a b _ _ h k => wlt_anti k h) h1 h2
theorem alike_ws : ∀ a b : Wy, PySem.W.alikeAll (dI (wN a)) (dI (wN b)) = true
  | [], _ => by show PySem.W.alikeAll [] _ = true; rw [PySem.W.alikeAll]
  | _ :: _, [] => by show PySem.W.alikeAll (_ :: _) [] = true; rw [PySem.W.alikeAll]
  | x :: a, y :: b => by
    show PySem.W.alikeAll (PyData.int x :: dI (wN a)) (PyData.int y :: dI (wN b)) = true
    rw [PySem.W.alikeAll, alike_ws a b]
    rfl
theorem depth_ws : ∀ a : Wy, PyData.depthAll (dI (wN a)) = 0
  | [] => rfl
  | x :: a => by
    show PyData.depthAll (PyData.int x :: dI (wN a)) = 0
    rw [PyData.depthAll, depth_ws a]
    rfl
/-- the object at v reads as the way w -/
def RdW (h : Heap) (v : Value) (w : Wy) : Prop := ∃ a o vs n as, v = .ref a ∧ h.get? a = some o ∧ o.cls = .type "tuple" ∧ o.data = .seq vs n ∧ ReadsAll h vs.toList (dI (wN w)) as
theorem reads_ints_kp {h h' : Heap} : ∀ (w : List Int) (vs : List Value) (as : List Addr), ReadsAll h vs (dI w) as → ReadsAll h' vs (dI w) as
  | [], _, _, r => by cases r; exact .nil
  | i :: w, _, _, r => by
    cases r with
    | cons r1 r2 =>
      cases r1 with
      | int i t => exact .cons (.int i t) (reads_ints_kp w _ _ r2)
theorem RdW.kp {h h' : Heap} {v : Value} {w : Wy} (r : RdW h v w) (k : ∀ b o, h.get? b = some o → o.cls = .type "tuple" → h'.get? b = some o) : RdW h' v w := by
  obtain ⟨a, o, vs, n, as, e, ho, hc, hd, hr⟩ := r
  exact ⟨a, o, vs, n, as, e, k _ _ ho hc, hc, hd, reads_ints_kp _ _ _ hr⟩
section
variable {prog : Program} {w : World} {A : Around} {E : Value → Shared → Prop} {s : Shared}
theorem cmp_tups {vs : List Value} {k : Value → Wy} (hu : A.units + 2 < cLine) (hp : ∀ v ∈ vs, RdW s.heap v (k v)) : SrtO.Cmp prog w A s (tuples' true) (fun p => p.1 ∈ vs) (SrtO.lt2 fun v u => wlt (k v) (k u)) := by
  intro p q hm hm'
  obtain ⟨a, o, xs, n, as, e, ho, hc, hd, hr⟩ := hp _ hm
  obtain ⟨a', o', xs', n', as', e', ho', hc', hd', hr'⟩ := hp _ hm'
  show wpAny (model prog w) A (keyLt' (tuples' true) p.1 q.1) (fun r s' => s' = s ∧ r = wlt (k p.1) (k q.1)) (fun _ _ => False) s
  generalize k p.1 = x at hr ⊢
  generalize k q.1 = y at hr' ⊢
  rw [e, e']
  have n1 : xs.size = (dI (wN x)).length := by simpa using SeqAt.ReadsAll.length _ _ _ hr
  have n2 : xs'.size = (dI (wN y)).length := by simpa using SeqAt.ReadsAll.length _ _ _ hr'
  refine PySem.W.kat_lt ho hd ho' hd' (PySem.W.katLex_alike _ _ 0 _ _ _ _ hr hr' (alike_ws x y) (by rw [depth_ws]; omega) (fun _ _ z r t ez => ?_) (by rw [n1, n2]) ⟨rfl, (wlt_def x y).symm⟩)
  cases x with
  | nil => cases ez
  | cons i x =>
    have : PyData.int (i : Int) = z := (List.cons.inj ez).1
    rw [← this]
    intro c
    cases c
theorem cmp_one {vs : List Value} {k : Value → Wy} (hu : A.units + 2 < cLine) (hp : ∀ v ∈ vs, RdW s.heap v (k v)) : SrtO.Cmp prog w A s oneType' (fun p => p.1 ∈ vs) (SrtO.lt2 fun v u => wlt (k v) (k u)) := by
  intro p q hm hm'
  obtain ⟨a, o, xs, n, as, e, ho, hc, hd, hr⟩ := hp _ hm
  obtain ⟨a', o', xs', n', as', e', ho', hc', hd', hr'⟩ := hp _ hm'
  show wpAny (model prog w) A (keyLt' oneType' p.1 q.1) (fun r s' => s' = s ∧ r = wlt (k p.1) (k q.1)) (fun _ _ => False) s
  generalize k p.1 = x at hr ⊢
  generalize k q.1 = y at hr' ⊢
  rw [e, e', keyLt'_oneType, oneLt'_eq]
  have n1 : xs.size = (dI (wN x)).length := by simpa using SeqAt.ReadsAll.length _ _ _ hr
  have n2 : xs'.size = (dI (wN y)).length := by simpa using SeqAt.ReadsAll.length _ _ _ hr'
  have hal := alike_ws x y
  have hin : A.in1.units + min (PyData.depthAll (dI (wN x))) (PyData.depthAll (dI (wN y))) < cLine := by
    rw [depth_ws, depth_ws]
    show A.units + 1 + _ < _
    omega
  have hq : (fun (r : Bool) (s' : Shared) => s' = s ∧ r = wlt x y) (SeqAt.firstLt (SeqAt.pairEq (dI (wN x)) (dI (wN y))) (fun j => PySem.W.dataLt ((dI (wN x)).getD j .none) ((dI (wN y)).getD j .none)) (decide (xs.size < xs'.size)) (List.range (min xs.size xs'.size))) s := by
    rw [n1, n2, PySem.W.firstLt_toks _ _ hal, ← wlt_def]
    exact ⟨rfl, rfl⟩
  simp only [if_true]
  refine wpAny_bind (wpAny_cRoomFor (by omega) ?_)
  obtain ⟨cls, dd, data, sl⟩ := o
  obtain ⟨cls2, dd2, data2, sl2⟩ := o'
  simp only at hc hd hc' hd'
  subst hc hd hc' hd'
  refine wpAny_bind (wpAny_callSpecialIfBound?_slot (T := "tuple") ⟨_, ho, rfl⟩ F.slot_tuple_lt (call_meets F.slot_tuple_lt ⟨_, ho, rfl⟩ F.entry_tuple_lt (F.args_tuple_lt_2 _ _) (SeqAt.tuple_ltAt a a' xs xs' n n' dd dd2 sl sl2 (SeqAt.pairEq (dI (wN x)) (dI (wN y))) (fun j => PySem.W.dataLt ((dI (wN x)).getD j .none) ((dI (wN y)).getD j .none))) ⟨ho, ho', fun j j1 j2 => ?_, fun j j1 j2 hj => ?_, ?_⟩))
  · have := PySem.W.eqAt_alikeAll _ _ A.in1 s xs.toList xs'.toList _ _ hr hr' hal hin j (by simpa using j1) (by simpa using j2)
    simpa using this
  · have := PySem.W.rcLt_alikeAll _ _ A.in1 s xs.toList xs'.toList _ _ hr hr' hal hin j (by simpa using j1) (by simpa using j2) hj
    simpa using this
  · exact wpAny_truthy_bool hq
/-- the first items, none for an empty tuple -/
theorem kw_firsts {k : Value → Wy} : ∀ (vs : List Value) {Q : List (Option Value) → Shared → Prop}, (∀ v ∈ vs, RdW s.heap v (k v)) → (∀ fs : List (Option Value), fs.length = vs.length → (∀ (i : Nat) f v, fs[i]? = some f → vs[i]? = some v → (k v = [] ∧ f = none) ∨ ∃ j t, k v ≠ [] ∧ f = some (.int j t)) → Q fs s) → wpAny (model prog w) A (vs.mapM firstOfTuple') Q E s
  | [], _, _, h => by
    rw [List.mapM_nil]
    exact wpAny_pure (h [] rfl fun i f w e => by cases e)
  | v :: vs, Q, e, h => by
    obtain ⟨a, o, xs, n, as, ev, ho, hc, hd, hr⟩ := e v List.mem_cons_self
    rw [List.mapM_cons]
    refine wpAny_bind ?_
    rw [PySem.W.kas_first_eq, ev]
    refine wpAny_bind (PySem.W.Looks.here (show PySem.W.Looks (model prog w) s.heap (typeOf (.ref a)) o.cls from (PySem.W.Looks.ld ho).andThen .now) ?_)
    rw [hc, if_neg (by first | decide | simp)]
    refine wpAny_bind (listItems_at ho hd (wpAny_pure ?_))
    have hf : (k v = [] ∧ xs[0]? = none) ∨ ∃ j t, k v ≠ [] ∧ xs[0]? = some (.int j t) := by
      rw [← Array.getElem?_toList]
      generalize xs.toList = l at hr
      generalize k v = x at hr
      cases x with
      | nil => cases hr; exact .inl ⟨rfl, rfl⟩
      | cons i x =>
        cases hr with
        | cons r1 r2 =>
          cases r1 with
          | int i t => exact .inr ⟨_, t, by simp, rfl⟩
    refine wpAny_bind (kw_firsts vs (Q := fun bs s' => wpAny (model prog w) A (pure (xs[0]? :: bs)) Q E s') (fun u hu => e u (List.mem_cons_of_mem _ hu)) fun fs hl hfs => wpAny_pure (h _ (by rw [List.length_cons, List.length_cons, hl]) fun i f y e1 e2 => ?_))
    cases i with
    | zero =>
      obtain rfl := Option.some.inj e1
      obtain rfl := Option.some.inj e2
      exact hf
    | succ i => exact hfs i f y e1 e2
theorem kw_kind {k : Value → Wy} {vs : List Value} {Q : SortKind → Shared → Prop} (h2 : 2 ≤ vs.length) (e : ∀ v ∈ vs, RdW s.heap v (k v)) (c : (∀ v ∈ vs, k v ≠ []) ∨ ∃ v, vs[0]? = some v ∧ k v = []) (h1 : (∀ v ∈ vs, k v ≠ []) → Q (tuples' true) s) (h3 : (∃ v, vs[0]? = some v ∧ k v = []) → Q oneType' s) :
    wpAny (model prog w) A (keyKind' vs.toArray) Q E s := by
  rw [PyProof.Rows.kat_kind_eq, List.mapM_toArray, map_eq_pure_bind]
  refine wpAny_bind (wpAny_bind (kw_firsts vs e fun fs hl hfs => wpAny_pure ?_))
  rcases c with c | c
  · obtain ⟨gs, eg, hg⟩ : ∃ gs : List Value, fs = gs.map some ∧ ∀ g ∈ gs, ∃ j t, g = .int j t := by
      have key : ∀ f ∈ fs, ∃ j t, f = some (.int j t) := fun f hf => by
        obtain ⟨i, hi⟩ := List.getElem?_of_mem hf
        obtain ⟨v, hv⟩ := ex_at (l := vs) (i := i) (by have := lt_at hi; omega)
        rcases hfs i f v hi hv with ⟨z, _⟩ | ⟨j, t, _, z⟩
        · exact absurd z (c v (List.mem_of_getElem? hv))
        · exact ⟨j, t, z⟩
      clear hfs hl
      induction fs with
      | nil => exact ⟨[], rfl, fun g hg => by cases hg⟩
      | cons f fs ih =>
        obtain ⟨gs, e1, e2⟩ := ih fun f hf => key f (List.mem_cons_of_mem _ hf)
        obtain ⟨j, t, e3⟩ := key f List.mem_cons_self
        refine ⟨.int j t :: gs, by rw [List.map_cons, ← e1, e3], fun g hg => ?_⟩
        rcases List.mem_cons.mp hg with z | z
        · exact ⟨j, t, z⟩
        · exact e2 g z
    subst eg
    have hall : ((gs.map some).toArray.all fun x => x.isSome) = true := by simp
    rw [if_pos hall]
    refine wpAny_bind (wpAny_rule ?_)
    have hfm : ((gs.map some).toArray.filterMap id) = gs.toArray := by simp
    have hg0 : 0 < gs.length := by rw [List.length_map] at hl; omega
    rw [hfm, oneTypeOnly'_eq, List.mapM_toArray, map_eq_pure_bind]
    refine wpAny_bind (wpAny_bind (wpAny_bind (PySem.W.kas_mapM (r := Value.type "int") _ (fun v hv Q' hq => ?_) (wpAny_pure ?_))))
    · obtain ⟨j, t, rfl⟩ := hg v hv
      exact (show PySem.W.Looks (model prog w) s.heap (typeOf (.int j t)) (Value.type "int") from PySem.W.Looks.now).here hq
    · have hall2 : ((List.map (fun _ => Value.type "int") gs).toArray.all fun x => x == Value.type "int") = true := by
        simp only [List.all_toArray, List.all_map, List.all_eq_true]
        intro _ _
        rfl
      have h0 : (List.map (fun _ => Value.type "int") gs).toArray[0]? = some (Value.type "int") := by simp [hg0]
      rw [h0]
      simp only [hall2, if_true]
      exact wpAny_pure (wpAny_pure (h1 c))
  · obtain ⟨v, hv, kv⟩ := c
    obtain ⟨f, hf⟩ := ex_at (l := fs) (i := 0) (by omega)
    have f0 : f = none := by
      rcases hfs 0 f v hf hv with ⟨_, z⟩ | ⟨j, t, z, _⟩
      · exact z
      · exact absurd kv z
    subst f0
    have hn : (fs.toArray.all fun x => x.isSome) = false := by
      rw [List.all_toArray]
      exact Bool.eq_false_iff.mpr fun z => by have := List.all_eq_true.mp z none (List.mem_of_getElem? hf); cases this
    have h0 : fs.toArray[0]? = some none := by simp [hf]
    rw [if_neg (by rw [hn]; decide), h0, if_neg (by simp), oneTypeOnly'_eq, List.mapM_toArray, map_eq_pure_bind]
    refine wpAny_bind (wpAny_bind (wpAny_bind (PySem.W.kas_mapM (r := Value.type "tuple") _ (fun u hu Q' hq => ?_) (wpAny_pure ?_))))
    · obtain ⟨a, o, xs, n, as, eu, ho, hc, hd, hr⟩ := e u hu
      rw [eu]
      have L : PySem.W.Looks (model prog w) s.heap (typeOf (.ref a)) o.cls := (PySem.W.Looks.ld ho).andThen .now
      rw [hc] at L
      exact L.here hq
    · have hall2 : ((List.map (fun _ => Value.type "tuple") vs).toArray.all fun x => x == Value.type "tuple") = true := by
        simp only [List.all_toArray, List.all_map, List.all_eq_true]
        intro _ _
        rfl
      have h00 : (List.map (fun _ => Value.type "tuple") vs).toArray[0]? = some (Value.type "tuple") := by
        have : 0 < vs.length := by omega
        simp [this]
      rw [h00]
      simp only [hall2, if_true]
      exact wpAny_pure (wpAny_pure (h3 ⟨v, hv, kv⟩))
theorem tups_sortable {a : Addr} {vs : List Value} {k : Value → Wy} (h2 : 2 ≤ vs.length) (hu : A.units + 2 < cLine) (hp : ∀ v ∈ vs, RdW s.heap v (k v)) (c : (∀ v ∈ vs, k v ≠ []) ∨ ∃ v, vs[0]? = some v ∧ k v = []) (ha : ∀ o, s.heap.get? a = some o → o.cls ≠ .type "tuple") : SrtO.SortableO prog w A s a vs fun v u => wlt (k v) (k u) := by
  intro h' keep
  have hp' : ∀ v ∈ vs, RdW h' v (k v) := fun v hm => (hp v hm).kp fun b o e c => keep b o (fun z => by subst z; exact ha o e c) e
  rcases id c with c1 | c1
  · exact ⟨tuples' true, fun Q E hq => kw_kind (s := { s with heap := h' }) h2 hp' (.inl c1) (fun _ => hq) (fun ⟨v, hv, z⟩ => absurd z (c1 v (List.mem_of_getElem? hv))), cmp_tups (s := { s with heap := h' }) hu hp'⟩
  · exact ⟨oneType', fun Q E hq => kw_kind (s := { s with heap := h' }) h2 hp' (.inr c1) (fun z => by obtain ⟨v, hv, e⟩ := c1; exact absurd e (z v (List.mem_of_getElem? hv))) (fun _ => hq), cmp_one (s := { s with heap := h' }) hu hp'⟩
end
def unV : V → Nat | .int i => i.toNat | _ => 0
def wyA (H : Hp) (a : Addr) : Wy := match H a with | some (.tup xs) => xs.map unV | _ => []
theorem unV_vn (w : Wy) : (vn w).map unV = w := by
  unfold vn
  rw [List.map_map]
  conv => rhs; rw [← List.map_id w]
  refine List.map_congr_left fun x _ => ?_
  show unV (.int (x : Int)) = x
  exact Int.toNat_natCast x
theorem wyA_of {H : Hp} {a : Addr} {w : Wy} (h : H a = some (.tup (vn w))) : wyA H a = w := by unfold wyA; rw [h]; exact unV_vn w
theorem TupsAt.eq {H : Hp} {as : List Addr} {ws : List Wy} (t : TupsAt H as ws) : ws = as.map (wyA H) := by
  refine List.ext_getElem? fun i => ?_
  rw [List.getElem?_map]
  by_cases c : i < as.length
  · obtain ⟨a, ha⟩ := ex_at c
    obtain ⟨w, hw⟩ := ex_at (l := ws) (i := i) (by rw [← t.1]; exact c)
    rw [ha, hw, Option.map_some, wyA_of (t.2 i a w ha hw)]
  · rw [List.getElem?_eq_none (by rw [← t.1]; omega), List.getElem?_eq_none (by omega), Option.map_none]
theorem TupsAt.mem {H : Hp} {as : List Addr} {ws : List Wy} (t : TupsAt H as ws) {a : Addr} (h : a ∈ as) : H a = some (.tup (vn (wyA H a))) := by
  obtain ⟨i, hi⟩ := List.getElem?_of_mem h
  obtain ⟨w, hw⟩ := ex_at (l := ws) (i := i) (by rw [← t.1]; exact lt_at hi)
  have := t.2 i a w hi hw
  rw [wyA_of this]
  exact this
theorem TupsAt.of {H : Hp} {as : List Addr} (h : ∀ a ∈ as, H a = some (.tup (vn (wyA H a)))) : TupsAt H as (as.map (wyA H)) := by
  refine ⟨(List.length_map _).symm, fun i a w e1 e2 => ?_⟩
  rw [List.getElem?_map, e1] at e2
  obtain rfl := Option.some.inj e2
  exact h a (List.mem_of_getElem? e1)
def vA : Value → Addr | .ref a => a | _ => 0
/-- sorted(xs), xs a list of tuples of numbers: all with an item at least, or the first one empty -/
def rSortedW (K : PySem.W.Frag) : List V → Hp → VK → Prop := fun vs H Q => ∃ (a : Addr) (as : List Addr) (ws : List Wy), vs = [V.ref a] ∧ SqL K H a (as.map V.ref) ∧ TupsAt H as ws ∧ ((∀ w ∈ ws, w ≠ []) ∨ ws[0]? = some []) ∧
  ∀ bs us p, us.Perm ws → WSrt us → TupsAt H bs us → H p = none → Q (.ref p) (upd H p (.lst (bs.map V.ref)))
section
variable {X : Cx}
theorem cr_sortedW (hu : X.A.units + 64 < cLine) : CallR X (.builtin "sorted") (rSortedW X.K) := by
  intro pins s σ H vs us Q I r h
  obtain ⟨a, as, ws, rfl, hs, ht, c, q⟩ := h
  obtain ⟨its, rv, hl, hz⟩ := I.list hs
  obtain ⟨u, rfl, ru⟩ := vals1 r
  obtain rfl : u = Value.ref a := ru
  obtain ⟨e1, e2⟩ := refs_back rv fun x m => by
    obtain ⟨b, _, e⟩ := List.mem_map.mp m
    exact ⟨b, e.symm⟩
  have ei : ∀ v ∈ its, v = Value.ref (vA v) ∧ vA v ∈ as := fun v hv => by
    obtain ⟨b, rfl⟩ := e2 v hv
    refine ⟨rfl, ?_⟩
    have : V.ref b ∈ as.map V.ref := by rw [e1]; exact List.mem_map.mpr ⟨_, hv, rfl⟩
    obtain ⟨b', hb, e⟩ := List.mem_map.mp this
    cases e
    exact hb
  have ea : as = its.map vA := by
    have := congrArg (List.map fun v : V => match v with | .ref a => a | _ => 0) e1
    rw [List.map_map, List.map_map] at this
    have f1 : as.map ((fun v : V => match v with | .ref a => a | _ => 0) ∘ V.ref) = as := by
      conv => rhs; rw [← List.map_id as]
      exact List.map_congr_left fun _ _ => rfl
    rw [f1] at this
    rw [this]
    refine List.map_congr_left fun v hv => ?_
    obtain ⟨b, rfl⟩ := e2 v hv
    rfl
  have ew := ht.eq
  have rd : ∀ v ∈ its, RdW s.heap v (wyA H (vA v)) := fun v hv => by
    obtain ⟨e3, e4⟩ := ei v hv
    have h1 := ht.mem e4
    obtain ⟨as', hr⟩ := Dp.reads I _ _ _ (dp_vn h1) (show RelV (.ref (vA v)) v by rw [e3]; rfl)
    rw [e3] at hr
    cases hr with
    | tuple ho hc hd hr => exact ⟨_, _, _, _, _, e3, ho, hc, hd, hr⟩
  have cc : (∀ v ∈ its, wyA H (vA v) ≠ []) ∨ ∃ v, its[0]? = some v ∧ wyA H (vA v) = [] := by
    rcases c with c | c
    · exact .inl fun v hv => c _ (by rw [ew]; exact List.mem_map.mpr ⟨_, (ei v hv).2, rfl⟩)
    · rw [ew, ea, List.map_map, List.getElem?_map] at c
      cases e0 : its[0]? with
      | none => rw [e0] at c; cases c
      | some v =>
        rw [e0] at c
        exact .inr ⟨v, rfl, Option.some.inj c⟩
  refine SrtO.sorted_ord (ltv := fun v u => wlt (wyA H (vA v)) (wyA H (vA u))) ⟨fun x y => wlt_swo.asym _ _, fun x y z => wlt_swo.tr _ _ _⟩ hl.isList (by rw [← rv.length]; exact hz) (fun h2 h₁ b hb kk => ?_) fun out h1 h2 => ?_
  · refine tups_sortable (s := { s with heap := h₁ }) (k := fun v => wyA H (vA v)) h2 (by show X.A.units + 1 + 1 + 2 < cLine; omega) (fun v hm => (rd v hm).kp fun b o e _ => (kk b o e).2) cc fun o e => ?_
    have e' : some o = some (seqObj "list" its.toArray 0) := e.symm.trans hb
    cases e'
    intro c
    exact absurd (Value.type.inj c) (by decide)
  · have mo : ∀ u ∈ out, u ∈ its := fun u hu => h2.perm.mem_iff.mp hu
    have h3 : ∀ u ∈ out, ∃ a, u = Value.ref a := fun u hu => e2 u (mo u hu)
    have eo : out.map backV = (out.map vA).map V.ref := by
      rw [List.map_map]
      refine List.map_congr_left fun v hv => ?_
      obtain ⟨b, rfl⟩ := h3 v hv
      rfl
    have pm : (out.map vA).Perm as := by rw [ea]; exact h2.perm.map vA
    refine ⟨.ref (s.heap.objs.size + 1), upd H (s.heap.objs.size + 1) (.lst (out.map backV)), I.laid (t' := s.toks) (fun b o e => PyProof.Rows.sortedAll_old e) (Nat.le_succ _) ⟨?_, out, _, vals_back h3, (PyProof.Rows.sortedAll_at s.heap its out.toArray).choose_spec⟩, rfl, ?_⟩
    · rw [List.length_map, h2.len, ← rv.length]
      exact hz
    · rw [eo]
      refine q (out.map vA) ((out.map vA).map (wyA H)) _ (by rw [ew]; exact pm.map _) ?_ (TupsAt.of fun a ha => ht.mem (pm.mem_iff.mp ha)) (I.hok.fresh (Nat.le_succ _))
      rw [List.map_map]
      exact List.pairwise_map.mpr h1
end
end K1
namespace K1
open PySem PySem.Spec PyProof.Rows L2
/-! ### sum of a tuple -/
def rSumT (K : PySem.W.Frag) : List V → Hp → VK → Prop := fun vs H Q => ∃ (a : Addr) (ns : List Int), vs = [V.ref a] ∧ SqT K H a (ns.map V.int) ∧ Q (.int ns.sum) H
theorem cr_sumT {X : Cx} (hc : X.calm = true) : CallR X (.builtin "sum") (rSumT X.K) := by
  intro pins s σ H vs us Q I r h
  obtain ⟨a, ns, rfl, hs, q⟩ := h
  obtain ⟨its, rv, hl, _⟩ := I.tuple hs
  rw [Vals.ref1 r]
  obtain ⟨xs, e⟩ := rv.ints.allInts.items
  have hn : numsOf (intItems xs).toList = ns := by rw [← e]; exact rv.ints.numsOf
  rw [nums_intItems] at hn
  rw [e] at hl
  refine PySem.W.ktm_sumG (I.ok.hd hc) hl fun h' tk t' hk => ⟨.int ns.sum, H, I.kept hk, ⟨t', ?_⟩, q⟩
  rw [preSum_eq, List.take_of_length_le (by simp), hn]
theorem take_eq {n : Nat} {cs : List Int} {f : Nat → Nat} (hl : n ≤ cs.length) (h : ∀ x, x < n → cs.getD x 0 = (f x : Int)) : cs.take n = (List.range n).map fun x => ((f x : Nat) : Int) := by
  refine List.ext_getElem? fun i => ?_
  by_cases c : i < n
  · rw [List.getElem?_take_of_lt c, rows_at c]
    obtain ⟨v, hv⟩ := ex_at (l := cs) (i := i) (by omega)
    have := h i c
    rw [List.getD_eq_getElem?_getD, hv] at this
    rw [hv]
    exact congrArg some this
  · rw [List.getElem?_eq_none (by rw [List.length_take]; omega), List.getElem?_eq_none (by rw [List.length_map, List.length_range]; omega)]
theorem sum_cast (f : Nat → Nat) : ∀ l : List Nat, (l.map fun x => ((f x : Nat) : Int)).sum = (((l.map f).sum : Nat) : Int)
  | [] => rfl
  | a :: l => by
    simp only [List.map_cons, List.sum_cons, sum_cast f l]
    omega
section
variable {n h : Nat} {ts : Prs}
theorem ways_sum (hW : Wv n ts) (hn : h < n) (tu : List Nat) : ((runC 0 n ts (dlt (n + ts.length) h) tu).take n).sum = ((wsum n (wrun ts h tu) : Nat) : Int) := by
  obtain ⟨_, C⟩ := run_both hW hn tu
  rw [take_eq (by rw [C.ln]; omega) C.ho, sum_cast]
  rfl
theorem ways_le (hn : h < n) (tu : List Nat) (x : Nat) (hx : x < n) : ((wrun ts h tu).ways x).length ≤ wsum n (wrun ts h tu) := le_sum (fun x => ((wrun ts h tu).ways x).length) x n hx
theorem ways_out {m : List Nat} {S : WSt} (hW : Wv n ts) (hn : h < n) (I : WI n ts h m S) {x : Nat} (hx : n ≤ x) : S.ways x = [] := by
  cases e : S.ways x with
  | nil => rfl
  | cons w l =>
    have := ((I.mem w x).mp (by rw [e]; exact List.mem_cons_self)).1.lt hW hn
    omega
theorem ways_head (hW : Wv n ts) (hn : h < n) (tu : List Nat) (x : Nat) : (∀ w ∈ (wrun ts h tu).ways x, w ≠ []) ∨ ((wrun ts h tu).ways x)[0]? = some [] := by
  obtain ⟨I, _⟩ := run_both hW hn tu
  by_cases c : x = h
  · subst c
    obtain ⟨e, he⟩ := wrun_app ts x [] tu x
    rw [List.nil_append] at he
    refine .inr ?_
    rw [he]
    show ((if x = x then [[]] else []) ++ e)[0]? = some []
    rw [if_pos rfl]; rfl
  · refine .inl fun w hw z => ?_
    subst z
    rcases ((I.mem [] x).mp hw).1.inv with ⟨_, e⟩ | ⟨v, _, _, _, e, _⟩
    · exact c e
    · exact absurd e.symm (by simp)
end
abbrev psG : List Str := ["web", "house", "there", "meetings", "most"]
structure DfG (K : PySem.W.Frag) (mg : Str → Option Value) (f : Addr) (fd : FuncData) : Prop where
  F : Fun K "gone_ways" "gone_ways" sGoneWays f fd
  g : mg "gone_ways" = some (.ref f)
theorem DfG.k1 {K : PySem.W.Frag} {mg : Str → Option Value} {f : Addr} {fd : FuncData} (D : DfG K mg f fd) : KBn K fd psG 4 ["most"] (fun us ws => us ++ ws) (fun us ws => us ++ ws) := by
  obtain ⟨oc, od, kV, doc, pm, an, cdv, ct, osl, rfl, lk, hcd⟩ := D.F.ex
  refine ⟨fun s us ws _ h0 h1 => .of_eq ?_, fun r q => r.append q⟩
  match us, ws, h0, h1 with
  | [_, _, _, _], [_], _, _ => rfl
theorem DfG.k5 {K : PySem.W.Frag} {mg : Str → Option Value} {f : Addr} {fd : FuncData} (D : DfG K mg f fd) : KBn K fd psG 0 ["most", "meetings", "there", "house", "web"] gM gMV := by
  obtain ⟨oc, od, kV, doc, pm, an, cdv, ct, osl, rfl, lk, hcd⟩ := D.F.ex
  refine ⟨fun s us ws _ h0 h1 => .of_eq ?_, fun r q => r.append q.reverse⟩
  match us, ws, h0, h1 with
  | [], [_, _, _, _, _], _, _ => rfl
def spGW (K : PySem.W.Frag) (W CH CB CG : Addr) : Sp := fun vs H Q E => ∃ (w : Addr) (vh vt vo : V) (oh ot oo : Option (List V)) (n : Nat) (ts : Prs) (m : Int), vs = [.ref w, vh, vt, vo, .int m] ∧ WebAt W H w n ts ∧ Wv n ts ∧ KV K H vh oh ∧ KV K H vt ot ∧ Rw K H vo oo ∧
  ((belowB vh (n : Int) = false ∧ Rz CH "house" vh H E) ∨ ∃ h : Nat, vh = .int (h : Int) ∧ h < n ∧ ((belowB vt (n : Int) = false ∧ Rz CH "house" vt H E) ∨ ∃ x : Nat, vt = .int (x : Int) ∧ x < n ∧
    ((∃ i, BadM ts.length oo i ∧ Rz CB "at" (.int i) H E) ∨ ∃ tu, oo = some (vn tu) ∧ tu.length ≤ 10000 ∧ (∀ t ∈ tu, t < ts.length) ∧
      ((m < (wsum n (wrun ts h tu) : Int) ∧ Rz CG "most" (.int m) H E) ∨ ((wsum n (wrun ts h tu) : Int) ≤ m ∧ m ≤ 100000 ∧
        ∀ us bs r H', us.Perm ((wrun ts h tu).ways x) → WSrt us → Same H H' → H' r = some (.tup (bs.map V.ref)) → TupsAt H' bs us → Q (.ref r) H')))))
section
variable {P : Program} {w : World} {K : PySem.W.Frag} {mg : Str → Option Value} {base : Heap}
abbrev nGW : List Str := ["web", "house", "there", "meetings", "most", "ties"]
theorem scGW : FnScope nGW psG (defScope sGoneWays) := ⟨rfl, rfl, rfl, by decide +kernel, rfl, by decide +kernel, by decide +kernel⟩
theorem ok_gw {f fN fK fC fG W CH CB CG iG : Addr} {fd fdN fdK fdC fdG : FuncData} {bG : List Value} {qG : Str} (D : DfG K mg f fd) (DN : Df K mg "need_house" sNeedH ["web", "house"] fN fdN) (DK : Df K mg "check_meetings" sCheckMeetings ["web", "value"] fK fdK)
    (DC : Df K mg "way_counts" sWayCounts ["web", "house", "meetings"] fC fdC) (DG : Df K mg "ways_gone" sWaysGone ["web", "house", "meetings"] fG fdG) (B : Bt mg) (T : WcT K mg W) (TG : LMost.Txt K mg "TooGreat" qG bG CG iG)
    (GN : FnOk P w K mg base (L2.CX P w) 3 fN fdN ["web", "house"] (spNeedH K W CH)) (GK : FnOk P w K mg base (L2.CX P w) 4 fK fdK ["web", "value"] (spCM K W CB)) (GC : FnOk P w K mg base (L2.CX P w) 5 fC fdC ["web", "house", "meetings"] (spWC K W CH CB)) (GG : FnOk P w K mg base CX0 1 fG fdG ["web", "house", "meetings"] (spWG W)) :
    FnOk P w K mg base (L2.CX P w) 6 f fd psG (spGW K W CH CB CG) := by
  refine D.F.okX scGW (fun vs H Q E h => ?_) (fun cdv A outer s H vs Q E hr h => ?_)
  · obtain ⟨w, vh, vt, vo, oh, ot, oo, n, ts, m, rfl, _⟩ := h
    rfl
  · obtain ⟨w, vh, vt, vo, oh, ot, oo, n, ts, m, rfl, hw, hW, kh, kt, ko, q⟩ := h
    have r1 := hr.mono (show 1 ≤ 5 by decide)
    have r3 := hr.mono (show 3 ≤ 5 by decide)
    have r4 := hr.mono (show 4 ≤ 5 by decide)
    have hu : (A.deeper (envOfC "gone_ways" (defScope sGoneWays) s.heap.objs.size f cdv)).units + 64 < cLine := hr.units
    refine ⟨_, pss_cons (ps_expr (pc DN GN r3 (pass1 (takes_of rfl rfl rfl rfl)) (pa_cons (pv 0) (pa_cons (pv 1) pa_nil))))
      (pss_cons (ps_expr (pc DN GN r3 (pass1 (takes_of rfl rfl rfl rfl)) (pa_cons (pv 0) (pa_cons (pv 2) pa_nil))))
      (pss_cons (ps_set (i := 5) scGW.nd rfl (.inl rfl) (pc DK GK r4 (pass1 (takes_of rfl rfl rfl rfl)) (pa_cons (pv 0) (pa_cons (pv 3) pa_nil))))
      (pss_cons (ps_if (pt_cmpR op_gt (pe_callB (cr_sumT rfl) (by rfl) B.sum (by decide +kernel) (pa_cons (pe_ix ix_tup (pc DC GC hr (pass1 (takes_of rfl rfl rfl rfl)) (pa_cons (pv 0) (pa_cons (pv 1) (pa_cons (pv 5) pa_nil)))) pe_int (fun _ _ => rfl)) pa_nil)) (pv 4) (nomark _)) (pss_one (ps_raise_LMost rfl TG hr (takes_of rfl rfl rfl rfl) (pa_cons (pv 4) pa_nil))) pss_nil)
      (pss_one (ps_ret (pe_callTy call_tuple_of (by rfl) B.tuple PyProof.Rows.boot_tuple (pa_cons (pe_callB (cr_sortedW hu) (by rfl) B.sorted (by decide +kernel) (pa_cons (pe_ix ix_list (pc DG GG r1 pass0 (pa_cons (pv 0) (pa_cons (pv 1) (pa_cons (pv 5) pa_nil)))) (pv 2) (fun _ _ => rfl)) pa_nil)) pa_nil))))))), ?_⟩
    refine ⟨_, rfl, _, rfl, w, vh, oh, n, ts, rfl, hw, kh, fun hb => ?_, fun hb => ?_⟩
    rotate_left
    · rcases q with ⟨_, q⟩ | ⟨h, rfl, hn, _⟩
      · exact q
      · exact (below_bad hn hb).elim
    obtain ⟨h, rfl, hn⟩ := below_nat hb
    rcases q with ⟨z, _⟩ | ⟨h', eh, hn', q⟩
    · rw [hb] at z; cases z
    injection eh with eh
    obtain rfl : h = h' := by omega
    clear hb eh
    refine ⟨_, rfl, _, rfl, w, vt, ot, n, ts, rfl, hw, kt, fun hb => ?_, fun hb => ?_⟩
    rotate_left
    · rcases q with ⟨_, q⟩ | ⟨h, rfl, hn, _⟩
      · exact q
      · exact (below_bad hn hb).elim
    obtain ⟨x, rfl, hx⟩ := below_nat hb
    rcases q with ⟨z, _⟩ | ⟨x', ex, hx', q⟩
    · rw [hb] at z; cases z
    injection ex with ex
    obtain rfl : x = x' := by omega
    refine ⟨_, rfl, _, rfl, w, vo, oo, n, ts, rfl, hw, hW, ko, ?_⟩
    rcases q with ⟨i, ⟨e, rfl⟩ | ⟨xs, j, eo, e, ef, rfl⟩, r⟩ | ⟨tu, eo, lt, hlt, q⟩
    · exact .inl ⟨e, r⟩
    · exact .inr (.inl ⟨xs, j, eo, e, ef, r⟩)
    refine .inr (.inr ⟨tu, eo, lt, hlt, fun p H1 s1 hp => ?_⟩)
    refine gn ?_
    dsimp only [List.set]
    have hw1 := hw.same s1
    refine ⟨_, rfl, _, rfl, _, rfl, w, .int (h : Int), .ref p, none, some (vn tu), n, ts, rfl, hw1, hW, .int _, rw_vnT hp, .inr ⟨h, rfl, hn, .inr ⟨tu, rfl, lt, hlt, fun r a b H2 s2 hr' ha hb2 => ?_⟩⟩⟩
    have s12 := s1.trans s2
    refine ⟨r, _, 0, .ref a, rfl, rfl, SqT.of hr', rfl, a, _, rfl, SqT.of ha, _, rfl, _, _, rfl, rfl, _, rfl, ?_⟩
    rw [ways_sum hW hn tu]
    refine ifD (fun e => ?_) fun e => ?_
    · have e := of_decide_eq_true e
      rcases q with ⟨_, r⟩ | ⟨z, _⟩
      · exact ⟨_, rfl, nilP ⟨_, rfl, fun d hd => r d _ (s12.trans (same_new hd)) (s12.free hd) upd_same⟩⟩
      · omega
    have e := of_decide_eq_false e
    rcases q with ⟨z, _⟩ | ⟨z, m5, q⟩
    · omega
    refine nxP ?_
    have hw2 := hw.same s12
    refine ⟨_, rfl, _, rfl, _, rfl, w, p, n, h, ts, tu, rfl, hw2, hW, hn, s2 _ _ hp, hlt, lt, fun y => ?_, fun rr hs H3 s3 hrr lhs W3 => ?_⟩
    · by_cases hy : y < n
      · have := ways_le (ts := ts) hn tu y hy
        omega
      · rw [ways_out hW hn (run_both hW hn tu).1 (by omega)]
        exact Nat.zero_le _
    obtain ⟨c, hc⟩ := ex_at (l := hs) (i := x) (by omega)
    obtain ⟨as, g1, g2, g3⟩ := W3 x c hc
    refine ⟨_, rfl, rr, _, (x : Int), .ref c, rfl, rfl, SqL.of hrr, at_i (map_at hc), c, as, _, rfl, SqL.of g1, ⟨g2, g3⟩, ways_head hW hn tu x, fun bs us d pm so tb hd => ?_⟩
    have s4 := same_new (o := HO.lst (bs.map V.ref)) hd
    have hd' : (upd H3 d (.lst (bs.map V.ref))) d = some (.lst (bs.map V.ref)) := upd_same
    generalize upd H3 d (.lst (bs.map V.ref)) = H4 at s4 hd' ⊢
    refine ⟨d, _, rfl, .inl ⟨SqL.of hd', fun r2 hr2 => ?_⟩⟩
    have s5 := same_new (o := HO.tup (bs.map V.ref)) hr2
    exact q us bs r2 _ pm so (((s12.trans s3).trans s4).trans s5) upd_same (tb.kp fun c xs e => s5 _ _ (s4 _ _ e))
end
end K1
namespace K1
open PySem PySem.Spec PyProof.Rows L2
/-! ### the law's search -/
theorem newO {H : Hp} {p : Addr} {o : HO} (hp : H p = none) : Same H (upd H p o) ∧ (upd H p o) p = some o := ⟨same_new hp, upd_same⟩
theorem lv_row {H : Hp} {a : Addr} {l : List Nat} (h : H a = some (.lst (vn l))) : H a = some (.lst (vrow (l.map fun (x : Nat) => (x : Int)))) := by rw [← vn_row]; exact h
theorem eqv_cons (r : Int) (l : List PyData) : PyData.eqv (.list (.int r :: l)) (.list []) = false := rfl
/-- l != [] -/
theorem ne_nilL {K : PySem.W.Frag} {H : Hp} {Q : VK} {a e : Addr} {l : List Nat} (ha : H a = some (.lst (vn l))) (he : H e = some (.lst [])) (hl : l.length ≤ 1000) (hx : ∀ x ∈ l, x < 100000) (q : Q (.bl (!l.isEmpty)) H) : rNeD K (.ref a) (.ref e) H Q := by
  refine ⟨_, .list [], dp_lst (lv_row ha), .lst (SqL.of he) .nil, ((Pl.list (pla_ints _ (fun x hx' => by obtain ⟨r, hr, rfl⟩ := List.mem_map.mp hx'; have := hx r hr; omega))).mono (m := 1) (v := 100000) (by decide) (by rw [List.length_map]; omega)).shaped (by decide), by decide +kernel, qbl ?_ q⟩
  cases l with
  | nil => rfl
  | cons r l => rfl
theorem appB {f : Bool → Hp → Prop} {b c : Bool} {H : Hp} (e : b = c) (h : f c H) : f b H := e ▸ h
def gF (it : It) : List V := [.int (it.2.1 : Int)]
def gW (it : It) : List V := [.int (it.2.1 : Int), .int (it.2.2 : Int)]
def ItAt (g : It → List V) (H : Hp) (as : List Addr) (L : List It) : Prop := as.length = L.length ∧ ∀ (i : Nat) (a : Addr) (it : It), as[i]? = some a → L[i]? = some it → ∃ v, H a = some (.tup (.ref v :: g it)) ∧ H v = some (.tup (vn it.1))
theorem ItAt.kp {g : It → List V} {H H' : Hp} {as : List Addr} {L : List It} (a : ItAt g H as L) (s : ∀ c xs, H c = some (.tup xs) → H' c = some (.tup xs)) : ItAt g H' as L := ⟨a.1, fun i b it e1 e2 => let ⟨v, h1, h2⟩ := a.2 i b it e1 e2; ⟨v, s _ _ h1, s _ _ h2⟩⟩
theorem ItAt.snoc {g : It → List V} {H : Hp} {as : List Addr} {L : List It} {b v : Addr} {it : It} (a : ItAt g H as L) (hb : H b = some (.tup (.ref v :: g it))) (hv : H v = some (.tup (vn it.1))) : ItAt g H (as ++ [b]) (L ++ [it]) := by
  refine ⟨by rw [List.length_append, List.length_append, a.1]; rfl, fun i c u e1 e2 => ?_⟩
  have l := a.1
  rcases snoc_at e1 with e1 | ⟨i1, rfl⟩
  · rcases snoc_at e2 with e2 | ⟨i2, rfl⟩
    · exact a.2 i c u e1 e2
    · have := lt_at e1
      omega
  · rcases snoc_at e2 with e2 | ⟨i2, rfl⟩
    · have := lt_at e2
      omega
    · exact ⟨v, hb, hv⟩
theorem spots_le (m : List Nat) (a t : Nat) : (spots m a t).length ≤ m.length := by
  unfold spots
  refine Nat.le_trans (List.length_filter_le _ _) ?_
  rw [List.length_range']
  omega
theorem kid_snoc {α : Type} (f : Nat → Option α) (t : Nat) : (List.range (t + 1)).filterMap f = (List.range t).filterMap f ++ (f t).toList := by
  rw [List.range_succ, List.filterMap_append]
  congr 1
def spLW : Sp := fun vs H Q _ => ∃ (tl ml : Addr) (n h : Nat) (ts : Prs) (m : List Nat), vs = [.ref tl, .int (h : Int), .ref ml] ∧ TiesL H tl ts ∧ Wv n ts ∧ h < n ∧ H ml = some (.lst (vn m)) ∧ (∀ t ∈ m, t < ts.length) ∧ m.length ≤ 100 ∧ wsum n (wrun ts h m) ≤ 2000 ∧
  ∀ r as L H', Same H H' → H r = none → H' r = some (.lst (as.map V.ref)) → ItAt gF H' as L → WJ ts h m L.length L → Q (.ref r) H'
section
variable {P : Program} {w : World} {K : PySem.W.Frag} {mg : Str → Option Value} {base : Heap}
abbrev nLW : List Str := ["_law_ties_here", "_law_house", "_law_meetings", "_law_found", "_law_waiting", "_law_turn", "_law_way", "_law_end", "_law_at", "_law_tie", "_law_next_ones", "_law_there", "_law_spot"]
theorem scLW : FnScope nLW ["_law_ties_here", "_law_house", "_law_meetings"] (defScope sLWays) := ⟨rfl, rfl, rfl, by decide +kernel, rfl, by decide +kernel, by decide +kernel⟩
theorem ok_lw {f : Addr} {fd : FuncData} (D : Df K mg "_law_ways" sLWays ["_law_ties_here", "_law_house", "_law_meetings"] f fd) (B : Bt mg) : FnOk P w K mg base CX0 1 f fd ["_law_ties_here", "_law_house", "_law_meetings"] spLW := by
  refine D.F.ok scLW (fun vs H Q E h => ?_) (fun cdv A outer s H vs Q E hr h => ?_)
  · obtain ⟨tl, ml, n, h, ts, m, rfl, _⟩ := h
    rfl
  · obtain ⟨tl, ml, n, h, ts, m, rfl, hT, hW, hn, hm, hlt, lm, ws, q⟩ := h
    have hu := hr.units
    refine ⟨_, pss_cons (ps_par (i := 3) (j := 4) rfl scLW.nd rfl rfl (by decide) rfl rfl (pa_cons (pe_lst (pa_cons (pe_tup (pa_cons (pe_tup pa_nil) (pa_cons (pv 1) pa_nil))) pa_nil)) (pa_cons (pe_lst (pa_cons (pe_tup (pa_cons (pe_tup pa_nil) (pa_cons (pv 1) (pa_cons pe_int pa_nil)))) pa_nil)) pa_nil)) (by rfl))
      (pss_cons (ps_for PassesOwn.never rfl (pi_range1 (by rfl) B.range (pa_cons pe_int pa_nil)) (pg_name (i := 5) scLW.nd rfl (.inl rfl))
        (pss_cons (ps_if (pt_cmpR op_ge (pv 5) (pe_callB call_len_seq (by rfl) B.len PySem.boot_len (pa_cons (pv 4) pa_nil)) (nomark _)) (pss_one ps_break) pss_nil)
        (pss_cons (ps_asg (pe_ix ix_list (pv 4) (pv 5) (fun _ _ => rfl)) (pg_tup rfl (pgs_cons (pg_name (i := 6) scLW.nd rfl (.inl rfl)) (pgs_cons (pg_name (i := 7) scLW.nd rfl (.inl rfl)) (pgs_cons (pg_name (i := 8) scLW.nd rfl (.inl rfl)) pgs_nil)))))
        (pss_one (ps_for PassesOwn.never rfl (pi_range1 (by rfl) B.range (pa_cons (pe_callB call_len_seq (by rfl) B.len PySem.boot_len (pa_cons (pv 0) pa_nil)) pa_nil)) (pg_name (i := 9) scLW.nd rfl (.inr rfl))
          (pss_one (ps_if (PW.pt (pw_and (pt_cmpR (opInK (K := K) rfl) (pv 7) (pe_ix ix_list (pv 0) (pv 9) (fun _ _ => rfl)) rfl) (pw_and1 (pt_cmpR (neD (K := K) rfl hu) (pe_slice (slAK (K := K) rfl) (pv 6) (po_some (pe_un un_neg pe_int)) po_none) (pe_tup (pa_cons (pv 9) pa_nil)) (nomark _)))))
            (pss_cons (ps_setLc (i := 10) (own := [("_law_spot", 12)]) (g := gName 12) rfl scLW.nd rfl rfl (sw_true rfl rfl rfl rfl) (pi_range2 (by rfl) B.range (pa_cons (pv 8) (pa_cons (pe_callB call_len_seq (by rfl) B.len PySem.boot_len (pa_cons (pv 2) pa_nil)) pa_nil))) (blkOk_by (N := nLW) (sc := defScope sLWays) (by decide +kernel)) (fun _ _ _ _ _ => pg_name (i := 12) scLW.nd rfl (.inl rfl))
              (fun _ _ _ _ _ => pts_one (pt_cmpR op_eq (pe_ix (ixLK (K := K) rfl) (pv 2) (pv 12) (fun _ _ => rfl)) (pv 9) (nomark _))) (fun _ _ _ _ _ => pv 12))
            (pss_one (ps_if (pt_cmpR (neD (K := K) rfl hu) (pv 10) (pe_lst pa_nil) (nomark _))
              (pss_cons (ps_set (i := 11) scLW.nd rfl (.inl rfl) (pe_ifExp (pt_cmpR op_eq (pe_ix ix_tup (pe_ix ix_list (pv 0) (pv 9) (fun _ _ => rfl)) pe_int (fun _ _ => rfl)) (pv 7) (nomark _)) (pe_ix ix_tup (pe_ix ix_list (pv 0) (pv 9) (fun _ _ => rfl)) pe_int (fun _ _ => rfl)) (pe_ix ix_tup (pe_ix ix_list (pv 0) (pv 9) (fun _ _ => rfl)) pe_int (fun _ _ => rfl))))
              (pss_cons (ps_expr (pe_bm PySem.F.plainAttrs_list PySem.F.slot_list_append PySem.F.type_list_append mt_append (pv 3) (pa_cons (pe_tup (pa_cons (pe_op (catAK (K := K) rfl) (pv 6) (pe_tup (pa_cons (pv 9) pa_nil))) (pa_cons (pv 11) pa_nil))) pa_nil)))
              (pss_one (ps_expr (pe_bm PySem.F.plainAttrs_list PySem.F.slot_list_append PySem.F.type_list_append mt_append (pv 4) (pa_cons (pe_tup (pa_cons (pe_op (catAK (K := K) rfl) (pv 6) (pe_tup (pa_cons (pv 9) pa_nil))) (pa_cons (pv 11) (pa_cons (pe_op op_add (pe_ix ix_list (pv 10) pe_int (fun _ _ => rfl)) pe_int) pa_nil)))) pa_nil)))))) pss_nil))) pss_nil)))))))
      (pss_one (ps_ret (pv 3)))), ?_⟩
    have n12 := hW.n12
    have t20 := hW.t20
    obtain ⟨tas, ht, hA⟩ := id hT
    refine ⟨(by show 0 ≤ sizeLine; decide), fun e1 he1 => ?_⟩
    obtain ⟨s1, k1⟩ := newO (o := HO.tup []) he1
    generalize upd H e1 (.tup []) = H1 at s1 k1 ⊢
    refine ⟨_, rfl, (by show 2 ≤ sizeLine; decide), fun p1 hp1 => ?_⟩
    obtain ⟨s2, k2⟩ := newO (o := HO.tup [.ref e1, .int (h : Int)]) hp1
    generalize upd H1 p1 (.tup [.ref e1, .int (h : Int)]) = H2 at s2 k2 ⊢
    refine ⟨(by show 1 ≤ sizeLine; decide), fun lf hlf => ?_⟩
    obtain ⟨s3, k3⟩ := newO (o := HO.lst [.ref p1]) hlf
    have flf : H lf = none := (s1.trans s2).free hlf
    generalize upd H2 lf (.lst [.ref p1]) = H3 at s3 k3 ⊢
    refine ⟨(by show 0 ≤ sizeLine; decide), fun e2 he2 => ?_⟩
    obtain ⟨s4, k4⟩ := newO (o := HO.tup []) he2
    generalize upd H3 e2 (.tup []) = H4 at s4 k4 ⊢
    refine ⟨_, rfl, (by show 3 ≤ sizeLine; decide), fun p2 hp2 => ?_⟩
    obtain ⟨s5, k5⟩ := newO (o := HO.tup [.ref e2, .int (h : Int), .int 0]) hp2
    generalize upd H4 p2 (.tup [.ref e2, .int (h : Int), .int 0]) = H5 at s5 k5 ⊢
    refine ⟨(by show 1 ≤ sizeLine; decide), fun lw hlw => ?_⟩
    obtain ⟨s6, k6⟩ := newO (o := HO.lst [.ref p2]) hlw
    have s15 := (((s1.trans s2).trans s3).trans s4).trans s5
    have flw : H lw = none := s15.free hlw
    have nfw : lf ≠ lw := fun z => by rw [← z, s5 _ _ (s4 _ _ k3)] at hlw; cases hlw
    generalize upd H5 lw (.lst [.ref p2]) = H6 at s6 k6 ⊢
    refine nilP ⟨_, _, rfl, ?_⟩
    dsimp only [List.set]
    have s16 := s15.trans s6
    have I0 : WI n ts h m (wrun ts h m) := (run_both hW hn m).1
    refine ⟨3000, rfl, by decide, by decide, for_range (fun k σ H' => ∃ (as bs : List Addr) (L : List It) (v5 v6 v7 v8 v9 v10 v11 : Option V), σ = [some (.ref tl), some (.int (h : Int)), some (.ref ml), some (.ref lf), some (.ref lw), v5, v6, v7, v8, v9, v10, v11, none] ∧ Same H H' ∧ H' lf = some (.lst (as.map V.ref)) ∧ H' lw = some (.lst (bs.map V.ref)) ∧ ItAt gF H' as L ∧ ItAt gW H' bs L ∧ WJ ts h m k L)
      ⟨[p1], [p2], [([], h, 0)], none, none, none, none, none, none, none, rfl, s16, s6 _ _ (s5 _ _ (s4 _ _ k3)), k6, ⟨rfl, fun i a it e f => ?_⟩, ⟨rfl, fun i a it e f => ?_⟩, wj0 ts h m⟩ ?_ ?_⟩
    · cases i with
      | succ i => cases e
      | zero =>
        cases e; cases f
        exact ⟨e1, s6 _ _ (s5 _ _ (s4 _ _ (s3 _ _ k2))), s6 _ _ (s5 _ _ (s4 _ _ (s3 _ _ (s2 _ _ k1))))⟩
    · cases i with
      | succ i => cases e
      | zero =>
        cases e; cases f
        exact ⟨e2, s6 _ _ k5, s6 _ _ (s5 _ _ k4)⟩
    · rintro k σ H7 hk ⟨as, bs, L, v5, v6, v7, v8, v9, v10, v11, rfl, s7, hf, hw, F, Wt, J⟩
      have lL := J.bound hW hn I0
      have lL2 : L.length ≤ 2000 := Nat.le_trans lL ws
      refine ⟨_, rfl, _, rfl, lw, _, rfl, .inl (SqL.of hw), _, _, rfl, rfl, _, rfl, ifD (fun c => ?_) fun c => ?_⟩
      · have c := of_decide_eq_true c
        have ek : k = L.length := by have := J.le; have := Wt.1; rw [List.length_map] at c; omega
        subst ek
        exact ⟨_, rfl, q lf as L H7 s7 flf hf F J⟩
      have c := of_decide_eq_false c
      refine nxP ?_
      have kl : k < L.length := by have := Wt.1; rw [List.length_map] at c; omega
      obtain ⟨it, hit⟩ := ex_at kl
      obtain ⟨b, hb⟩ := ex_at (l := bs) (i := k) (by rw [Wt.1]; exact kl)
      obtain ⟨v, hbv, hv⟩ := Wt.2 k b it hb hit
      obtain ⟨wk, sb⟩ := J.in_ (List.mem_of_getElem? hit)
      have atp := (J.sound _ it (List.mem_of_getElem? hit) rfl).2
      have at_le : it.2.2 ≤ m.length := atp.f _ (by rw [List.take_length]; exact sb)
      have way_lt : ∀ x ∈ it.1, x < 1000 := fun x hx => by have := hlt x (sb.subset hx); omega
      have way_len : it.1.length ≤ 100 := Nat.le_trans sb.length_le lm
      refine ⟨_, rfl, _, rfl, lw, _, _, .ref b, rfl, rfl, SqL.of hw, (by rw [Int.zero_add]; exact at_i (map_at hb)), b, _, rfl, SqT.of hbv, rfl, _, _, rfl, _, _, rfl, _, _, rfl, rfl, ?_⟩
      dsimp only [List.set]
      have el : (tas.map V.ref).length = ts.length := by rw [List.length_map, hA.1]
      refine ⟨_, rfl, tl, _, rfl, .inl (SqL.of (s7 _ _ ht)), _, rfl, by omega, by omega, for_range (fun t σ H' => ∃ (as bs : List Addr) (v9 v10 v11 : Option V), σ = [some (.ref tl), some (.int (h : Int)), some (.ref ml), some (.ref lf), some (.ref lw), some (.int (0 + (k : Int))), some (.ref v), some (.int (it.2.1 : Int)), some (.int (it.2.2 : Int)), v9, v10, v11, none] ∧ Same H H' ∧ H' lf = some (.lst (as.map V.ref)) ∧ H' lw = some (.lst (bs.map V.ref)) ∧
        ItAt gF H' as (L ++ (List.range t).filterMap (wkid ts m it)) ∧ ItAt gW H' bs (L ++ (List.range t).filterMap (wkid ts m it)) ∧ H' v = some (.tup (vn it.1))) ⟨as, bs, v9, v10, v11, rfl, s7, hf, hw, by simpa using F, by simpa using Wt, hv⟩ ?_ ?_⟩
      · clear hbv hv hf hw F Wt hb s7
        rintro t σ H8 ht8 ⟨as, bs, v9, v10, v11, rfl, s8, hf, hw, F, Wt, hv⟩
        refine gn ?_
        dsimp only [List.set]
        rw [Int.zero_add (t : Int)]
        have tl' : t < ts.length := by omega
        obtain ⟨pr, hpr⟩ := ex_at tl'
        obtain ⟨p1', p2', p3'⟩ := hW.at_ hpr
        obtain ⟨pa, hpa0, hpa⟩ := (hA.same s8).get hpr
        have hpa' : H8 pa = some (.tup (vn [pr.1, pr.2])) := hpa
        have ks := kid_snoc (wkid ts m it) t
        have lk : ((List.range t).filterMap (wkid ts m it)).length ≤ t := by
          have := List.length_filterMap_le (wkid ts m it) (List.range t)
          rw [List.length_range] at this
          exact this
        have lA := F.1
        have lB := Wt.1
        rw [List.length_append] at lA lB
        refine ⟨_, rfl, _, rfl, _, rfl, tl, _, _, .ref pa, rfl, rfl, SqL.of (s8 _ _ ht), at_i (map_at hpa0), pa, vn [pr.1, pr.2], rfl, .inr (SqT.of hpa'), rfl, flat_vn _, _, rfl, ?_⟩
        have stay : ∀ (v10 v11 : Option V) H', wkid ts m it t = none → Same H8 H' → ∃ (as bs : List Addr) (w9 w10 w11 : Option V), [some (V.ref tl), some (.int (h : Int)), some (.ref ml), some (.ref lf), some (.ref lw), some (.int (0 + (k : Int))), some (.ref v), some (.int (it.2.1 : Int)), some (.int (it.2.2 : Int)), some (.int (t : Int)), v10, v11, none] = [some (.ref tl), some (.int (h : Int)), some (.ref ml), some (.ref lf), some (.ref lw), some (.int (0 + (k : Int))), some (.ref v), some (.int (it.2.1 : Int)), some (.int (it.2.2 : Int)), w9, w10, w11, none] ∧ Same H H' ∧ H' lf = some (.lst (as.map V.ref)) ∧ H' lw = some (.lst (bs.map V.ref)) ∧
            ItAt gF H' as (L ++ (List.range (t + 1)).filterMap (wkid ts m it)) ∧ ItAt gW H' bs (L ++ (List.range (t + 1)).filterMap (wkid ts m it)) ∧ H' v = some (.tup (vn it.1)) := fun v10 v11 H' e s' => by
          rw [ks, e]
          exact ⟨as, bs, _, _, _, rfl, s8.trans s', s' _ _ hf, s' _ _ hw, by simpa using F.kp fun c xs e => s' _ _ e, by simpa using Wt.kp fun c xs e => s' _ _ e, s' _ _ hv⟩
        have ein : inV (.int (it.2.1 : Int)) (vn [pr.1, pr.2]) = decide (it.2.1 ∈ [pr.1, pr.2]) := inV_vn _ _
        simp only [Bool.false_eq_true, if_false]
        rw [ein]
        by_cases ce : it.2.1 = pr.1 ∨ it.2.1 = pr.2
        rotate_left
        · rw [decide_eq_false (show ¬ it.2.1 ∈ [pr.1, pr.2] by simpa using ce)]
          refine iteF (nxP ?_)
          exact stay _ _ _ (by unfold wkid; rw [hpr]; exact if_neg fun z => ce z.1) (Same.refl _)
        rw [decide_eq_true (show it.2.1 ∈ [pr.1, pr.2] by simpa using ce)]
        refine iteT ?_
        refine ⟨_, rfl, _, rfl, _, rfl, noP (sl_last hv fun a Hb sb' ha => ?_)⟩
        refine ⟨_, rfl, (by show 1 ≤ sizeLine; decide), fun q' hq' => ?_⟩
        obtain ⟨sq, hq1⟩ := newO (o := HO.tup [.int (t : Int)]) hq'
        generalize upd Hb q' (.tup [.int (t : Int)]) = Hc at sq hq1 ⊢
        refine ne_last (sq _ _ ha) (show Hc q' = some (.tup (vn [t])) from hq1) way_lt (by omega) ⟨_, rfl, ?_⟩
        have s8c := sb'.trans sq
        cases cn : noL t it.1 with
        | false =>
          refine iteF (nxP ?_)
          refine stay _ _ _ ?_ s8c
          unfold wkid
          rw [hpr]
          refine if_neg fun z => z.2 ?_
          unfold noL isL at cn
          simpa using cn
        | true =>
        have cl : it.1.getLast? ≠ some t := by
          unfold noL isL at cn
          simpa using cn
        refine iteT ?_
        have hm8 := s8c _ _ (s8 _ _ hm)
        refine ⟨_, rfl, _, rfl, ml, _, rfl, .inl (SqL.of hm8), _, _, rfl, ⟨by omega, by omega, by omega, by rw [vn_len]; omega⟩, fun D1 hD1 => lc_range (fun j H' => Same Hc H' ∧ H' D1 = some (.lst (vn ((List.range' it.2.2 j).filter fun s => decide (m[s]? = some t))))) ⟨same_new hD1, by rw [upd_same]; rfl⟩ ?_ ?_⟩
        · rintro j H9 hj ⟨s9, hD⟩
          have jl : it.2.2 + j < m.length := by rw [vn_len] at hj; omega
          obtain ⟨u, hu'⟩ := ex_at jl
          have er : (List.range' it.2.2 (j + 1)).filter (fun s => decide (m[s]? = some t)) = (List.range' it.2.2 j).filter (fun s => decide (m[s]? = some t)) ++ (if u = t then [it.2.2 + j] else []) := by
            rw [List.range'_concat, List.filter_append, Nat.one_mul]
            congr 1
            by_cases cu : u = t
            · rw [if_pos cu, List.filter_cons_of_pos (by rw [hu', cu]; exact decide_eq_true rfl)]; rfl
            · rw [if_neg cu, List.filter_cons_of_neg (by rw [hu', decide_eq_false fun z => cu (Option.some.inj z)]; decide)]; rfl
          have ei : (it.2.2 : Int) + (j : Int) = ((it.2.2 + j : Nat) : Int) := by omega
          have hlen : ((List.range' it.2.2 j).filter fun s => decide (m[s]? = some t)).length ≤ 100 := Nat.le_trans (List.length_filter_le _ _) (by rw [List.length_range']; omega)
          refine ⟨rfl, ?_⟩
          refine ⟨_, rfl, _, rfl, ml, _, _, .int (u : Int), rfl, rfl, SqL.of (s9 _ _ hm8), (by rw [ei]; exact at_i (map_at hu')), _, rfl, rfl, _, rfl, ifD (fun c => ?_) fun c => ?_⟩
          · have z : V.int (u : Int) = V.int (t : Int) := of_decide_eq_true c
            injection z with z
            refine ⟨_, rfl, _, hD, szl (by rw [vn_len]; omega), fun c' o e' => ?_, ?_⟩
            · rw [upd_ne (ne_of_none e' hD1)]
              exact s9 _ _ e'
            · rw [upd_same, er, if_pos (by omega), vn, vn, List.map_append, ei]; rfl
          · have z : ¬ (V.int (u : Int) = V.int (t : Int)) := of_decide_eq_false c
            refine ⟨s9, ?_⟩
            rw [er, if_neg (fun y => z (by rw [y])), List.append_nil]
            exact hD
        · rintro H9 ⟨s9, hD⟩
          have hD' : H9 D1 = some (.lst (vn (spots m it.2.2 t))) := by
            have e2 : (((vn m).length : Int) - (it.2.2 : Int)).toNat = m.length - it.2.2 := by rw [vn_len]; omega
            rw [e2] at hD
            exact hD
          refine gn ?_
          dsimp only [List.set]
          refine ⟨_, rfl, (by show 0 ≤ sizeLine; decide), fun e0 he0 => ?_⟩
          obtain ⟨sx, hx0⟩ := newO (o := HO.lst []) he0
          generalize upd H9 e0 (.lst []) = Ha at sx hx0 ⊢
          have lsp := spots_le m it.2.2 t
          refine ne_nilL (sx _ _ hD') hx0 (by omega) (fun x hx => by have := lt_at (spots_mem.mp hx).2; omega) ⟨_, rfl, ?_⟩
          have s8x := (s8c.trans s9).trans sx
          cases es : spots m it.2.2 t with
          | nil =>
            refine iteF (nxP ?_)
            refine stay _ _ _ ?_ s8x
            unfold wkid
            rw [hpr]
            dsimp only
            rw [if_pos ⟨ce, cl⟩, es]
          | cons sp rs =>
            rw [es] at hD'
            have ekid : wkid ts m it t = some (it.1 ++ [t], (if pr.1 = it.2.1 then pr.2 else pr.1), sp + 1) := by
              unfold wkid
              rw [hpr]
              dsimp only
              rw [if_pos ⟨ce, cl⟩, es]
            refine iteT ?_
            have spl := lt_at (spots_head es).2.1
            have htx := s8x _ _ (s8 _ _ ht)
            have hpax := s8x _ _ hpa'
            have iff1 : ∀ {A B : Prop}, (pr.1 = it.2.1 → A) → (¬ pr.1 = it.2.1 → B) → if decide (V.int (pr.1 : Int) = V.int (it.2.1 : Int)) = true then A else B := fun h1 h2 => ifD (fun c => h1 (by have z : V.int (pr.1 : Int) = V.int (it.2.1 : Int) := of_decide_eq_true c; injection z with z; omega)) fun c => h2 fun z => (of_decide_eq_false c) (by rw [z])
            have eA : L ++ (List.range (t + 1)).filterMap (wkid ts m it) = (L ++ (List.range t).filterMap (wkid ts m it)) ++ [(it.1 ++ [t], (if pr.1 = it.2.1 then pr.2 else pr.1), sp + 1)] := by rw [ks, ekid, List.append_assoc]; rfl
            have hf8 := s8x _ _ hf
            have hw8 := s8x _ _ hw
            have hv8 := s8x _ _ hv
            have F8 := F.kp fun c xs e => s8x _ _ e
            have W8 := Wt.kp fun c xs e => s8x _ _ e
            have s08 := s8.trans s8x
            have hD8 := sx _ _ hD'
            have nD : D1 ≠ lf := fun z => by rw [z] at hD1; rw [s8c _ _ hf] at hD1; cases hD1
            clear s8x s8c s9 sx hx0
            generalize eth : (if pr.1 = it.2.1 then pr.2 else pr.1) = th at eA
            refine seqG (fun σ H' => σ = [some (.ref tl), some (.int (h : Int)), some (.ref ml), some (.ref lf), some (.ref lw), some (.int (0 + (k : Int))), some (.ref v), some (.int (it.2.1 : Int)), some (.int (it.2.2 : Int)), some (.int (t : Int)), some (.ref D1), some (.int (th : Int)), none] ∧ H' = Ha) ?_ fun tail => ?_
            · rintro σ Hz ⟨rfl, ez⟩
              rw [ez]
              clear ez Hz
              refine ⟨_, rfl, .inl ⟨rfl, _, SqL.of hf8⟩, _, rfl, _, rfl, (by show 1 ≤ sizeLine; decide), fun q2 hq2 => ?_⟩
              obtain ⟨sy, hy0⟩ := newO (o := HO.tup [.int (t : Int)]) hq2
              generalize upd Ha q2 (.tup [.int (t : Int)]) = Hq at sy hy0 ⊢
              refine catA_by (sy _ _ hv8) hy0 (sz (by rw [vn_len]; simp only [List.length_cons, List.length_nil]; omega)) fun r Hr sr hr => ?_
              have hrv : Hr r = some (.tup (vn (it.1 ++ [t]))) := by rw [hr, vn, vn, List.map_append]; rfl
              refine ⟨_, rfl, (by show 2 ≤ sizeLine; decide), fun pt hpt => ?_⟩
              obtain ⟨sp_, hp0⟩ := newO (o := HO.tup [.ref r, .int (th : Int)]) hpt
              generalize upd Hr pt (.tup [.ref r, .int (th : Int)]) = Hp_ at sp_ hp0 ⊢
              have s1p := (sy.trans sr).trans sp_
              have hfp := s1p _ _ hf8
              refine ⟨lf, _, _, rfl, rfl, hfp, szl (by rw [List.length_map]; omega), ?_⟩
              have kp1 : ∀ c xs, Hp_ c = some (.tup xs) → (upd Hp_ lf (.lst (as.map V.ref ++ [.ref pt]))) c = some (.tup xs) := fun c xs e => by rw [upd_ne fun z => by rw [z, hfp] at e; cases e]; exact e
              have hf9 : (upd Hp_ lf (.lst (as.map V.ref ++ [.ref pt]))) lf = some (.lst ((as ++ [pt]).map V.ref)) := by rw [upd_same, List.map_append]; rfl
              have hw9 : (upd Hp_ lf (.lst (as.map V.ref ++ [.ref pt]))) lw = some (.lst (bs.map V.ref)) := by rw [upd_ne nfw.symm]; exact s1p _ _ hw8
              have s9 : Same H (upd Hp_ lf (.lst (as.map V.ref ++ [.ref pt]))) := fun c o e => by rw [upd_ne (ne_of_none e flf)]; exact s1p _ _ (s08 _ _ e)
              have F9 := ((F8.kp fun c xs e => kp1 _ _ (s1p _ _ e)).snoc (b := pt) (v := r) (it := (it.1 ++ [t], th, sp + 1)) (kp1 _ _ hp0) (kp1 _ _ (sp_ _ _ hrv)))
              have W9 := W8.kp fun c xs e => kp1 _ _ (s1p _ _ e)
              have hv9 := kp1 _ _ (s1p _ _ hv8)
              have hD9 : (upd Hp_ lf (.lst (as.map V.ref ++ [.ref pt]))) D1 = some (.lst (vn (sp :: rs))) := by rw [upd_ne nD]; exact s1p _ _ hD8
              generalize upd Hp_ lf (.lst (as.map V.ref ++ [.ref pt])) = H9' at hf9 hw9 s9 F9 W9 hv9 hD9 ⊢
              refine ⟨_, rfl, .inl ⟨rfl, _, SqL.of hw9⟩, _, rfl, _, rfl, (by show 1 ≤ sizeLine; decide), fun q3 hq3 => ?_⟩
              obtain ⟨sy2, hy2⟩ := newO (o := HO.tup [.int (t : Int)]) hq3
              generalize upd H9' q3 (.tup [.int (t : Int)]) = Hq2 at sy2 hy2 ⊢
              refine catA_by (sy2 _ _ hv9) hy2 (sz (by rw [vn_len]; simp only [List.length_cons, List.length_nil]; omega)) fun r2 Hr2 sr2 hr2 => ?_
              have hrv2 : Hr2 r2 = some (.tup (vn (it.1 ++ [t]))) := by rw [hr2, vn, vn, List.map_append]; rfl
              have s2r := sy2.trans sr2
              refine ⟨_, rfl, _, rfl, D1, _, 0, .int (sp : Int), rfl, rfl, SqL.of (s2r _ _ hD9), at_i (i := 0) (xs := vn (sp :: rs)) rfl, _, _, rfl, rfl, (by show 3 ≤ sizeLine; decide), fun pt2 hpt2 => ?_⟩
              obtain ⟨sp2, hp2⟩ := newO (o := HO.tup [.ref r2, .int (th : Int), .int ((sp : Int) + 1)]) hpt2
              generalize upd Hr2 pt2 (.tup [.ref r2, .int (th : Int), .int ((sp : Int) + 1)]) = Hp2 at sp2 hp2 ⊢
              replace hp2 : Hp2 pt2 = some (.tup (.ref r2 :: gW (it.1 ++ [t], th, sp + 1))) := hp2
              have s3r := s2r.trans sp2
              have hwp := s3r _ _ hw9
              refine ⟨lw, _, _, rfl, rfl, hwp, szl (by rw [List.length_map]; omega), ?_⟩
              have kp2 : ∀ c xs, Hp2 c = some (.tup xs) → (upd Hp2 lw (.lst (bs.map V.ref ++ [.ref pt2]))) c = some (.tup xs) := fun c xs e => by rw [upd_ne fun z => by rw [z, hwp] at e; cases e]; exact e
              refine ⟨as ++ [pt], bs ++ [pt2], _, _, _, rfl, fun c o e => by rw [upd_ne (ne_of_none e flw)]; exact s3r _ _ (s9 _ _ e), by rw [upd_ne nfw]; exact s3r _ _ hf9, by rw [upd_same, List.map_append]; rfl, ?_, ?_, kp2 _ _ (s3r _ _ hv9)⟩
              · rw [eA]
                exact F9.kp fun c xs e => kp2 _ _ (s3r _ _ e)
              · rw [eA]
                exact (W9.kp fun c xs e => kp2 _ _ (s3r _ _ e)).snoc (b := pt2) (v := r2) (it := (it.1 ++ [t], th, sp + 1)) (kp2 _ _ hp2) (kp2 _ _ (sp2 _ _ hrv2))
            · refine ⟨_, rfl, _, rfl, tl, _, _, .ref pa, rfl, rfl, SqL.of htx, at_i (map_at hpa0), pa, _, 0, .int (pr.1 : Int), rfl, rfl, SqT.of hpax, rfl, _, rfl, rfl, _, rfl, iff1 (fun c => ?_) fun c => ?_⟩
              · rw [if_pos c] at eth
                subst eth
                exact ⟨_, rfl, _, rfl, tl, _, _, .ref pa, rfl, rfl, SqL.of htx, at_i (map_at hpa0), pa, _, 1, .int (pr.2 : Int), rfl, rfl, SqT.of hpax, rfl, gn (tail _ _ ⟨rfl, rfl⟩)⟩
              · rw [if_neg c] at eth
                subst eth
                exact ⟨_, rfl, _, rfl, tl, _, _, .ref pa, rfl, rfl, SqL.of htx, at_i (map_at hpa0), pa, _, 0, .int (pr.1 : Int), rfl, rfl, SqT.of hpax, rfl, gn (tail _ _ ⟨rfl, rfl⟩)⟩
      · rintro σ H8 ⟨as, bs, v9, v10, v11, rfl, s8, hf, hw, F, Wt, hv⟩
        rw [el, Int.toNat_natCast] at F Wt
        exact ⟨as, bs, _, _, _, _, _, _, _, _, rfl, s8, hf, hw, F, Wt, J.step hit⟩
    · rintro σ H7 ⟨as, bs, L, v5, v6, v7, v8, v9, v10, v11, rfl, s7, hf, hw, F, Wt, J⟩
      have lL := J.bound hW hn I0
      have lL2 : L.length ≤ 2000 := Nat.le_trans lL ws
      have := J.le
      have e3 : (3000 : Int).toNat = 3000 := rfl
      omega
end
end K1
namespace K1
open PySem PySem.Spec PyProof.Rows L2
theorem Lw.webK {W b w : Addr} {T : List (Addr × Str)} {H H' : Hp} {n : Nat} {ts : Prs} (hb : BoxO H b) (l : Lw b T [] H H') (h : WebAt W H w n ts) : WebAt W H' w n ts :=
  h.kp (fun a xs e => l.ks.tup e (by rw [List.mem_singleton]; exact hb.ne e fun xs => by intro z; cases z)) fun dx fs e => l.ks.ins e (by rw [List.mem_singleton]; exact hb.ne e fun xs => by intro z; cases z)
theorem Lw.lstK {b a : Addr} {T : List (Addr × Str)} {H H' : Hp} {xs : List V} (l : Lw b T [] H H') (h : H a = some (.lst xs)) (n : a ≠ b) : H' a = some (.lst xs) := l.ks.lst h (by rw [List.mem_singleton]; exact n)
section
variable {K : PySem.W.Frag} {CH CB CR CG : Addr} {Q : VK} {H : Hp} {v : V} {o : Option (List V)} {x : Str} {xs : List Addr}
theorem heH (vl : Vl K xs H v o x) (k : ∀ p H', Same H H' → H' p = some (.tup [.str "house", .str x]) → Q (.ref p) H') : Rz CH "house" v H (HE K CH CB CR CG Q) := fun d H' sm hd hx => ⟨d, rfl, .inl ⟨rfl, v, hx, x, (vl.same sm).rso, fun p H'' s2 hp => k p H'' (sm.trans s2) hp⟩⟩
theorem heR (vl : Vl K xs H v o x) (k : ∀ p H', Same H H' → H' p = some (.tup [.str "refused", .str x, .bl true]) → Q (.ref p) H') : Rz CR "at" v H (HE K CH CB CR CG Q) := fun d H' sm hd hx => ⟨d, rfl, .inr (.inr (.inl ⟨rfl, v, hx, x, (vl.same sm).rso, fun p H'' s2 hp => k p H'' (sm.trans s2) hp⟩))⟩
theorem heB (k : ∀ p H', Same H H' → H' p = some (.tup [.str "steps", v, .bl true]) → Q (.ref p) H') : Rz CB "at" v H (HE K CH CB CR CG Q) := fun d H' sm hd hx => ⟨d, rfl, .inr (.inl ⟨rfl, v, hx, fun p H'' s2 hp => k p H'' (sm.trans s2) hp⟩)⟩
theorem heG (k : ∀ p H', Same H H' → H' p = some (.tup [.str "great", v, .bl true]) → Q (.ref p) H') : Rz CG "most" v H (HE K CH CB CR CG Q) := fun d H' sm hd hx => ⟨d, rfl, .inr (.inr (.inr ⟨rfl, v, hx, fun p H'' s2 hp => k p H'' (sm.trans s2) hp⟩))⟩
theorem st_h : PyData.strOk ("house" : Str) = true := by decide +kernel
theorem st_r : PyData.strOk ("refused" : Str) = true := by decide +kernel
theorem st_s : PyData.strOk ("steps" : Str) = true := by decide +kernel
theorem st_g : PyData.strOk ("great" : Str) = true := by decide +kernel
theorem earH {p p2 : Addr} {y x : Str} (hy : PyData.strOk y = true) (hx : PyData.strOk x = true) (h1 : H p = some (.tup [.str y, .str x])) (h2 : H p2 = some (.tup [.str y, .str x])) (q : Q (.bl false) H) : rNeD K (.ref p) (.ref p2) H Q := by
  have lay : PyData.canLay0 (.tuple [.str y, .str x]) = true := by simp only [PyData.canLay0, PyData.canLayAll0, Bool.and_self, hx, hy]
  have sh : SeqAt.shaped (.tuple [.str y, .str x]) = true := by
    unfold SeqAt.shaped
    rw [lay]
    simp only [PyData.depth, PyData.depthAll]
    exact (by decide : (true && decide (max 0 (max 0 0) + 1 ≤ 64)) = true)
  exact ear h1 h2 (.cons (.str y) (.cons (.str x) .nil)) lay sh q
theorem earI {p p2 : Addr} {y : Str} {i : Int} {b : Bool} (hy : PyData.strOk y = true) (h1 : H p = some (.tup [.str y, .int i, .bl b])) (h2 : H p2 = some (.tup [.str y, .int i, .bl b])) (q : Q (.bl false) H) : rNeD K (.ref p) (.ref p2) H Q := by
  have lay : PyData.canLay0 (.tuple [.str y, .int i, .bool b]) = true := by simp only [PyData.canLay0, PyData.canLayAll0, Bool.and_self, hy]
  have sh : SeqAt.shaped (.tuple [.str y, .int i, .bool b]) = true := by
    unfold SeqAt.shaped
    rw [lay]
    simp only [PyData.depth, PyData.depthAll]
    exact (by decide : (true && decide (max 0 (max 0 (max 0 0)) + 1 ≤ 64)) = true)
  exact ear h1 h2 (.cons (.str y) (.cons (.int i) (.cons (.bl b) .nil))) lay sh q
def oddA (n : Int) : List V := [.int n, .int (0 - 1), .bl true, .non, .str "0"]
theorem oddA_vl {n : Int} (h0 : 0 ≤ n) (h1 : n ≤ 1000) (h : v ∈ oddA n) : belowB v n = false ∧ ∃ x, Vl K xs H v none x := by
  simp only [oddA, List.mem_cons, List.mem_nil_iff, or_false] at h
  rcases h with rfl | rfl | rfl | rfl | rfl
  · refine ⟨?_, _, vl_int (by omega)⟩
    show (decide (0 ≤ n) && decide (n < n)) = false
    rw [decide_eq_false (Int.lt_irrefl _), Bool.and_false]
  · exact ⟨by show (decide ((0 : Int) ≤ 0 - 1) && decide ((0 : Int) - 1 < n)) = false; rw [decide_eq_false (by decide)]; rfl, _, vl_int (by decide)⟩
  · exact ⟨rfl, _, vl_true⟩
  · exact ⟨rfl, _, vl_non⟩
  · exact ⟨rfl, _, vl_str (by decide +kernel) (by decide +kernel)⟩
theorem vl_false : Vl K xs H (.bl false) none "False" := ⟨by decide +kernel, fun H' Q _ q => .inl ⟨_, rfl, .inr (.inl ⟨false, rfl, q⟩)⟩, fun H' _ => rw0 (.bl false)⟩
end
theorem nn2 {σ : L2.St} {H : Hp} {Q : List V → Hp → Prop} (h : Q [.non, .non] H) : tCons (tC .non) (tCons (tC .non) tNil) σ H Q := h
theorem nn1 {σ : L2.St} {H : Hp} {Q : List V → Hp → Prop} (h : Q [.non] H) : tCons (tC .non) tNil σ H Q := h
theorem cn3 {i : Int} {σ : L2.St} {H : Hp} {Q : List V → Hp → Prop} (h : Q [.int i, .non, .non] H) : tCons (tC (.int i)) (tCons (tC .non) (tCons (tC .non) tNil)) σ H Q := h
theorem c1 {i : Int} {σ : L2.St} {H : Hp} {Q : List V → Hp → Prop} (h : Q [.int i] H) : tCons (tC (.int i)) tNil σ H Q := h
theorem sqL_ks {K : PySem.W.Frag} {H H1 : Hp} {a : Addr} {xs : List V} (h : SqL K H a xs) (k : Ks [] H H1) : SqL K H1 a xs := by
  rcases h with (h | ⟨ob, h⟩) | h
  · exact .inl (.inl (k _ _ h (by simp) fun ps z => by cases z))
  · exact .inl (.inr ⟨ob, k _ _ h (by simp) fun ps z => by cases z⟩)
  · exact .inr h
theorem dp_two {K : PySem.W.Frag} {H : Hp} {p x y : Addr} {a b : List Int} (h : H p = some (.tup [.ref x, .ref y])) (hx : H x = some (.tup (vrow a))) (hy : H y = some (.tup (vrow b))) : Dp K H (.ref p) (.tuple [.tuple (dI a), .tuple (dI b)]) := .tup (SqT.of h) (.cons (dp_tup hx) (.cons (dp_tup hy) .nil))
theorem dp_prs {K : PySem.W.Frag} {H : Hp} : ∀ {as : List Addr} {ts : Prs}, PrsA H as ts → DpAll K H (as.map V.ref) (ts.map fun p => .tuple [.int (p.1 : Int), .int (p.2 : Int)])
  | [], [], _ => .nil
  | a :: as, t :: ts, h => .cons (.tup (SqT.of (h.2 0 a t rfl rfl)) (.cons (.int _) (.cons (.int _) .nil))) (dp_prs ⟨Nat.succ.inj h.1, fun i b u e1 e2 => h.2 (i + 1) b u e1 e2⟩)
  | [], _ :: _, h => nomatch h.1
  | _ :: _, [], h => nomatch h.1
theorem pla_prs {n : Nat} : ∀ ts : Prs, (∀ p ∈ ts, p.1 < 1000 ∧ p.2 < 1000) → PlA (ts.map fun p => PyData.tuple [.int (p.1 : Int), .int (p.2 : Int)]) 1 (ts.length * 131)
  | [], _ => PlA.nil.mono (by decide) (by decide)
  | t :: r, h => by
    have := h t List.mem_cons_self
    refine (PlA.cons (Pl.tuple (PlA.cons (Pl.int (i := (t.1 : Int)) (by omega)) (PlA.cons (Pl.int (i := (t.2 : Int)) (by omega)) PlA.nil))) (pla_prs (n := n) r fun u hu => h u (List.mem_cons_of_mem _ hu))).mono (by omega) ?_
    show (64 + 1 + (64 + 1 + 0)) + 1 + r.length * 131 ≤ (r.length + 1) * 131
    omega
theorem Lw.ks0 {b : Addr} {T : List (Addr × Str)} {H0 H H' : Hp} (l : Lw b T [] H H') (s : Same H0 H) (h0 : H0 b = none) : Ks [] H0 H' := fun c o e _ n => l.ks c o (s _ _ e) (by rw [List.mem_singleton]; exact ne_of_none e h0) n
section
variable {X : Cx} {k : Nat} {f C : Addr} {fd : FuncData} {ps ks : List Str} {sp : Sp} {x m : Str} {st : Stmt} {p pos apos : Pos} {o e : Expr} {es : List Expr} {t : TA}
theorem pe_callG (D : Df X.K X.mg x st ps f fd) (G : FnG X.prog X.w X.K X.mg X.base k f fd ps sp) (hr : Room k X.A) (hgd : X.A.guards = some []) (ha : PA X (e :: es) t) (hg : Gl X x := by rfl)
    (hdb : (x == ("__debug__" : Str)) = false := by decide) (he : starEach (e :: es) X.env = (false, eval e X.env) :: starEach es X.env := by rfl) (hpl : (backTo pos (starEach es X.env)).any (·.1) = false := by rfl) :
    PE X (.Call (.Name x p) (e :: es) [] pos) (fun σ H Q => t σ H fun vs H1 => sp vs H1 Q fun _ _ _ => False) := by
  refine ⟨fun pins s σ H Q I h => ?_⟩
  refine wpAny_Call_Name_kw (ld_glob I hg D.g ?_ hdb)
  refine PySem.W.callWith_K (h₀ := X.base) I.ok.mod.kin D.F.kp (thn (ha.run pos pins s σ H _ I h) fun us s1 ⟨vs, H1, I1, r, q⟩ => ⟨I1.kIn, ?_⟩) he hpl
  have hl : us.length = ps.length := by rw [← r.length]; exact G.len _ _ _ _ q
  refine wpAny_call (codeAny_mono (G.run X.A X.stack s1 H1 ⟨us, []⟩ us vs Q (fun _ _ _ => False) hr hgd I1.env0 (by
    have z := D.b s1 us I1.kIn (by rw [List.append_nil]; exact hl)
    rw [List.append_nil] at z
    exact z) r q) fun r s' hq => ?_)
  cases r with
  | error e => exact (show False from hq).elim
  | ok fl =>
    cases fl with
    | ret u => exact I1.after hq
    | next => exact False.elim hq
    | brk => exact False.elim hq
    | cont => exact False.elim hq
end
section
variable {X : Cx} {k : Nat} {f C : Addr} {fd : FuncData} {ps ks : List Str} {sp : Sp} {x m : Str} {st : Stmt} {p pos apos : Pos} {o : Expr} {kws : List Keyword} {tk : TA} {ta : TE}
theorem pe_callWD {CX : CXT} {E : XK} {g : List Value → List Value → List Value} {gV : List V → List V → List V} (hm : X.mg x = some (.ref f)) (hk : PySem.W.keepIn X.K (.ref f) = true) (G : FnOk X.prog X.w X.K X.mg X.base CX k f fd ps sp) (hr : Room k X.A) (hb : KBn X.K fd ps 0 ks g gV) (hx : Passes CX X E) (hkw : PK X kws tk) (hg : Gl X x := by rfl)
    (hall : (backToKw pos (keywordEach kws X.env)).all (·.1.isSome) = true := by rfl) (hks : (backToKw pos (keywordEach kws X.env)).filterMap (·.1) = ks := by rfl) (hdb : (x == ("__debug__" : Str)) = false := by decide)
    (hpl : ((backTo pos (starEach [] X.env)).any (·.1) || (backToKw pos (keywordEach kws X.env)).any (·.1.isNone)) = false := by rfl) :
    PE X (.Call (.Name x p) [] kws pos) (fun σ H Q => tk σ H fun zs H1 => zs.length = ks.length ∧ sp (gV [] zs) H1 Q E) := by
  refine ⟨fun pins s σ H Q I h => ?_⟩
  refine wpAny_Call_Name_kw (ld_glob I hg hm ?_ hdb)
  refine PySem.W.callWith_KW0 (h₀ := X.base) I.ok.mod.kin hk hall ?_ hpl
  refine thn (hkw.run pos pins s σ H _ I h) fun ws s2 ⟨zs, H2, I2, rz, l2, q2⟩ => ⟨I2.kIn, ?_⟩
  rw [hks]
  exact run_fnN (us := []) (vs := []) G hr hb hx I2 .nil rz rfl l2 q2
end
theorem tCq {v : V} {σ : L2.St} {H : Hp} {Q : VK} (h : Q v H) : tC v σ H Q := h
theorem mkSame {G : Hp} {c dx : Addr} {o1 o2 : HO} (hc : G c = none) (hd : G dx = none) (ne : dx ≠ c) : Same G (upd (upd G dx o1) c o2) := (same_new hd).trans (same_new (by rw [upd_ne ne.symm]; exact hc))
theorem Lw.tupK {b a : Addr} {T : List (Addr × Str)} {H H' : Hp} {xs : List V} (hb : BoxO H b) (l : Lw b T [] H H') (h : H a = some (.tup xs)) : H' a = some (.tup xs) := l.ks.tup h (by rw [List.mem_singleton]; exact hb.ne h fun xs => by intro z; cases z)
theorem Lw.tiesL {b tl : Addr} {T : List (Addr × Str)} {H H' : Hp} {ts : Prs} (hb : BoxO H b) (l : Lw b T [] H H') (h : TiesL H tl ts) (n : tl ≠ b) : TiesL H' tl ts := let ⟨as, h1, h2⟩ := h; ⟨as, l.lstK h1 n, h2.kp fun a xs e => l.tupK hb e⟩
theorem c2 {i j : Int} {σ : L2.St} {H : Hp} {Q : List V → Hp → Prop} (h : Q [.int i, .int j] H) : tCons (tC (.int i)) (tCons (tC (.int j)) tNil) σ H Q := h
theorem TiesL.dp {K : PySem.W.Frag} {H : Hp} {l : Addr} {ts : Prs} (h : TiesL H l ts) : Dp K H (.ref l) (.list (ts.map fun p => .tuple [.int (p.1 : Int), .int (p.2 : Int)])) := let ⟨as, h1, h2⟩ := h; .lst (SqL.of h1) (dp_prs h2)
theorem pl_ties {n : Nat} {ts : Prs} (hW : Wv n ts) : Pl (.list (ts.map fun p => PyData.tuple [.int (p.1 : Int), .int (p.2 : Int)])) 2 100000 := (Pl.list (pla_prs (n := n) ts fun p hp => by have := hW.pr p hp; have := hW.n12; omega)).mono (by decide) (by have := hW.t20; omega)
theorem pl_two {a b : List Int} (ha : ∀ i ∈ a, i.natAbs < 10 ^ 19) (hb : ∀ i ∈ b, i.natAbs < 10 ^ 19) (la : a.length ≤ 40) (lb : b.length ≤ 40) : Pl (.tuple [.tuple (dI a), .tuple (dI b)]) 2 50000 :=
  (Pl.tuple (PlA.cons (Pl.tuple (pla_ints a ha)) (PlA.cons (Pl.tuple (pla_ints b hb)) PlA.nil))).mono (by decide) (by omega)
end K1
namespace K1
open PySem PySem.Spec PyProof.Rows L2
/-! ### a moment is right -/
theorem reprP2 {K : PySem.W.Frag} {p : Addr} {d : PyData} {n w : Nat} {H : Hp} {Q : VK} (hd : Dp K H (.ref p) d) (pl : Pl d n w) (hn : n ≤ 40) (hw : w ≤ 700000) (q : Q (.str d.shown) H) : rRepr K [.ref p] H Q := ⟨p, d, rfl, hd, pl.sh, pl.nd, Nat.le_trans pl.dp hn, by
  have h1 := PyData.shown_le 20 (by decide) d pl.sr
  have h2 := pl.wt
  rw [sizeLine_eq]
  omega, q⟩
theorem kb_wc {K : PySem.W.Frag} {f : Addr} {fd : FuncData} (F : Fun K "way_counts" "way_counts" sWayCounts f fd) : KBn K fd ["web", "house", "meetings"] 0 ["meetings", "house", "web"] gM gMV := by
  obtain ⟨oc, od, kV, doc, pm, an, cdv, ct, osl, rfl, lk, hcd⟩ := F.ex
  refine ⟨fun s us ws _ h0 h1 => .of_eq ?_, fun r q => r.append q.reverse⟩
  match us, ws, h0, h1 with
  | [], [_, _, _], _, _ => rfl
theorem fl_take {α : Type} {p : α → Bool} {L : List α} {j : Nat} {x : α} (h : L[j]? = some x) : (L.take (j + 1)).filter p = if p x = true then (L.take j).filter p ++ [x] else (L.take j).filter p := by
  rw [List.take_add_one, h, List.filter_append]
  show (L.take j).filter p ++ [x].filter p = _
  by_cases c : p x = true
  · rw [if_pos c, List.filter_cons_of_pos c]; rfl
  · rw [if_neg c, List.filter_cons_of_neg c]; exact List.append_nil _
/-- the data of a row of ways -/
def wsD (ws : List Wy) : List PyData := ws.map fun w => .tuple (dI (wN w))
theorem dp_ways {K : PySem.W.Frag} {H : Hp} : ∀ {bs : List Addr} {ws : List Wy}, TupsAt H bs ws → DpAll K H (bs.map V.ref) (wsD ws)
  | [], [], _ => .nil
  | b :: bs, w :: ws, h => .cons (dp_vn (h.2 0 b w rfl rfl)) (dp_ways ⟨Nat.succ.inj h.1, fun i c u e1 e2 => h.2 (i + 1) c u e1 e2⟩)
  | [], _ :: _, h => nomatch h.1
  | _ :: _, [], h => nomatch h.1
theorem pla_ways : ∀ ws : List Wy, (∀ w ∈ ws, w.length ≤ 20 ∧ ∀ x ∈ w, x < 1000) → PlA (wsD ws) 1 (ws.length * 1301)
  | [], _ => PlA.nil.mono (by decide) (by decide)
  | w :: ws, h => by
    obtain ⟨h1, h2⟩ := h w List.mem_cons_self
    refine (PlA.cons (Pl.tuple (pla_nat h2)) (pla_ways ws fun u hu => h u (List.mem_cons_of_mem _ hu))).mono (by decide) ?_
    show w.length * 65 + 1 + ws.length * 1301 ≤ (ws.length + 1) * 1301
    omega
theorem eq_last {K : PySem.W.Frag} {H : Hp} {Q : VK} {a b : Addr} {w : Wy} {t : Nat} (ha : H a = some (.tup (vn (lastT w)))) (hb : H b = some (.tup (vn [t]))) (hw : ∀ x ∈ w, x < 1000) (ht : t < 1000) (q : Q (.bl (isL t w)) H) : rEqD K (.ref a) (.ref b) H Q := by
  have p1 : Pl (.tuple (dI ((lastT w).map fun (x : Nat) => (x : Int)))) 1 1000 := (Pl.tuple (pla_nat fun x hx => hw x (lastT_mem hx))).mono (by decide) (by have := lastT_len w; omega)
  have p2 : Pl (.tuple (dI ([t].map fun (x : Nat) => (x : Int)))) 1 1000 := (Pl.tuple (pla_nat fun x hx => by rw [List.mem_singleton.mp hx]; exact ht)).mono (by decide) (by show 1 * 65 ≤ 1000; decide)
  refine ⟨_, _, dp_vn ha, dp_vn hb, p1.shaped (by decide), p2.shaped (by decide), qbl ?_ q⟩
  exact eqv_last w t
theorem drop_eq {n L : Nat} {cs : List Int} {f : Nat → Nat} (hl : cs.length = n + L) (h : ∀ t, t < L → cs.getD (n + t) 0 = (f t : Int)) : cs.drop n = (List.range L).map fun t => ((f t : Nat) : Int) := by
  refine List.ext_getElem? fun i => ?_
  rw [List.getElem?_drop]
  by_cases c : i < L
  · rw [rows_at c]
    obtain ⟨v, hv⟩ := ex_at (l := cs) (i := n + i) (by omega)
    have := h i c
    rw [List.getD_eq_getElem?_getD, hv] at this
    rw [hv]
    exact congrArg some this
  · rw [List.getElem?_eq_none (by omega), List.getElem?_eq_none (by rw [List.length_map, List.length_range]; omega)]
theorem keep_way {H2 H3 : Hp} {D1 v : Addr} {bs : List Addr} {ws : List Wy} {wy : Wy} (hD1 : H2 D1 = none) (s3 : Same H2 H3) (hD : H3 D1 = some (.lst (bs.map V.ref))) (T3 : TupsAt H3 bs ws) (hv : H3 v = some (.tup (vn wy))) (lb : ws.length ≤ 100000) :
    ∃ acc, H3 D1 = some (.lst acc) ∧ acc.length < sizeLine ∧ ∃ bs' : List Addr, Same H2 (upd H3 D1 (.lst (acc ++ [.ref v]))) ∧ (upd H3 D1 (.lst (acc ++ [.ref v]))) D1 = some (.lst (bs'.map V.ref)) ∧ TupsAt (upd H3 D1 (.lst (acc ++ [.ref v]))) bs' (ws ++ [wy]) := by
  have kp : ∀ c xs, H3 c = some (.tup xs) → (upd H3 D1 (.lst (bs.map V.ref ++ [.ref v]))) c = some (.tup xs) := fun c xs e => by rw [upd_ne fun z => by rw [z, hD] at e; cases e]; exact e
  refine ⟨_, hD, szl (by rw [List.length_map, T3.1]; omega), bs ++ [v], fun c o e => ?_, by rw [upd_same, List.map_append]; rfl, (T3.kp kp).snoc (kp _ _ hv)⟩
  rw [upd_ne (ne_of_none e hD1)]
  exact s3 _ _ e
theorem tups0 {H : Hp} : TupsAt H [] [] := ⟨rfl, fun i b w e => by cases e⟩
theorem fl_len {p : It → Bool} {L : List It} {j : Nat} {B : Nat} (h : L.length ≤ B) : (((L.take j).filter p).map (·.1)).length ≤ B := by
  rw [List.length_map]
  exact Nat.le_trans (List.length_filter_le _ _) (Nat.le_trans (by rw [List.length_take]; exact Nat.min_le_right _ _) h)
theorem tuple_data (n : Nat) (f : Nat → Nat) {B : Nat} (h : ∀ x, f x ≤ B) (hB : B ≤ 100000) : ∀ i ∈ (List.range n).map (fun x => ((f x : Nat) : Int)), i.natAbs < 10 ^ 19 := fun i hi => by
  obtain ⟨x, _, rfl⟩ := List.mem_map.mp hi
  have := h x
  have : ((f x : Nat) : Int).natAbs = f x := rfl
  omega
theorem earIE {K : PySem.W.Frag} {H : Hp} {Q : VK} {p p2 : Addr} {y : Str} {i : Int} {b : Bool} (hy : PyData.strOk y = true) (h1 : H p = some (.tup [.str y, .int i, .bl b])) (h2 : H p2 = some (.tup [.str y, .int i, .bl b])) (q : Q (.bl true) H) : rEqD K (.ref p) (.ref p2) H Q := by
  have lay : PyData.canLay0 (.tuple [.str y, .int i, .bool b]) = true := by simp only [PyData.canLay0, PyData.canLayAll0, Bool.and_self, hy]
  have sh : SeqAt.shaped (.tuple [.str y, .int i, .bool b]) = true := by
    unfold SeqAt.shaped
    rw [lay]
    simp only [PyData.depth, PyData.depthAll]
    exact (by decide : (true && decide (max 0 (max 0 (max 0 0)) + 1 ≤ 64)) = true)
  have hd : ∀ {p : Addr}, H p = some (.tup [.str y, .int i, .bl b]) → Dp K H (.ref p) (.tuple [.str y, .int i, .bool b]) := fun h => .tup (SqT.of h) (.cons (.str y) (.cons (.int i) (.cons (.bl b) .nil)))
  exact ⟨_, _, hd h1, hd h2, sh, sh, qbl (SeqAt.eqv_refl _ lay) q⟩
abbrev qMR : Str := "_law_moment_right.<locals>.<lambda>"
abbrev psMR : List Str := ["_law_box_here", "_law_web", "_law_ties_here", "_law_houses", "_law_house", "_law_meetings", "_law_counts"]
def spMR (W : Addr) (T : List (Addr × Str)) : Sp := fun vs H Q _ => ∃ (b w tl ml cl : Addr) (n h : Nat) (ts : Prs) (m : List Nat), vs = [.ref b, .ref w, .ref tl, .int (n : Int), .int (h : Int), .ref ml, .ref cl] ∧ BoxO H b ∧ LamX.Tabs T H ∧ WebAt W H w n ts ∧ Wv n ts ∧ TiesL H tl ts ∧ tl ≠ b ∧ h < n ∧ H ml = some (.lst (vn m)) ∧ ml ≠ b ∧ (∀ t ∈ m, t < ts.length) ∧ m.length ≤ 14 ∧ wsum n (wrun ts h m) ≤ 450 ∧
  H cl = some (.lst (vrow (runC 0 n ts (dlt (n + ts.length) h) m))) ∧ cl ≠ b ∧ ∀ H', Lw b T [] H H' → Q (.bl true) H'
section
variable {P : Program} {w : World} {K : PySem.W.Frag} {mg : Str → Option Value} {base : Heap}
abbrev nMR : List Str := ["_law_box_here", "_law_web", "_law_ties_here", "_law_houses", "_law_house", "_law_meetings", "_law_counts", "_law_ways_here", "_law_by_house", "_law_by_tie", "_law_due", "_law_there", "_law_total", "_law_one", "_law_tie", "_law_way", "_law_end"]
theorem scMR : FnScope nMR psMR (defScope sLMomentRight) := ⟨rfl, rfl, rfl, by decide +kernel, rfl, by decide +kernel, by decide +kernel⟩
theorem ok_mr {f fW fS fC fT fG W CH CB CR CG c_ Pt : Addr} {fd fdW fdS fdC fdT fdG : FuncData} {T : List (Addr × Str)} (F : FunC K "_law_moment_right" "_law_moment_right" sLMomentRight f fd (.ref c_)) (TB : LamX.TabB base mg c_ Pt) (hmT : (Pt, qMR) ∈ T) (hun : ∀ p ∈ T, p.1 = Pt → p.2 = qMR) (B : Bt mg) (hd : Hd K mg base CH CB CR CG)
    (DW : Df K mg "_law_ways" sLWays ["_law_ties_here", "_law_house", "_law_meetings"] fW fdW) (GW : FnOk P w K mg base CX0 1 fW fdW ["_law_ties_here", "_law_house", "_law_meetings"] spLW)
    (DS : Df K mg "_law_split" sLSplit ["_law_houses", "_law_counts"] fS fdS) (GS : FnOk P w K mg base CX0 1 fS fdS ["_law_houses", "_law_counts"] spSplit)
    (DC : Df K mg "way_counts" sWayCounts ["web", "house", "meetings"] fC fdC) (GC : FnOk P w K mg base (L2.CX P w) 5 fC fdC ["web", "house", "meetings"] (spWC K W CH CB))
    (DT : Df K mg "_law_take" sLTake ["_law_box_here", "_law_many"] fT fdT) (GT : FnOk P w K mg base CX0 1 fT fdT ["_law_box_here", "_law_many"] spTake)
    (DG : DfG K mg fG fdG) (GG : FnOk P w K mg base (L2.CX P w) 6 fG fdG psG (spGW K W CH CB CG)) : FnG P w K mg base 9 f fd psMR (spMR W T) := by
  refine F.okG scMR (fun vs H Q E h => ?_) (fun A outer s H vs Q E hr hgd h => ?_)
  · obtain ⟨b, w, tl, ml, cl, n, h, ts, m, rfl, _⟩ := h
    rfl
  · obtain ⟨b, w, tl, ml, cl, n, h, ts, m, rfl, hb, hT, hw, hW, htl, ntl, hn, hml, nml, hlt, lm, ws, hcl, ncl, q⟩ := h
    have hu : (A.deeper (envOfC "_law_moment_right" (defScope sLMomentRight) s.heap.objs.size f (.ref c_))).units + 64 < cLine := hr.units
    have r1 := hr.mono (show 1 ≤ 8 by decide)
    have r5 := hr.mono (show 5 ≤ 8 by decide)
    have r6 := hr.mono (show 6 ≤ 8 by decide)
    refine ⟨_, pss_cons (ps_set (i := 7) scMR.nd rfl (.inr rfl) (pc DW GW r1 pass0 (pa_cons (pv 2) (pa_cons (pv 4) (pa_cons (pv 5) pa_nil)))))
      (pss_cons (ps_set (i := 8) scMR.nd rfl (.inl rfl) (pe_callTy call_tuple_of (by rfl) B.tuple PyProof.Rows.boot_tuple (pa_cons
          (pe_lc (own := [("_law_one", 13)]) (g := gName 13) (tt := tYes) rfl scMR.nd (pi_range1 (by rfl) B.range (pa_cons (pv 3) pa_nil)) (blkOk_by (N := nMR) (sc := defScope sLMomentRight) (by decide +kernel)) (fun _ _ _ _ _ => pg_name (i := 13) scMR.nd rfl (.inr rfl)) (fun _ _ _ _ _ => pts_nil)
            (fun _ _ _ _ _ => pe_callB (clen (K := K) rfl) (by rfl) B.len PySem.boot_len (pa_cons (pe_lc (own := [("_law_way", 15), ("_law_end", 16)]) (g := gTup K 2 (gCons (gName 15) (gCons (gName 16) gNil))) rfl scMR.nd (piL (K := K) rfl (pv 7)) (blkOk_by (by rfl))
              (fun _ _ _ _ _ => pg_tup rfl (pgs_cons (pg_name (i := 15) scMR.nd rfl (.inl rfl)) (pgs_cons (pg_name (i := 16) scMR.nd rfl (.inl rfl)) pgs_nil)))
              (fun _ _ _ _ _ => pts_one (pt_cmpR op_eq (pv 16) (pv 13) (nomark _))) (fun _ _ _ _ _ => pv 15)) pa_nil))) pa_nil)))
      (pss_cons (ps_set (i := 9) scMR.nd rfl (.inl rfl) (pe_callTy call_tuple_of (by rfl) B.tuple PyProof.Rows.boot_tuple (pa_cons
          (pe_lc (own := [("_law_tie", 14)]) (g := gName 14) (tt := tYes) rfl scMR.nd (pi_range1 (by rfl) B.range (pa_cons (pe_callB call_len_seq (by rfl) B.len PySem.boot_len (pa_cons (pv 2) pa_nil)) pa_nil)) (blkOk_by (N := nMR) (sc := defScope sLMomentRight) (by decide +kernel)) (fun _ _ _ _ _ => pg_name (i := 14) scMR.nd rfl (.inr rfl)) (fun _ _ _ _ _ => pts_nil)
            (fun _ _ _ _ _ => pe_callB (clen (K := K) rfl) (by rfl) B.len PySem.boot_len (pa_cons (pe_lc (own := [("_law_way", 15), ("_law_end", 16)]) (g := gTup K 2 (gCons (gName 15) (gCons (gName 16) gNil))) rfl scMR.nd (piL (K := K) rfl (pv 7)) (blkOk_by (by rfl))
              (fun _ _ _ _ _ => pg_tup rfl (pgs_cons (pg_name (i := 15) scMR.nd rfl (.inl rfl)) (pgs_cons (pg_name (i := 16) scMR.nd rfl (.inl rfl)) pgs_nil)))
              (fun _ _ _ _ _ => pts_one (pt_cmpR (eqD (K := K) rfl hu) (pe_slice (slAK (K := K) rfl) (pv 15) (po_some (pe_un un_neg pe_int)) po_none) (pe_tup (pa_cons (pv 14) pa_nil)) (nomark _))) (fun _ _ _ _ _ => pv 15)) pa_nil))) pa_nil)))
      (pss_cons (ps_if (PW.pt (pw_or (pt_cmpR (neD (K := K) rfl hu) (pe_tup (pa_cons (pv 8) (pa_cons (pv 9) pa_nil))) (pc DS GS r1 pass0 (pa_cons (pv 3) (pa_cons (pv 6) pa_nil))) (nomark _))
          (pw_or1 (pt_cmpR op_ne (pe_op op_sub (pe_callB (cr_sumT rfl) (by rfl) B.sum (by decide +kernel) (pa_cons (pv 8) pa_nil)) (pe_callB (cr_sumT rfl) (by rfl) B.sum (by decide +kernel) (pa_cons (pv 9) pa_nil))) pe_int (nomark _))))) (pss_one (ps_ret pe_bl)) pss_nil)
      (pss_cons (ps_if (pt_cmpR op_ne (pe_callB (call_repr hgd hu) (by rfl) B.repr (by decide +kernel) (pa_cons (pc DC GC r5 passF (pa_cons (pv 1) (pa_cons (pv 4) (pa_cons (pv 5) pa_nil)))) pa_nil)) (pe_callB (call_repr hgd hu) (by rfl) B.repr (by decide +kernel) (pa_cons (pe_tup (pa_cons (pv 8) (pa_cons (pv 9) pa_nil))) pa_nil)) (nomark _)) (pss_one (ps_ret pe_bl)) pss_nil)
      (pss_cons (ps_if (pt_cmpR (neD (K := K) rfl hu) (pe_callW DC GC r5 (kb_wc DC.F) passF (pk_cons (pe_callTy call_tuple_of (by rfl) B.tuple PyProof.Rows.boot_tuple (pa_cons (pv 5) pa_nil)) (pk_cons (pv 4) (pk_cons (pv 1) pk_nil)))) (pe_tup (pa_cons (pv 8) (pa_cons (pv 9) pa_nil))) (nomark _)) (pss_one (ps_ret pe_bl)) pss_nil)
      (pss_cons (ps_asg (pe_tup (pa_cons (pc DT GT r1 pass0 (pa_cons (pv 0) (pa_cons (pv 3) pa_nil))) (pa_cons (pe_callB call_len_seq (by rfl) B.len PySem.boot_len (pa_cons (pv 7) pa_nil)) pa_nil))) (pg_tup rfl (pgs_cons (pg_name (i := 11) scMR.nd rfl (.inr rfl)) (pgs_cons (pg_name (i := 12) scMR.nd rfl (.inr rfl)) pgs_nil))))
      (pss_cons (ps_set (i := 10) scMR.nd rfl (.inl rfl) (pe_callTy call_tuple_of (by rfl) B.tuple PyProof.Rows.boot_tuple (pa_cons (pe_callB (cr_sortedW hu) (by rfl) B.sorted (by decide +kernel) (pa_cons
          (pe_lc (own := [("_law_way", 15), ("_law_end", 16)]) (g := gTup K 2 (gCons (gName 15) (gCons (gName 16) gNil))) rfl scMR.nd (pi_list (pv 7)) (blkOk_by (N := nMR) (sc := defScope sLMomentRight) (by decide +kernel))
              (fun _ _ _ _ _ => pg_tup rfl (pgs_cons (pg_name (i := 15) scMR.nd rfl (.inl rfl)) (pgs_cons (pg_name (i := 16) scMR.nd rfl (.inl rfl)) pgs_nil)))
              (fun _ _ _ _ _ => pts_one (pt_cmpR op_eq (pv 16) (pv 11) (nomark _))) (fun _ _ _ _ _ => pv 15)) pa_nil)) pa_nil)))
      (pss_cons (ps_if (pt_cmpR op_ne (pe_callB (call_repr hgd hu) (by rfl) B.repr (by decide +kernel) (pa_cons (pe_callN GG r6 (by rfl) DG.g DG.F.kp DG.k1 passF (pa_cons (pv 1) (pa_cons (pv 4) (pa_cons (pv 11) (pa_cons (pv 5) pa_nil)))) (pk_cons (pv 12) pk_nil)) pa_nil)) (pe_callB (call_repr hgd hu) (by rfl) B.repr (by decide +kernel) (pa_cons (pv 10) pa_nil)) (nomark _)) (pss_one (ps_ret pe_bl)) pss_nil)
      (pss_cons (ps_if (pt_cmpR (neD (K := K) rfl hu) (pe_callWD DG.g DG.F.kp GG r6 DG.k5 passF (pk_cons pe_int (pk_cons (pe_callTy call_tuple_of (by rfl) B.tuple PyProof.Rows.boot_tuple (pa_cons (pv 5) pa_nil)) (pk_cons (pv 11) (pk_cons (pv 4) (pk_cons (pv 1) pk_nil)))))) (pv 10) (nomark _)) (pss_one (ps_ret pe_bl)) pss_nil)
      (pss_one (ps_ret (pe_or (pe_cmpR op_eq (pv 12) pe_int (nomark _)) (pe_one (pe_cmpR (eqD (K := K) rfl hu) (pHeard (k := 6) (qn := qMR) (T := T) hd TB hgd hr rfl rfl hmT hun rfl (LamX.lamS_by (by rfl)) rfl (fun _ _ _ _ _ => rfl)
          (fun A outer s H E f c' hr2 => pe_callN GG hr2 (by rfl) DG.g DG.F.kp DG.k1 (pass1 (E := E) (takes_of rfl rfl rfl rfl)) (pa_cons (pv 1) (pa_cons (pv 4) (pa_cons (pv 11) (pa_cons (pv 5) pa_nil)))) (pk_cons (pe_op op_sub (pv 12) pe_int) pk_nil)))
        (pe_tup (pa_cons pe_str (pa_cons (pe_op op_sub (pv 12) pe_int) (pa_cons pe_bl pa_nil)))) (nomark _))))))))))))))), ?_⟩
    have L0 : Lw b T [] H H := Lw.refl hb hT
    have n12 := hW.n12
    have n1 := hW.n1
    have t20 := hW.t20
    refine ⟨_, rfl, _, rfl, _, rfl, tl, ml, n, h, ts, m, rfl, htl, hW, hn, hml, hlt, by omega, by omega, fun r as L H1 s1 fr1 hr1 I1 J => ?_⟩
    refine gn ?_
    dsimp only [List.set]
    obtain ⟨WIx, C⟩ := run_both hW hn m
    have lL : L.length ≤ 450 := Nat.le_trans (J.bound hW hn WIx) ws
    have L1 := L0.same s1
    have nr : r ≠ b := L0.nn fr1
    have lcs := C.ln
    obtain ⟨fH, efH⟩ : ∃ fH : Nat → Nat, fH = fun x => (L.filter fun it => decide (it.2.1 = x)).length := ⟨_, rfl⟩
    obtain ⟨fT, efT⟩ : ∃ fT : Nat → Nat, fT = fun t => (L.filter fun it => isL t it.1).length := ⟨_, rfl⟩
    have bH : ∀ x, fH x ≤ 450 := fun x => by rw [efH]; exact Nat.le_trans (List.length_filter_le _ _) lL
    have bT : ∀ x, fT x ≤ 450 := fun x => by rw [efT]; exact Nat.le_trans (List.length_filter_le _ _) lL
    have eH : (runC 0 n ts (dlt (n + ts.length) h) m).take n = (List.range n).map fun x => ((fH x : Nat) : Int) := take_eq (by rw [lcs]; omega) fun x hx => by
      rw [C.ho x hx, efH, ← (J.house hW WIx x).length_eq, List.length_map]
    have eT : (runC 0 n ts (dlt (n + ts.length) h) m).drop n = (List.range ts.length).map fun x => ((fT x : Nat) : Int) := drop_eq lcs fun t ht => by
      obtain ⟨p, hp⟩ := ex_at ht
      rw [C.ti t p hp, efT]
      show _ = (((L.filter fun it => isL t it.1).length : Nat) : Int)
      rw [J.tie hW WIx hp]
      rfl
    have sH : ((List.range n).map fun x => ((fH x : Nat) : Int)).sum = (L.length : Int) := by
      rw [sum_cast, efH, J.sum_house hW hn]
    have sT : ((List.range ts.length).map fun x => ((fT x : Nat) : Int)).sum = (L.length : Int) - 1 := by
      rw [sum_cast, efT]
      have := J.sum_tie
      omega
    have plT := pl_two (tuple_data n fH bH (by decide)) (tuple_data ts.length fT bT (by decide)) (by rw [List.length_map, List.length_range]; omega) (by rw [List.length_map, List.length_range]; omega)
    have way_lt : ∀ it ∈ L, ∀ x ∈ it.1, x < 1000 := fun it hi x hx => by have := hlt x ((J.in_ hi).2.subset hx); omega
    -- by house
    refine ⟨_, rfl, (n : Int), rfl, by omega, by omega, fun D0 hD0 => lc_range (fun i H' => Same H1 H' ∧ H' D0 = some (.lst (vrow ((List.range i).map fun x => ((fH x : Nat) : Int))))) ⟨same_new hD0, by rw [upd_same]; rfl⟩ ?_ ?_⟩
    · rintro i H2 hi ⟨s2, hD⟩
      refine ⟨rfl, _, rfl, r, rfl, ⟨_, SqL.of (s2 _ _ hr1)⟩, fun D1 hD1 => lc_list (K := K) (a := r) (xs := as.map V.ref) (fun j H' => ∃ bs : List Addr, Same H2 H' ∧ H' D1 = some (.lst (bs.map V.ref)) ∧ TupsAt H' bs (((L.take j).filter fun it => decide (it.2.1 = i)).map (·.1))) ⟨[], same_new hD1, by rw [upd_same]; rfl, tups0⟩ (fun j H' _ ⟨_, s', _⟩ => SqL.of (s' _ _ (s2 _ _ hr1))) ?_ ?_⟩
      · rintro j x H3 hx ⟨bs, s3, hE, T3⟩
        obtain ⟨a, ha, rfl⟩ := at_map hx
        obtain ⟨it, hit⟩ := ex_at (l := L) (i := j) (by rw [← I1.1]; exact lt_at ha)
        obtain ⟨v, hav, hv⟩ := I1.2 j a it ha hit
        refine ⟨a, _, rfl, SqT.of (s3 _ _ (s2 _ _ hav)), rfl, _, _, rfl, _, _, rfl, rfl, rfl, ?_⟩
        refine ⟨_, rfl, _, rfl, rfl, _, rfl, ifD (fun c => ?_) fun c => ?_⟩
        · have z : V.int (it.2.1 : Int) = V.int (0 + (i : Int)) := of_decide_eq_true c
          injection z with z
          rw [fl_take hit, if_pos (decide_eq_true (by omega)), List.map_append]
          exact ⟨_, rfl, keep_way hD1 s3 hE T3 (s3 _ _ (s2 _ _ hv)) (Nat.le_trans (fl_len lL) (by decide))⟩
        · have z : ¬ (V.int (it.2.1 : Int) = V.int (0 + (i : Int))) := of_decide_eq_false c
          rw [fl_take hit, if_neg (by rw [decide_eq_true_eq]; exact fun y => z (by rw [y, Int.zero_add]))]
          exact ⟨bs, s3, hE, T3⟩
      · rintro H3 ⟨bs, s3, hE, T3⟩
        rw [List.take_of_length_le (by rw [List.length_map, I1.1]; exact Nat.le_refl _)] at T3
        have eb : (bs.map V.ref).length = fH i := by rw [List.length_map, T3.1, List.length_map, efH]
        refine ⟨D1, _, rfl, .inl (SqL.of hE), _, s3 _ _ hD, szl (by rw [vrow_len, List.length_map, List.length_range]; omega), fun c o e => ?_, ?_⟩
        · rw [upd_ne (ne_of_none e hD0)]
          exact s3 _ _ (s2 _ _ e)
        · rw [upd_same, eb, List.range_succ, List.map_append, vrow, vrow, List.map_append]; rfl
    rintro H2 ⟨s2, hD⟩
    rw [Int.toNat_natCast] at hD
    refine ⟨D0, _, rfl, .inl ⟨SqL.of hD, fun bh hbh => ?_⟩⟩
    obtain ⟨s3, k3⟩ := newO (o := HO.tup (vrow ((List.range n).map fun x => ((fH x : Nat) : Int)))) hbh
    generalize upd H2 bh (.tup (vrow ((List.range n).map fun x => ((fH x : Nat) : Int)))) = H3 at s3 k3 ⊢
    refine gn ?_
    dsimp only [List.set]
    have s13 := s2.trans s3
    clear hD s2 s3 hbh hD0
    -- by tie
    obtain ⟨tas, htl0, hA⟩ := id htl
    have el : (tas.map V.ref).length = ts.length := by rw [List.length_map, hA.1]
    refine ⟨_, rfl, tl, _, rfl, .inl (SqL.of (s13 _ _ (s1 _ _ htl0))), _, rfl, by omega, by omega, fun D2 hD2 => lc_range (fun i H' => Same H3 H' ∧ H' D2 = some (.lst (vrow ((List.range i).map fun x => ((fT x : Nat) : Int))))) ⟨same_new hD2, by rw [upd_same]; rfl⟩ ?_ ?_⟩
    · rintro i H4 hi ⟨s4, hD⟩
      rw [Int.zero_add]
      refine ⟨rfl, _, rfl, r, rfl, ⟨_, SqL.of (s4 _ _ (s13 _ _ hr1))⟩, fun D1 hD1 => lc_list (K := K) (a := r) (xs := as.map V.ref) (fun j H' => ∃ bs : List Addr, Same H4 H' ∧ H' D1 = some (.lst (bs.map V.ref)) ∧ TupsAt H' bs (((L.take j).filter fun it => isL i it.1).map (·.1))) ⟨[], same_new hD1, by rw [upd_same]; rfl, tups0⟩ (fun j H' _ ⟨_, s', _⟩ => SqL.of (s' _ _ (s4 _ _ (s13 _ _ hr1)))) ?_ ?_⟩
      · rintro j x H5 hx ⟨bs, s5, hE, T5⟩
        obtain ⟨a, ha, rfl⟩ := at_map hx
        obtain ⟨it, hit⟩ := ex_at (l := L) (i := j) (by rw [← I1.1]; exact lt_at ha)
        obtain ⟨v, hav, hv⟩ := I1.2 j a it ha hit
        have hav5 := s5 _ _ (s4 _ _ (s13 _ _ hav))
        have hv5 := s5 _ _ (s4 _ _ (s13 _ _ hv))
        refine ⟨a, _, rfl, SqT.of hav5, rfl, _, _, rfl, _, _, rfl, rfl, rfl, ?_⟩
        refine ⟨_, rfl, _, rfl, _, rfl, noP (sl_last hv5 fun a2 Hb sb ha2 => ?_)⟩
        refine ⟨_, rfl, (by show 1 ≤ sizeLine; decide), fun q' hq' => ?_⟩
        obtain ⟨sq, hq1⟩ := newO (o := HO.tup [.int (i : Int)]) hq'
        generalize upd Hb q' (.tup [.int (i : Int)]) = Hc at sq hq1 ⊢
        have s5c := sb.trans sq
        refine eq_last (sq _ _ ha2) (show Hc q' = some (.tup (vn [i])) from hq1) (way_lt it (List.mem_of_getElem? hit)) (by omega) ⟨_, rfl, ?_⟩
        have T5c := T5.kp fun c xs e => s5c _ _ e
        rw [fl_take hit]
        cases cn : isL i it.1 with
        | true =>
          refine iteT ?_
          rw [if_pos rfl, List.map_append]
          exact ⟨_, rfl, keep_way hD1 (s5.trans s5c) (s5c _ _ hE) T5c (s5c _ _ hv5) (Nat.le_trans (fl_len lL) (by decide))⟩
        | false =>
          refine iteF ?_
          rw [if_neg (by decide)]
          exact ⟨bs, s5.trans s5c, s5c _ _ hE, T5c⟩
      · rintro H5 ⟨bs, s5, hE, T5⟩
        rw [List.take_of_length_le (by rw [List.length_map, I1.1]; exact Nat.le_refl _)] at T5
        have eb : (bs.map V.ref).length = fT i := by rw [List.length_map, T5.1, List.length_map, efT]
        refine ⟨D1, _, rfl, .inl (SqL.of hE), _, s5 _ _ hD, szl (by rw [vrow_len, List.length_map, List.length_range]; omega), fun c o e => ?_, ?_⟩
        · rw [upd_ne (ne_of_none e hD2)]
          exact s5 _ _ (s4 _ _ e)
        · rw [upd_same, eb, List.range_succ, List.map_append, vrow, vrow, List.map_append]; rfl
    rintro H4 ⟨s4, hD⟩
    have hD' : H4 D2 = some (.lst (vrow ((List.range ts.length).map fun x => ((fT x : Nat) : Int)))) := by
      rw [el, Int.toNat_natCast] at hD
      exact hD
    refine ⟨D2, _, rfl, .inl ⟨SqL.of hD', fun bt hbt => ?_⟩⟩
    obtain ⟨s5, k5⟩ := newO (o := HO.tup (vrow ((List.range ts.length).map fun x => ((fT x : Nat) : Int)))) hbt
    generalize upd H4 bt (.tup (vrow ((List.range ts.length).map fun x => ((fT x : Nat) : Int)))) = H5 at s5 k5 ⊢
    refine gn ?_
    dsimp only [List.set]
    have k3' := s5 _ _ (s4 _ _ k3)
    have s15 := (s13.trans s4).trans s5
    clear hD hD' s4 s5 s13 k3 hbt hD2
    -- they are the counts
    refine ⟨_, rfl, _, rfl, (by show 2 ≤ sizeLine; decide), fun p1 hp1 => ?_⟩
    obtain ⟨s6, k6⟩ := newO (o := HO.tup [V.ref bh, .ref bt]) hp1
    generalize upd H5 p1 (.tup [V.ref bh, .ref bt]) = H6 at s6 k6 ⊢
    have s16 := s15.trans s6
    refine ⟨_, rfl, _, rfl, cl, n, _, rfl, s16 _ _ (s1 _ _ hcl), by rw [lcs]; omega, fun r2 a2 b2 H7 s7 hr2 ha2 hb2 => ?_⟩
    rw [eH] at ha2
    rw [eT] at hb2
    refine neDP (dp_two (s7 _ _ k6) (s7 _ _ (s6 _ _ k3')) (s7 _ _ (s6 _ _ k5))) (dp_two hr2 ha2 hb2) plT (by decide) ⟨_, rfl, iteF ?_⟩
    have s57 := s6.trans s7
    refine ⟨_, rfl, bh, _, rfl, SqT.of (s57 _ _ k3'), _, rfl, bt, _, rfl, SqT.of (s57 _ _ k5), _, _, rfl, rfl, ?_⟩
    rw [sH, sT]
    dsimp only
    rw [show (L.length : Int) - ((L.length : Int) - 1) = 1 by omega]
    refine cP (neV rfl ⟨_, rfl, iteF (nxP ?_)⟩)
    -- the program's counts
    have s17 := s15.trans s57
    have L7 := L1.same s17
    refine ⟨_, rfl, _, rfl, _, rfl, w, .int (h : Int), .ref ml, none, some (vn m), n, ts, rfl, L7.webK hb hw, hW, .int _, rw_vnL (L7.lstK hml nml), .inr ⟨h, rfl, hn, .inr ⟨m, rfl, by omega, hlt, fun r3 a3 b3 H8 s8 hr3 ha3 hb3 => ?_⟩⟩⟩
    rw [eH] at ha3
    rw [eT] at hb3
    refine nilP (reprP (dp_two hr3 ha3 hb3) plT (by decide) (by decide) ?_)
    refine ⟨_, rfl, _, rfl, (by show 2 ≤ sizeLine; decide), fun p2 hp2 => ?_⟩
    obtain ⟨s9, k9⟩ := newO (o := HO.tup [V.ref bh, .ref bt]) hp2
    generalize upd H8 p2 (.tup [V.ref bh, .ref bt]) = H9 at s9 k9 ⊢
    have s59 := (s57.trans s8).trans s9
    refine nilP (reprP (dp_two k9 (s59 _ _ k3') (s59 _ _ k5)) plT (by decide) (by decide) ?_)
    refine neV rfl ⟨_, rfl, iteF (nxP ?_)⟩
    have L9 := (L7.same s8).same s9
    -- .. by names
    refine ⟨_, rfl, ml, _, rfl, .inl ⟨SqL.of (L9.lstK hml nml), fun mt hmt => ?_⟩⟩
    obtain ⟨sA, kA⟩ := newO (o := HO.tup (vn m)) hmt
    generalize upd H9 mt (.tup (vn m)) = HA at sA kA ⊢
    have LA := L9.same sA
    refine ⟨_, rfl, _, rfl, rfl, w, .int (h : Int), .ref mt, none, some (vn m), n, ts, rfl, LA.webK hb hw, hW, .int _, rw_vnT kA, .inr ⟨h, rfl, hn, .inr ⟨m, rfl, by omega, hlt, fun r4 a4 b4 HB sB hr4 ha4 hb4 => ?_⟩⟩⟩
    rw [eH] at ha4
    rw [eT] at hb4
    refine ⟨_, rfl, _, rfl, (by show 2 ≤ sizeLine; decide), fun p3 hp3 => ?_⟩
    obtain ⟨sC, kC⟩ := newO (o := HO.tup [V.ref bh, .ref bt]) hp3
    generalize upd HB p3 (.tup [V.ref bh, .ref bt]) = HC at sC kC ⊢
    have s5C := ((s59.trans sA).trans sB).trans sC
    refine neDP (dp_two (sC _ _ hr4) (sC _ _ ha4) (sC _ _ hb4)) (dp_two kC (s5C _ _ k3') (s5C _ _ k5)) plT (by decide) ⟨_, rfl, iteF (nxP ?_)⟩
    have LC := (LA.same sB).same sC
    have s1C := s15.trans s5C
    have hrC := s1C _ _ hr1
    have IC := I1.kp fun c xs e => s1C _ _ e
    have webC := LC.webK hb hw
    have mlC := LC.lstK hml nml
    clear hr1 I1 k3' k5 s1C s5C s59 s57 s17 s16 hr2 ha2 hb2 hr3 ha3 hb3 hr4 ha4 hb4
    have NC : Lw b T [] HC HC := Lw.refl LC.bx LC.tb
    have ew : wsum n (wrun ts h m) = L.length := by
      rw [← J.sum_house hW hn]
      unfold wsum
      congr 1
      refine List.map_congr_left fun x _ => ?_
      rw [← (J.house hW WIx x).length_eq, List.length_map]
    have eas : ((as.map V.ref).length : Int) = (L.length : Int) := by rw [List.length_map, IC.1]
    -- a house
    refine ⟨_, rfl, _, rfl, b, n, rfl, LC.bx, by omega, by omega, fun x HD x0 x1 bxD => ?_⟩
    obtain ⟨y, rfl⟩ : ∃ y : Nat, x = (y : Int) := ⟨x.toNat, by omega⟩
    have hy : y < n := by omega
    have ND := NC.box bxD
    refine ⟨_, rfl, r, _, rfl, .inl (SqL.of (ND.lstK hrC nr)), (by show 2 ≤ sizeLine; decide), fun pt hpt => ?_⟩
    rw [eas]
    obtain ⟨sE, kE⟩ := newO (o := HO.tup [V.int (y : Int), .int (L.length : Int)]) hpt
    generalize upd HD pt (.tup [V.int (y : Int), .int (L.length : Int)]) = HE at sE kE ⊢
    refine ⟨pt, _, rfl, SqT.of kE, rfl, _, _, rfl, _, _, rfl, rfl, ?_⟩
    dsimp only [List.set]
    have NE := ND.same sE
    have hrE := NE.lstK hrC nr
    have IE := IC.kp fun c xs e => NE.tupK LC.bx e
    -- the ways to it
    refine ⟨_, rfl, r, rfl, ⟨_, SqL.of hrE⟩, fun D3 hD3 => lc_list (K := K) (a := r) (xs := as.map V.ref) (fun j H' => ∃ bs : List Addr, Same HE H' ∧ H' D3 = some (.lst (bs.map V.ref)) ∧ TupsAt H' bs (((L.take j).filter fun it => decide (it.2.1 = y)).map (·.1))) ⟨[], same_new hD3, by rw [upd_same]; rfl, tups0⟩ (fun j H' _ ⟨_, s', _⟩ => SqL.of (s' _ _ hrE)) ?_ ?_⟩
    · rintro j x HF hx ⟨bs, sF, hF, TF⟩
      obtain ⟨a, ha, rfl⟩ := at_map hx
      obtain ⟨it, hit⟩ := ex_at (l := L) (i := j) (by rw [← IE.1]; exact lt_at ha)
      obtain ⟨v, hav, hv⟩ := IE.2 j a it ha hit
      refine ⟨a, _, rfl, SqT.of (sF _ _ hav), rfl, _, _, rfl, _, _, rfl, rfl, rfl, ?_⟩
      refine ⟨_, rfl, _, rfl, rfl, _, rfl, ifD (fun c => ?_) fun c => ?_⟩
      · have z : V.int (it.2.1 : Int) = V.int (y : Int) := of_decide_eq_true c
        injection z with z
        rw [fl_take hit, if_pos (decide_eq_true (by omega)), List.map_append]
        exact ⟨_, rfl, keep_way hD3 sF hF TF (sF _ _ hv) (Nat.le_trans (fl_len lL) (by decide))⟩
      · have z : ¬ (V.int (it.2.1 : Int) = V.int (y : Int)) := of_decide_eq_false c
        rw [fl_take hit, if_neg (by rw [decide_eq_true_eq]; exact fun w => z (by rw [w]))]
        exact ⟨bs, sF, hF, TF⟩
    rintro HF ⟨bs, sF, hF, TF⟩
    rw [List.take_of_length_le (by rw [List.length_map, IE.1]; exact Nat.le_refl _)] at TF
    have house := J.house hW WIx y
    have heads : (∀ w ∈ (L.filter fun it => decide (it.2.1 = y)).map (·.1), w ≠ []) ∨ ((L.filter fun it => decide (it.2.1 = y)).map (·.1))[0]? = some [] := by
      by_cases c : h = y
      · refine .inr ?_
        rw [J.eq, List.filter_cons_of_pos (p := fun it : It => decide (it.2.1 = y)) (decide_eq_true c)]
        rfl
      · refine .inl fun w hw z => c ?_
        subst z
        have := ((WIx.mem [] y).mp (house.mem_iff.mp hw)).1
        rcases this.inv with ⟨_, e⟩ | ⟨v, _, _, _, e, _⟩
        · exact e.symm
        · exact absurd e.symm (by simp)
    refine ⟨D3, bs, _, rfl, SqL.of hF, TF, heads, fun bs2 us d pm so tb hd2 => ?_⟩
    obtain ⟨sG, kG⟩ := newO (o := HO.lst (bs2.map V.ref)) hd2
    generalize upd HF d (.lst (bs2.map V.ref)) = HG at sG kG ⊢
    refine ⟨d, _, rfl, .inl ⟨SqL.of kG, fun du hdu => ?_⟩⟩
    obtain ⟨sI, kI⟩ := newO (o := HO.tup (bs2.map V.ref)) hdu
    generalize upd HG du (.tup (bs2.map V.ref)) = HI at sI kI ⊢
    refine gn ?_
    dsimp only [List.set]
    have tbI := tb.kp fun c xs e => sI _ _ (sG _ _ e)
    have NI := ((NE.same sF).same sG).same sI
    have pmY := pm.trans house
    have plD : Pl (.tuple (wsD us)) 2 700000 := by
      have lu : us.length ≤ 450 := by
        rw [pmY.length_eq]
        have := ways_le (ts := ts) hn m y hy
        omega
      refine (Pl.tuple (pla_ways us fun w hw => ?_)).mono (by decide) (by omega)
      obtain ⟨_, sb⟩ := (WIx.mem w y).mp (pmY.mem_iff.mp hw)
      exact ⟨by have := sb.length_le; omega, fun x hx => by have := hlt x (sb.subset hx); omega⟩
    -- the program's ways
    refine ⟨_, rfl, _, rfl, _, rfl, _, rfl, nilP ⟨_, rfl, nilP ⟨rfl, rfl, w, .int (h : Int), .int (y : Int), .ref ml, none, none, some (vn m), n, ts, (L.length : Int), rfl, NI.webK LC.bx webC, hW, .int _, .int _, rw_vnL (NI.lstK mlC nml), .inr ⟨h, rfl, hn, .inr ⟨y, rfl, hy, .inr ⟨m, rfl, by omega, hlt, .inr ⟨by omega, by omega, fun us2 bs3 r3 HJ pm3 so3 sJ hr3 tb3 => ?_⟩⟩⟩⟩⟩⟩⟩
    obtain rfl : us2 = us := wsrt_uniq (pm3.trans pmY.symm) so3 so
    refine nilP (reprP2 (.tup (SqT.of hr3) (dp_ways tb3)) plD (by decide) (by decide) ?_)
    refine ⟨_, rfl, nilP ?_⟩
    refine reprP2 (.tup (SqT.of (sJ _ _ kI)) (dp_ways (tbI.kp fun c xs e => sJ _ _ e))) plD (by decide) (by decide) ?_
    refine neV rfl ⟨_, rfl, iteF (nxP ?_)⟩
    have NJ := NI.same sJ
    -- .. by names
    refine ⟨_, rfl, ml, _, rfl, .inl ⟨SqL.of (NJ.lstK mlC nml), fun mt2 hmt2 => ?_⟩⟩
    obtain ⟨sK, kK⟩ := newO (o := HO.tup (vn m)) hmt2
    generalize upd HJ mt2 (.tup (vn m)) = HK at sK kK ⊢
    have NK := NJ.same sK
    refine ⟨_, rfl, _, rfl, _, rfl, rfl, w, .int (h : Int), .int (y : Int), .ref mt2, none, none, some (vn m), n, ts, 4000, rfl, NK.webK LC.bx webC, hW, .int _, .int _, rw_vnT kK, .inr ⟨h, rfl, hn, .inr ⟨y, rfl, hy, .inr ⟨m, rfl, by omega, hlt, .inr ⟨by omega, by omega, fun us3 bs4 r4 HL pm4 so4 sL hr4 tb4 => ?_⟩⟩⟩⟩⟩
    obtain rfl : us3 = us2 := wsrt_uniq (pm4.trans pmY.symm) so4 so
    have sJL := (sJ.trans sK).trans sL
    refine ⟨_, rfl, neDP (.tup (SqT.of hr4) (dp_ways tb4)) (.tup (SqT.of (sJL _ _ kI)) (dp_ways (tbI.kp fun c xs e => sJL _ _ e))) plD (by decide) ⟨_, rfl, iteF (nxP ?_)⟩⟩
    have NL := NK.same sL
    have fin : ∀ H', Lw b T [] HC H' → Q (.bl true) H' := fun H' n' => q H' (LC.trans n')
    refine ⟨_, rfl, rfl, _, rfl, ifD (fun c => fin _ NL) fun c => ?_⟩
    refine ⟨NL.tb, fun G1 eN1 tb1 => ?_⟩
    have La1 := NL.ext eN1 tb1
    refine ⟨_, rfl, _, rfl, _, rfl, _, rfl, nilP ⟨_, rfl, _, _, rfl, rfl, nilP ⟨rfl, rfl, w, .int (h : Int), .int (y : Int), .ref ml, none, none, some (vn m), n, ts, (L.length : Int) - 1, rfl, La1.webK LC.bx webC, hW, .int _, .int _, rw_vnL (La1.lstK mlC nml), .inr ⟨h, rfl, hn, .inr ⟨y, rfl, hy, .inr ⟨m, rfl, by omega, hlt, .inl ⟨by omega, heG fun p4 E4 z4 hp4 => ?_⟩⟩⟩⟩⟩⟩⟩
    refine ⟨_, rfl, _, _, rfl, rfl, (by show 3 ≤ sizeLine; decide), fun q4 hq4 => earIE (i := (L.length : Int) - 1) st_g ((same_new hq4) _ _ hp4) upd_same (fin _ ((La1.same z4).new hq4))⟩
end
end K1
namespace K1
open PySem PySem.Spec PyProof.Rows L2
/-! ### what is none is refused -/
theorem kb_cm {K : PySem.W.Frag} {f : Addr} {fd : FuncData} (F : Fun K "check_meetings" "check_meetings" sCheckMeetings f fd) : KBn K fd ["web", "value"] 0 ["value", "web"] gM gMV := by
  obtain ⟨oc, od, kV, doc, pm, an, cdv, ct, osl, rfl, lk, hcd⟩ := F.ex
  refine ⟨fun s us ws _ h0 h1 => .of_eq ?_, fun r q => r.append q.reverse⟩
  match us, ws, h0, h1 with
  | [], [_, _], _, _ => rfl
def oddB (n : Int) : List V := [.int n, .int (0 - 1), .bl true, .non]
theorem oddB_b {n : Int} {v : V} (h0 : 0 ≤ n) (h : v ∈ oddB n) : belowB v n = false := by
  simp only [oddB, List.mem_cons, List.mem_nil_iff, or_false] at h
  rcases h with rfl | rfl | rfl | rfl
  · show (decide (0 ≤ n) && decide (n < n)) = false
    rw [decide_eq_false (Int.lt_irrefl _), Bool.and_false]
  · show (decide ((0 : Int) ≤ 0 - 1) && decide ((0 : Int) - 1 < n)) = false; rw [decide_eq_false (by decide)]; rfl
  · rfl
  · rfl
theorem oddB_k {K : PySem.W.Frag} {H : Hp} {n : Int} {v : V} (h : v ∈ oddB n) : KV K H v none := by
  simp only [oddB, List.mem_cons, List.mem_nil_iff, or_false] at h
  rcases h with rfl | rfl | rfl | rfl
  · exact .int _
  · exact .int _
  · exact .bl _
  · exact .non
/-- a row with what is no tie, and None -/
theorem bad_rw {K : PySem.W.Frag} {H : Hp} {n : Int} {v : V} {a : Addr} {tu : List Nat} (h : v ∈ oddB n) (ha : H a = some (.lst (vn tu ++ [v, .non]))) : Rw K H (.ref a) (some (vn tu ++ [v, .non])) := ⟨.lst ha, fun ys e => by
  obtain rfl := Option.some.inj e
  intro x hx
  rcases List.mem_append.mp hx with z | z
  · exact kinds_vn tu x z
  · rcases List.mem_cons.mp z with z | z
    · rw [z]; exact ⟨none, oddB_k h⟩
    · rw [List.mem_singleton.mp z]; exact ⟨none, .non⟩⟩
theorem bad_m {n : Nat} {v : V} {tu : List Nat} (h : v ∈ oddB (n : Int)) (lt : tu.length ≤ 100) (hlt : ∀ t ∈ tu, t < n) : seqB (some (vn tu ++ [v, .non])) 0 10000 = true ∧ fnb (vn tu ++ [v, .non]) (n : Int) = .int (tu.length : Nat) := by
  have l : (vn tu ++ [v, V.non]).length = tu.length + 2 := by rw [List.length_append, vn_len]; rfl
  refine ⟨?_, fnb_at (x := v) (by rw [List.getElem?_append_right (by rw [vn_len]; exact Nat.le_refl _), vn_len, Nat.sub_self]; rfl) (oddB_b (by omega) h) fun j y hj e => ?_⟩
  · show (decide ((0 : Int) ≤ ((vn tu ++ [v, V.non]).length : Int)) && decide (((vn tu ++ [v, V.non]).length : Int) ≤ 10000)) = true
    rw [l, decide_eq_true (by omega), decide_eq_true (by omega)]; rfl
  · rw [List.getElem?_append_left (by rw [vn_len]; exact hj)] at e
    obtain ⟨t, ht, rfl⟩ := at_vn e
    have := hlt t (List.mem_of_getElem? ht)
    show (decide ((0 : Int) ≤ (t : Int)) && decide ((t : Int) < (n : Int))) = true
    rw [decide_eq_true (by omega), decide_eq_true (by omega)]; rfl
theorem ear0 {K : PySem.W.Frag} {Q : VK} {p p2 : Addr} {H : Hp} (h1 : H p = some (.lst [])) (h2 : H p2 = some (.lst [])) (q : Q (.bl false) H) : rNeD K (.ref p) (.ref p2) H Q :=
  ⟨.list [], .list [], .lst (SqL.of h1) .nil, .lst (SqL.of h2) .nil, by decide +kernel, by decide +kernel, qbl (by decide +kernel) q⟩
theorem pHeardK {X : Cx} {K : PySem.W.Frag} {c P CH CB CR CG : Addr} {k : Nat} {qn : Str} {T : List (Addr × Str)} {params : Arguments} {body : Expr} {scope : Scope} {t : XK → TE} {p lpos pos : Pos} (eK : X.K = K) (hd : Hd X.K X.mg X.base CH CB CR CG) (TB : LamX.TabB X.base X.mg c P) (hgd : X.A.guards = some []) (hr : Room (k + 2) X.A) (hcode : X.env.code = .ref c)
    (hq : X.env.qual ++ "<lambda>" = qn) (hm : (P, qn) ∈ T) (hun : ∀ p ∈ T, p.1 = P → p.2 = qn) (hg : Gl X "_law_heard") (L : LamX.LamS X.env.scope scope) (hdef : defaultsOf params X.env = ([], []))
    (hbind : ∀ (q : Str) (cl : List (Str × Addr)) (pm cv ctv : Value), bindArgs (PySem.W.kla_fn "<lambda>" q params body scope cl pm cv ctv) ⟨[], []⟩ = pure [])
    (hbody : ∀ (A : Around) (outer : List Env) (s : Shared) (H : Hp) (E : XK) (f c' : Addr), Room k (A.deeper (LamX.lamEnv X scope s.heap.objs.size f c')) → PE (LamX.lamCx X A outer s H E scope f c') body (t E)) :
    PE X (.Call (.Name "_law_heard" p) [.Lambda params body scope lpos] [] pos) (LamX.tLam T (TTh K CH CB CR CG) t) := by
  subst eK
  exact pHeard hd TB hgd hr hcode hq hm hun hg L hdef hbind hbody
abbrev qNR : Str := "_law_none_right.<locals>.<lambda>"
abbrev psNR : List Str := ["_law_box_here", "_law_web", "_law_ties_here", "_law_houses"]
def spNR (W : Addr) (T : List (Addr × Str)) : Sp := fun vs H Q _ => ∃ (b w tl : Addr) (n : Nat) (ts : Prs), vs = [.ref b, .ref w, .ref tl, .int (n : Int)] ∧ BoxO H b ∧ LamX.Tabs T H ∧ WebAt W H w n ts ∧ Wv n ts ∧ TiesL H tl ts ∧ tl ≠ b ∧ ∀ H', Lw b T [] H H' → Q (.bl true) H'
section
variable {P : Program} {w : World} {K : PySem.W.Frag} {mg : Str → Option Value} {base : Heap}
abbrev nNR : List Str := ["_law_box_here", "_law_web", "_law_ties_here", "_law_houses", "_law_row", "_law_bad", "_law_odd", "_law_turn", "_law_value"]
theorem scNR : FnScope nNR psNR (defScope sLNoneRight) := ⟨rfl, rfl, rfl, by decide +kernel, rfl, by decide +kernel, by decide +kernel⟩
theorem ok_nr {f fP fT fC fK fG W CH CB CR CG c_ Pt : Addr} {fd fdP fdT fdC fdK fdG : FuncData} {T : List (Addr × Str)} (F : FunC K "_law_none_right" "_law_none_right" sLNoneRight f fd (.ref c_)) (TB : LamX.TabB base mg c_ Pt) (hmT : (Pt, qNR) ∈ T) (hun : ∀ p ∈ T, p.1 = Pt → p.2 = qNR) (B : Bt mg) (hd : Hd K mg base CH CB CR CG)
    (DP : Df K mg "_law_pick" sLPick ["_law_box_here", "_law_some"] fP fdP) (GP : FnOk P w K mg base CX0 2 fP fdP ["_law_box_here", "_law_some"] spPick)
    (DT : Df K mg "_law_take" sLTake ["_law_box_here", "_law_many"] fT fdT) (GT : FnOk P w K mg base CX0 1 fT fdT ["_law_box_here", "_law_many"] spTake)
    (DC : Df K mg "way_counts" sWayCounts ["web", "house", "meetings"] fC fdC) (GC : FnOk P w K mg base (L2.CX P w) 5 fC fdC ["web", "house", "meetings"] (spWC K W CH CB))
    (DK : Df K mg "check_meetings" sCheckMeetings ["web", "value"] fK fdK) (GK : FnOk P w K mg base (L2.CX P w) 4 fK fdK ["web", "value"] (spCM K W CB))
    (DG : DfG K mg fG fdG) (GG : FnOk P w K mg base (L2.CX P w) 6 fG fdG psG (spGW K W CH CB CG)) : FnG P w K mg base 9 f fd psNR (spNR W T) := by
  refine F.okG scNR (fun vs H Q E h => ?_) (fun A outer s H vs Q E hr hgd h => ?_)
  · obtain ⟨b, w, tl, n, ts, rfl, _⟩ := h
    rfl
  · obtain ⟨b, w, tl, n, ts, rfl, hb, hT, hw, hW, htl, ntl, q⟩ := h
    have hu : (A.deeper (envOfC "_law_none_right" (defScope sLNoneRight) s.heap.objs.size f (.ref c_))).units + 64 < cLine := hr.units
    have r1 := hr.mono (show 1 ≤ 8 by decide)
    have r2 := hr.mono (show 2 ≤ 8 by decide)
    have r4 := hr.mono (show 4 ≤ 8 by decide)
    refine ⟨_, pss_cons (ps_set (i := 6) scNR.nd rfl (.inr rfl) (pc DP GP r2 pass0 (pa_cons (pv 0) (pa_cons (pe_lst (pa_cons (pv 3) (pa_cons (pe_op op_sub pe_int pe_int) (pa_cons pe_bl (pa_cons pe_non (pa_cons pe_str pa_nil)))))) pa_nil))))
      (pss_cons (ps_set (i := 4) scNR.nd rfl (.inl rfl) (pe_ifExp (pt_cmpR (neD (K := K) rfl hu) (pv 2) (pe_lst pa_nil) (nomark _))
            (pe_lc (own := [("_law_turn", 7)]) (g := gName 7) (tt := tYes) rfl scNR.nd (pi_range1 (by rfl) B.range (pa_cons (pc DT GT r1 pass0 (pa_cons (pv 0) (pa_cons pe_int pa_nil))) pa_nil)) (blkOk_by (N := nNR) (sc := defScope sLNoneRight) (by decide +kernel)) (fun _ _ _ _ _ => pg_name (i := 7) scNR.nd rfl (.inl rfl)) (fun _ _ _ _ _ => pts_nil)
              (fun _ _ _ _ _ => pc DT GT r1 pass0 (pa_cons (pv 0) (pa_cons (pe_callB (clen (K := K) rfl) (by rfl) B.len PySem.boot_len (pa_cons (pv 2) pa_nil)) pa_nil)))) (pe_lst pa_nil)))
      (pss_cons (ps_set (i := 5) scNR.nd rfl (.inr rfl) (pe_op op_cat (pv 4) (pe_lst (pa_cons (pc DP GP r2 pass0 (pa_cons (pv 0) (pa_cons (pe_lst (pa_cons (pe_callB call_len_seq (by rfl) B.len PySem.boot_len (pa_cons (pv 2) pa_nil)) (pa_cons (pe_op op_sub pe_int pe_int) (pa_cons pe_bl (pa_cons pe_non pa_nil))))) pa_nil))) (pa_cons pe_non pa_nil)))))
      (pss_cons (ps_if (pt_cmpR (neD (K := K) rfl hu) (pHeard (k := 6) (qn := qNR) (T := T) hd TB hgd hr rfl rfl hmT hun rfl (LamX.lamS_by (by rfl)) rfl (fun _ _ _ _ _ => rfl)
          (fun A outer s H E f c' hr2 => pc DC GC (hr2.mono (show 5 ≤ 6 by decide)) (pass1 (E := E) (takes_of rfl rfl rfl rfl)) (pa_cons (pv 1) (pa_cons (pv 6) (pa_cons pe_non pa_nil)))))
        (pe_tup (pa_cons pe_str (pa_cons (pe_callB (call_or2 call_reprS (call_repr hgd hu)) (by rfl) B.repr (by decide +kernel) (pa_cons (pv 6) pa_nil)) pa_nil))) (nomark _)) (pss_one (ps_ret pe_bl)) pss_nil)
      (pss_cons (ps_if (pt_cmpR (neD (K := K) rfl hu) (pHeard (k := 6) (qn := qNR) (T := T) hd TB hgd hr rfl rfl hmT hun rfl (LamX.lamS_by (by rfl)) rfl (fun _ _ _ _ _ => rfl)
          (fun A outer s H E f c' hr2 => pe_callN GG hr2 (by rfl) DG.g DG.F.kp DG.k1 (pass1 (E := E) (takes_of rfl rfl rfl rfl)) (pa_cons (pv 1) (pa_cons (pv 6) (pa_cons pe_non (pa_cons pe_non pa_nil)))) (pk_cons pe_int pk_nil)))
        (pe_tup (pa_cons pe_str (pa_cons (pe_callB (call_or2 call_reprS (call_repr hgd hu)) (by rfl) B.repr (by decide +kernel) (pa_cons (pv 6) pa_nil)) pa_nil))) (nomark _)) (pss_one (ps_ret pe_bl)) pss_nil)
      (pss_cons (ps_if (pt_cmpR (neD (K := K) rfl hu) (pHeard (k := 6) (qn := qNR) (T := T) hd TB hgd hr rfl rfl hmT hun rfl (LamX.lamS_by (by rfl)) rfl (fun _ _ _ _ _ => rfl)
          (fun A outer s H E f c' hr2 => pe_callN GG hr2 (by rfl) DG.g DG.F.kp DG.k1 (pass1 (E := E) (takes_of rfl rfl rfl rfl)) (pa_cons (pv 1) (pa_cons pe_int (pa_cons (pv 6) (pa_cons pe_non pa_nil)))) (pk_cons pe_int pk_nil)))
        (pe_tup (pa_cons pe_str (pa_cons (pe_callB (call_or2 call_reprS (call_repr hgd hu)) (by rfl) B.repr (by decide +kernel) (pa_cons (pv 6) pa_nil)) pa_nil))) (nomark _)) (pss_one (ps_ret pe_bl)) pss_nil)
      (pss_cons (ps_if (pt_cmpR (neD (K := K) rfl hu) (pHeard (k := 6) (qn := qNR) (T := T) hd TB hgd hr rfl rfl hmT hun rfl (LamX.lamS_by (by rfl)) rfl (fun _ _ _ _ _ => rfl)
          (fun A outer s H E f c' hr2 => pc DK GK (hr2.mono (show 4 ≤ 6 by decide)) (pass1 (E := E) (takes_of rfl rfl rfl rfl)) (pa_cons (pv 1) (pa_cons (pv 5) pa_nil))))
        (pe_tup (pa_cons pe_str (pa_cons (pe_callB call_len_seq (by rfl) B.len PySem.boot_len (pa_cons (pv 4) pa_nil)) (pa_cons pe_bl pa_nil)))) (nomark _)) (pss_one (ps_ret pe_bl)) pss_nil)
      (pss_cons (ps_if (pt_cmpR (neD (K := K) rfl hu) (pHeard (k := 6) (qn := qNR) (T := T) hd TB hgd hr rfl rfl hmT hun rfl (LamX.lamS_by (by rfl)) rfl (fun _ _ _ _ _ => rfl)
          (fun A outer s H E f c' hr2 => pc DC GC (hr2.mono (show 5 ≤ 6 by decide)) (pass1 (E := E) (takes_of rfl rfl rfl rfl)) (pa_cons (pv 1) (pa_cons pe_int (pa_cons (pv 5) pa_nil)))))
        (pe_tup (pa_cons pe_str (pa_cons (pe_callB call_len_seq (by rfl) B.len PySem.boot_len (pa_cons (pv 4) pa_nil)) (pa_cons pe_bl pa_nil)))) (nomark _)) (pss_one (ps_ret pe_bl)) pss_nil)
      (pss_cons (ps_if (pt_cmpR (neD (K := K) rfl hu) (pe_lc (own := [("_law_value", 8)]) (g := gName 8) rfl scNR.nd (pi_tup (pe_tup (pa_cons pe_non (pa_cons pe_int (pa_cons pe_str pa_nil))))) (blkOk_by (N := nNR) (sc := defScope sLNoneRight) (by decide +kernel)) (fun _ _ _ _ _ => pg_name (i := 8) scNR.nd rfl (.inr rfl))
          (fun _ _ _ _ _ => pts_one (pt_cmpR (neD (K := K) rfl hu) (pHeardK (K := K) rfl (k := 6) (qn := qNR) (T := T) hd TB hgd hr rfl rfl hmT hun rfl (LamX.lamS_by (by rfl)) rfl (fun _ _ _ _ _ => rfl)
            (fun A outer s H E f c' hr2 => pc DK GK (hr2.mono (show 4 ≤ 6 by decide)) (pass1 (E := E) (takes_of rfl rfl rfl rfl)) (pa_cons (pv 1) (pa_cons (pv 8) pa_nil)))) (pe_tup (pa_cons pe_str (pa_cons (pe_op op_sub pe_int pe_int) (pa_cons pe_bl pa_nil)))) (nomark _))) (fun _ _ _ _ _ => pv 8)) (pe_lst pa_nil) (nomark _)) (pss_one (ps_ret pe_bl)) pss_nil)
      (pss_cons (ps_if (pt_cmpR (neD (K := K) rfl hu) (pe_lc (own := [("_law_value", 8)]) (g := gName 8) rfl scNR.nd (pi_tup (pe_tup (pa_cons pe_non (pa_cons pe_int (pa_cons pe_str pa_nil))))) (blkOk_by (N := nNR) (sc := defScope sLNoneRight) (by decide +kernel)) (fun _ _ _ _ _ => pg_name (i := 8) scNR.nd rfl (.inr rfl))
          (fun _ _ _ _ _ => pts_one (pt_cmpR (neD (K := K) rfl hu) (pHeardK (K := K) rfl (k := 6) (qn := qNR) (T := T) hd TB hgd hr rfl rfl hmT hun rfl (LamX.lamS_by (by rfl)) rfl (fun _ _ _ _ _ => rfl)
            (fun A outer s H E f c' hr2 => pc DC GC (hr2.mono (show 5 ≤ 6 by decide)) (pass1 (E := E) (takes_of rfl rfl rfl rfl)) (pa_cons (pv 1) (pa_cons pe_int (pa_cons (pv 8) pa_nil))))) (pe_tup (pa_cons pe_str (pa_cons (pe_op op_sub pe_int pe_int) (pa_cons pe_bl pa_nil)))) (nomark _))) (fun _ _ _ _ _ => pv 8)) (pe_lst pa_nil) (nomark _)) (pss_one (ps_ret pe_bl)) pss_nil)
      (pss_cons (ps_if (pt_cmpR (neD (K := K) rfl hu) (pHeard (k := 6) (qn := qNR) (T := T) hd TB hgd hr rfl rfl hmT hun rfl (LamX.lamS_by (by rfl)) rfl (fun _ _ _ _ _ => rfl)
          (fun A outer s H E f c' hr2 => pe_callN GG hr2 (by rfl) DG.g DG.F.kp DG.k1 (pass1 (E := E) (takes_of rfl rfl rfl rfl)) (pa_cons (pv 1) (pa_cons pe_int (pa_cons pe_int (pa_cons (pv 5) pa_nil)))) (pk_cons pe_int pk_nil)))
        (pe_tup (pa_cons pe_str (pa_cons (pe_callB call_len_seq (by rfl) B.len PySem.boot_len (pa_cons (pv 4) pa_nil)) (pa_cons pe_bl pa_nil)))) (nomark _)) (pss_one (ps_ret pe_bl)) pss_nil)
      (pss_one (ps_ret (pe_cmpR op_eq (pe_callB (call_repr hgd hu) (by rfl) B.repr (by decide +kernel) (pa_cons (pe_lst (pa_cons (pc DK GK r4 passF (pa_cons (pv 1) (pa_cons (pv 4) pa_nil))) (pa_cons (pe_callW DK GK r4 (kb_cm DK.F) passF (pk_cons (pe_callTy call_tuple_of (by rfl) B.tuple PyProof.Rows.boot_tuple (pa_cons (pv 4) pa_nil)) (pk_cons (pv 1) pk_nil))) pa_nil))) pa_nil))
          (pe_callB (call_repr hgd hu) (by rfl) B.repr (by decide +kernel) (pa_cons (pe_op op_rep (pe_lst (pa_cons (pe_callTy call_tuple_of (by rfl) B.tuple PyProof.Rows.boot_tuple (pa_cons (pv 4) pa_nil)) pa_nil)) pe_int) pa_nil)) (nomark _)))))))))))))), ?_⟩
    have n1 := hW.n1
    have n12 := hW.n12
    have t20 := hW.t20
    have L0 : Lw b T [] H H := Lw.refl hb hT
    refine ⟨_, rfl, _, rfl, _, _, rfl, rfl, (by show 5 ≤ sizeLine; decide), fun l0 hl0 => ?_⟩
    refine nilP ⟨b, l0, oddA (n : Int), rfl, (L0.new hl0).bx, upd_same, L0.nn hl0, by show 1 ≤ 5; decide, by show 5 ≤ 1000; decide, fun i0 v0 J0 hv0 bx0 => ?_⟩
    have Lp0 := (L0.new (o := HO.lst (oddA (n : Int))) hl0).box bx0
    obtain ⟨bd0, x0, vl0⟩ := oddA_vl (K := K) (xs := [b]) (H := J0) (by omega) (by omega) (List.mem_of_getElem? hv0)
    refine gn ?_
    dsimp only [List.set]
    have hbJ := Lp0.bx
    have webJ := Lp0.webK hb hw
    have tlJ := Lp0.tiesL hb htl ntl
    have tbJ := Lp0.tb
    -- a row
    refine seqG (fun σ H' => ∃ (rl : Addr) (tu : List Nat), σ = [some (.ref b), some (.ref w), some (.ref tl), some (.int (n : Int)), some (.ref rl), none, some v0, none, none] ∧ Lw b T [] J0 H' ∧ H' rl = some (.lst (vn tu)) ∧ rl ≠ b ∧ tu.length ≤ 3 ∧ ∀ t ∈ tu, t < ts.length) ?_ (fun go => ?_)
    rotate_left
    · refine ⟨_, rfl, (by show 0 ≤ sizeLine; decide), fun e0 he0 => ?_⟩
      have s4 := same_new (o := HO.lst []) he0
      have K4 : Lw b T [] J0 (upd J0 e0 (.lst [])) := (Lw.refl hbJ tbJ).same s4
      have he4 : (upd J0 e0 (.lst [])) e0 = some (.lst []) := upd_same
      generalize upd J0 e0 (.lst []) = H4 at s4 K4 he4 ⊢
      have ht4 := K4.tiesL hbJ tlJ ntl
      refine ⟨_, .list [], ht4.dp, .lst (SqL.of he4) .nil, (pl_ties hW).shaped (by decide), by decide +kernel, _, rfl, ?_⟩
      cases eq : PyData.eqv (.list (ts.map fun p => PyData.tuple [.int (p.1 : Int), .int (p.2 : Int)])) (.list []) with
      | true => exact iteF ⟨(by show 0 ≤ sizeLine; decide), fun ol hol => gn (go _ _ ⟨ol, [], rfl, K4.new hol, upd_same, K4.nn hol, Nat.zero_le _, fun t h => (by cases h)⟩)⟩
      | false =>
        have L0 : 0 < ts.length := by
          cases ts with
          | nil =>
            have : PyData.eqv (.list ((([] : Prs)).map fun p => PyData.tuple [.int (p.1 : Int), .int (p.2 : Int)])) (.list []) = true := SeqAt.eqv_refl _ (by decide +kernel)
            rw [this] at eq
            cases eq
          | cons _ _ => simp
        obtain ⟨tas4, h41, h42⟩ := id ht4
        have el : (tas4.map V.ref).length = ts.length := by rw [List.length_map, h42.1]
        refine iteT ⟨_, rfl, b, 4, rfl, K4.bx, by decide, by decide, fun y H5 y0 y1 bx5 => ?_⟩
        obtain ⟨M, rfl⟩ : ∃ M : Nat, y = (M : Int) := ⟨y.toNat, by omega⟩
        have K5 := K4.box bx5
        have h51 := bx5.2 _ _ h41 ntl
        refine ⟨(M : Int), rfl, by omega, by omega, fun D0 hD0 => lc_range (fun j H' => ∃ tu : List Nat, tu.length = j ∧ Bx b H5 H' ∧ H' D0 = some (.lst (vn tu)) ∧ ∀ t ∈ tu, t < ts.length) ⟨[], rfl, (Bx.refl K5.bx).new hD0, upd_same, fun t h => (by cases h)⟩ ?_ ?_⟩
        · rintro j H6 hj ⟨tu, lj, bx6, hD, lt⟩
          have nD := (Bx.refl K5.bx).ne hD0
          refine ⟨rfl, _, rfl, _, rfl, tl, _, rfl, .inl (SqL.of (bx6.2 _ _ h51 ntl)), b, _, rfl, bx6.1, by omega, by omega, fun z H7 z0 z1 bx7 => ?_⟩
          obtain ⟨t, rfl⟩ : ∃ t : Nat, z = (t : Int) := ⟨z.toNat, by omega⟩
          refine ⟨_, bx7.2 _ _ hD nD, szl (by rw [vn_len]; omega), tu ++ [t], (by rw [List.length_append, lj]; rfl), (bx6.trans bx7).put hD0 nD, (by rw [upd_same, vn, vn, List.map_append]; rfl), fun u hu => ?_⟩
          rcases List.mem_append.mp hu with c | c
          · exact lt u c
          · rw [List.mem_singleton.mp c]; omega
        · rintro H6 ⟨tu, lj, bx6, hD, lt⟩
          exact gn (go _ _ ⟨D0, tu, rfl, K5.box bx6, hD, K5.nn hD0, by omega, lt⟩)
    rintro σ H4 ⟨rl, tu, rfl, K4, hrl, nrl, ltu, hlt⟩
    -- a bad row
    obtain ⟨tas, ht4, hA4⟩ := K4.tiesL hbJ tlJ ntl
    have el : ((tas.map V.ref).length : Int) = (ts.length : Int) := by rw [List.length_map, hA4.1]
    refine ⟨_, rfl, _, rfl, _, rfl, tl, _, rfl, .inl (SqL.of ht4), ?_⟩
    rw [el]
    refine ⟨_, _, rfl, rfl, (by show 4 ≤ sizeLine; decide), fun l1 hl1 => ?_⟩
    refine nilP ⟨b, l1, oddB (ts.length : Int), rfl, (K4.new hl1).bx, upd_same, K4.nn hl1, by show 1 ≤ 4; decide, by show 4 ≤ 1000; decide, fun i1 v1 J1 hv1 bx1 => ?_⟩
    have K5 := (K4.new (o := HO.lst (oddB (ts.length : Int))) hl1).box bx1
    have hrl5 := bx1.2 _ _ ((same_new (o := HO.lst (oddB (ts.length : Int))) hl1) _ _ hrl) nrl
    have hvB := List.mem_of_getElem? hv1
    refine ⟨(by show 2 ≤ sizeLine; decide), fun l2 hl2 => ?_⟩
    obtain ⟨s6, k6⟩ := newO (o := HO.lst [v1, .non]) hl2
    have K6 := K5.same s6
    generalize upd J1 l2 (.lst [v1, .non]) = H6 at s6 k6 K6 ⊢
    refine ⟨rl, l2, _, _, rfl, rfl, s6 _ _ hrl5, k6, sz (by rw [vn_len]; simp only [List.length_cons, List.length_nil]; omega), fun bd hbd => ?_⟩
    obtain ⟨s7, k7⟩ := newO (o := HO.lst (vn tu ++ [v1, .non])) hbd
    have nbd : bd ≠ b := K6.nn hbd
    have K7 := K6.same s7
    have hrl7 := s7 _ _ (s6 _ _ hrl5)
    generalize upd H6 bd (.lst (vn tu ++ [v1, .non])) = H7 at s7 k7 K7 hrl7 ⊢
    refine gn ?_
    dsimp only [List.set]
    obtain ⟨bm1, bm2⟩ := bad_m hvB (by omega) hlt
    -- from here on all stands as it is
    have hb7 := K7.bx
    have L7 : Lw b T [] H7 H7 := Lw.refl hb7 K7.tb
    have web7 := K7.webK hbJ webJ
    have vl7 : Vl K [b] H7 v0 none x0 := vl0.ks K7.ks
    have fin : ∀ H', Lw b T [] H7 H' → Q (.bl true) H' := fun H' n' => q H' ((Lp0.trans K7).trans n')
    clear hrl5 s7 s6 k6 K6 K5 hrl K4 ht4 hA4 hbd hl2 hl1 q
    -- no house
    refine ⟨L7.tb, fun G1 eN1 tb1 => ?_⟩
    have La1 := L7.ext eN1 tb1
    have va1 := vl7.ks La1.ks
    refine ⟨_, rfl, _, rfl, nn1 ⟨w, v0, .non, none, none, n, ts, rfl, La1.webK hb7 web7, hW, (va1.rd _ Ks.refl).kv, rw0 .non, .inl ⟨bd0, heH va1 fun p1 E1 z1 hp1 => ?_⟩⟩⟩
    refine ⟨_, rfl, nilP (va1.sh _ _ (fun c o e _ _ => z1 _ _ e) ⟨(by show 2 ≤ sizeLine; decide), fun q1 hq1 => earH st_h va1.ok ((same_new hq1) _ _ hp1) upd_same ⟨_, rfl, iteF (nxP ?_)⟩⟩)⟩
    have Lb1 := (La1.same z1).new (o := HO.tup [.str "house", .str x0]) hq1
    generalize upd E1 q1 (.tup [.str "house", .str x0]) = F1 at Lb1 ⊢
    refine ⟨Lb1.tb, fun G2 eN2 tb2 => ?_⟩
    have La2 := Lb1.ext eN2 tb2
    have va2 := vl7.ks La2.ks
    refine ⟨_, rfl, _, rfl, nn2 (c1 ⟨rfl, rfl, w, v0, .non, .non, none, none, none, n, ts, 1, rfl, La2.webK hb7 web7, hW, (va2.rd _ Ks.refl).kv, .non, rw0 .non, .inl ⟨bd0, heH va2 fun p2 E2 z2 hp2 => ?_⟩⟩)⟩
    refine ⟨_, rfl, nilP (va2.sh _ _ (fun c o e _ _ => z2 _ _ e) ⟨(by show 2 ≤ sizeLine; decide), fun q2 hq2 => earH st_h va2.ok ((same_new hq2) _ _ hp2) upd_same ⟨_, rfl, iteF (nxP ?_)⟩⟩)⟩
    have Lb2 := (La2.same z2).new (o := HO.tup [.str "house", .str x0]) hq2
    generalize upd E2 q2 (.tup [.str "house", .str x0]) = F2 at Lb2 ⊢
    refine ⟨Lb2.tb, fun G3 eN3 tb3 => ?_⟩
    have La3 := Lb2.ext eN3 tb3
    have va3 := vl7.ks La3.ks
    refine ⟨_, rfl, _, rfl, nn1 (c1 ⟨rfl, rfl, w, .int ((0 : Nat) : Int), v0, .non, none, none, none, n, ts, 1, rfl, La3.webK hb7 web7, hW, .int _, (va3.rd _ Ks.refl).kv, rw0 .non, .inr ⟨0, rfl, n1, .inl ⟨bd0, heH va3 fun p3 E3 z3 hp3 => ?_⟩⟩⟩)⟩
    refine ⟨_, rfl, nilP (va3.sh _ _ (fun c o e _ _ => z3 _ _ e) ⟨(by show 2 ≤ sizeLine; decide), fun q3 hq3 => earH st_h va3.ok ((same_new hq3) _ _ hp3) upd_same ⟨_, rfl, iteF (nxP ?_)⟩⟩)⟩
    have Lb3 := (La3.same z3).new (o := HO.tup [.str "house", .str x0]) hq3
    generalize upd E3 q3 (.tup [.str "house", .str x0]) = F3 at Lb3 ⊢
    -- no steps
    refine ⟨Lb3.tb, fun G4 eN4 tb4 => ?_⟩
    have La4 := Lb3.ext eN4 tb4
    have bad4 := bad_rw (K := K) hvB (La4.lstK k7 nbd)
    refine ⟨_, rfl, _, rfl, nilP ⟨w, .ref bd, some (vn tu ++ [v1, .non]), n, ts, rfl, La4.webK hb7 web7, hW, bad4, .inr (.inl ⟨_, tu.length, rfl, bm1, bm2, heB fun p4 E4 z4 hp4 => ?_⟩)⟩⟩
    refine ⟨_, rfl, rl, _, rfl, .inl (SqL.of ((La4.same z4).lstK hrl7 nrl)), ?_⟩
    rw [vn_len]
    refine ⟨(by show 3 ≤ sizeLine; decide), fun q4 hq4 => earI (i := (tu.length : Int)) st_s ((same_new hq4) _ _ hp4) upd_same ⟨_, rfl, iteF (nxP ?_)⟩⟩
    have Lb4 := (La4.same z4).new (o := HO.tup [.str "steps", .int (tu.length : Int), .bl true]) hq4
    generalize upd E4 q4 (.tup [.str "steps", .int (tu.length : Int), .bl true]) = F4 at Lb4 ⊢
    refine ⟨Lb4.tb, fun G5 eN5 tb5 => ?_⟩
    have La5 := Lb4.ext eN5 tb5
    have bad5 := bad_rw (K := K) hvB (La5.lstK k7 nbd)
    refine ⟨_, rfl, _, rfl, nilP ⟨w, .int ((0 : Nat) : Int), .ref bd, none, some (vn tu ++ [v1, .non]), n, ts, rfl, La5.webK hb7 web7, hW, .int _, bad5, .inr ⟨0, rfl, n1, .inl ⟨(tu.length : Nat), .inr ⟨_, tu.length, rfl, bm1, bm2, rfl⟩, heB fun p5 E5 z5 hp5 => ?_⟩⟩⟩⟩
    refine ⟨_, rfl, rl, _, rfl, .inl (SqL.of ((La5.same z5).lstK hrl7 nrl)), ?_⟩
    rw [vn_len]
    refine ⟨(by show 3 ≤ sizeLine; decide), fun q5 hq5 => earI (i := (tu.length : Int)) st_s ((same_new hq5) _ _ hp5) upd_same ⟨_, rfl, iteF (nxP ?_)⟩⟩
    have Lb5 := (La5.same z5).new (o := HO.tup [.str "steps", .int (tu.length : Int), .bl true]) hq5
    generalize upd E5 q5 (.tup [.str "steps", .int (tu.length : Int), .bl true]) = F5 at Lb5 ⊢
    refine ⟨(by show 3 ≤ sizeLine; decide), fun tp6 htp6 => ⟨tp6, rfl, ⟨_, SqT.of upd_same⟩, fun D6 hD6 => ?_⟩⟩
    have M6 := (Lb5.new (o := HO.tup [.non, .int 0, .str "0"]) htp6).new (o := HO.lst []) hD6
    have nD6 : D6 ≠ b := (Lb5.new (o := HO.tup [.non, .int 0, .str "0"]) htp6).nn hD6
    have htq6 := (same_new (o := HO.lst []) hD6) _ _ (upd_same : (upd F5 tp6 (.tup [V.non, .int 0, .str "0"])) tp6 = _)
    have hDq6 : (upd (upd F5 tp6 (.tup [V.non, .int 0, .str "0"])) D6 (.lst [])) D6 = some (.lst []) := upd_same
    have hbM6 := M6.bx
    refine lc_tup (K := K) (a := tp6) (xs := [V.non, .int 0, .str "0"]) (fun _ H' => Lw b T [] (upd (upd F5 tp6 (.tup [V.non, .int 0, .str "0"])) D6 (.lst [])) H') (Lw.refl hbM6 M6.tb) (fun i H' _ l => SqT.of (l.tupK hbM6 htq6)) ?_ ?_
    · rintro i x H' hx l
      have hkv : ∀ H, KV K H x none := fun H => by
        match i, hx with
        | 0, hx => cases hx; exact .non
        | 1, hx => cases hx; exact .int _
        | 2, hx => cases hx; exact .str _
        | i + 3, hx => cases hx
      refine ⟨rfl, l.tb, fun G1 eN t1 => ?_⟩
      have l1 := l.ext eN t1
      have La := M6.trans l1
      refine ⟨_, rfl, _, rfl, nilP ⟨w, x, none, n, ts, rfl, La.webK hb7 web7, hW, rw0 (hkv _), .inl ⟨rfl, heB fun p4 E4 z4 hp4 => ?_⟩⟩⟩
      refine ⟨_, _, rfl, rfl, (by show 3 ≤ sizeLine; decide), fun q4 hq4 => earI (i := -1) st_s ((same_new hq4) _ _ hp4) upd_same ⟨_, rfl, iteF ?_⟩⟩
      exact (l1.same z4).new hq4
    rintro Hd6 l6
    refine ⟨(by show 0 ≤ sizeLine; decide), fun e6 he6 => ear0 ((same_new he6) _ _ (l6.lstK hDq6 nD6)) upd_same ⟨_, rfl, iteF (nxP ?_)⟩⟩
    have Lb6 := (M6.trans l6).new (o := HO.lst []) he6
    generalize upd Hd6 e6 (.lst []) = F6 at Lb6 ⊢
    refine ⟨(by show 3 ≤ sizeLine; decide), fun tp7 htp7 => ⟨tp7, rfl, ⟨_, SqT.of upd_same⟩, fun D7 hD7 => ?_⟩⟩
    have M7 := (Lb6.new (o := HO.tup [.non, .int 0, .str "0"]) htp7).new (o := HO.lst []) hD7
    have nD7 : D7 ≠ b := (Lb6.new (o := HO.tup [.non, .int 0, .str "0"]) htp7).nn hD7
    have htq7 := (same_new (o := HO.lst []) hD7) _ _ (upd_same : (upd F6 tp7 (.tup [V.non, .int 0, .str "0"])) tp7 = _)
    have hDq7 : (upd (upd F6 tp7 (.tup [V.non, .int 0, .str "0"])) D7 (.lst [])) D7 = some (.lst []) := upd_same
    have hbM7 := M7.bx
    refine lc_tup (K := K) (a := tp7) (xs := [V.non, .int 0, .str "0"]) (fun _ H' => Lw b T [] (upd (upd F6 tp7 (.tup [V.non, .int 0, .str "0"])) D7 (.lst [])) H') (Lw.refl hbM7 M7.tb) (fun i H' _ l => SqT.of (l.tupK hbM7 htq7)) ?_ ?_
    · rintro i x H' hx l
      have hkv : ∀ H, KV K H x none := fun H => by
        match i, hx with
        | 0, hx => cases hx; exact .non
        | 1, hx => cases hx; exact .int _
        | 2, hx => cases hx; exact .str _
        | i + 3, hx => cases hx
      refine ⟨rfl, l.tb, fun G1 eN t1 => ?_⟩
      have l1 := l.ext eN t1
      have La := M7.trans l1
      refine ⟨_, rfl, _, rfl, nilP ⟨w, .int ((0 : Nat) : Int), x, none, none, n, ts, rfl, La.webK hb7 web7, hW, .int _, rw0 (hkv _), .inr ⟨0, rfl, n1, .inl ⟨-1, .inl ⟨rfl, rfl⟩, heB fun p4 E4 z4 hp4 => ?_⟩⟩⟩⟩
      refine ⟨_, _, rfl, rfl, (by show 3 ≤ sizeLine; decide), fun q4 hq4 => earI (i := -1) st_s ((same_new hq4) _ _ hp4) upd_same ⟨_, rfl, iteF ?_⟩⟩
      exact (l1.same z4).new hq4
    rintro Hd7 l7
    refine ⟨(by show 0 ≤ sizeLine; decide), fun e7 he7 => ear0 ((same_new he7) _ _ (l7.lstK hDq7 nD7)) upd_same ⟨_, rfl, iteF (nxP ?_)⟩⟩
    have Lb7 := (M7.trans l7).new (o := HO.lst []) he7
    generalize upd Hd7 e7 (.lst []) = F7 at Lb7 ⊢
    refine ⟨Lb7.tb, fun G8 eN8 tb8 => ?_⟩
    have La8 := Lb7.ext eN8 tb8
    have bad8 := bad_rw (K := K) hvB (La8.lstK k7 nbd)
    refine ⟨_, rfl, _, rfl, nilP (c1 ⟨rfl, rfl, w, .int ((0 : Nat) : Int), .int ((0 : Nat) : Int), .ref bd, none, none, some (vn tu ++ [v1, .non]), n, ts, 1, rfl, La8.webK hb7 web7, hW, .int _, .int _, bad8, .inr ⟨0, rfl, n1, .inr ⟨0, rfl, n1, .inl ⟨(tu.length : Nat), .inr ⟨_, tu.length, rfl, bm1, bm2, rfl⟩, heB fun p8 E8 z8 hp8 => ?_⟩⟩⟩⟩)⟩
    refine ⟨_, rfl, rl, _, rfl, .inl (SqL.of ((La8.same z8).lstK hrl7 nrl)), ?_⟩
    rw [vn_len]
    refine ⟨(by show 3 ≤ sizeLine; decide), fun q8 hq8 => earI (i := (tu.length : Int)) st_s ((same_new hq8) _ _ hp8) upd_same ⟨_, rfl, iteF (nxP ?_)⟩⟩
    have Lb8 := (La8.same z8).new (o := HO.tup [.str "steps", .int (tu.length : Int), .bl true]) hq8
    generalize upd E8 q8 (.tup [.str "steps", .int (tu.length : Int), .bl true]) = F8 at Lb8 ⊢
    -- two that are
    have plA : PlA (dI (wN tu)) 0 (tu.length * 65) := pla_nat fun x hx => by have := hlt x hx; omega
    have plL : Pl (.list [.tuple (dI (wN tu)), .tuple (dI (wN tu))]) 2 10000 := (Pl.list (PlA.cons (Pl.tuple plA) (PlA.cons (Pl.tuple plA) PlA.nil))).mono (by decide) (by omega)
    refine ⟨_, rfl, _, rfl, nilP ⟨w, .ref rl, some (vn tu), n, ts, rfl, Lb8.webK hb7 web7, hW, rw_vnL (Lb8.lstK hrl7 nrl), .inr (.inr ⟨tu, rfl, by omega, hlt, fun p9 E9 z9 hp9 => ?_⟩)⟩⟩
    have L9 := Lb8.same z9
    refine ⟨_, rfl, rl, _, rfl, .inl ⟨SqL.of (L9.lstK hrl7 nrl), fun rt hrt => ?_⟩⟩
    obtain ⟨sa, ka⟩ := newO (o := HO.tup (vn tu)) hrt
    have La_ := L9.same sa
    generalize upd E9 rt (.tup (vn tu)) = Ha at sa ka La_ ⊢
    refine ⟨_, rfl, rfl, w, .ref rt, some (vn tu), n, ts, rfl, La_.webK hb7 web7, hW, rw_vnT ka, .inr (.inr ⟨tu, rfl, by omega, hlt, fun pb Eb zb hpb => ?_⟩)⟩
    refine ⟨(by show 2 ≤ sizeLine; decide), fun lb hlb => ?_⟩
    obtain ⟨sc, kc⟩ := newO (o := HO.lst [.ref p9, .ref pb]) hlb
    have Lc_ := (La_.same zb).same sc
    have hp9c := sc _ _ (zb _ _ (sa _ _ hp9))
    have hpbc := sc _ _ hpb
    generalize upd Eb lb (.lst [.ref p9, .ref pb]) = Hc at sc kc Lc_ hp9c hpbc ⊢
    refine nilP (reprP (.lst (SqL.of kc) (.cons (dp_vn hp9c) (.cons (dp_vn hpbc) .nil))) plL (by decide) (by decide) ?_)
    refine ⟨_, rfl, rl, _, rfl, .inl ⟨SqL.of (Lc_.lstK hrl7 nrl), fun rt2 hrt2 => ?_⟩⟩
    obtain ⟨sd, kd⟩ := newO (o := HO.tup (vn tu)) hrt2
    have Ld_ := Lc_.same sd
    generalize upd Hc rt2 (.tup (vn tu)) = Hd at sd kd Ld_ ⊢
    refine ⟨(by show 1 ≤ sizeLine; decide), fun l3 hl3 => ?_⟩
    obtain ⟨se, ke⟩ := newO (o := HO.lst [.ref rt2]) hl3
    have Le_ := Ld_.same se
    generalize upd Hd l3 (.lst [.ref rt2]) = He at se ke Le_ ⊢
    refine ⟨l3, 2, _, rfl, rfl, ke, by decide, by decide, (by show 1 * (2 : Int).toNat ≤ sizeLine; decide), fun l4 hl4 => ?_⟩
    have kf : (upd He l4 (.lst (List.replicate (2 : Int).toNat [V.ref rt2]).flatten)) l4 = some (.lst [.ref rt2, .ref rt2]) := upd_same
    have sf := same_new (o := HO.lst (List.replicate (2 : Int).toNat [V.ref rt2]).flatten) hl4
    have hrf := sf _ _ (se _ _ kd)
    refine nilP (reprP (.lst (SqL.of kf) (.cons (dp_vn hrf) (.cons (dp_vn hrf) .nil))) plL (by decide) (by decide) ?_)
    exact ⟨rfl, qbl (decide_eq_true rfl) (fin _ (Le_.same sf))⟩
end
end K1
namespace K1
open PySem PySem.Spec PyProof.Rows L2
/-! ### the law -/
theorem rep_vn (N : Nat) : (List.replicate N [V.int 0]).flatten = vn (List.replicate N 0) := by
  rw [rep0, vn, vrow, List.map_map, List.map_replicate]
  refine List.ext_getElem? fun i => ?_
  rw [List.getElem?_map, List.getElem?_replicate]
  by_cases c : i < N
  · rw [List.getElem?_range c, if_pos c]; rfl
  · rw [List.getElem?_eq_none (by rw [List.length_range]; omega), if_neg c]; rfl
theorem cut_last (w : Wy) (t : Nat) : cutV (vn (w ++ [t])) (some (-1)) none = vn [t] := by
  have ec : cutV (vn (w ++ [t])) (some (-1)) none = vn (lastT (w ++ [t])) := by
    unfold cutV lastT
    rw [sIx_last, HT.sIx_none, vn_len, vn, vn, List.map_drop]
    exact List.take_of_length_le (by rw [List.length_drop, List.length_map]; exact Nat.le_refl _)
  rw [ec, lastT_snoc]
theorem sum_ones (f : Nat → Nat) (h : ∀ x, f x ≤ 1) : ∀ n, ((List.range n).map f).sum ≤ n
  | 0 => Nat.le_refl _
  | n + 1 => by
    rw [List.range_succ, List.map_append, List.sum_append]
    have := sum_ones f h n
    have := h n
    simp only [List.map_cons, List.map_nil, List.sum_cons, List.sum_nil]
    omega
theorem tabs_put {T : List (Addr × Str)} {H : Hp} {ml : Addr} {xs : List V} {o : HO} (t : LamX.Tabs T H) (hm : H ml = some (.lst xs)) : LamX.Tabs T (upd H ml o) := fun p hp => by
  obtain ⟨ps, h1, h2, h3⟩ := t p hp
  refine ⟨ps, by rw [upd_ne (ne_of h1 hm (by intro z; cases z))]; exact h1, h2, fun pos cv hc => ?_⟩
  obtain ⟨c, e1, e2⟩ := h3 pos cv hc
  exact ⟨c, e1, by rw [upd_ne (ne_of e2 hm (by intro z; unfold LamX.CodeO at z; cases z))]; exact e2⟩
section
variable {W b w ml tl : Addr} {T : List (Addr × Str)} {H H' H2 : Hp} {n : Nat} {ts : Prs} {l0 : List V}
theorem Lw.tupM (hb : BoxO H b) (hm : H ml = some (.lst l0)) (l : Lw b T [ml] H H') {c : Addr} {xs : List V} (h : H c = some (.tup xs)) : H' c = some (.tup xs) := l.ks.tup h (by
  simp only [List.mem_cons, List.mem_nil_iff, or_false]
  exact fun z => z.elim (hb.ne h fun xs => by intro z; cases z) (ne_of h hm (by intro z; cases z)))
theorem Lw.lstM (l : Lw b T [ml] H H') {c : Addr} {xs : List V} (h : H c = some (.lst xs)) (n1 : c ≠ b) (n2 : c ≠ ml) : H' c = some (.lst xs) := l.ks.lst h (by
  simp only [List.mem_cons, List.mem_nil_iff, or_false]
  exact fun z => z.elim n1 n2)
theorem Lw.webM (hb : BoxO H b) (hm : H ml = some (.lst l0)) (l : Lw b T [ml] H H') (h : WebAt W H w n ts) : WebAt W H' w n ts :=
  h.kp (fun a xs e => l.tupM hb hm e) fun dx fs e => l.ks.ins e (by
    simp only [List.mem_cons, List.mem_nil_iff, or_false]
    exact fun z => z.elim (hb.ne e fun xs => by intro z; cases z) (ne_of e hm (by intro z; cases z)))
theorem Lw.tiesM (hb : BoxO H b) (hm : H ml = some (.lst l0)) (l : Lw b T [ml] H H') (h : TiesL H tl ts) (n1 : tl ≠ b) (n2 : tl ≠ ml) : TiesL H' tl ts := let ⟨as, h1, h2⟩ := h; ⟨as, l.lstM h1 n1 n2, h2.kp fun a xs e => l.tupM hb hm e⟩
theorem Lw.wide (l : Lw b T [] H H') : Lw b T [ml] H H' := ⟨l.bx, l.tb, l.ks.mono fun c hc => by rw [List.mem_singleton.mp hc]; exact List.mem_cons_self⟩
theorem Lw.putM (l : Lw b T [ml] H H') {xs : List V} {o : HO} (hm : H' ml = some (.lst xs)) (nml : ml ≠ b) : Lw b T [ml] H (upd H' ml o) := by
  refine ⟨?_, tabs_put l.tb hm, fun c u e n1 n2 => ?_⟩
  · obtain ⟨x, y, z, e⟩ := l.bx
    exact ⟨x, y, z, by rw [upd_ne nml.symm]; exact e⟩
  · rw [upd_ne (fun z => n1 (by rw [z]; exact List.mem_cons_of_mem _ List.mem_cons_self))]
    exact l.ks c u e n1 n2
end
abbrev qLa : Str := "law.<locals>.<lambda>"
structure Dn (P : Program) (w : World) (K : PySem.W.Frag) (mg : Str → Option Value) (base : Heap) (W CH CB CR CG : Addr) (T : List (Addr × Str)) : Prop where
  B : Bt mg
  TW : WcT K mg W
  box : ∃ f fd, Df K mg "_law_box" sLBox ["_law_script", "_law_k"] f fd ∧ FnOk P w K mg base CX0 1 f fd ["_law_script", "_law_k"] (spBox K)
  take : ∃ f fd, Df K mg "_law_take" sLTake ["_law_box_here", "_law_many"] f fd ∧ FnOk P w K mg base CX0 1 f fd ["_law_box_here", "_law_many"] spTake
  ties : ∃ f fd, Df K mg "_law_ties" sLTies ["_law_box_here", "_law_houses", "_law_most"] f fd ∧ FnOk P w K mg base CX0 2 f fd ["_law_box_here", "_law_houses", "_law_most"] spTies
  begun : ∃ f fd, Df K mg "_law_begun" sLBegun ["_law_ties_here", "_law_houses", "_law_house"] f fd ∧ FnOk P w K mg base CX0 1 f fd ["_law_ties_here", "_law_houses", "_law_house"] spBegun
  met : ∃ f fd, Df K mg "_law_met" sLMet ["_law_ties_here", "_law_houses", "_law_counts", "_law_meetings"] f fd ∧ FnOk P w K mg base CX0 1 f fd ["_law_ties_here", "_law_houses", "_law_counts", "_law_meetings"] spMetL
  winit : ∃ f fd, Mk K W f ∧ Binds K fd ["self", "houses", "ties"] [] ∧ FnOk P w K mg base (L2.CX P w) 6 f fd ["self", "houses", "ties"] (spWInit W)
  cm : ∃ f fd, Df K mg "check_meetings" sCheckMeetings ["web", "value"] f fd ∧ FnOk P w K mg base (L2.CX P w) 4 f fd ["web", "value"] (spCM K W CB)
  mr : ∃ f fd, Df K mg "_law_moment_right" sLMomentRight psMR f fd ∧ FnG P w K mg base 9 f fd psMR (spMR W T)
  nr : ∃ f fd, Df K mg "_law_none_right" sLNoneRight psNR f fd ∧ FnG P w K mg base 9 f fd psNR (spNR W T)
abbrev nLa : List Str := ["_law_script", "_law_k", "_law_box_here", "_law_houses", "_law_ties_here", "_law_web", "_law_house", "_law_meetings", "_law_counts", "_law_turn", "_law_later", "_law_pair", "_law_at"]
theorem scLa : FnScope nLa ["_law_script"] (defScope sLaw) := ⟨rfl, rfl, rfl, by decide +kernel, rfl, by decide +kernel, by decide +kernel⟩
def spLaw (K : PySem.W.Frag) (T : List (Addr × Str)) : Sp := fun vs H Q _ => ∃ (a : Addr) (ns : List Int), vs = [.ref a] ∧ SqL K H a (ns.map V.int) ∧ ns.length ≤ 63 ∧ LamX.Tabs T H ∧ ∀ H', Q (.bl true) H'
section
variable {P : Program} {w : World} {K : PySem.W.Frag} {mg : Str → Option Value} {base : Heap}
theorem ok_law {f W CH CB CR CG c_ Pt : Addr} {fd : FuncData} {T : List (Addr × Str)} (F : FunC K "law" "law" sLaw f fd (.ref c_)) (TB : LamX.TabB base mg c_ Pt) (hmT : (Pt, qLa) ∈ T) (hun : ∀ p ∈ T, p.1 = Pt → p.2 = qLa) (hd : Hd K mg base CH CB CR CG) (dn : Dn P w K mg base W CH CB CR CG T) : FnG P w K mg base 10 f fd ["_law_script"] (spLaw K T) := by
  have B := dn.B
  have TW := dn.TW
  obtain ⟨_, _, DB, GB⟩ := dn.box
  obtain ⟨_, _, DT, GT⟩ := dn.take
  obtain ⟨_, _, DI, GI⟩ := dn.ties
  obtain ⟨_, _, DE, GE⟩ := dn.begun
  obtain ⟨_, _, DM, GM⟩ := dn.met
  obtain ⟨_, _, MW, BW, GW⟩ := dn.winit
  obtain ⟨_, _, DK, GK⟩ := dn.cm
  obtain ⟨_, _, DR, GR⟩ := dn.mr
  obtain ⟨_, _, DN, GN⟩ := dn.nr
  refine F.okG scLa (fun vs H Q E h => ?_) (fun A outer s H vs Q E hr hgd h => ?_)
  · obtain ⟨a, ns, rfl, _⟩ := h
    rfl
  · obtain ⟨a, ns, rfl, hS, hn, hT, q⟩ := h
    have hu : (A.deeper (envOfC "law" (defScope sLaw) s.heap.objs.size f (.ref c_))).units + 64 < cLine := hr.units
    have r1 := hr.mono (show 1 ≤ 9 by decide)
    have r2 := hr.mono (show 2 ≤ 9 by decide)
    have r4 := hr.mono (show 4 ≤ 9 by decide)
    have r7 := hr.mono (show 7 ≤ 9 by decide)
    refine ⟨_, pss_cons (ps_for PassesOwn.never rfl (pi_range1 (by rfl) B.range (pa_cons pe_int pa_nil)) (pg_name (i := 1) scLa.nd rfl (.inl rfl))
        (pss_cons (ps_set (i := 2) scLa.nd rfl (.inl rfl) (pc DB GB r1 pass0 (pa_cons (pv 0) (pa_cons (pv 1) pa_nil))))
        (pss_cons (ps_set (i := 3) scLa.nd rfl (.inl rfl) (pe_op op_add pe_int (pc DT GT r1 pass0 (pa_cons (pv 2) (pa_cons pe_int pa_nil)))))
        (pss_cons (ps_set (i := 4) scLa.nd rfl (.inl rfl) (pc DI GI r2 pass0 (pa_cons (pv 2) (pa_cons (pv 3) (pa_cons pe_int pa_nil)))))
        (pss_cons (ps_par3 (i := 5) (j := 6) (l := 7) rfl scLa.nd rfl rfl rfl (by decide) (by decide) (by decide) rfl rfl rfl (pa_cons (pe_make MW GW r7 rfl TW.g BW .nil passF (pa_cons (pv 3) (pa_cons (pv 4) pa_nil))) (pa_cons (pc DT GT r1 pass0 (pa_cons (pv 2) (pa_cons (pv 3) pa_nil))) (pa_cons (pe_lst pa_nil) pa_nil))) rfl)
        (pss_cons (ps_set (i := 8) scLa.nd rfl (.inr rfl) (pc DE GE r1 pass0 (pa_cons (pv 4) (pa_cons (pv 3) (pa_cons (pv 6) pa_nil)))))
        (pss_cons (ps_for PassesOwn.never rfl (pi_range1 (by rfl) B.range (pa_cons (pe_op op_add pe_int (pc DT GT r1 pass0 (pa_cons (pv 2) (pa_cons pe_int pa_nil)))) pa_nil)) (pg_name (i := 9) scLa.nd rfl (.inl rfl))
          (pss_cons (ps_if (pt_not (pt_val (pe_callG DR GR hr hgd (pa_cons (pv 2) (pa_cons (pv 5) (pa_cons (pv 4) (pa_cons (pv 3) (pa_cons (pv 6) (pa_cons (pv 7) (pa_cons (pv 8) pa_nil)))))))))) (pss_one (ps_ret pe_bl)) pss_nil)
          (pss_one (ps_if (PW.pt (pw_and (pt_cmpR (neD (K := K) rfl hu) (pv 4) (pe_lst pa_nil) (nomark _)) (pw_and1 (pt_cmpR op_lt (pe_callB (cr_sum rfl) (by rfl) B.sum (by decide +kernel) (pa_cons (pe_slice sl_list (pv 8) po_none (po_some (pv 3))) pa_nil)) pe_int (nomark _)))))
            (pss_cons (ps_expr (pe_bm PySem.F.plainAttrs_list PySem.F.slot_list_append PySem.F.type_list_append mt_append (pv 7) (pa_cons (pc DT GT r1 pass0 (pa_cons (pv 2) (pa_cons (pe_callB call_len_seq (by rfl) B.len PySem.boot_len (pa_cons (pv 4) pa_nil)) pa_nil))) pa_nil)))
            (pss_cons (ps_set (i := 10) scLa.nd rfl (.inr rfl) (pc DM GM r1 pass0 (pa_cons (pv 4) (pa_cons (pv 3) (pa_cons (pv 8) (pa_cons (pe_slice sl_list (pv 7) (po_some (pe_un un_neg pe_int)) po_none) pa_nil))))))
            (pss_cons (ps_if (pt_cmpR (neD (K := K) rfl hu) (pe_lc (own := [("_law_at", 12)]) (g := gName 12) rfl scLa.nd (pi_range1 (by rfl) B.range (pa_cons (pe_callB call_len_seq (by rfl) B.len PySem.boot_len (pa_cons (pv 8) pa_nil)) pa_nil)) (blkOk_by (N := nLa) (sc := defScope sLaw) (by decide +kernel)) (fun _ _ _ _ _ => pg_name (i := 12) scLa.nd rfl (.inl rfl))
              (fun _ _ _ _ _ => pts_one (pt_cmpR op_lt (pe_ix (ixLK (K := K) rfl) (pv 10) (pv 12) (fun _ _ => rfl)) (pe_ix (ixLK (K := K) rfl) (pv 8) (pv 12) (fun _ _ => rfl)) (nomark _))) (fun _ _ _ _ _ => pv 12)) (pe_lst pa_nil) (nomark _)) (pss_one (ps_ret pe_bl)) pss_nil)
            (pss_one (ps_set (i := 8) scLa.nd rfl (.inr rfl) (pv 10)))))) pss_nil))))
        (pss_one (ps_if (pt_not (pt_val (pe_callG DN GN hr hgd (pa_cons (pv 2) (pa_cons (pv 5) (pa_cons (pv 4) (pa_cons (pv 3) pa_nil))))))) (pss_one (ps_ret pe_bl)) pss_nil)))))))))
      (pss_cons (ps_if (pt_cmpR op_gt (pc DT GT r1 pass0 (pa_cons (pc DB GB r1 pass0 (pa_cons (pv 0) (pa_cons pe_int pa_nil))) (pa_cons pe_int pa_nil))) pe_int (nomark _)) (pss_one (ps_ret pe_bl)) pss_nil)
      (pss_cons (ps_set (i := 11) scLa.nd rfl (.inr rfl) (pe_make MW GW r7 rfl TW.g BW .nil passF (pa_cons pe_int (pa_cons (pe_lst (pa_cons (pe_tup (pa_cons pe_int (pa_cons pe_int pa_nil))) pa_nil)) pa_nil))))
      (pss_one (ps_ret (pe_and (pe_cmpR op_eq (pe_callB call_len_seq (by rfl) B.len PySem.boot_len (pa_cons (pc DK GK r4 passF (pa_cons (pv 11) (pa_cons (pe_op op_rep (pe_lst (pa_cons pe_int pa_nil)) pe_int) pa_nil))) pa_nil)) pe_int (nomark _)) (pe_one (pe_cmpR (eqD (K := K) rfl hu) (pHeard (k := 7) (qn := qLa) (T := T) hd TB hgd hr rfl rfl hmT hun rfl (LamX.lamS_by (by rfl)) rfl (fun _ _ _ _ _ => rfl)
            (fun A outer s H E f c' hr2 => pc DK GK (hr2.mono (show 4 ≤ 7 by decide)) (pass1 (E := E) (takes_of rfl rfl rfl rfl)) (pa_cons (pv 11) (pa_cons (pe_op op_rep (pe_lst (pa_cons pe_int pa_nil)) pe_int) pa_nil))))
          (pe_tup (pa_cons pe_str (pa_cons (pe_op op_sub pe_int pe_int) (pa_cons pe_bl pa_nil)))) (nomark _)))))))), ?_⟩
    refine ⟨2, rfl, by decide, by decide, for_range (fun i σ H' => ∃ (v1 v2 v3 v4 v5 v6 v7 v8 v9 v10 : Option V), σ = [some (.ref a), v1, v2, v3, v4, v5, v6, v7, v8, v9, v10, none, none] ∧ SqL K H' a (ns.map V.int) ∧ LamX.Tabs T H')
      ⟨none, none, none, none, none, none, none, none, none, none, rfl, hS, hT⟩ ?_ ?_⟩
    rotate_left
    · rintro σ Ha ⟨v1, v2, v3, v4, v5, v6, v7, v8, v9, v10, rfl, hSa, hTa⟩
      refine ⟨_, rfl, c1 ⟨a, ns, 2, rfl, hSa, hn, by decide, by decide, fun b H1 s1 hb0 hb1 => c1 ⟨b, 12, rfl, hb1, by decide, by decide, fun x H2 x0 x1 bx2 => ⟨_, _, rfl, rfl, _, rfl, ifD (fun _ => q _) fun _ => nxP ?_⟩⟩⟩⟩
      have L1 : Lw b T [] H1 H1 := Lw.refl hb1 (hTa.ext s1)
      have L2' := L1.box bx2
      have hb2 := L2'.bx
      have tb2 := L2'.tb
      have M2 : Lw b T [] H2 H2 := Lw.refl hb2 tb2
      refine ⟨(by show 2 ≤ sizeLine; decide), fun p hp => ?_⟩
      obtain ⟨s3, k3⟩ := newO (o := HO.tup [V.int 0, .int 1]) hp
      generalize upd H2 p (.tup [V.int 0, .int 1]) = H3 at s3 k3 ⊢
      refine ⟨(by show 1 ≤ sizeLine; decide), fun l hl => ?_⟩
      obtain ⟨s4, k4⟩ := newO (o := HO.lst [V.ref p]) hl
      generalize upd H3 l (.lst [V.ref p]) = H4 at s4 k4 ⊢
      have M4 := (M2.same s3).same s4
      refine nilP fun w dxw hw0 hdx0 new => ?_
      have smw := mkSame (o1 := HO.own w) (o2 := HO.ins W dxw []) hw0 hdx0 new
      have hW : Wv 2 [(0, 1)] := ⟨by decide, by decide, by decide, fun p hp => by rw [List.mem_singleton.mp hp]; decide⟩
      have hA : PrsA H4 [p] [(0, 1)] := ⟨rfl, fun i b u e1 e2 => by
        cases i with
        | succ i => cases e1
        | zero => cases e1; cases e2; exact s4 _ _ k3⟩
      refine ⟨w, dxw, 2, l, [p], [(0, 1)], rfl, upd_same, .inl (smw _ _ k4), hA.same smw, hW, fun H5 k5 hWeb => ⟨rfl, ?_⟩⟩
      have s5 : Same H4 H5 := fun c o e => k5 c o (smw c o e) (ne_of_none e hw0)
      have M5 := M4.same s5
      have hb5 := M5.bx
      have N5 : Lw b T [] H5 H5 := Lw.refl hb5 M5.tb
      clear k5 smw hw0 hdx0
      refine gn ?_
      dsimp only [List.set]
      -- ten thousand steps
      refine ⟨_, rfl, (by show 1 ≤ sizeLine; decide), fun e1 he1 => ?_⟩
      obtain ⟨s6, k6⟩ := newO (o := HO.lst [V.int 0]) he1
      generalize upd H5 e1 (.lst [V.int 0]) = H6 at s6 k6 ⊢
      have eN : (10000 : Int).toNat = 10000 := rfl
      refine ⟨e1, 10000, _, rfl, rfl, k6, by decide, by decide, (by show 1 * (10000 : Int).toNat ≤ sizeLine; rw [eN]; exact sz (by decide)), fun e2 he2 => ?_⟩
      generalize (10000 : Int).toNat = N at eN he2 ⊢
      rw [rep_vn]
      obtain ⟨s7, k7⟩ := newO (o := HO.lst (vn (List.replicate N 0))) he2
      generalize upd H6 e2 (.lst (vn (List.replicate N 0))) = H7 at s7 k7 ⊢
      have N7 := (N5.same s6).same s7
      refine nilP ⟨w, .ref e2, some (vn (List.replicate N 0)), 2, [(0, 1)], rfl, N7.webK hb5 hWeb, hW, rw_vnL k7, .inr (.inr ⟨List.replicate N 0, rfl, by rw [List.length_replicate]; omega, fun t ht => by rw [List.eq_of_mem_replicate ht]; decide, fun r H8 s8 hr8 => ?_⟩)⟩
      refine ⟨r, _, rfl, .inr (SqT.of hr8), ?_⟩
      rw [vn_len, List.length_replicate, eN]
      refine ⟨rfl, _, rfl, ?_⟩
      rw [decide_eq_true (show V.int ((10000 : Nat) : Int) = V.int 10000 from rfl)]
      refine iteT ?_
      have N8 := N7.same s8
      clear he2 k7 hr8 eN
      refine ⟨N8.tb, fun G1 eX tb1 => ?_⟩
      have La := N8.ext eX tb1
      refine ⟨_, rfl, (by show 1 ≤ sizeLine; decide), fun e3 he3 => ?_⟩
      obtain ⟨s9, k9⟩ := newO (o := HO.lst [V.int 0]) he3
      generalize upd G1 e3 (.lst [V.int 0]) = H9 at s9 k9 ⊢
      have eM : (10001 : Int).toNat = 10001 := rfl
      refine ⟨e3, 10001, _, rfl, rfl, k9, by decide, by decide, (by show 1 * (10001 : Int).toNat ≤ sizeLine; rw [eM]; exact sz (by decide)), fun e4 he4 => ?_⟩
      generalize (10001 : Int).toNat = M at eM he4 ⊢
      rw [rep_vn]
      obtain ⟨sa, ka⟩ := newO (o := HO.lst (vn (List.replicate M 0))) he4
      generalize upd H9 e4 (.lst (vn (List.replicate M 0))) = Hb at sa ka ⊢
      have Na := (La.same s9).same sa
      have eB : seqB (some (vn (List.replicate M 0))) 0 10000 = false := by
        show (decide ((0 : Int) ≤ ((vn (List.replicate M 0)).length : Int)) && decide (((vn (List.replicate M 0)).length : Int) ≤ 10000)) = false
        rw [vn_len, List.length_replicate, decide_eq_false (show ¬ ((M : Int) ≤ 10000) by omega), Bool.and_false]
      refine nilP ⟨w, .ref e4, some (vn (List.replicate M 0)), 2, [(0, 1)], rfl, Na.webK hb5 hWeb, hW, rw_vnL ka, .inl ⟨eB, heB fun p4 E4 z4 hp4 => ?_⟩⟩
      refine ⟨_, _, rfl, rfl, (by show 3 ≤ sizeLine; decide), fun q4 hq4 => earIE (i := -1) st_s ((same_new hq4) _ _ hp4) upd_same (q _)⟩
    rintro i σ Ha hi ⟨v1, v2, v3, v4, v5, v6, v7, v8, v9, v10, rfl, hSa, hTa⟩
    refine ⟨_, rfl, _, rfl, a, ns, 0 + (i : Int), rfl, hSa, hn, by omega, by omega, fun b H1 s1 hb0 hb1 => ?_⟩
    refine gn ?_
    dsimp only [List.set]
    have L1 : Lw b T [] H1 H1 := Lw.refl hb1 (hTa.ext s1)
    -- houses and ties
    refine ⟨_, rfl, c1 ⟨b, 4, rfl, hb1, by decide, by decide, fun x H2 x0 x1 bx2 => ⟨_, _, rfl, rfl, ?_⟩⟩⟩
    obtain ⟨n, en, n2, n5⟩ : ∃ n : Nat, 2 + x = (n : Int) ∧ 2 ≤ n ∧ n ≤ 5 := ⟨(2 + x).toNat, by omega, by omega, by omega⟩
    have L2' := L1.box bx2
    refine gn ?_
    dsimp only [List.set]
    rw [en]
    refine ⟨_, rfl, _, rfl, c1 ⟨b, n, 6, rfl, L2'.bx, n2, by omega, by decide, fun tl ts H3 bx3 ftl htl hW lts => ?_⟩⟩
    have L3 := L2'.box bx3
    have ntl : tl ≠ b := L2'.nn ftl
    have hb3 := L3.bx
    refine gn ?_
    dsimp only [List.set]
    -- the web, a house, no meetings
    obtain ⟨tas, ht3, hA3⟩ := id htl
    refine ⟨_, rfl, _, rfl, nilP fun w dxw hw0 hdx0 new => ?_⟩
    have smw := mkSame (o1 := HO.own w) (o2 := HO.ins W dxw []) hw0 hdx0 new
    refine ⟨w, dxw, n, tl, tas, ts, rfl, upd_same, .inl (smw _ _ ht3), hA3.same smw, hW, fun H4 k4 hWeb => ⟨rfl, ?_⟩⟩
    have s4 : Same H3 H4 := fun c o e => k4 c o (smw c o e) (ne_of_none e hw0)
    have K4 : Lw b T [] H3 H4 := (Lw.refl hb3 L3.tb).same s4
    have L4 := L3.trans K4
    clear k4 smw hw0 hdx0
    refine ⟨_, rfl, _, rfl, b, n, rfl, L4.bx, by omega, by omega, fun y H5 y0 y1 bx5 => ?_⟩
    obtain ⟨h, rfl⟩ : ∃ h : Nat, y = (h : Int) := ⟨y.toNat, by omega⟩
    have hn' : h < n := by omega
    have L5 := L4.box bx5
    refine ⟨(by show 0 ≤ sizeLine; decide), fun ml hml => ?_⟩
    obtain ⟨s6, k6⟩ := newO (o := HO.lst []) hml
    have nml : ml ≠ b := L5.nn hml
    have L6 := L5.same s6
    have K6 := (K4.box bx5).same s6
    have web6 : WebAt W (upd H5 ml (.lst [])) w n ts := (hWeb.kp (fun a xs e => bx5.tup L4.bx e) fun dx fs e => bx5.2 _ _ e (L4.bx.ne e fun xs => by intro z; cases z)).same s6
    have tie6 := K6.tiesL hb3 htl ntl
    have nmt : ml ≠ tl := fun z => by
      obtain ⟨_, e, _⟩ := (K4.box bx5).tiesL hb3 htl ntl
      rw [← z, hml] at e; cases e
    generalize upd H5 ml (.lst []) = H6 at s6 k6 L6 K6 web6 tie6 ⊢
    refine nilP ⟨_, _, _, rfl, ?_⟩
    dsimp only [List.set]
    -- its first counts
    refine ⟨_, rfl, _, rfl, _, rfl, tl, n, h, ts, rfl, tie6, hW.n12, hW.t20, hn', fun cl H7 s7 fcl hcl => ?_⟩
    refine gn ?_
    dsimp only [List.set]
    have L7 := L6.same s7
    have ncl : cl ≠ b := L6.nn fcl
    have ncm : cl ≠ ml := fun z => by rw [z, k6] at fcl; cases fcl
    have web7 := web6.same s7
    have tie7 : TiesL H7 tl ts := ((Lw.refl L6.bx L6.tb : Lw b T [] H6 H6).same s7).tiesL L6.bx tie6 ntl
    have k7 := s7 _ _ k6
    -- moments
    refine ⟨_, rfl, c1 ⟨b, 14, rfl, L7.bx, by decide, by decide, fun z H8 z0 z1 bx8 => ⟨_, _, rfl, rfl, _, rfl, by omega, by omega, ?_⟩⟩⟩
    have L8 := L7.box bx8
    have hb8 := L8.bx
    have N8 := (Lw.refl L7.bx L7.tb : Lw b T [] H7 H7).box bx8
    have web8 := N8.webK L7.bx web7
    have tie8 := N8.tiesL L7.bx tie7 ntl
    have k8 := N8.lstK k7 nml
    have hcl8 := N8.lstK hcl ncl
    refine for_range (fun j σ H' => ∃ (m : List Nat) (cl : Addr) (v9 v10 : Option V), σ = [some (.ref a), some (.int (0 + (i : Int))), some (.ref b), some (.int (n : Int)), some (.ref tl), some (.ref w), some (.int (h : Int)), some (.ref ml), some (.ref cl), v9, v10, none, none] ∧ Lw b T [ml] H8 H' ∧ H' ml = some (.lst (vn m)) ∧ (∀ t ∈ m, t < ts.length) ∧ m.length ≤ j ∧ wsum n (wrun ts h m) ≤ 450 ∧ H' cl = some (.lst (vrow (runC 0 n ts (dlt (n + ts.length) h) m))) ∧ cl ≠ b ∧ cl ≠ ml)
      ⟨[], cl, v9, v10, rfl, Lw.refl hb8 L8.tb, k8, fun t ht => (by cases ht), Nat.le_refl _, Nat.le_trans (sum_ones _ (fun x => by show (if x = h then [[]] else [] : List Wy).length ≤ 1; split <;> decide) n) (by omega), hcl8, ncl, ncm⟩ ?_ ?_
    · clear hcl8 ncm ncl fcl hcl
      rintro j σ H9 hj ⟨m, cl, v9, v10, rfl, M9, hm9, hlt, lm, ws, hc9, ncl, ncm⟩
      have hb9 := M9.bx
      have jl : j ≤ 13 := by omega
      refine ⟨_, rfl, _, rfl, _, rfl, _, rfl, _, rfl, _, rfl, _, rfl, nilP ⟨b, w, tl, ml, cl, n, h, ts, m, rfl, hb9, M9.tb, M9.webM hb8 k8 web8, hW, M9.tiesM hb8 k8 tie8 ntl nmt.symm, ntl, hn', hm9, nml, hlt, by omega, ws, hc9, ncl, fun HA NA => ⟨_, rfl, iteF (nxP ?_)⟩⟩⟩
      have MA := M9.trans NA.wide
      have hmA := NA.lstK hm9 nml
      have hcA := NA.lstK hc9 ncl
      clear NA hm9 hc9 M9
      refine ⟨_, rfl, (by show 0 ≤ sizeLine; decide), fun e0 he0 => ?_⟩
      obtain ⟨sB, kB⟩ := newO (o := HO.lst []) he0
      have MB := MA.same sB
      have hmB := sB _ _ hmA
      have hcB := sB _ _ hcA
      generalize upd HA e0 (.lst []) = HB at sB kB MB hmB hcB ⊢
      have tieB := MB.tiesM hb8 k8 tie8 ntl nmt.symm
      refine ⟨_, .list [], tieB.dp, .lst (SqL.of kB) .nil, (pl_ties hW).shaped (by decide), by decide +kernel, _, rfl, ?_⟩
      cases eq : PyData.eqv (.list (ts.map fun p => PyData.tuple [.int (p.1 : Int), .int (p.2 : Int)])) (.list []) with
      | true => exact iteF (nxP ⟨m, cl, _, _, rfl, MB, hmB, hlt, by omega, ws, hcB, ncl, ncm⟩)
      | false =>
      have ts0 : 0 < ts.length := by
        cases ts with
        | nil =>
          have : PyData.eqv (.list ((([] : Prs)).map fun p => PyData.tuple [.int (p.1 : Int), .int (p.2 : Int)])) (.list []) = true := SeqAt.eqv_refl _ (by decide +kernel)
          rw [this] at eq
          cases eq
        | cons _ _ => simp
      obtain ⟨WI1, C1⟩ := run_both hW hn' m
      refine iteT ?_
      refine ⟨_, rfl, noP ⟨_, rfl, _, rfl, cl, _, rfl, SqL.of hcB, fun u hu' => ?_⟩⟩
      rw [cut_to (by rw [vrow_len, C1.ln]; omega), vrow_take]
      obtain ⟨sC, kC⟩ := newO (o := HO.lst (vrow ((runC 0 n ts (dlt (n + ts.length) h) m).take n))) hu'
      have MC := MB.same sC
      have hmC := sC _ _ hmB
      have hcC := sC _ _ hcB
      generalize upd HB u (.lst (vrow ((runC 0 n ts (dlt (n + ts.length) h) m).take n))) = HC at sC kC MC hmC hcC ⊢
      refine ⟨u, (runC 0 n ts (dlt (n + ts.length) h) m).take n, rfl, SqL.of kC, ?_⟩
      rw [ways_sum hW hn' m]
      refine ⟨_, _, rfl, rfl, _, rfl, ifD (fun c => ?_) fun c => nxP ⟨m, cl, _, _, rfl, MC, hmC, hlt, by omega, ws, hcC, ncl, ncm⟩⟩
      have c := of_decide_eq_true c
      -- one meeting more
      obtain ⟨tasC, htC, hAC⟩ := MC.tiesM hb8 k8 tie8 ntl nmt.symm
      have elC : ((tasC.map V.ref).length : Int) = (ts.length : Int) := by rw [List.length_map, hAC.1]
      have t20 := hW.t20
      refine ⟨_, rfl, .inl ⟨rfl, _, SqL.of hmC⟩, _, rfl, _, rfl, tl, _, rfl, .inl (SqL.of htC), ?_⟩
      rw [elC]
      refine nilP ⟨b, _, rfl, MC.bx, by omega, by omega, fun t HD t0 t1 bxD => ?_⟩
      obtain ⟨t, rfl⟩ : ∃ t' : Nat, t = (t' : Int) := ⟨t.toNat, by omega⟩
      have tlt : t < ts.length := by omega
      have MD := MC.box bxD
      have hmD := bxD.2 _ _ hmC nml
      have hcD := bxD.2 _ _ hcC ncl
      refine ⟨ml, _, _, rfl, rfl, hmD, szl (by rw [vn_len]; omega), ?_⟩
      have eml : vn m ++ [V.int (t : Int)] = vn (m ++ [t]) := by rw [vn, vn, List.map_append]; rfl
      rw [eml]
      have ME := MD.putM (o := HO.lst (vn (m ++ [t]))) hmD nml
      have hmE : (upd HD ml (.lst (vn (m ++ [t])))) ml = some (.lst (vn (m ++ [t]))) := upd_same
      have hcE : (upd HD ml (.lst (vn (m ++ [t])))) cl = some (.lst (vrow (runC 0 n ts (dlt (n + ts.length) h) m))) := by rw [upd_ne ncm]; exact hcD
      generalize upd HD ml (.lst (vn (m ++ [t]))) = HE at ME hmE hcE ⊢
      have hlt' : ∀ u ∈ m ++ [t], u < ts.length := fun u hu => by
        rcases List.mem_append.mp hu with z | z
        · exact hlt u z
        · rw [List.mem_singleton.mp z]; exact tlt
      refine ⟨_, rfl, _, rfl, _, rfl, _, rfl, _, rfl, _, rfl, noP ⟨ml, _, rfl, SqL.of hmE, fun u2 hu2 => ?_⟩⟩
      rw [cut_last]
      obtain ⟨sF, kF⟩ := newO (o := HO.lst (vn [t])) hu2
      have MF := ME.same sF
      have hmF := sF _ _ hmE
      have hcF := sF _ _ hcE
      generalize upd HE u2 (.lst (vn [t])) = HF at sF kF MF hmF hcF ⊢
      refine nilP ⟨tl, cl, u2, n, ts, _, [t], rfl, MF.tiesM hb8 k8 tie8 ntl nmt.symm, hW, hcF, C1.ln, kF, fun u hu => by rw [List.mem_singleton.mp hu]; exact tlt, fun r HG sG frr hr' => ?_⟩
      rw [← runC_app] at hr'
      obtain ⟨WI2, C2⟩ := run_both hW hn' (m ++ [t])
      have MG := MF.same sG
      have hmG := sG _ _ hmF
      have hcG := sG _ _ hcF
      have nrb : r ≠ b := by
        rcases frr with z | z
        · rw [z]; exact ncl
        · exact MF.bx.nn z
      have nrm : r ≠ ml := by
        rcases frr with z | z
        · rw [z]; exact ncm
        · intro y
          rw [y, hmF] at z
          cases z
      have l1 := C1.ln
      have l2 := C2.ln
      refine gn ?_
      dsimp only [List.set]
      refine ⟨_, rfl, cl, _, rfl, .inl (SqL.of hcG), _, rfl, by rw [vrow_len]; omega, by rw [vrow_len, l1]; omega, fun D hD => lc_range (fun _ H' => Same HG H' ∧ H' D = some (.lst [])) ⟨same_new hD, upd_same⟩ ?_ ?_⟩
      · rintro x HI hx ⟨sI, kI⟩
        have xl : x < n + ts.length := by rw [vrow_len, l1] at hx; omega
        have gr := CI.grow hW C1 (by rw [← wrun_snoc]; exact C2) x xl
        refine ⟨rfl, ?_⟩
        refine ⟨_, rfl, _, rfl, r, _, _, .int ((runC 0 n ts (dlt (n + ts.length) h) (m ++ [t])).getD x 0), rfl, rfl, SqL.of (sI _ _ hr'), (by rw [Int.zero_add]; exact at_i (vrow_get (by omega))), ?_⟩
        refine ⟨_, rfl, _, rfl, cl, _, _, .int ((runC 0 n ts (dlt (n + ts.length) h) m).getD x 0), rfl, rfl, SqL.of (sI _ _ hcG), (by rw [Int.zero_add]; exact at_i (vrow_get (by omega))), ?_⟩
        refine ⟨_, _, rfl, rfl, _, rfl, ifD (fun c2 => ?_) fun c2 => ⟨sI, kI⟩⟩
        have := of_decide_eq_true c2
        omega
      · rintro HI ⟨sI, kI⟩
        refine ⟨(by show 0 ≤ sizeLine; decide), fun e2 he2 => ear0 ((same_new he2) _ _ kI) upd_same ⟨_, rfl, iteF (nxP ?_)⟩⟩
        have sJ := sI.trans (same_new (o := HO.lst []) he2)
        have w3 := wsum_step hW (wrun ts h m) t
        refine ⟨_, rfl, gn ⟨m ++ [t], r, _, _, rfl, MG.same sJ, sJ _ _ hmG, hlt', by rw [List.length_append]; simp only [List.length_cons, List.length_nil]; omega, by rw [wrun_snoc]; omega, sJ _ _ hr', nrb, nrm⟩⟩
    · rintro σ H9 ⟨m, cl, v9, v10, rfl, M9, _⟩
      refine ⟨_, rfl, _, rfl, _, rfl, _, rfl, nilP ⟨b, w, tl, n, ts, rfl, M9.bx, M9.tb, M9.webM hb8 k8 web8, hW, M9.tiesM hb8 k8 tie8 ntl nmt.symm, ntl, fun HA NA => ⟨_, rfl, iteF (nxP ?_)⟩⟩⟩
      have MA := M9.trans NA.wide
      refine ⟨_, _, _, _, _, _, _, _, _, _, rfl, sqL_ks hSa fun c o e _ nt => MA.ks c o ((L8.ks0 s1 hb0) c o e (by simp) nt) (fun z => ?_) nt, MA.tb⟩
      rcases List.mem_cons.mp z with z | z
      · exact ne_of_none e hb0 z
      · have := (L5.ks0 s1 hb0) c o e (by simp) nt
        rw [List.mem_singleton.mp z, hml] at this
        cases this
end
end K1
namespace K1
open PySem PySem.Spec PyProof.Rows L2
/-- the caller's call of a law that is told where nothing is being shown; some tables of code objects stand by -/
theorem call_laws {P : Program} {w : World} {K : PySem.W.Frag} {mg mb : Str → Option Value} {k : Nat} {fa a : Addr} (Ps : List (Addr × Addr)) {fd : FuncData} {x : Str} {sp : Sp} {s : Shared} {vs : List Value} {ns : List Int}
    (KX : K.In s.heap) (hmg : s.heap.Ns mainGlobals mg) (hmb : s.heap.Ns builtinsNs mb) (hbb : ∀ x : Str, x ≠ "__name__" → mb x = bootBuiltins x) (hlim : s.heap.NoLimit) (hg : s.gens = #[])
    (hPs : ∀ p ∈ Ps, s.heap.get? p.2 = some { cls := .none, data := .fields #[] } ∧ K.lookup p.2 = none ∧ PySem.W.CodeHd s.heap p.1 p.2)
    (hbm : ∃ (bm : Addr) (ob : Obj), mg "__builtins__" = some (.ref bm) ∧ bm ≠ builtinsNs ∧ s.heap.get? bm = some ob ∧ ob.cls = .type "module" ∧ ob.dict = some builtinsNs ∧ ob.data = .plain)
    (ha : s.heap.get? a = some { cls := .type "list", data := .seq vs.toArray }) (hi : IntsAre vs ns) (hl : ns.length ≤ sizeLine) (hr : Room k callerA)
    (F : ∀ base : Heap, K.In base → base.Ns mainGlobals mg → (∀ p ∈ Ps, LamX.TabB base mg p.1 p.2) → FnG P w K mg base k fa fd [x] sp) (hbind : ∀ (s : Shared) (u : Value), BindsTo s fd ⟨[u], []⟩ [(x, u)])
    (hsp : ∀ H : Hp, (∀ p ∈ Ps, H p.2 = some (.tbl #[])) → SqL K H a (ns.map V.int) → sp [.ref a] H (fun v _ => v = .bl true) fun _ _ _ => False) :
    codeAny (model P w) callerA (.call (.ref fa) ⟨[.ref a], []⟩) (fun r s' => r = .ok (.ret (.bool true)) ∧ OldK s.heap s'.heap ∧ s'.os = s.os ∧ AllBare s'.gens) s := by
  have hTS : ∀ b, b ∈ Ps.map (·.2) → s.heap.get? b = some { cls := .none, data := .fields #[] } ∧ K.lookup b = none ∧ ∃ c, PySem.W.CodeHd s.heap c b := fun b hb => by
    obtain ⟨p, hp, rfl⟩ := List.mem_map.mp hb
    obtain ⟨h1, h2, h3⟩ := hPs p hp
    exact ⟨h1, h2, _, h3⟩
  generalize hTSd : Ps.map (·.2) = TS at hTS
  have inTS : ∀ p ∈ Ps, p.2 ∈ TS := fun p hp => by rw [← hTSd]; exact List.mem_map.mpr ⟨p, hp, rfl⟩
  have nPa : ∀ b ∈ TS, b ≠ a := fun b hb z => by
    have hT := (hTS b hb).1
    rw [z, ha] at hT
    cases Option.some.inj hT
  -- told of any way to follow the script
  have told : ∀ H : Hp, (∀ b ∈ TS, H b = some (.tbl #[])) → (∀ b, b ∉ TS → H b = none ∨ (b = a ∧ K.lookup a = none ∧ ∃ o xs, H a = some (.frz o (.lst xs)))) → SqL K H a (ns.map V.int) → HOk P w H s.heap →
      codeAny (model P w) callerA (.call (.ref fa) ⟨[.ref a], []⟩) (fun r s' => r = .ok (.ret (.bool true)) ∧ OldK s.heap s'.heap ∧ s'.os = s.os ∧ AllBare s'.gens) s := by
    intro H hP hO hS hok
    have out : ∀ {b : Addr} {o : Obj}, s.heap.get? b = some o → b ∉ TS → b ≠ a → (hidT s.heap H).get? b = some o := fun {b o} e n1 n2 => hidT_get e ((hO b n1).resolve_right fun z => n2 z.1)
    have neD : ∀ {b : Addr} {o : Obj}, s.heap.get? b = some o → (∀ v n, o.data ≠ .seq v n) → (o.data ≠ .fields #[]) → b ∉ TS ∧ b ≠ a := fun {b o} e h1 h2 => ⟨fun z => by
      have hT := (hTS b z).1
      rw [hT] at e
      cases Option.some.inj e
      exact h2 rfl, fun z => by
      rw [z, ha] at e
      cases Option.some.inj e
      exact h1 _ _ rfl⟩
    have ns_ : ∀ {b : Addr} {m : Str → Option Value}, s.heap.Ns b m → (hidT s.heap H).Ns b m := fun {b m} ⟨o, es, ep, e, d, r⟩ => by
      have n := neD e (fun v n z => by rw [d] at z; cases z) (fun z => by rw [d] at z; cases z)
      exact ⟨o, es, ep, out e n.1 n.2, d, r⟩
    have kin : K.In (hidT s.heap H) := fun b o e => by
      refine hidT_get (KX b o e) ?_
      by_cases z : b ∈ TS
      · rw [(hTS b z).2.1] at e; cases e
      · refine (hO b z).resolve_right fun ⟨z1, z2, _⟩ => ?_
        rw [z1, z2] at e
        cases e
    have hM : L2.Mod K mg (hidT s.heap H) := ⟨kin, ns_ hmg, ⟨mb, ns_ hmb, hbb⟩, let ⟨mc, h1, h2⟩ := hlim; ⟨mc, ns_ h1, h2⟩⟩
    have TB : ∀ p ∈ Ps, LamX.TabB (hidT s.heap H) mg p.1 p.2 := fun p hp => by
      obtain ⟨hT, nT, hC⟩ := hPs p hp
      refine ⟨?_, ?_, fun z => ?_⟩
      · obtain ⟨o, us, file, tf, flags, tg, inF, text, tt, e, e2, e3, r⟩ := hC
        have n := neD e (fun v n z => by rw [e3] at z; cases z) (fun z => by
          rw [e3] at z
          cases z
          have := r.1
          simp at this)
        exact ⟨o, us, file, tf, flags, tg, inF, text, tt, out e n.1 n.2, e2, e3, r⟩
      · obtain ⟨bm, ob, b1, b2, b3, b4, b5, b6⟩ := hbm
        have n := neD b3 (fun v n z => by rw [b6] at z; cases z) (fun z => by rw [b6] at z; cases z)
        refine ⟨bm, ob, b1, b2, fun z => ?_, fun z => n.1 (by rw [z]; exact inTS p hp), out b3 n.1 n.2, b4, b5, b6⟩
        obtain ⟨o, es, ep, e, d, _⟩ := hmg
        rw [z, e] at b3
        cases Option.some.inj b3
        rw [d] at b6
        cases b6
      · obtain ⟨o, es, ep, e, d, _⟩ := hmg
        rw [z, hT] at e
        cases Option.some.inj e
        cases d
    have e0 : Env0 P w K mg (hidT s.heap H) callerA [] s H := ⟨rfl, hM, fun b o e => of_hidT e, Nat.le_of_eq (hidT_size _ _), trivial, fun b hb => absurd (show b ∈ ([] : List Addr) from hb) (by simp), hok, .of_eq hg⟩
    refine codeAny_mono ((F _ kin (ns_ hmg) TB).run callerA [] s H ⟨[.ref a], []⟩ [.ref a] [.ref a] _ _ hr rfl e0 (hbind s (.ref a)) (.cons rfl .nil) (hsp H (fun p hp => hP _ (inTS p hp)) hS)) fun r s' h => ?_
    cases r with
    | error e => exact (show False from h).elim
    | ok fl =>
      cases fl with
      | next => exact False.elim h
      | brk => exact False.elim h
      | cont => exact False.elim h
      | ret u =>
        obtain ⟨v, H', os, bare, un, hok', r', q⟩ := h
        obtain rfl : v = V.bl true := q
        obtain rfl : u = Value.bool true := r'
        have hm' : ∀ b ∈ TS, ∃ more, s'.heap.get? b = some { cls := .none, data := .fields more } := fun b hb => by
          obtain ⟨more, hm⟩ := un.tbls b #[] (hP b hb)
          have z := hok' b _ hm
          rw [Array.empty_append] at z
          exact ⟨more, z⟩
        have rest : ∀ b o, b ∉ TS → s.heap.get? b = some o → s'.heap.get? b = some o := fun b o n e => by
          rcases hO b n with z | ⟨z, _, ob, xs, hf⟩
          · exact un.keep b o e z (fun w => absurd (show b ∈ ([] : List Addr) from w) (by simp)) (by simp)
          · rw [z] at e ⊢
            have e1 := (hok a _ hf).1
            rw [e] at e1
            rw [Option.some.inj e1]
            exact (hok' a _ (un.frzs a ob _ hf)).1
        refine ⟨rfl, ⟨fun b o e => ?_, fun b o e => ?_⟩, os, bare⟩
        · by_cases z : b ∈ TS
          · obtain ⟨hT, _, c, hC⟩ := hTS b z
            obtain ⟨more, hm⟩ := hm' b z
            rw [hT] at e
            cases Option.some.inj e
            exact .inr (.inl ⟨(hC.tab hT).isCodeTable, rfl, #[], more, rfl, by rw [Array.empty_append]; exact hm⟩)
          · exact .inl (rest b o z e)
        · by_cases z : b ∈ TS
          · obtain ⟨more, hm⟩ := hm' b z
            exact ⟨_, hm⟩
          · exact ⟨o, rest b o z e⟩
  have rv := vals_ints hi
  have naTS : a ∉ TS := fun z => nPa a z rfl
  cases hk : K.lookup a with
  | some o =>
    have e := KX a o hk
    rw [ha] at e
    cases Option.some.inj e
    refine told (fun b => if b ∈ TS then some (.tbl #[]) else none) (fun b hb => if_pos hb) (fun b n => .inl (if_neg n)) (.inr ⟨_, vs.toArray, _, hk, rfl, rfl, rfl, by rw [List.size_toArray, hi.length]; exact hl, by simpa using rv⟩) fun b u z => ?_
    by_cases n : b ∈ TS
    · have z' : some (HO.tbl #[]) = some u := (if_pos n).symm.trans z
      cases z'
      exact (hTS b n).1
    · have z' : (none : Option HO) = some u := (if_neg n).symm.trans z
      cases z'
  | none =>
    refine told (fun b => if b ∈ TS then some (.tbl #[]) else if b = a then some (.frz { cls := .type "list", data := .seq vs.toArray } (.lst (ns.map V.int))) else none) (fun b hb => if_pos hb) (fun b n => ?_) (.inl (.inr ⟨_, (if_neg naTS).trans (if_pos rfl)⟩)) fun b u z => ?_
    · by_cases n2 : b = a
      · exact .inr ⟨n2, hk, _, _, (if_neg naTS).trans (if_pos rfl)⟩
      · exact .inl ((if_neg n).trans (if_neg n2))
    · by_cases n : b ∈ TS
      · have z' : some (HO.tbl #[]) = some u := (if_pos n).symm.trans z
        cases z'
        exact (hTS b n).1
      · by_cases n2 : b = a
        · have z' := ((if_neg n).trans (if_pos n2)).symm.trans z
          cases z'
          rw [n2]
          exact ⟨ha, by rw [List.length_map]; exact hl, vs, _, rv, ha⟩
        · have z' := ((if_neg n).trans (if_neg n2)).symm.trans z
          cases z'
end K1
namespace K1
open PySem PySem.Spec PyProof.Rows L2
abbrev T3 (Pt Pm Pn : Addr) : List (Addr × Str) := [(Pt, qLa), (Pm, qMR), (Pn, qNR)]
/-- what the top has left -/
structure Tp (K : PySem.W.Frag) (mg : Str → Option Value) (W CW CH CB CR CG c Pt cm Pm cn Pn fa fm fn : Addr) (fd fdm fdn : FuncData) : Prop where
  B : Bt mg
  gg : ∃ f fd, DfG K mg f fd
  cw : Cw mg
  kk : Cm mg
  whole : ∃ f fd, Df K mg "is_whole" sWhole ["value"] f fd
  below : ∃ f fd, Df K mg "is_below" sBelow ["value", "limit"] f fd
  seq : ∃ f fd, Df K mg "is_sequence" sSeq ["value", "least", "most"] f fd
  fnb : ∃ f fd, Df K mg "first_not_below" sFnb ["items", "limit"] f fd
  pair : ∃ f fd, Df K mg "is_pair" sPair ["value", "houses"] f fd
  cties : ∃ f fd, Df K mg "checked_ties" sCTies ["houses", "ties"] f fd
  needH : ∃ f fd, Df K mg "need_house" sNeedH ["web", "house"] f fd
  cby : ∃ f fd, Df K mg "counted_by" sCBy ["modulus", "number"] f fd
  chk : ∃ f fd, Df K mg "check_meetings" sCheckMeetings ["web", "value"] f fd
  oneAt : ∃ f fd, Df K mg "one_at" sOneAt ["web", "place"] f fd
  cb : ∃ f fd, Df K mg "counts_behind" sCountsBehind ["web", "counts", "meetings", "modulus"] f fd
  parted : ∃ f fd, Df K mg "parted" sParted ["web", "counts"] f fd
  wc : ∃ f fd, Df K mg "way_counts" sWayCounts ["web", "house", "meetings"] f fd
  wg : ∃ f fd, Df K mg "ways_gone" sWaysGone ["web", "house", "meetings"] f fd
  box : ∃ f fd, Df K mg "_law_box" sLBox ["_law_script", "_law_k"] f fd
  take : ∃ f fd, Df K mg "_law_take" sLTake ["_law_box_here", "_law_many"] f fd
  pick : ∃ f fd, Df K mg "_law_pick" sLPick ["_law_box_here", "_law_some"] f fd
  ties : ∃ f fd, Df K mg "_law_ties" sLTies ["_law_box_here", "_law_houses", "_law_most"] f fd
  metL : ∃ f fd, Df K mg "_law_met" sLMet ["_law_ties_here", "_law_houses", "_law_counts", "_law_meetings"] f fd
  begun : ∃ f fd, Df K mg "_law_begun" sLBegun ["_law_ties_here", "_law_houses", "_law_house"] f fd
  split : ∃ f fd, Df K mg "_law_split" sLSplit ["_law_houses", "_law_counts"] f fd
  lways : ∃ f fd, Df K mg "_law_ways" sLWays ["_law_ties_here", "_law_house", "_law_meetings"] f fd
  heard : ∃ f fd, Df K mg "_law_heard" sLHeard ["_law_ask"] f fd
  mrR : FunC K "_law_moment_right" "_law_moment_right" sLMomentRight fm fdm (.ref cm)
  mrRD : Df K mg "_law_moment_right" sLMomentRight ["_law_box_here", "_law_web", "_law_ties_here", "_law_houses", "_law_house", "_law_meetings", "_law_counts"] fm fdm
  nrR : FunC K "_law_none_right" "_law_none_right" sLNoneRight fn fdn (.ref cn)
  nrRD : Df K mg "_law_none_right" sLNoneRight ["_law_box_here", "_law_web", "_law_ties_here", "_law_houses"] fn fdn
  law : FunC K "law" "law" sLaw fa fd (.ref c)
  lawb : ∀ (s : Shared) (u : Value), BindsTo s fd ⟨[u], []⟩ [("_law_script", u)]
  initW : ∃ f fd, Fun K "__init__" "Web.__init__" sWInit f fd ∧ Mk K W f ∧ Binds K fd ["self", "houses", "ties"] []
  TW : WcT K mg W
  t1 : ∃ q b i, LAt.Txt K mg "BadWeb" q b CW i
  t2 : ∃ q b i, LHouse.Txt K mg "NoHouse" q b CH i
  t3 : ∃ q b i, LAt.Txt K mg "BadSteps" q b CB i
  t4 : ∃ q b i, LAt.Txt K mg "Refused" q b CR i
  t5 : ∃ q b i, LMost.Txt K mg "TooGreat" q b CG i
  ex : ∃ N, mg "NetError" = some (.ref N) ∧ Exm K CH CB CR CG N
  tab : PySem.W.tabIn K "law" = some (c, Pt)
  nP : K.lookup Pt = Option.none
  tabm : PySem.W.tabIn K "_law_moment_right" = some (cm, Pm)
  nPm : K.lookup Pm = Option.none
  tabn : PySem.W.tabIn K "_law_none_right" = some (cn, Pn)
  nPn : K.lookup Pn = Option.none
  nPtPm : Pt ≠ Pm
  nPtPn : Pt ≠ Pn
  nPmPn : Pm ≠ Pn
section
variable {P : Program} {w : World} {K : PySem.W.Frag} {mg : Str → Option Value} {base : Heap}
theorem asm {W CW CH CB CR CG c Pt cm Pm cn Pn fa fm fn : Addr} {fd fdm fdn : FuncData} (t : Tp K mg W CW CH CB CR CG c Pt cm Pm cn Pn fa fm fn fd fdm fdn) (TB : LamX.TabB base mg c Pt) (TBm : LamX.TabB base mg cm Pm) (TBn : LamX.TabB base mg cn Pn) : FnG P w K mg base 10 fa fd ["_law_script"] (spLaw K (T3 Pt Pm Pn)) := by
  have B := t.B
  have cw := t.cw
  have kk := t.kk
  obtain ⟨_, _, dWhole⟩ := t.whole
  obtain ⟨_, _, dBelow⟩ := t.below
  obtain ⟨_, _, dSeq⟩ := t.seq
  obtain ⟨_, _, dFnb⟩ := t.fnb
  obtain ⟨_, _, dPair⟩ := t.pair
  obtain ⟨_, _, dCties⟩ := t.cties
  obtain ⟨_, _, dNeedH⟩ := t.needH
  obtain ⟨_, _, dCby⟩ := t.cby
  obtain ⟨_, _, dChk⟩ := t.chk
  obtain ⟨_, _, dOneAt⟩ := t.oneAt
  obtain ⟨_, _, dCb⟩ := t.cb
  obtain ⟨_, _, dParted⟩ := t.parted
  obtain ⟨_, _, dWc⟩ := t.wc
  obtain ⟨_, _, dWg⟩ := t.wg
  obtain ⟨_, _, dBox⟩ := t.box
  obtain ⟨_, _, dTake⟩ := t.take
  obtain ⟨_, _, dPick⟩ := t.pick
  obtain ⟨_, _, dTies⟩ := t.ties
  obtain ⟨_, _, dMetL⟩ := t.metL
  obtain ⟨_, _, dBegun⟩ := t.begun
  obtain ⟨_, _, dSplit⟩ := t.split
  obtain ⟨_, _, dLways⟩ := t.lways
  obtain ⟨_, _, dHeard⟩ := t.heard
  have TW := t.TW
  obtain ⟨_, _, fiW, mkW, biW⟩ := t.initW
  obtain ⟨_, _, _, x1⟩ := id t.t1
  obtain ⟨_, _, _, x2⟩ := id t.t2
  obtain ⟨_, _, _, x3⟩ := id t.t3
  obtain ⟨_, _, _, x4⟩ := id t.t4
  obtain ⟨_, _, _, x5⟩ := id t.t5
  obtain ⟨_, _, dGw⟩ := t.gg
  have gWhole := ok_whole (P := P) (w := w) (base := base) dWhole B
  have gBelow := ok_below (P := P) (w := w) (base := base) dBelow dWhole B
  have gSeq := ok_seq (P := P) (w := w) (base := base) dSeq B
  have gFnb := ok_fnb (P := P) (w := w) (base := base) dFnb dBelow B gBelow
  have gPair := ok_pair (P := P) (w := w) (base := base) dPair dSeq dFnb gSeq gFnb
  have gCties := ok_cties (P := P) (w := w) (base := base) dCties dWhole dSeq dPair B cw x1 gWhole gSeq gPair
  have gWi := ok_winit (P := P) (w := w) (base := base) fiW dCties TW gCties
  have gNeedH := ok_needH (P := P) (w := w) (base := base) dNeedH dBelow TW x2 gBelow
  have gCby := ok_cby (P := P) (w := w) (base := base) dCby
  have gChk := ok_cm (P := P) (w := w) (base := base) dChk dSeq dFnb B kk TW x3 gSeq gFnb
  have gOneAt := ok_oneAt (P := P) (w := w) (base := base) dOneAt B TW
  have gCb := ok_cb (P := P) (w := w) (base := base) dCb dCby B TW gCby
  have gParted := ok_parted (P := P) (w := w) (base := base) dParted TW
  have gWc := ok_wc (P := P) (w := w) (base := base) dWc dNeedH dChk dOneAt dParted dCb B TW gNeedH gChk gOneAt gParted gCb
  have gWg := ok_wg (P := P) (w := w) (base := base) dWg B TW
  have gGw := ok_gw (P := P) (w := w) (base := base) dGw dNeedH dChk dWc dWg B TW x5 gNeedH gChk gWc gWg
  have gTake := ok_take (P := P) (w := w) (base := base) dTake B
  have gPick := ok_pick (P := P) (w := w) (base := base) dPick dTake B gTake
  have gBox := ok_box (P := P) (w := w) (base := base) dBox B
  have gTies := ok_ties (P := P) (w := w) (base := base) dTies dTake B gTake
  have gMetL := ok_metL (P := P) (w := w) (base := base) dMetL B
  have gBegun := ok_begun (P := P) (w := w) (base := base) dBegun B
  have gSplit := ok_split (P := P) (w := w) (base := base) dSplit B
  have gLways := ok_lw (P := P) (w := w) (base := base) dLways B
  have hd : Hd K mg base CH CB CR CG := ⟨B, t.heard, t.t2, t.t3, t.t4, t.t5, t.ex⟩
  have gMr := ok_mr (P := P) (w := w) (T := T3 Pt Pm Pn) t.mrR TBm (List.mem_cons_of_mem _ List.mem_cons_self) (fun p hp e => by
    simp only [List.mem_cons, List.mem_nil_iff, or_false] at hp
    rcases hp with rfl | rfl | rfl
    · exact absurd e t.nPtPm
    · rfl
    · exact absurd e.symm t.nPmPn) B hd dLways gLways dSplit gSplit dWc gWc dTake gTake dGw gGw
  have gNr := ok_nr (P := P) (w := w) (T := T3 Pt Pm Pn) t.nrR TBn (List.mem_cons_of_mem _ (List.mem_cons_of_mem _ List.mem_cons_self)) (fun p hp e => by
    simp only [List.mem_cons, List.mem_nil_iff, or_false] at hp
    rcases hp with rfl | rfl | rfl
    · exact absurd e t.nPtPn
    · exact absurd e t.nPmPn
    · rfl) B hd dPick gPick dTake gTake dWc gWc dChk gChk dGw gGw
  exact ok_law t.law TB List.mem_cons_self (fun p hp e => by
    simp only [List.mem_cons, List.mem_nil_iff, or_false] at hp
    rcases hp with rfl | rfl | rfl
    · rfl
    · exact absurd e.symm t.nPtPm
    · exact absurd e.symm t.nPtPn) hd (⟨B, TW, ⟨_, _, dBox, gBox⟩, ⟨_, _, dTake, gTake⟩, ⟨_, _, dTies, gTies⟩, ⟨_, _, dBegun, gBegun⟩, ⟨_, _, dMetL, gMetL⟩, ⟨_, _, mkW, biW, gWi⟩, ⟨_, _, dChk, gChk⟩, ⟨_, _, t.mrRD, gMr⟩, ⟨_, _, t.nrRD, gNr⟩⟩ : Dn P w K mg base W CH CB CR CG (T3 Pt Pm Pn))
end
/-- the end: from what the top has left -/
theorem walkK {l : PySem.W.OpenLaw} {q : Program} {loose : List Str} {XP : (Str → Option Value) → Heap → Prop} {YP : World → Heap → Prop} {d : DefRec} {K : Params → PySem.W.Frag} (hn : l.most = some 63) (hdf : d.params.defaults = []) (hY : ∀ (w : World) (h : Heap), YP w h → (K w.params).In h)
    (hr : ∃ d', (recsOf q).find? (fun e => e.name == ("law" : Str)) = some d') (hrm : ∃ d', (recsOf q).find? (fun e => e.name == ("_law_moment_right" : Str)) = some d') (hrn : ∃ d', (recsOf q).find? (fun e => e.name == ("_law_none_right" : Str)) = some d')
    (F : ∀ (w : World) (mg : Str → Option Value) (fa : Addr) (h : Heap), (K w.params).In h → h.Ns mainGlobals mg → mg d.name = some (.ref fa) → ∃ (W CW CH CB CR CG c Pt cm Pm cn Pn fm fn : Addr) (fd fdm fdn : FuncData), Tp (K w.params) mg W CW CH CB CR CG c Pt cm Pm cn Pn fa fm fn fd fdm fdn) :
    PySem.W.WalkO q loose XP YP l.row.toRowW d [] (fun f vs => PySem.call f vs) := by
  refine Att.attach_callB hn hdf fun w s₀ s₁ mg mb fa o pm cd doc a vs ns G Y ho hd hcd hmg hobj hints hlen hbits hg => ?_
  have KX := hY w _ Y
  obtain ⟨W, CW, CH, CB, CR, CG, c, Pt, cm, Pm, cn, Pn, fm, fn, fd, fdm, fdn, t⟩ := F w mg fa _ KX G.T.g hmg
  obtain ⟨d_hr, hr⟩ := hr
  obtain ⟨d_hrm, hrm⟩ := hrm
  obtain ⟨d_hrn, hrn⟩ := hrn
  obtain ⟨Chr, Thr⟩ := PySem.W.tab_of G.T KX hr t.tab
  obtain ⟨Chrm, Thrm⟩ := PySem.W.tab_of G.T KX hrm t.tabm
  obtain ⟨Chrn, Thrn⟩ := PySem.W.tab_of G.T KX hrn t.tabn
  exact call_laws (k := 10) [(c, Pt), (cm, Pm), (cn, Pn)] (x := "_law_script") (sp := spLaw (K w.params) (T3 Pt Pm Pn)) KX G.T.g G.T.b G.T.builtins G.T.nolimit hg (fun p hp => by
      simp only [List.mem_cons, List.mem_nil_iff, or_false] at hp
      rcases hp with rfl | rfl | rfl
      · exact ⟨Thr, t.nP, Chr⟩
      · exact ⟨Thrm, t.nPm, Chrm⟩
      · exact ⟨Thrn, t.nPn, Chrn⟩) G.T.bmain hobj hints (Nat.le_trans hlen (by decide)) ⟨rfl, by decide, by decide⟩ (fun base _ _ TB => asm t (TB _ List.mem_cons_self) (TB _ (List.mem_cons_of_mem _ List.mem_cons_self)) (TB _ (List.mem_cons_of_mem _ (List.mem_cons_of_mem _ List.mem_cons_self)))) t.lawb
    fun H hP hS => ⟨a, ns, rfl, hS, hlen, fun p hp => by
      simp only [List.mem_cons, List.mem_nil_iff, or_false] at hp
      rcases hp with rfl | rfl | rfl
      · exact .nil (hP _ List.mem_cons_self)
      · exact .nil (hP _ (List.mem_cons_of_mem _ List.mem_cons_self))
      · exact .nil (hP _ (List.mem_cons_of_mem _ (List.mem_cons_of_mem _ List.mem_cons_self))), fun _ => rfl⟩
end K1
namespace K1
open PySem PySem.Spec PyProof.Rows L2
section
variable {K : PySem.W.Frag} {h : Heap} {mg : Str → Option Value} {x qual : Str} {st : Stmt} {ps : List Str} {f C : Addr} {oc kV doc pm cdv ct : Value} {od an : Option Addr} {osl : Array (Option Value)}
theorem df_of (X : K.In h) (G : h.Ns mainGlobals mg) (a : PySem.W.nsIn K mainGlobals x = some (some (.ref f))) (l : K.lookup f = some ⟨oc, od, .func (PySem.W.fnOf x x (defArgs st) (defBody st) (defScope st) .none kV doc pm an cdv ct), osl⟩)
    (c : PySem.W.codeIn K cdv x = true) (k : PySem.W.keepIn K (.ref f) = true)
    (b : ∀ (kV doc pm : Value) (an : Option Addr) (cdv ct : Value) (us : List Value), us.length = ps.length → bindArgs (PySem.W.fnOf x x (defArgs st) (defBody st) (defScope st) .none kV doc pm an cdv ct) ⟨us, []⟩ = pure (ps.zip us)) : ∃ f fd, Df K mg x st ps f fd :=
  ⟨f, _, ⟨fun_mk l c k, PySem.W.mg_of X G a, (fun_mk l c k).binds b⟩⟩
theorem dfc_of {cc : Addr} (X : K.In h) (G : h.Ns mainGlobals mg) (a : PySem.W.nsIn K mainGlobals x = some (some (.ref f))) (l : K.lookup f = some ⟨oc, od, .func (PySem.W.fnOf x x (defArgs st) (defBody st) (defScope st) .none kV doc pm an (.ref cc) ct), osl⟩)
    (c : PySem.W.codeIn K (.ref cc) x = true) (k : PySem.W.keepIn K (.ref f) = true)
    (b : ∀ (kV doc pm : Value) (an : Option Addr) (cdv ct : Value) (us : List Value), us.length = ps.length → bindArgs (PySem.W.fnOf x x (defArgs st) (defBody st) (defScope st) .none kV doc pm an cdv ct) ⟨us, []⟩ = pure (ps.zip us)) : ∃ f fd, Df K mg x st ps f fd ∧ FunC K x x st f fd (.ref cc) :=
  ⟨f, _, ⟨fun_mk l c k, PySem.W.mg_of X G a, (fun_mk l c k).binds b⟩, ⟨oc, od, kV, doc, pm, an, ct, osl, rfl, l, c⟩, k⟩
theorem law_of {fa cc : Addr} (X : K.In h) (G : h.Ns mainGlobals mg) (e : mg "law" = some (.ref fa)) (a : PySem.W.nsIn K mainGlobals "law" = some (some (.ref f))) (l : K.lookup f = some ⟨oc, od, .func (PySem.W.fnOf "law" "law" (defArgs sLaw) (defBody sLaw) (defScope sLaw) .none kV doc pm an (.ref cc) ct), osl⟩)
    (c : PySem.W.codeIn K (.ref cc) "law" = true) (k : PySem.W.keepIn K (.ref f) = true) : ∃ fd, FunC K "law" "law" sLaw fa fd (.ref cc) ∧ ∀ (s : Shared) (u : Value), BindsTo s fd ⟨[u], []⟩ [("_law_script", u)] := by
  have z := e.symm.trans (PySem.W.mg_of X G a)
  cases Option.some.inj z
  exact ⟨_, ⟨⟨oc, od, kV, doc, pm, an, ct, osl, rfl, l, c⟩, k⟩, fun s u => .of_eq rfl⟩
theorem lawF_of {fa : Addr} (X : K.In h) (G : h.Ns mainGlobals mg) (e : mg "law" = some (.ref fa)) (a : PySem.W.nsIn K mainGlobals "law" = some (some (.ref f))) (l : K.lookup f = some ⟨oc, od, .func (PySem.W.fnOf "law" "law" (defArgs sLaw) (defBody sLaw) (defScope sLaw) .none kV doc pm an cdv ct), osl⟩)
    (c : PySem.W.codeIn K cdv "law" = true) (k : PySem.W.keepIn K (.ref f) = true) : ∃ fd, Fun K "law" "law" sLaw fa fd ∧ ∀ (s : Shared) (u : Value), BindsTo s fd ⟨[u], []⟩ [("_law_script", u)] := by
  have z := e.symm.trans (PySem.W.mg_of X G a)
  cases Option.some.inj z
  exact ⟨_, fun_mk l c k, fun s u => .of_eq rfl⟩
theorem init_W {M : Addr} (a : PySem.W.findIn K (.ref M) "__init__" = some (some (.ref f))) (i : PySem.W.isFn K (.ref f) = true) (m : PySem.W.makesIn K M = true) (kM : PySem.W.keepIn K (.ref M) = true)
    (l : K.lookup f = some ⟨oc, od, .func (PySem.W.fnOf "__init__" "Web.__init__" (defArgs sWInit) (defBody sWInit) (defScope sWInit) .none kV doc pm an cdv ct), osl⟩) (c : PySem.W.codeIn K cdv "Web.__init__" = true) (k : PySem.W.keepIn K (.ref f) = true) :
    ∃ f fd, Fun K "__init__" "Web.__init__" sWInit f fd ∧ Mk K M f ∧ Binds K fd ["self", "houses", "ties"] [] :=
  ⟨f, _, fun_mk l c k, ⟨m, a, i, kM⟩, (fun_mk l c k).binds fun _ _ _ _ _ _ us hl => match us, hl with | [_, _, _], _ => rfl⟩
end
section
variable {K : PySem.W.Frag} {h : Heap} {mg : Str → Option Value} {cn ql nm q : Str} {C N0 N fI : Addr} {bs sub : List Value} {sn : List Str} {ab : Bool} {col : Option Bool} {dd : Option Addr} {k0 k1 k2 k3 k5 : Option Value} {oc doc pm cdv ct : Value} {od an : Option Addr} {osl : Array (Option Value)} {p1 p2 q1 q2 q3 q4 : Pos}
theorem LAt_of_ (X : K.In h) (G : h.Ns mainGlobals mg) (a : PySem.W.nsIn K mainGlobals cn = some (some (.ref C))) (xl : K.lookup C = some (excClassObj nm q C N bs (.ref N0 :: veT) true sn sub ab col dd k0 k1 k2 k3 k5 "ValueError.__new__"))
    (sa : PySem.W.findIn K (.ref C) "__setattr__" = some (some (.builtin "object.__setattr__"))) (ga : PySem.W.findIn K (.ref C) "__getattribute__" = some (some (.builtin "BaseException.__getattribute__"))) (gg : PySem.W.findIn K (.ref C) "__getattr__" = some none) (no : PySem.W.findIn K (.ref C) "at" = some none)
    (ic : PySem.W.findIn K (.ref C) "__init__" = some (some (.ref fI))) (tc : PySem.W.typeIn K (.ref fI) = some (.type "function")) (kc : PySem.W.keepIn K (.ref C) = true) (ec : PySem.W.subIn K (.ref C) (.type "BaseException") = some true) (ty : PySem.W.typeIn K (.ref C) = some (.type "type")) (hc : PySem.W.hasDictIn K C = true)
    (l : K.lookup fI = some ⟨oc, od, .func (PySem.W.fnOf "__init__" ql (LAt.iA p1 p2) (LAt.iB q1 q2 q3 q4) LAt.iS .none .none doc pm an cdv ct), osl⟩) (c : PySem.W.codeIn K cdv ql = true) : ∃ q b i, LAt.Txt K mg cn q b C i :=
  ⟨ql, _, fI, ⟨PySem.W.mg_of X G a, ⟨nm, q, N, bs, sn, sub, ab, col, dd, k0, k1, k2, k3, k5, xl⟩, mro_ve N0, sa, ga, gg, no, ic, tc, kc, ec, ty, hc, ⟨oc, od, doc, pm, an, cdv, ct, osl, p1, p2, q1, q2, q3, q4, l, c⟩⟩⟩
theorem LHouse_of_ (X : K.In h) (G : h.Ns mainGlobals mg) (a : PySem.W.nsIn K mainGlobals cn = some (some (.ref C))) (xl : K.lookup C = some (excClassObj nm q C N bs keT true sn sub ab col dd k0 k1 k2 k3 k5 "LookupError.__new__"))
    (sa : PySem.W.findIn K (.ref C) "__setattr__" = some (some (.builtin "object.__setattr__"))) (ga : PySem.W.findIn K (.ref C) "__getattribute__" = some (some (.builtin "BaseException.__getattribute__"))) (gg : PySem.W.findIn K (.ref C) "__getattr__" = some none) (no : PySem.W.findIn K (.ref C) "house" = some none)
    (ic : PySem.W.findIn K (.ref C) "__init__" = some (some (.ref fI))) (tc : PySem.W.typeIn K (.ref fI) = some (.type "function")) (kc : PySem.W.keepIn K (.ref C) = true) (ec : PySem.W.subIn K (.ref C) (.type "BaseException") = some true) (ty : PySem.W.typeIn K (.ref C) = some (.type "type")) (hc : PySem.W.hasDictIn K C = true)
    (l : K.lookup fI = some ⟨oc, od, .func (PySem.W.fnOf "__init__" ql (LHouse.iA p1 p2) (LHouse.iB q1 q2 q3 q4) LHouse.iS .none .none doc pm an cdv ct), osl⟩) (c : PySem.W.codeIn K cdv ql = true) : ∃ q b i, LHouse.Txt K mg cn q b C i :=
  ⟨ql, _, fI, ⟨PySem.W.mg_of X G a, ⟨nm, q, N, bs, sn, sub, ab, col, dd, k0, k1, k2, k3, k5, xl⟩, mro_ke, sa, ga, gg, no, ic, tc, kc, ec, ty, hc, ⟨oc, od, doc, pm, an, cdv, ct, osl, p1, p2, q1, q2, q3, q4, l, c⟩⟩⟩
theorem LMost_of_ (X : K.In h) (G : h.Ns mainGlobals mg) (a : PySem.W.nsIn K mainGlobals cn = some (some (.ref C))) (xl : K.lookup C = some (excClassObj nm q C N bs (.ref N0 :: veT) true sn sub ab col dd k0 k1 k2 k3 k5 "ValueError.__new__"))
    (sa : PySem.W.findIn K (.ref C) "__setattr__" = some (some (.builtin "object.__setattr__"))) (ga : PySem.W.findIn K (.ref C) "__getattribute__" = some (some (.builtin "BaseException.__getattribute__"))) (gg : PySem.W.findIn K (.ref C) "__getattr__" = some none) (no : PySem.W.findIn K (.ref C) "most" = some none)
    (ic : PySem.W.findIn K (.ref C) "__init__" = some (some (.ref fI))) (tc : PySem.W.typeIn K (.ref fI) = some (.type "function")) (kc : PySem.W.keepIn K (.ref C) = true) (ec : PySem.W.subIn K (.ref C) (.type "BaseException") = some true) (ty : PySem.W.typeIn K (.ref C) = some (.type "type")) (hc : PySem.W.hasDictIn K C = true)
    (l : K.lookup fI = some ⟨oc, od, .func (PySem.W.fnOf "__init__" ql (LMost.iA p1 p2) (LMost.iB q1 q2 q3 q4) LMost.iS .none .none doc pm an cdv ct), osl⟩) (c : PySem.W.codeIn K cdv ql = true) : ∃ q b i, LMost.Txt K mg cn q b C i :=
  ⟨ql, _, fI, ⟨PySem.W.mg_of X G a, ⟨nm, q, N, bs, sn, sub, ab, col, dd, k0, k1, k2, k3, k5, xl⟩, mro_ve N0, sa, ga, gg, no, ic, tc, kc, ec, ty, hc, ⟨oc, od, doc, pm, an, cdv, ct, osl, p1, p2, q1, q2, q3, q4, l, c⟩⟩⟩
end
theorem cw_of {K : PySem.W.Frag} {h : Heap} {mg : Str → Option Value} {t0 t1 : Tok} (X : K.In h) (G : h.Ns mainGlobals mg) (a0 : PySem.W.nsIn K mainGlobals "MOST_HOUSES" = some (some (.int 12 t0))) (a1 : PySem.W.nsIn K mainGlobals "MOST_TIES" = some (some (.int 20 t1))) : Cw mg :=
  ⟨⟨_, PySem.W.mg_of X G a0⟩, ⟨_, PySem.W.mg_of X G a1⟩⟩
theorem kk_of {K : PySem.W.Frag} {h : Heap} {mg : Str → Option Value} {t0 : Tok} (X : K.In h) (G : h.Ns mainGlobals mg) (a0 : PySem.W.nsIn K mainGlobals "MOST_MEETINGS" = some (some (.int 10000 t0))) : Cm mg :=
  ⟨⟨_, PySem.W.mg_of X G a0⟩⟩
theorem bt_of {K : PySem.W.Frag} {h : Heap} {mg : Str → Option Value} (X : K.In h) (G : h.Ns mainGlobals mg) (z : ∀ x ∈ ([("isinstance" : Str), "int", "bool", "list", "tuple", "len", "enumerate", "range", "sorted", "set", "repr", "abs", "min", "max", "sum", "all", "any", "zip", "str", "dict", "KeyError"]), PySem.W.nsIn K mainGlobals x = some none) : Bt mg := by
  have n := fun x hx => PySem.W.mg_none_of X G (z x hx)
  exact ⟨n _ (by decide), n _ (by decide), n _ (by decide), n _ (by decide), n _ (by decide), n _ (by decide), n _ (by decide), n _ (by decide), n _ (by decide), n _ (by decide), n _ (by decide), n _ (by decide), n _ (by decide), n _ (by decide), n _ (by decide), n _ (by decide), n _ (by decide), n _ (by decide), n _ (by decide), n _ (by decide), n _ (by decide)⟩
theorem tab_mk {K : PySem.W.Frag} {x : Str} {f c Pt : Addr} {oc o1 : Value} {od o2 : Option Addr} {fd : FuncData} {osl o4 : Array (Option Value)} {vs : Array Value} (a : PySem.W.nsIn K mainGlobals x = some (some (.ref f))) (l : K.lookup f = some ⟨oc, od, .func fd, osl⟩) (hc : fd.code = .ref c)
    (lc : K.lookup c = some ⟨o1, o2, .fields vs, o4⟩) (hv : (vs[11]? : Option Value) = some (.ref Pt)) : PySem.W.tabIn K x = some (c, Pt) := by
  unfold PySem.W.tabIn
  rw [a]
  dsimp only
  rw [l]
  dsimp only
  rw [hc]
  dsimp only
  rw [lc]
  dsimp only
  rw [hv]
theorem dfG_of {K : PySem.W.Frag} {h : Heap} {mg : Str → Option Value} {f : Addr} {oc kV doc pm cdv ct : Value} {od an : Option Addr} {osl : Array (Option Value)} (X : K.In h) (G : h.Ns mainGlobals mg) (a : PySem.W.nsIn K mainGlobals "gone_ways" = some (some (.ref f)))
    (l : K.lookup f = some ⟨oc, od, .func (PySem.W.fnOf "gone_ways" "gone_ways" (defArgs sGoneWays) (defBody sGoneWays) (defScope sGoneWays) .none kV doc pm an cdv ct), osl⟩)
    (c : PySem.W.codeIn K cdv "gone_ways" = true) (k : PySem.W.keepIn K (.ref f) = true) : ∃ f fd, DfG K mg f fd :=
  ⟨f, _, ⟨fun_mk l c k, PySem.W.mg_of X G a⟩⟩
/-- the facts of the head, by the words that k_is answers -/
theorem tp_of {K : PySem.W.Frag} {h : Heap} {mg : Str → Option Value} {fa fN W CW CH CB CR CG NErr : Addr} {oc kV doc pm ct : Value} {od an : Option Addr} {osl : Array (Option Value)} {c Pt : Addr} {o1 : Value} {o2 : Option Addr} {o4 : Array (Option Value)} {vs : Array Value} {cm Pm fNm : Addr} {ocm kVm docm pmm ctm o1m : Value} {odm anm o2m : Option Addr} {oslm o4m : Array (Option Value)} {vsm : Array Value} {cn Pn fNn : Addr} {ocn kVn docn pmn ctn o1n : Value} {odn ann o2n : Option Addr} {osln o4n : Array (Option Value)} {vsn : Array Value} (X : K.In h) (G : h.Ns mainGlobals mg)
    (B : Bt mg) (gg : ∃ f fd, DfG K mg f fd) (cw : Cw mg) (kk : Cm mg)
    (whole : ∃ f fd, Df K mg "is_whole" sWhole ["value"] f fd)
    (below : ∃ f fd, Df K mg "is_below" sBelow ["value", "limit"] f fd)
    (seq : ∃ f fd, Df K mg "is_sequence" sSeq ["value", "least", "most"] f fd)
    (fnb : ∃ f fd, Df K mg "first_not_below" sFnb ["items", "limit"] f fd)
    (pair : ∃ f fd, Df K mg "is_pair" sPair ["value", "houses"] f fd)
    (cties : ∃ f fd, Df K mg "checked_ties" sCTies ["houses", "ties"] f fd)
    (needH : ∃ f fd, Df K mg "need_house" sNeedH ["web", "house"] f fd)
    (cby : ∃ f fd, Df K mg "counted_by" sCBy ["modulus", "number"] f fd)
    (chk : ∃ f fd, Df K mg "check_meetings" sCheckMeetings ["web", "value"] f fd)
    (oneAt : ∃ f fd, Df K mg "one_at" sOneAt ["web", "place"] f fd)
    (cb : ∃ f fd, Df K mg "counts_behind" sCountsBehind ["web", "counts", "meetings", "modulus"] f fd)
    (parted : ∃ f fd, Df K mg "parted" sParted ["web", "counts"] f fd)
    (wc : ∃ f fd, Df K mg "way_counts" sWayCounts ["web", "house", "meetings"] f fd)
    (wg : ∃ f fd, Df K mg "ways_gone" sWaysGone ["web", "house", "meetings"] f fd)
    (box : ∃ f fd, Df K mg "_law_box" sLBox ["_law_script", "_law_k"] f fd)
    (take : ∃ f fd, Df K mg "_law_take" sLTake ["_law_box_here", "_law_many"] f fd)
    (pick : ∃ f fd, Df K mg "_law_pick" sLPick ["_law_box_here", "_law_some"] f fd)
    (ties : ∃ f fd, Df K mg "_law_ties" sLTies ["_law_box_here", "_law_houses", "_law_most"] f fd)
    (metL : ∃ f fd, Df K mg "_law_met" sLMet ["_law_ties_here", "_law_houses", "_law_counts", "_law_meetings"] f fd)
    (begun : ∃ f fd, Df K mg "_law_begun" sLBegun ["_law_ties_here", "_law_houses", "_law_house"] f fd)
    (split : ∃ f fd, Df K mg "_law_split" sLSplit ["_law_houses", "_law_counts"] f fd)
    (lways : ∃ f fd, Df K mg "_law_ways" sLWays ["_law_ties_here", "_law_house", "_law_meetings"] f fd)
    (heard : ∃ f fd, Df K mg "_law_heard" sLHeard ["_law_ask"] f fd)
    (eL : mg "law" = some (.ref fa)) (aN : PySem.W.nsIn K mainGlobals "law" = some (some (.ref fN))) (lN : K.lookup fN = some ⟨oc, od, .func (PySem.W.fnOf "law" "law" (defArgs sLaw) (defBody sLaw) (defScope sLaw) .none kV doc pm an (.ref c) ct), osl⟩)
    (cN : PySem.W.codeIn K (.ref c) "law" = true) (kN : PySem.W.keepIn K (.ref fN) = true) (lc : K.lookup c = some ⟨o1, o2, .fields vs, o4⟩) (hv : (vs[11]? : Option Value) = some (.ref Pt)) (nP : K.lookup Pt = Option.none)
    (aNm : PySem.W.nsIn K mainGlobals "_law_moment_right" = some (some (.ref fNm))) (lNm : K.lookup fNm = some ⟨ocm, odm, .func (PySem.W.fnOf "_law_moment_right" "_law_moment_right" (defArgs sLMomentRight) (defBody sLMomentRight) (defScope sLMomentRight) .none kVm docm pmm anm (.ref cm) ctm), oslm⟩)
    (cNm : PySem.W.codeIn K (.ref cm) "_law_moment_right" = true) (kNm : PySem.W.keepIn K (.ref fNm) = true) (lcm : K.lookup cm = some ⟨o1m, o2m, .fields vsm, o4m⟩) (hvm : (vsm[11]? : Option Value) = some (.ref Pm)) (nPm : K.lookup Pm = Option.none)
    (aNn : PySem.W.nsIn K mainGlobals "_law_none_right" = some (some (.ref fNn))) (lNn : K.lookup fNn = some ⟨ocn, odn, .func (PySem.W.fnOf "_law_none_right" "_law_none_right" (defArgs sLNoneRight) (defBody sLNoneRight) (defScope sLNoneRight) .none kVn docn pmn ann (.ref cn) ctn), osln⟩)
    (cNn : PySem.W.codeIn K (.ref cn) "_law_none_right" = true) (kNn : PySem.W.keepIn K (.ref fNn) = true) (lcn : K.lookup cn = some ⟨o1n, o2n, .fields vsn, o4n⟩) (hvn : (vsn[11]? : Option Value) = some (.ref Pn)) (nPn : K.lookup Pn = Option.none)
    (nPtPm : Pt ≠ Pm)
    (nPtPn : Pt ≠ Pn)
    (nPmPn : Pm ≠ Pn)
    (ac_W : PySem.W.nsIn K mainGlobals "Web" = some (some (.ref W))) (pgW : PySem.W.plainGet K W Str.empty = true) (hdW : PySem.W.hasDictIn K W = true) (poW : PySem.W.plainOver K W = true) (saW : PySem.W.findIn K (.ref W) "__setattr__" = some (some (.builtin "object.__setattr__"))) (nW0 : PySem.W.findIn K (.ref W) "ties" = some Option.none) (nW1 : PySem.W.findIn K (.ref W) "houses" = some Option.none)
    (initW : ∃ f fd, Fun K "__init__" "Web.__init__" sWInit f fd ∧ Mk K W f ∧ Binds K fd ["self", "houses", "ties"] [])
    (t1 : ∃ q b i, LAt.Txt K mg "BadWeb" q b CW i)
    (t2 : ∃ q b i, LHouse.Txt K mg "NoHouse" q b CH i)
    (t3 : ∃ q b i, LAt.Txt K mg "BadSteps" q b CB i)
    (t4 : ∃ q b i, LAt.Txt K mg "Refused" q b CR i)
    (t5 : ∃ q b i, LMost.Txt K mg "TooGreat" q b CG i)
    (aNE : PySem.W.nsIn K mainGlobals "NetError" = some (some (.ref NErr))) (ex : Exm K CH CB CR CG NErr)
    : ∃ (W CW CH CB CR CG c Pt cm Pm cn Pn fm fn : Addr) (fd fdm fdn : FuncData), Tp K mg W CW CH CB CR CG c Pt cm Pm cn Pn fa fm fn fd fdm fdn := by
  obtain ⟨fd, l1, l2⟩ := law_of X G eL aN lN cN kN
  obtain ⟨fm, fdm, dm, lm⟩ := dfc_of (ps := ["_law_box_here", "_law_web", "_law_ties_here", "_law_houses", "_law_house", "_law_meetings", "_law_counts"]) X G aNm lNm cNm kNm fun _ _ _ _ _ _ us hl => match us, hl with | [_, _, _, _, _, _, _], _ => rfl
  obtain ⟨fn, fdn, dn, ln⟩ := dfc_of (ps := ["_law_box_here", "_law_web", "_law_ties_here", "_law_houses"]) X G aNn lNn cNn kNn fun _ _ _ _ _ _ us hl => match us, hl with | [_, _, _, _], _ => rfl
  exact ⟨W, CW, CH, CB, CR, CG, c, Pt, cm, Pm, cn, Pn, fm, fn, fd, fdm, fdn, ⟨B, gg, cw, kk, whole, below, seq, fnb, pair, cties, needH, cby, chk, oneAt, cb, parted, wc, wg, box, take, pick, ties, metL, begun, split, lways, heard, lm, dm, ln, dn, l1, l2, initW, ⟨⟨pgW, hdW, poW, saW⟩, nW0, nW1, PySem.W.mg_of X G ac_W⟩, t1, t2, t3, t4, t5, ⟨NErr, PySem.W.mg_of X G aNE, ex⟩, tab_mk aN lN rfl lc hv, nP, tab_mk aNm lNm rfl lcm hvm, nPm, tab_mk aNn lNn rfl lcn hvn, nPn, nPtPm, nPtPn, nPmPn⟩⟩
end K1
open PySem PySem.W PyProof.Rows
set_option maxRecDepth 100000 in
set_option maxHeartbeats 0 in
theorem PySem.Challenge.cw_houseslessties_k42_whole_counts_are_ways_holds : PySem.Challenge.rw_houseslessties_k42_whole_counts_are_ways.Holds := by
  w_on; o_law; k_head; (case hw => w_witness2)
  k_fill
  refine K1.walkK (l := PySem.Challenge.rw_houseslessties_k42_whole_counts_are_ways) rfl rfl (fun w h Y => PySem.W.km_in_of Y) ?hr ?hrm ?hrn ?F
  case hr => exact ⟨_, rfl⟩
  case hrm => exact ⟨_, rfl⟩
  case hrn => exact ⟨_, rfl⟩
  case F =>
    intro w mg fa h KX G hmg
    refine' K1.tp_of KX G ?B ?gg ?cw ?kk ?zwhole ?zbelow ?zseq ?zfnb ?zpair ?zcties ?zneedH ?zcby ?zchk ?zoneAt ?zcb ?zparted ?zwc ?zwg ?zbox ?ztake ?zpick ?zties ?zmetL ?zbegun ?zsplit ?zlways ?zheard hmg ?aN ?lN ?cN ?kN ?lc ?hv ?nP ?aNm ?lNm ?cNm ?kNm ?lcm ?hvm ?nPm ?aNn ?lNn ?cNn ?kNn ?lcn ?hvn ?nPn ?nPtPm ?nPtPn ?nPmPn ?ac_W ?pgW ?hdW ?poW ?saW ?nW0 ?nW1 ?initW ?t1 ?t2 ?t3 ?t4 ?t5 ?aNE ?ex
    case B =>
      refine K1.bt_of KX G fun x hx => ?_
      simp only [List.mem_cons, List.mem_nil_iff, or_false] at hx
      rcases hx with rfl | rfl | rfl | rfl | rfl | rfl | rfl | rfl | rfl | rfl | rfl | rfl | rfl | rfl | rfl | rfl | rfl | rfl | rfl | rfl | rfl <;> k_is
    case gg => refine' K1.dfG_of (by assumption) (by assumption) ?aR ?lR ?cR ?kR; (case aR => k_is); (case lR => k_is); (case cR => k_is); (case kR => k_is)
    case cw => refine' K1.cw_of KX G ?acw0 ?acw1; (case acw0 => k_is); (case acw1 => k_is)
    case kk => refine' K1.kk_of KX G ?akk0; (case akk0 => k_is)
    case zwhole =>
      (refine' K1.df_of (by assumption) (by assumption) ?a_0 ?l_0 ?c_0 ?k_0 ?b_0; (case a_0 => k_is); (case l_0 => k_is); (case c_0 => k_is); (case k_0 => k_is))
      case b_0 => exact fun _ _ _ _ _ _ us hl => match us, hl with | [_], _ => rfl
    case zbelow =>
      (refine' K1.df_of (by assumption) (by assumption) ?a_1 ?l_1 ?c_1 ?k_1 ?b_1; (case a_1 => k_is); (case l_1 => k_is); (case c_1 => k_is); (case k_1 => k_is))
      case b_1 => exact fun _ _ _ _ _ _ us hl => match us, hl with | [_, _], _ => rfl
    case zseq =>
      (refine' K1.df_of (by assumption) (by assumption) ?a_2 ?l_2 ?c_2 ?k_2 ?b_2; (case a_2 => k_is); (case l_2 => k_is); (case c_2 => k_is); (case k_2 => k_is))
      case b_2 => exact fun _ _ _ _ _ _ us hl => match us, hl with | [_, _, _], _ => rfl
    case zfnb =>
      (refine' K1.df_of (by assumption) (by assumption) ?a_3 ?l_3 ?c_3 ?k_3 ?b_3; (case a_3 => k_is); (case l_3 => k_is); (case c_3 => k_is); (case k_3 => k_is))
      case b_3 => exact fun _ _ _ _ _ _ us hl => match us, hl with | [_, _], _ => rfl
    case zpair =>
      (refine' K1.df_of (by assumption) (by assumption) ?a_4 ?l_4 ?c_4 ?k_4 ?b_4; (case a_4 => k_is); (case l_4 => k_is); (case c_4 => k_is); (case k_4 => k_is))
      case b_4 => exact fun _ _ _ _ _ _ us hl => match us, hl with | [_, _], _ => rfl
    case zcties =>
      (refine' K1.df_of (by assumption) (by assumption) ?a_5 ?l_5 ?c_5 ?k_5 ?b_5; (case a_5 => k_is); (case l_5 => k_is); (case c_5 => k_is); (case k_5 => k_is))
      case b_5 => exact fun _ _ _ _ _ _ us hl => match us, hl with | [_, _], _ => rfl
    case zneedH =>
      (refine' K1.df_of (by assumption) (by assumption) ?a_6 ?l_6 ?c_6 ?k_6 ?b_6; (case a_6 => k_is); (case l_6 => k_is); (case c_6 => k_is); (case k_6 => k_is))
      case b_6 => exact fun _ _ _ _ _ _ us hl => match us, hl with | [_, _], _ => rfl
    case zcby =>
      (refine' K1.df_of (by assumption) (by assumption) ?a_7 ?l_7 ?c_7 ?k_7 ?b_7; (case a_7 => k_is); (case l_7 => k_is); (case c_7 => k_is); (case k_7 => k_is))
      case b_7 => exact fun _ _ _ _ _ _ us hl => match us, hl with | [_, _], _ => rfl
    case zchk =>
      (refine' K1.df_of (by assumption) (by assumption) ?a_8 ?l_8 ?c_8 ?k_8 ?b_8; (case a_8 => k_is); (case l_8 => k_is); (case c_8 => k_is); (case k_8 => k_is))
      case b_8 => exact fun _ _ _ _ _ _ us hl => match us, hl with | [_, _], _ => rfl
    case zoneAt =>
      (refine' K1.df_of (by assumption) (by assumption) ?a_9 ?l_9 ?c_9 ?k_9 ?b_9; (case a_9 => k_is); (case l_9 => k_is); (case c_9 => k_is); (case k_9 => k_is))
      case b_9 => exact fun _ _ _ _ _ _ us hl => match us, hl with | [_, _], _ => rfl
    case zcb =>
      (refine' K1.df_of (by assumption) (by assumption) ?a_10 ?l_10 ?c_10 ?k_10 ?b_10; (case a_10 => k_is); (case l_10 => k_is); (case c_10 => k_is); (case k_10 => k_is))
      case b_10 => exact fun _ _ _ _ _ _ us hl => match us, hl with | [_, _, _, _], _ => rfl
    case zparted =>
      (refine' K1.df_of (by assumption) (by assumption) ?a_11 ?l_11 ?c_11 ?k_11 ?b_11; (case a_11 => k_is); (case l_11 => k_is); (case c_11 => k_is); (case k_11 => k_is))
      case b_11 => exact fun _ _ _ _ _ _ us hl => match us, hl with | [_, _], _ => rfl
    case zwc =>
      (refine' K1.df_of (by assumption) (by assumption) ?a_12 ?l_12 ?c_12 ?k_12 ?b_12; (case a_12 => k_is); (case l_12 => k_is); (case c_12 => k_is); (case k_12 => k_is))
      case b_12 => exact fun _ _ _ _ _ _ us hl => match us, hl with | [_, _, _], _ => rfl
    case zwg =>
      (refine' K1.df_of (by assumption) (by assumption) ?a_13 ?l_13 ?c_13 ?k_13 ?b_13; (case a_13 => k_is); (case l_13 => k_is); (case c_13 => k_is); (case k_13 => k_is))
      case b_13 => exact fun _ _ _ _ _ _ us hl => match us, hl with | [_, _, _], _ => rfl
    case zbox =>
      (refine' K1.df_of (by assumption) (by assumption) ?a_14 ?l_14 ?c_14 ?k_14 ?b_14; (case a_14 => k_is); (case l_14 => k_is); (case c_14 => k_is); (case k_14 => k_is))
      case b_14 => exact fun _ _ _ _ _ _ us hl => match us, hl with | [_, _], _ => rfl
    case ztake =>
      (refine' K1.df_of (by assumption) (by assumption) ?a_15 ?l_15 ?c_15 ?k_15 ?b_15; (case a_15 => k_is); (case l_15 => k_is); (case c_15 => k_is); (case k_15 => k_is))
      case b_15 => exact fun _ _ _ _ _ _ us hl => match us, hl with | [_, _], _ => rfl
    case zpick =>
      (refine' K1.df_of (by assumption) (by assumption) ?a_16 ?l_16 ?c_16 ?k_16 ?b_16; (case a_16 => k_is); (case l_16 => k_is); (case c_16 => k_is); (case k_16 => k_is))
      case b_16 => exact fun _ _ _ _ _ _ us hl => match us, hl with | [_, _], _ => rfl
    case zties =>
      (refine' K1.df_of (by assumption) (by assumption) ?a_17 ?l_17 ?c_17 ?k_17 ?b_17; (case a_17 => k_is); (case l_17 => k_is); (case c_17 => k_is); (case k_17 => k_is))
      case b_17 => exact fun _ _ _ _ _ _ us hl => match us, hl with | [_, _, _], _ => rfl
    case zmetL =>
      (refine' K1.df_of (by assumption) (by assumption) ?a_18 ?l_18 ?c_18 ?k_18 ?b_18; (case a_18 => k_is); (case l_18 => k_is); (case c_18 => k_is); (case k_18 => k_is))
      case b_18 => exact fun _ _ _ _ _ _ us hl => match us, hl with | [_, _, _, _], _ => rfl
    case zbegun =>
      (refine' K1.df_of (by assumption) (by assumption) ?a_19 ?l_19 ?c_19 ?k_19 ?b_19; (case a_19 => k_is); (case l_19 => k_is); (case c_19 => k_is); (case k_19 => k_is))
      case b_19 => exact fun _ _ _ _ _ _ us hl => match us, hl with | [_, _, _], _ => rfl
    case zsplit =>
      (refine' K1.df_of (by assumption) (by assumption) ?a_20 ?l_20 ?c_20 ?k_20 ?b_20; (case a_20 => k_is); (case l_20 => k_is); (case c_20 => k_is); (case k_20 => k_is))
      case b_20 => exact fun _ _ _ _ _ _ us hl => match us, hl with | [_, _], _ => rfl
    case zlways =>
      (refine' K1.df_of (by assumption) (by assumption) ?a_21 ?l_21 ?c_21 ?k_21 ?b_21; (case a_21 => k_is); (case l_21 => k_is); (case c_21 => k_is); (case k_21 => k_is))
      case b_21 => exact fun _ _ _ _ _ _ us hl => match us, hl with | [_, _, _], _ => rfl
    case zheard =>
      (refine' K1.df_of (by assumption) (by assumption) ?a_22 ?l_22 ?c_22 ?k_22 ?b_22; (case a_22 => k_is); (case l_22 => k_is); (case c_22 => k_is); (case k_22 => k_is))
      case b_22 => exact fun _ _ _ _ _ _ us hl => match us, hl with | [_], _ => rfl
    (case aN => k_is); (case lN => k_is); (case cN => k_is); (case kN => k_is); (case lc => k_is); (case hv => rfl); (case nP => kernel_rfl)
    (case aNm => k_is); (case lNm => k_is); (case cNm => k_is); (case kNm => k_is); (case lcm => k_is); (case hvm => rfl); (case nPm => kernel_rfl)
    (case aNn => k_is); (case lNn => k_is); (case cNn => k_is); (case kNn => k_is); (case lcn => k_is); (case hvn => rfl); (case nPn => kernel_rfl)
    (case nPtPm => decide)
    (case nPtPn => decide)
    (case nPmPn => decide)
    (case ac_W => k_is); (case pgW => k_is); (case hdW => k_is); (case poW => k_is); (case saW => k_is); (case nW0 => k_is); (case nW1 => k_is)
    case initW => refine' K1.init_W ?a_IW ?i_IW ?m_IW ?kM_IW ?l_IW ?c_IW ?k_IW; (case a_IW => k_is); (case i_IW => k_is); (case m_IW => k_is); (case kM_IW => k_is); (case l_IW => k_is); (case c_IW => k_is); (case k_IW => k_is)
    case t1 => (refine' K1.LAt_of_ (by assumption) (by assumption) ?a_t1 ?xl_t1 ?sa_t1 ?ga_t1 ?gg_t1 ?no_t1 ?ic_t1 ?tc_t1 ?kc_t1 ?ec_t1 ?ty_t1 ?hc_t1 ?l_t1 ?c_t1; (case a_t1 => k_is); (case xl_t1 => k_is); (case sa_t1 => k_is); (case ga_t1 => k_is); (case gg_t1 => k_is); (case no_t1 => k_is); (case ic_t1 => k_is); (case tc_t1 => k_is); (case kc_t1 => k_is); (case ec_t1 => k_is); (case ty_t1 => k_is); (case hc_t1 => k_is); (case l_t1 => k_is); (case c_t1 => k_is))
    case t2 => (refine' K1.LHouse_of_ (by assumption) (by assumption) ?a_t2 ?xl_t2 ?sa_t2 ?ga_t2 ?gg_t2 ?no_t2 ?ic_t2 ?tc_t2 ?kc_t2 ?ec_t2 ?ty_t2 ?hc_t2 ?l_t2 ?c_t2; (case a_t2 => k_is); (case xl_t2 => k_is); (case sa_t2 => k_is); (case ga_t2 => k_is); (case gg_t2 => k_is); (case no_t2 => k_is); (case ic_t2 => k_is); (case tc_t2 => k_is); (case kc_t2 => k_is); (case ec_t2 => k_is); (case ty_t2 => k_is); (case hc_t2 => k_is); (case l_t2 => k_is); (case c_t2 => k_is))
    case t3 => (refine' K1.LAt_of_ (by assumption) (by assumption) ?a_t3 ?xl_t3 ?sa_t3 ?ga_t3 ?gg_t3 ?no_t3 ?ic_t3 ?tc_t3 ?kc_t3 ?ec_t3 ?ty_t3 ?hc_t3 ?l_t3 ?c_t3; (case a_t3 => k_is); (case xl_t3 => k_is); (case sa_t3 => k_is); (case ga_t3 => k_is); (case gg_t3 => k_is); (case no_t3 => k_is); (case ic_t3 => k_is); (case tc_t3 => k_is); (case kc_t3 => k_is); (case ec_t3 => k_is); (case ty_t3 => k_is); (case hc_t3 => k_is); (case l_t3 => k_is); (case c_t3 => k_is))
    case t4 => (refine' K1.LAt_of_ (by assumption) (by assumption) ?a_t4 ?xl_t4 ?sa_t4 ?ga_t4 ?gg_t4 ?no_t4 ?ic_t4 ?tc_t4 ?kc_t4 ?ec_t4 ?ty_t4 ?hc_t4 ?l_t4 ?c_t4; (case a_t4 => k_is); (case xl_t4 => k_is); (case sa_t4 => k_is); (case ga_t4 => k_is); (case gg_t4 => k_is); (case no_t4 => k_is); (case ic_t4 => k_is); (case tc_t4 => k_is); (case kc_t4 => k_is); (case ec_t4 => k_is); (case ty_t4 => k_is); (case hc_t4 => k_is); (case l_t4 => k_is); (case c_t4 => k_is))
    case t5 => (refine' K1.LMost_of_ (by assumption) (by assumption) ?a_t5 ?xl_t5 ?sa_t5 ?ga_t5 ?gg_t5 ?no_t5 ?ic_t5 ?tc_t5 ?kc_t5 ?ec_t5 ?ty_t5 ?hc_t5 ?l_t5 ?c_t5; (case a_t5 => k_is); (case xl_t5 => k_is); (case sa_t5 => k_is); (case ga_t5 => k_is); (case gg_t5 => k_is); (case no_t5 => k_is); (case ic_t5 => k_is); (case tc_t5 => k_is); (case kc_t5 => k_is); (case ec_t5 => k_is); (case ty_t5 => k_is); (case hc_t5 => k_is); (case l_t5 => k_is); (case c_t5 => k_is))
    (case aNE => k_is)
    case ex =>
      refine' ⟨?e0, ?e1, ?e2, ?e3, ?e4, ?e5, ?e6, ?e7, ?e8, ?e9, ?e10, ?e11, ?e12, ⟨?x0_0, ?x0_1, ?x0_2, ?x0_3, ?x0_4, ?x0_5, ?x0_6, ?x0_7⟩, ⟨?x1_0, ?x1_1, ?x1_2, ?x1_3, ?x1_4, ?x1_5, ?x1_6, ?x1_7⟩, ⟨?x2_0, ?x2_1, ?x2_2, ?x2_3, ?x2_4, ?x2_5, ?x2_6, ?x2_7⟩, ⟨?x3_0, ?x3_1, ?x3_2, ?x3_3, ?x3_4, ?x3_5, ?x3_6, ?x3_7⟩⟩
      all_goals first | k_is | kernel_rfl
