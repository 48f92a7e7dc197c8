import PyProof.Rows.All
import Wide.All
import OpenK.AllK
import Wide.FinOn
import HandS.ForMost
import HandS.ForExc
import HandS.ExcInit
import PyProof.ExcBaseAll.LookupError
import KE.KExcIs
import HandS.IsInst
import KE.GoesEnum
import PyProof.ReprRoads
import PySem.Challenge.RW_houseslessties_k44_whole_far_rounds_and
import HandS.TryMany
import HandS.Lambda
import HandS.Nested
import HandS.EndTab
import HandS.DictTup
import HandS.OwnEq
import HandS.Strs
import HandS.Conv
import HandS.TupAny
import HandS.TupMul
import HandS.SortInts
import HandS.Style
import HandS.MakeKw
import HandS.Defaults
import HandS.TupLe
import HandS.SetKeys
import HandS.SetFor
import HandS.RaiseMore
import HandS.CallLocal
import HandS.Base
import HandS.Call
import HandS.Exc
import HandS.Zip
import HandS.Gcd
import KE.GoesZip
import KE.GoesMore
import HandS.Iter
import HandS.MakeKwOnly
import PyProof.Rows.ReprOcc
import HandS.Flow
import HandS.WordsDict
import HandS.EndBits
set_option Elab.async false
set_option linter.all false
set_option maxRecDepth 100000
set_option maxHeartbeats 4000000
/-! exceptions of own classes whose base may be ValueError or KeyError: what is asked of the chain of classes stands as premises -/
namespace K1
open PySem PySem.HandSPX Builtin Builtin.ObjectAttr
/-- what the chain of classes behind the own one must be -/
structure Mro (B : String) (bm : List Value) : Prop where
  b : bm.contains (.type B) = true
  a : bm.contains (.type "AttributeError") = false
  n : bm.contains (.type "NameError") = false
  o : bm.contains (.type "object") = true
  p : ∀ self : Value, refuseLoop self "__setattr__" bm = pure ()
section
variable {prog : Program} {w : World} {A : Around} {E : Value → Shared → Prop} {R : Result → Shared → Prop} {h : Heap} {g : Array GenState} {d : Drawn} {t : Nat} {os : OsState}
variable {nm q : Str} {C N : Addr} {bs bm bmB : List Value} {hdct : Bool} {sn : List Str} {sub : List Value} {ab : Bool} {col : Option Bool} {dd : Option Addr} {k0 k1 k2 k3 k5 : Option Value} {B newId initId : String}
theorem check_newG {M : Model} (F : ExcBaseFacts B newId initId bmB) (T : Mro B bm) {rest : List Value} {Q : Unit → Shared → Prop}
    (hC : h.get? C = some (excClassObj nm q C N bs bm hdct sn sub ab col dd k0 k1 k2 k3 k5 newId)) (hq : Q () ⟨h, g, d, t, os⟩) : wpAny M A (checkBuiltinCall newId ⟨.ref C :: rest, []⟩) Q E ⟨h, g, d, t, os⟩ := by
  have hcont : (Value.ref C :: bm).contains (.type B) = true := by rw [List.contains_cons, T.b, Bool.or_true]
  have hstar := F.noStar
  simp only [checkBuiltinCall, F.newKind, F.newSplit, F.newRow]
  repeat (first | refine wpAny_loadPart_at hC ?_ | (refine wpAny_isSubtype_exc hC ?_; rw [hcont]) | refine wpAny_staticBase_exc hC ?_ | refine wpAny_madeBy_exc hC ?_ | simp only [bne_self_eq_false, Bool.false_eq_true, if_false] | wp_step)
  exact hq
theorem newG (F : ExcBaseFacts B newId initId bmB) (T : Mro B bm) {rest : List Value}
    (hC : h.get? C = some (excClassObj nm q C N bs bm hdct sn sub ab col dd k0 k1 k2 k3 k5 newId))
    (hq : R (.ok (.ret (.ref (h.objs.size + 1)))) ⟨(h.push { cls := .type "tuple", data := .seq rest.toArray }).push
      { cls := .ref C, data := .fields #[.ref h.objs.size, .none, .none, .none, .bool false, .none] }, g, d, t, os⟩) (hrest : rest.length ≤ sizeLine) :
    codeAny (model prog w) A (.builtin newId ⟨.ref C :: rest, []⟩) R ⟨h, g, d, t, os⟩ := by
  have hends := F.ends
  have hcB : (Value.ref C :: bm).contains (.type B) = true := by rw [List.contains_cons, T.b, Bool.or_true]
  have hcA : (Value.ref C :: bm).contains (.type "AttributeError") = false := by rw [List.contains_cons, T.a]; rfl
  have hcN : (Value.ref C :: bm).contains (.type "NameError") = false := by rw [List.contains_cons, T.n]; rfl
  refine codeAny_builtinAt F.entry ?_
  unfold Builtin.«BaseException.__new__»
  refine wpAt_bind ?_
  show wpAt _ _ _ (stack >>= _) _ _ _
  refine wpAt_bind (wpAt_stack fun p below => wpAt_of_wpAny ?_)
  wp_walk
  refine wpAt_of_wpAny ?_
  rw [F.owner]
  repeat (first | with_reducible refine wpAny_madeHere_exc F.canon hC ?_ | with_reducible refine wpAny_loadPart_at hC ?_ | (with_reducible refine wpAny_isSubtype_exc hC ?_; first | rw [hcB] | rw [hcA] | rw [hcN]) | wp_step)
  show R _ _
  rw [Heap.size_push]
  exact hq
theorem type_callG (F : ExcBaseFacts B newId initId bmB) (T : Mro B bm) {rest : List Value} {fI : Addr} {Q : Fin → Shared → Prop}
    (hC : h.get? C = some (excClassObj nm q C N bs bm hdct sn sub ab col dd k0 k1 k2 k3 k5 newId))
    (hi : W.Looks (model prog w) h (typeLookup (.ref C) "__init__") (some (.ref fI))) (hb : ∀ self, W.Looks (model prog w) h (bindSpecial (.ref fI) self) (.ref fI, [self])) (hrest : rest.length ≤ sizeLine)
    (hq : codeAny (model prog w) A (.call (.ref fI) ⟨.ref (h.objs.size + 1) :: rest, []⟩)
      (fun r s' => match r with | .ok (.ret v) => v = .none ∧ Q (.done (.ret (.ref (h.objs.size + 1)))) s' | .ok _ => False | .error e => E e s')
      ⟨(h.push (W.kdv_tup rest)).push (excO C h.objs.size), g, d, t, os⟩) :
    wpAny (model prog w) A (Builtin.«type.__call__» ⟨.ref C :: rest, []⟩) Q E ⟨h, g, d, t, os⟩ := by
  repeat (first | with_reducible refine wpAny_loadPart_at hC ?_ | with_reducible refine wpAny_madeBy_exc hC ?_ | wp_step)
  refine codeAny_call_builtin_code (Code.quiet_builtin _ F.quiet) (check_newG F T hC ?_)
  refine newG F T hC ?_ hrest
  show wpAny _ _ _ _ _ _
  have k : ∀ b o, h.get? b = some o → ((h.push (W.kdv_tup rest)).push (excO C h.objs.size)).get? b = some o := fun b o e => Heap.get?_push_of_some _ (Heap.get?_push_of_some _ e)
  have hC₁ := k _ _ hC
  have hget : ((h.push (W.kdv_tup rest)).push (excO C h.objs.size)).get? (h.objs.size + 1) = some (excO C h.objs.size) := by heap_get
  have hcC : (Value.ref C :: bm).contains (.ref C) = true := by simp
  have i1 := hi.keeps k
  have b1 := (hb (.ref (h.objs.size + 1))).keeps k
  unfold isInstance
  repeat (first | with_reducible refine wpAny_loadPart_at hget ?_ | (with_reducible refine wpAny_isSubtype_exc hC₁ ?_; rw [hcC]) | wp_step)
  show wpAny _ _ (typeLookup (.ref C) _) _ _ _
  refine i1.at ?_
  refine wpAny_holding (wpAny_bind (b1.at ?_))
  refine wpAny_bind (wpAny_call (codeAny_mono hq fun r s' z => ?_))
  rcases r with e | (v | _ | _ | _) <;> first | exact z | exact z.elim | skip
  obtain ⟨rfl, z⟩ := z
  first
    | exact wpAny_pure (wpAny_pure z)
    | (wp_walk; exact z)
theorem call_ownG (F : ExcBaseFacts B newId initId bmB) (T : Mro B bm) {rest : List Value} {fI : Addr}
    (hC : h.get? C = some (excClassObj nm q C N bs bm hdct sn sub ab col dd k0 k1 k2 k3 k5 newId))
    (hi : W.Looks (model prog w) h (typeLookup (.ref C) "__init__") (some (.ref fI))) (hb : ∀ self, W.Looks (model prog w) h (bindSpecial (.ref fI) self) (.ref fI, [self])) (hrest : rest.length ≤ sizeLine)
    (hq : codeAny (model prog w) (A.under (.builtin "type.__call__" ⟨.ref C :: rest, []⟩)) (.call (.ref fI) ⟨.ref (h.objs.size + 1) :: rest, []⟩) (W.InitBack (h.objs.size + 1) R)
      ⟨(h.push (W.kdv_tup rest)).push (excO C h.objs.size), g, d, t, os⟩) :
    codeAny (model prog w) A (.call (.ref C) ⟨rest, []⟩) R ⟨h, g, d, t, os⟩ := by
  have f1 := tc_lookup
  have f2 := tc_bind (.ref C)
  have hTy : (⟨h, g, d, t, os⟩ : Shared).TypeIs (.ref C) "type" := ⟨_, hC, rfl⟩
  refine codeAny_of_tree ?_
  show wpAny _ _ (callAny (.ref C) _) _ _ _
  repeat (any_goals (first | assumption | with_reducible refine wpAny_loadPart_at hC ?_ | wp_step))
  refine ⟨rfl, ?_⟩
  refine codeAny_call_builtin_at (Code.quiet_builtin _ (by decide +kernel)) entry_typeCall (wpAny_check_type_call_sub hC (type_callG F T hC hi hb hrest ?_))
  refine codeAny_mono hq fun r s' z => ?_
  rcases r with e | (v | _ | _ | _) <;> exact z
end
section
variable {prog : Program} {w : World} {A : Around} {E : Value → Shared → Prop} {R : Result → Shared → Prop} {hp : Heap} {g : Array GenState} {d : Drawn} {t : Nat} {os : OsState}
theorem exc_osaG {K : W.Frag} {name : Str} {tk : Tok} {v : Value} {x C : Addr} {fv : Array Value} {cd : ClassData} {B : String} {bm : List Value}
    (X : K.In hp) (hx : hp.get? x = some { cls := .ref C, data := .fields fv }) (hcd : W.clsIn K C = some cd) (hm : cd.mro = .ref C :: bm) (T : Mro B bm) (hh : cd.hasDict = true) (ha : W.findIn K (.ref C) name = some none)
    (hq : ∀ h' tk' dx, (∀ b o, b ≠ x → hp.get? b = some o → h'.get? b = some o) → hp.objs.size ≤ dx → dx ≠ x → h'.get? x = some { cls := .ref C, dict := some dx, data := .fields fv } →
      h'.Ns1 dx (fun y => if y = name then some v else none) → R (.ok (.ret .none)) ⟨h', g, d, tk', os⟩) :
    codeAny (model prog w) A (.call (.builtin "object.__setattr__") ⟨[.ref x, .str name tk, v], []⟩) R ⟨hp, g, d, t, os⟩ := by
  have I : W.InstAt hp x { cls := .ref C, data := .fields fv } C none := ⟨hx, rfl, rfl, trivial⟩
  have SF := F.store_object
  have ne : cd.mro.isEmpty = false := by rw [hm]; rfl
  have hob : cd.mro.contains (.type "object") = true := by rw [hm, List.contains_cons, T.o, Bool.or_true]
  have hxs : x ≠ hp.objs.size := Nat.ne_of_lt (Heap.lt_size hx)
  have sub : W.Looks (model prog w) hp (isInstance (.ref x) (.type "object")) true := I.type.andThen (W.looks_mroIn X (by unfold W.mroIn; rw [hcd, Option.bind_some, if_neg (by rw [ne]; decide), hob]))
  refine codeAny_call_builtin SF.slot.plain SF.entry (@W.check_slot (model prog w) _ _ ⟨hp, g, d, t, os⟩ "object.__setattr__" "object" "__setattr__" (.ref x) [.str name tk, v] [] _ SF.kind SF.split sub (SF.args (.ref x) (.str name tk) v) ?_)
  have hmr : W.Looks (model prog w) hp (mroOf (.ref C)) cd.mro := (W.looks_clsIn X hcd).andThen .now
  have L3 : W.Looks (model prog w) hp (storeTaker? none) none := .now
  have hcls : W.Looks (model prog w) hp (classData C) cd := W.looks_clsIn X hcd
  rw [W.osa_eq, refuse_eq]
  refine wpAny_bind (wpAny_bind (I.type.at (wpAny_bind (hmr.at ?_))))
  rw [hm, refuseLoop_ref, T.p]
  refine wpAny_pure (wpAny_bind (I.type.at (wpAny_bind ((W.looks_findIn X ha).at (wpAny_bind (L3.at ?_))))))
  show wpAny _ _ (storeInOwnDict (.ref x) (.ref C) (.str name tk) name v false) _ _ _
  obtain ⟨nm, bs, mro, ns, qn, hd, sn, sb, ab, col, del⟩ := cd
  dsimp only at hh
  subst hh
  unfold storeInOwnDict ownDictForStores
  repeat (first | with_reducible refine store_in_new ?_ ?_ | with_reducible refine wpAny_loadPart_at hx ?_ | with_reducible refine hcls.at ?_ | wp_step)
  · exact ⟨_, #[], _, (Heap.get?_update_ne _ _ _ _ hxs.symm).trans (Heap.get?_push_at rfl rfl), rfl, fun e he => absurd he (by simp), fun _ => rfl⟩
  · intro h' tk' hn' hs
    have hx₁ : (hp.push { cls := .type "dict", data := .dict #[] }).get? x = some { cls := .ref C, data := .fields fv } := Heap.get?_push_of_some _ hx
    refine hq h' tk' hp.objs.size (fun b o hb ho => ?_) (Nat.le_refl _) hxs.symm ?_ hn'
    · exact (hs.2 b (Nat.ne_of_lt (Heap.lt_size ho))).trans ((Heap.get?_update_ne _ _ _ _ hb).trans (Heap.get?_push_of_some _ ho))
    · exact (hs.2 x hxs).trans (Heap.get?_update_self _ hx₁ rfl)
end
abbrev veT : List Value := [.type "ValueError", .type "Exception", .type "BaseException", .type "object"]
abbrev keT : List Value := [.type "KeyError", .type "LookupError", .type "Exception", .type "BaseException", .type "object"]
theorem mro_ve (c : Addr) : Mro "ValueError" (.ref c :: veT) := ⟨rfl, rfl, rfl, rfl, fun self => by rw [refuseLoop_ref]; exact F.store_ValueError.passes self⟩
theorem ke_pass (self : Value) : refuseLoop self "__setattr__" keT = pure () := by kernel_rfl
theorem mro_ke : Mro "LookupError" keT := ⟨by decide +kernel, by decide +kernel, by decide +kernel, by decide +kernel, ke_pass⟩
end K1
/-! own exception classes whose __init__ stores one field -/

namespace K1
open PySem PySem.W PySem.Calls PyProof.Rows PySem.HandSPX
theorem one_le (v : Value) : [v].length ≤ sizeLine := by
  rw [sizeLine_eq]
  exact (by decide : 1 ≤ 16777216)
theorem ldE {M : Model} {s : Shared} {name : Str} {scope : Scope} {L a : Addr} {cd : Value} {m : Str → Option Value} {x : Str} {pos : Pos} {v : Value} {Q : Value → Shared → Prop} {A : Around} {E : Value → Shared → Prop} (hn : s.heap.Ns L m) (hv : m x = some v) (h : Q v s)
    (hk : scope.kind = .function := by rfl) (hl : (envOfC name scope L a cd).kindOf x = some .local := by rfl) (hd : (x == ("__debug__" : Str)) = false := by decide) :
    wpAny M A (eval (.Name x pos) (envOfC name scope L a cd)) Q E s := wpAny_Name (wpAny_loadName_local hk hl hn hv h) hd
end K1
namespace K1
open PySem PySem.Spec PyProof.Rows L2
theorem relO_one {v : V} {v' : Value} {g : Str} (r : RelV v v') (f : Str) : RelO (List.lookup f [(g, v)]) (if f = g then some v' else none) := by
  by_cases hw : f = g
  · subst hw
    rw [if_pos rfl]
    have q : List.lookup f [(f, v)] = some v := by simp [List.lookup]
    rw [q]
    exact r
  · rw [if_neg hw]
    have qw : (f == g) = false := by simpa using hw
    have q2 : List.lookup f [(g, v)] = none := by simp [List.lookup, qw]
    rw [q2]
    trivial
/-- C(e), C's __init__ storing e as the field g -/
def tMkF (g : Str) (C : Addr) (ta : TA) : L2.St → Hp → XK → Prop := fun σ H Q => ta σ H fun vs H1 => ∃ v, vs = [v] ∧ ∀ d, H1 d = none → Q (.ref C) (some d) (upd H1 d (.xd [(g, v)]))
def tRaiseF (g : Str) (C : Addr) (W : WX) (ta : TA) : TS := fun _ σ H => tMkF g C ta σ H fun cls d H' => W cls d σ H'
def tByF (g : Str) (C : Addr) (a : Addr) (cls : Value) (d : Option Addr) (te : TE) : TE := fun σ H Q => te σ H fun x H1 => x = .ref a ∧ cls = .ref C ∧ ∃ (dd : Addr) (v : V), d = some dd ∧ H1 dd = some (.xd [(g, v)]) ∧ Q v H1
end K1

namespace K1
namespace LAt
open PySem PySem.W PySem.Calls PyProof.Rows PySem.HandSPX
/-- the text of __init__ -/
def iA (p1 p2 : Pos) : Arguments := { posonlyargs := [], args := [{ arg := "self", annotation := none, pos := p1 }, { arg := "at", annotation := none, pos := p2 }], vararg := none, kwonlyargs := [], kw_defaults := [], kwarg := none, defaults := [] }
def iB (q1 q2 q3 q4 : Pos) : List Stmt := [.Assign [.Attribute (.Name "self" q1) "at" q2] (.Name "at" q3) q4]
def iS : Scope := { kind := .function, names := [(PySem.Str.ofString "self", .local), (PySem.Str.ofString "at", .local)], isGenerator := false, isCoroutine := false, more := [] }
/-- what the written part says of the class at C (named cn), of its chain bm, and of its __init__, at fI -/
structure Txt (K : Frag) (mg : Str → Option Value) (cn ql : Str) (bm : List Value) (C fI : Addr) : Prop where
  gC : mg cn = some (.ref C)
  cls : ∃ nm q N bs sn sub ab col dd k0 k1 k2 k3 k5, K.lookup C = some (excClassObj nm q C N bs bm true sn sub ab col dd k0 k1 k2 k3 k5 "ValueError.__new__")
  mr : Mro "ValueError" bm
  sa : findIn K (.ref C) "__setattr__" = some (some (.builtin "object.__setattr__"))
  ga : findIn K (.ref C) "__getattribute__" = some (some (.builtin "BaseException.__getattribute__"))
  gg : findIn K (.ref C) "__getattr__" = some none
  noN : findIn K (.ref C) "at" = some none
  iC : findIn K (.ref C) "__init__" = some (some (.ref fI))
  tC : typeIn K (.ref fI) = some (.type "function")
  kC : keepIn K (.ref C) = true
  exC : subIn K (.ref C) (.type "BaseException") = some true
  tyC : typeIn K (.ref C) = some (.type "type")
  hdC : hasDictIn K C = true
  fn : ∃ (oc : Value) (od : Option Addr) (doc pm : Value) (an : Option Addr) (cdv ct : Value) (osl : Array (Option Value)) (p1 p2 q1 q2 q3 q4 : Pos),
    K.lookup fI = some ⟨oc, od, .func (fnOf "__init__" ql (iA p1 p2) (iB q1 q2 q3 q4) iS .none .none doc pm an cdv ct), osl⟩ ∧ codeIn K cdv ql = true
/-- what __init__ leaves of a fresh exception at x -/
structure InitEnd (h h' : Heap) (x C dx t1 : Addr) (v : Value) : Prop where
  keep : ∀ b o, b ≠ x → h.get? b = some o → h'.get? b = some o
  obj : h'.get? x = some { cls := .ref C, dict := some dx, data := .fields #[.ref t1, .none, .none, .none, .bool false, .none] }
  dbig : h.objs.size ≤ dx
  dne : dx ≠ x
  ns : h'.Ns1 dx (fun y => if y = "at" then some v else none)
structure OwnMade (h h' : Heap) (e C d : Addr) (v : Value) : Prop where
  keep : ∀ b o, h.get? b = some o → h'.get? b = some o
  new : h.objs.size ≤ e
  obj : ∃ oe vs, h'.get? e = some oe ∧ oe.cls = .ref C ∧ oe.dict = some d ∧ oe.data = .fields vs ∧ vs[1]? = some .none
  dbig : h.objs.size ≤ d
  dne : d ≠ e
  ns : h'.Ns1 d (fun y => if y = "at" then some v else none)
section
variable {prog : Program} {w : World} {A : Around} {E : Value → Shared → Prop} {R : Result → Shared → Prop} {s : Shared} {K : Frag} {mg : Str → Option Value} {cn ql : Str} {bm : List Value} {C fI : Addr}
theorem init (T : Txt K mg cn ql bm C fI) {x t0 : Addr} {v : Value} (X : K.In s.heap) (hlim : s.heap.NoLimit) (hx : s.heap.get? x = some (excO C t0)) (hnx : K.lookup x = none) (hroom : A.depth < recursionLimit)
    (hq : ∀ h' tk dx, InitEnd s.heap h' x C dx t0 v → R (.ok (.ret .none)) { s with heap := h', toks := tk }) :
    codeAny (model prog w) A (.call (.ref fI) ⟨[.ref x, v], []⟩) R s := by
  obtain ⟨oc, od, doc, pm, an, cdv, ct, osl, p1, p2, q1, q2, q3, q4, ho, hcd⟩ := T.fn
  obtain ⟨nm, q, N, bs, sn, sub, ab, col, dd, k0, k1, k2, k3, k5, hC⟩ := T.cls
  have hcl : clsIn K C = some { name := nm, bases := bs, mro := .ref C :: bm, ns := N, qualname := q, hasDict := true, slotNames := sn, subclasses := sub, abstract := ab, collection := col, hasDel := false } := by unfold clsIn; rw [hC] <;> rfl
  refine Att.call_fn (binds := [("self", .ref x), ("at", v)]) X hlim ho hcd hroom (BindsTo.of_eq (by first | rfl | with_unfolding_all rfl)) (by first | rfl | decide | with_unfolding_all rfl) (fun s₁ IC => ?_) rfl rfl rfl
  obtain ⟨h₁, tk₁, rfl⟩ := IC.toInCall.same
  have k : ∀ b o, s.heap.get? b = some o → h₁.get? b = some o := IC.toInCall.keep
  have hn := IC.toInCall.ns
  have X₁ : K.In h₁ := X.keeps k
  have hx₁ := k _ _ hx
  show wpAny _ _ (execs _ _) _ _ _
  refine wpAny_execs_cons (plainObj_wpAny_Assign_Attribute ?_)
  refine ldE (v := v) hn (by first | rfl | with_unfolding_all rfl | kernel_rfl) (ldE (v := .ref x) hn (by first | rfl | with_unfolding_all rfl | kernel_rfl) ?_)
  refine set_plain X₁ (ox := excO C t0) (od := none) ⟨hx₁, rfl, rfl, trivial⟩ T.sa ?_
  refine exc_osaG X₁ hx₁ hcl rfl T.mr rfl T.noN (fun h₃ tk₃ dx k₃ dn dne hx₃ hn₃ => ?_)
  show wpAny _ _ (execs _ _) _ _ _
  have z : s.heap.objs.size < h₁.objs.size := hn.lt
  exact wpAny_execs_nil (hq h₃ tk₃ dx ⟨fun b o hb e => k₃ b o hb (k b o e), hx₃, Nat.le_of_lt (Nat.lt_of_lt_of_le z dn), dne, hn₃⟩)
theorem made (T : Txt K mg cn ql bm C fI) {v : Value} (X : K.In s.heap) (hlim : s.heap.NoLimit) (hroom : A.depth + 1 < recursionLimit)
    (hq : ∀ h' tk e d, OwnMade s.heap h' e C d v → R (.ok (.ret (.ref e))) { s with heap := h', toks := tk }) :
    codeAny (model prog w) A (.call (.ref C) ⟨[v], []⟩) R s := by
  obtain ⟨nm, q, N, bs, sn, sub, ab, col, dd, k0, k1, k2, k3, k5, hC⟩ := T.cls
  obtain ⟨hp, g, dr, tk, os⟩ := s
  have k : ∀ b o, hp.get? b = some o → ((hp.push (kdv_tup [v])).push (excO C hp.objs.size)).get? b = some o := fun b o e => Heap.get?_push_of_some _ (Heap.get?_push_of_some _ e)
  have hget : ((hp.push (kdv_tup [v])).push (excO C hp.objs.size)).get? (hp.objs.size + 1) = some (excO C hp.objs.size) := by heap_get
  have hnx : K.lookup (hp.objs.size + 1) = none := by
    cases e : K.lookup (hp.objs.size + 1) with
    | none => rfl
    | some o =>
      have z : hp.get? (hp.objs.size + 1) = some o := X _ _ e
      exact absurd (Nat.lt_of_succ_lt (Heap.lt_size z)) (Nat.lt_irrefl _)
  refine call_ownG F.excBase_ValueError T.mr (X _ _ hC) (looks_findIn X T.iC) (fun self => bind_fn X self T.tC) (one_le v) ?_
  refine init (s := ⟨(hp.push (kdv_tup [v])).push (excO C hp.objs.size), g, dr, tk, os⟩) T (X.keeps k) (hlim.keeps k) hget hnx ?_ fun h' tk' dx ⟨k', hx, dn, dne, hns⟩ => ?_
  · show A.depth + 1 < recursionLimit
    exact hroom
  · have old : ∀ b o, hp.get? b = some o → h'.get? b = some o := fun b o e => k' b o (Nat.ne_of_lt (Nat.lt_succ_of_lt (Heap.lt_size e))) (k b o e)
    have z : hp.objs.size + 1 + 1 ≤ dx := by
      first
        | (simpa only [Heap.size_push] using dn)
        | exact dn
        | (have q := dn; rw [Heap.size_push, Heap.size_push] at q; exact q)
    exact ⟨rfl, hq h' tk' (hp.objs.size + 1) dx ⟨old, Nat.le_succ _, ⟨_, _, hx, rfl, rfl, rfl, rfl⟩, Nat.le_trans (Nat.le_trans (Nat.le_succ _) (Nat.le_succ _)) z, dne, hns⟩⟩
end
end LAt
end K1
namespace K1
open PySem PySem.Spec PyProof.Rows L2
section
variable {X : Cx} {cn ql : Str} {bm : List Value} {C fI : Addr}
theorem pmk_LAt {a : Expr} {ta : TA} {p pos : Pos} {k : Nat} (T : LAt.Txt X.K X.mg cn ql bm C fI) (hr : Room k X.A) (ha : PA X [a] ta) (hg : Gl X cn := by rfl)
    (he : starEach (a :: []) X.env = (false, eval a X.env) :: starEach [] X.env := by rfl) (hpl : (backTo pos (starEach [] X.env)).any (·.1) = false := by rfl) (hdb : (cn == ("__debug__" : Str)) = false := by decide) :
    PMk X (.Call (.Name cn p) [a] [] pos) (tMkF "at" C ta) := by
  intro pins s σ H Q I h
  refine wpAny_Call_Name_kw (ld_glob I hg T.gC ?_ hdb)
  refine PySem.W.callWith_K (h₀ := X.base) I.ok.mod.kin T.kC (thn (ha.run pos pins s σ H _ I h) fun us s1 hh => ?_) he hpl
  obtain ⟨vs, H1, I1, r1, v, ev, q1⟩ := hh
  subst ev
  refine ⟨I1.kIn, ?_⟩
  cases r1 with
  | cons rv rn =>
    rename_i v' us'
    cases rn
    show wpAny _ _ (call (.ref C) [v']) _ _ _
    have hlim := I1.nolimit
    obtain ⟨hp, g, dr, tk, os⟩ := s1
    refine wpAny_call (LAt.made T I1.kIn hlim (by have := hr.dp; omega) fun h' tk' e d M => ?_)
    show MkP X pins σ Q (.ref e) ⟨h', g, dr, tk', os⟩
    obtain ⟨oe, fv, hoe, hc, hd, hdat, h1⟩ := M.obj
    have hns := M.ns
    obtain ⟨G', g1, g2⟩ := restrict h' fun b => decide (b ≠ e)
    have gk : ∀ b, b ≠ e → G'.get? b = h'.get? b := fun b hb => g1 b (decide_eq_true hb)
    have ge : G'.get? e = none := g2 e (by simp)
    have old : ∀ b o, hp.get? b = some o → G'.get? b = some o := fun b o q => (gk b (Nat.ne_of_lt (Nat.lt_of_lt_of_le (Heap.lt_size q) M.new))).trans (M.keep b o q)
    have ob : ObjOk X.prog X.w (upd H1 d (.xd [(("at" : Str), v)])) G' d (.xd [(("at" : Str), v)]) :=
      ⟨_, hns.at (fun o q => (gk d M.dne).trans q), fun f => relO_one rv f⟩
    have J : Inv X pins σ (upd H1 d (.xd [(("at" : Str), v)])) ⟨G', g, dr, tk', os⟩ := I1.laid (t' := tk') old M.dbig ob
    refine ⟨e, oe, fv, ⟨G', g, dr, tk', os⟩, _, .ref C, some d, rfl, J, fun b o q => ?_, ge, hoe, ⟨hc, hd⟩, hdat, h1, ?_, rfl, I1.bare, raises_own T.exC T.tyC, q1 d (I1.hok.fresh M.dbig)⟩
    · by_cases hb : b = e
      · have q' : G'.get? b = some o := q
        rw [hb, ge] at q'; cases q'
      · exact (gk b hb).symm.trans q
    · rw [upd_ne (Ne.symm M.dne)]
      exact I1.hok.fresh M.new
theorem ps_raise_LAt {a : Expr} {ta : TA} {W : WX} {p pos pos2 : Pos} {k : Nat} (hc : X.calm = true) (T : LAt.Txt X.K X.mg cn ql bm C fI) (hr : Room k X.A) (tk : Takes X W) (ha : PA X [a] ta) (hg : Gl X cn := by rfl)
    (he : starEach (a :: []) X.env = (false, eval a X.env) :: starEach [] X.env := by rfl) (hpl : (backTo pos (starEach [] X.env)).any (·.1) = false := by rfl) (hdb : (cn == ("__debug__" : Str)) = false := by decide) :
    PS X (.Raise (some (.Call (.Name cn p) [a] [] pos)) none pos2) (tRaiseF "at" C W ta) := ps_raise hc tk (pmk_LAt T hr ha hg he hpl hdb)
theorem pe_by_LAt {a : Addr} {oe : Obj} {cls : Value} {d : Option Addr} {pn : List (Addr × Obj)} {e : Expr} {te : TE} {pos : Pos} (T : LAt.Txt X.K X.mg cn ql bm C fI) (hz : Zc cls d oe) (hf : ∃ vs, oe.data = .fields vs) (he : PE (X.suite a ((a, oe) :: pn)) e te)
    (hb : attributeBase e "at" X.env (eval e X.env) = eval e X.env := by rfl) :
    PE (X.suite a ((a, oe) :: pn)) (.Attribute e "at" pos) (tByF "at" C a cls d te) := by
  refine ⟨fun pins s σ H Q I h => ?_⟩
  refine attr_of hb (thn (he.run pins s σ H _ I h) fun u s1 hh => ?_)
  obtain ⟨x, H1, I1, rx, ex, ec, dd, v, ed, ea, q⟩ := hh
  subst ex
  obtain rfl : u = Value.ref a := rx
  subst ec
  subst ed
  obtain ⟨ha, _⟩ := I1.pin (a, oe) (List.mem_append_left _ List.mem_cons_self)
  obtain ⟨vs, hd⟩ := hf
  have hx : ObjOk X.prog X.w H1 s1.heap dd (.xd [(("at" : Str), v)]) := I1.hok dd _ ea
  obtain ⟨mA, hns, hr⟩ := hx
  obtain ⟨od, ho, hl⟩ := lookIn_ns hns
  have l : List.lookup ("at" : Str) [(("at" : Str), v)] = some v := by simp [List.lookup]
  obtain ⟨u, hu, ru⟩ := RelO.some_of (v := v) (o := mA "at") (by rw [← l]; exact hr "at")
  have J : PySem.W.InstAt s1.heap a oe C (some od) := ⟨ha, hz.1, by unfold PySem.W.notCls; rw [hd] <;> rfl, by rw [hz.2]; exact ho⟩
  exact HandSPX.exc_get I1.kIn J T.ga T.gg T.exC (PySem.W.findObj_own T.hdC T.noN rfl (by rw [hl, hu])) (handed_of ru) ⟨v, H1, I1.tok _, ru, q⟩
end
end K1

namespace K1
namespace LHouse
open PySem PySem.W PySem.Calls PyProof.Rows PySem.HandSPX
/-- the text of __init__ -/
def iA (p1 p2 : Pos) : Arguments := { posonlyargs := [], args := [{ arg := "self", annotation := none, pos := p1 }, { arg := "house", annotation := none, pos := p2 }], vararg := none, kwonlyargs := [], kw_defaults := [], kwarg := none, defaults := [] }
def iB (q1 q2 q3 q4 : Pos) : List Stmt := [.Assign [.Attribute (.Name "self" q1) "house" q2] (.Name "house" q3) q4]
def iS : Scope := { kind := .function, names := [(PySem.Str.ofString "self", .local), (PySem.Str.ofString "house", .local)], isGenerator := false, isCoroutine := false, more := [] }
/-- what the written part says of the class at C (named cn), of its chain bm, and of its __init__, at fI -/
structure Txt (K : Frag) (mg : Str → Option Value) (cn ql : Str) (bm : List Value) (C fI : Addr) : Prop where
  gC : mg cn = some (.ref C)
  cls : ∃ nm q N bs sn sub ab col dd k0 k1 k2 k3 k5, K.lookup C = some (excClassObj nm q C N bs bm true sn sub ab col dd k0 k1 k2 k3 k5 "LookupError.__new__")
  mr : Mro "LookupError" bm
  sa : findIn K (.ref C) "__setattr__" = some (some (.builtin "object.__setattr__"))
  ga : findIn K (.ref C) "__getattribute__" = some (some (.builtin "BaseException.__getattribute__"))
  gg : findIn K (.ref C) "__getattr__" = some none
  noN : findIn K (.ref C) "house" = some none
  iC : findIn K (.ref C) "__init__" = some (some (.ref fI))
  tC : typeIn K (.ref fI) = some (.type "function")
  kC : keepIn K (.ref C) = true
  exC : subIn K (.ref C) (.type "BaseException") = some true
  tyC : typeIn K (.ref C) = some (.type "type")
  hdC : hasDictIn K C = true
  fn : ∃ (oc : Value) (od : Option Addr) (doc pm : Value) (an : Option Addr) (cdv ct : Value) (osl : Array (Option Value)) (p1 p2 q1 q2 q3 q4 : Pos),
    K.lookup fI = some ⟨oc, od, .func (fnOf "__init__" ql (iA p1 p2) (iB q1 q2 q3 q4) iS .none .none doc pm an cdv ct), osl⟩ ∧ codeIn K cdv ql = true
/-- what __init__ leaves of a fresh exception at x -/
structure InitEnd (h h' : Heap) (x C dx t1 : Addr) (v : Value) : Prop where
  keep : ∀ b o, b ≠ x → h.get? b = some o → h'.get? b = some o
  obj : h'.get? x = some { cls := .ref C, dict := some dx, data := .fields #[.ref t1, .none, .none, .none, .bool false, .none] }
  dbig : h.objs.size ≤ dx
  dne : dx ≠ x
  ns : h'.Ns1 dx (fun y => if y = "house" then some v else none)
structure OwnMade (h h' : Heap) (e C d : Addr) (v : Value) : Prop where
  keep : ∀ b o, h.get? b = some o → h'.get? b = some o
  new : h.objs.size ≤ e
  obj : ∃ oe vs, h'.get? e = some oe ∧ oe.cls = .ref C ∧ oe.dict = some d ∧ oe.data = .fields vs ∧ vs[1]? = some .none
  dbig : h.objs.size ≤ d
  dne : d ≠ e
  ns : h'.Ns1 d (fun y => if y = "house" then some v else none)
section
variable {prog : Program} {w : World} {A : Around} {E : Value → Shared → Prop} {R : Result → Shared → Prop} {s : Shared} {K : Frag} {mg : Str → Option Value} {cn ql : Str} {bm : List Value} {C fI : Addr}
theorem init (T : Txt K mg cn ql bm C fI) {x t0 : Addr} {v : Value} (X : K.In s.heap) (hlim : s.heap.NoLimit) (hx : s.heap.get? x = some (excO C t0)) (hnx : K.lookup x = none) (hroom : A.depth < recursionLimit)
    (hq : ∀ h' tk dx, InitEnd s.heap h' x C dx t0 v → R (.ok (.ret .none)) { s with heap := h', toks := tk }) :
    codeAny (model prog w) A (.call (.ref fI) ⟨[.ref x, v], []⟩) R s := by
  obtain ⟨oc, od, doc, pm, an, cdv, ct, osl, p1, p2, q1, q2, q3, q4, ho, hcd⟩ := T.fn
  obtain ⟨nm, q, N, bs, sn, sub, ab, col, dd, k0, k1, k2, k3, k5, hC⟩ := T.cls
  have hcl : clsIn K C = some { name := nm, bases := bs, mro := .ref C :: bm, ns := N, qualname := q, hasDict := true, slotNames := sn, subclasses := sub, abstract := ab, collection := col, hasDel := false } := by unfold clsIn; rw [hC] <;> rfl
  refine Att.call_fn (binds := [("self", .ref x), ("house", v)]) X hlim ho hcd hroom (BindsTo.of_eq (by first | rfl | with_unfolding_all rfl)) (by first | rfl | decide | with_unfolding_all rfl) (fun s₁ IC => ?_) rfl rfl rfl
  obtain ⟨h₁, tk₁, rfl⟩ := IC.toInCall.same
  have k : ∀ b o, s.heap.get? b = some o → h₁.get? b = some o := IC.toInCall.keep
  have hn := IC.toInCall.ns
  have X₁ : K.In h₁ := X.keeps k
  have hx₁ := k _ _ hx
  show wpAny _ _ (execs _ _) _ _ _
  refine wpAny_execs_cons (plainObj_wpAny_Assign_Attribute ?_)
  refine ldE (v := v) hn (by first | rfl | with_unfolding_all rfl | kernel_rfl) (ldE (v := .ref x) hn (by first | rfl | with_unfolding_all rfl | kernel_rfl) ?_)
  refine set_plain X₁ (ox := excO C t0) (od := none) ⟨hx₁, rfl, rfl, trivial⟩ T.sa ?_
  refine exc_osaG X₁ hx₁ hcl rfl T.mr rfl T.noN (fun h₃ tk₃ dx k₃ dn dne hx₃ hn₃ => ?_)
  show wpAny _ _ (execs _ _) _ _ _
  have z : s.heap.objs.size < h₁.objs.size := hn.lt
  exact wpAny_execs_nil (hq h₃ tk₃ dx ⟨fun b o hb e => k₃ b o hb (k b o e), hx₃, Nat.le_of_lt (Nat.lt_of_lt_of_le z dn), dne, hn₃⟩)
theorem made (T : Txt K mg cn ql bm C fI) {v : Value} (X : K.In s.heap) (hlim : s.heap.NoLimit) (hroom : A.depth + 1 < recursionLimit)
    (hq : ∀ h' tk e d, OwnMade s.heap h' e C d v → R (.ok (.ret (.ref e))) { s with heap := h', toks := tk }) :
    codeAny (model prog w) A (.call (.ref C) ⟨[v], []⟩) R s := by
  obtain ⟨nm, q, N, bs, sn, sub, ab, col, dd, k0, k1, k2, k3, k5, hC⟩ := T.cls
  obtain ⟨hp, g, dr, tk, os⟩ := s
  have k : ∀ b o, hp.get? b = some o → ((hp.push (kdv_tup [v])).push (excO C hp.objs.size)).get? b = some o := fun b o e => Heap.get?_push_of_some _ (Heap.get?_push_of_some _ e)
  have hget : ((hp.push (kdv_tup [v])).push (excO C hp.objs.size)).get? (hp.objs.size + 1) = some (excO C hp.objs.size) := by heap_get
  have hnx : K.lookup (hp.objs.size + 1) = none := by
    cases e : K.lookup (hp.objs.size + 1) with
    | none => rfl
    | some o =>
      have z : hp.get? (hp.objs.size + 1) = some o := X _ _ e
      exact absurd (Nat.lt_of_succ_lt (Heap.lt_size z)) (Nat.lt_irrefl _)
  refine call_ownG F.excBase_LookupError T.mr (X _ _ hC) (looks_findIn X T.iC) (fun self => bind_fn X self T.tC) (one_le v) ?_
  refine init (s := ⟨(hp.push (kdv_tup [v])).push (excO C hp.objs.size), g, dr, tk, os⟩) T (X.keeps k) (hlim.keeps k) hget hnx ?_ fun h' tk' dx ⟨k', hx, dn, dne, hns⟩ => ?_
  · show A.depth + 1 < recursionLimit
    exact hroom
  · have old : ∀ b o, hp.get? b = some o → h'.get? b = some o := fun b o e => k' b o (Nat.ne_of_lt (Nat.lt_succ_of_lt (Heap.lt_size e))) (k b o e)
    have z : hp.objs.size + 1 + 1 ≤ dx := by
      first
        | (simpa only [Heap.size_push] using dn)
        | exact dn
        | (have q := dn; rw [Heap.size_push, Heap.size_push] at q; exact q)
    exact ⟨rfl, hq h' tk' (hp.objs.size + 1) dx ⟨old, Nat.le_succ _, ⟨_, _, hx, rfl, rfl, rfl, rfl⟩, Nat.le_trans (Nat.le_trans (Nat.le_succ _) (Nat.le_succ _)) z, dne, hns⟩⟩
end
end LHouse
end K1
namespace K1
open PySem PySem.Spec PyProof.Rows L2
section
variable {X : Cx} {cn ql : Str} {bm : List Value} {C fI : Addr}
theorem pmk_LHouse {a : Expr} {ta : TA} {p pos : Pos} {k : Nat} (T : LHouse.Txt X.K X.mg cn ql bm C fI) (hr : Room k X.A) (ha : PA X [a] ta) (hg : Gl X cn := by rfl)
    (he : starEach (a :: []) X.env = (false, eval a X.env) :: starEach [] X.env := by rfl) (hpl : (backTo pos (starEach [] X.env)).any (·.1) = false := by rfl) (hdb : (cn == ("__debug__" : Str)) = false := by decide) :
    PMk X (.Call (.Name cn p) [a] [] pos) (tMkF "house" C ta) := by
  intro pins s σ H Q I h
  refine wpAny_Call_Name_kw (ld_glob I hg T.gC ?_ hdb)
  refine PySem.W.callWith_K (h₀ := X.base) I.ok.mod.kin T.kC (thn (ha.run pos pins s σ H _ I h) fun us s1 hh => ?_) he hpl
  obtain ⟨vs, H1, I1, r1, v, ev, q1⟩ := hh
  subst ev
  refine ⟨I1.kIn, ?_⟩
  cases r1 with
  | cons rv rn =>
    rename_i v' us'
    cases rn
    show wpAny _ _ (call (.ref C) [v']) _ _ _
    have hlim := I1.nolimit
    obtain ⟨hp, g, dr, tk, os⟩ := s1
    refine wpAny_call (LHouse.made T I1.kIn hlim (by have := hr.dp; omega) fun h' tk' e d M => ?_)
    show MkP X pins σ Q (.ref e) ⟨h', g, dr, tk', os⟩
    obtain ⟨oe, fv, hoe, hc, hd, hdat, h1⟩ := M.obj
    have hns := M.ns
    obtain ⟨G', g1, g2⟩ := restrict h' fun b => decide (b ≠ e)
    have gk : ∀ b, b ≠ e → G'.get? b = h'.get? b := fun b hb => g1 b (decide_eq_true hb)
    have ge : G'.get? e = none := g2 e (by simp)
    have old : ∀ b o, hp.get? b = some o → G'.get? b = some o := fun b o q => (gk b (Nat.ne_of_lt (Nat.lt_of_lt_of_le (Heap.lt_size q) M.new))).trans (M.keep b o q)
    have ob : ObjOk X.prog X.w (upd H1 d (.xd [(("house" : Str), v)])) G' d (.xd [(("house" : Str), v)]) :=
      ⟨_, hns.at (fun o q => (gk d M.dne).trans q), fun f => relO_one rv f⟩
    have J : Inv X pins σ (upd H1 d (.xd [(("house" : Str), v)])) ⟨G', g, dr, tk', os⟩ := I1.laid (t' := tk') old M.dbig ob
    refine ⟨e, oe, fv, ⟨G', g, dr, tk', os⟩, _, .ref C, some d, rfl, J, fun b o q => ?_, ge, hoe, ⟨hc, hd⟩, hdat, h1, ?_, rfl, I1.bare, raises_own T.exC T.tyC, q1 d (I1.hok.fresh M.dbig)⟩
    · by_cases hb : b = e
      · have q' : G'.get? b = some o := q
        rw [hb, ge] at q'; cases q'
      · exact (gk b hb).symm.trans q
    · rw [upd_ne (Ne.symm M.dne)]
      exact I1.hok.fresh M.new
theorem ps_raise_LHouse {a : Expr} {ta : TA} {W : WX} {p pos pos2 : Pos} {k : Nat} (hc : X.calm = true) (T : LHouse.Txt X.K X.mg cn ql bm C fI) (hr : Room k X.A) (tk : Takes X W) (ha : PA X [a] ta) (hg : Gl X cn := by rfl)
    (he : starEach (a :: []) X.env = (false, eval a X.env) :: starEach [] X.env := by rfl) (hpl : (backTo pos (starEach [] X.env)).any (·.1) = false := by rfl) (hdb : (cn == ("__debug__" : Str)) = false := by decide) :
    PS X (.Raise (some (.Call (.Name cn p) [a] [] pos)) none pos2) (tRaiseF "house" C W ta) := ps_raise hc tk (pmk_LHouse T hr ha hg he hpl hdb)
theorem pe_by_LHouse {a : Addr} {oe : Obj} {cls : Value} {d : Option Addr} {pn : List (Addr × Obj)} {e : Expr} {te : TE} {pos : Pos} (T : LHouse.Txt X.K X.mg cn ql bm C fI) (hz : Zc cls d oe) (hf : ∃ vs, oe.data = .fields vs) (he : PE (X.suite a ((a, oe) :: pn)) e te)
    (hb : attributeBase e "house" X.env (eval e X.env) = eval e X.env := by rfl) :
    PE (X.suite a ((a, oe) :: pn)) (.Attribute e "house" pos) (tByF "house" C a cls d te) := by
  refine ⟨fun pins s σ H Q I h => ?_⟩
  refine attr_of hb (thn (he.run pins s σ H _ I h) fun u s1 hh => ?_)
  obtain ⟨x, H1, I1, rx, ex, ec, dd, v, ed, ea, q⟩ := hh
  subst ex
  obtain rfl : u = Value.ref a := rx
  subst ec
  subst ed
  obtain ⟨ha, _⟩ := I1.pin (a, oe) (List.mem_append_left _ List.mem_cons_self)
  obtain ⟨vs, hd⟩ := hf
  have hx : ObjOk X.prog X.w H1 s1.heap dd (.xd [(("house" : Str), v)]) := I1.hok dd _ ea
  obtain ⟨mA, hns, hr⟩ := hx
  obtain ⟨od, ho, hl⟩ := lookIn_ns hns
  have l : List.lookup ("house" : Str) [(("house" : Str), v)] = some v := by simp [List.lookup]
  obtain ⟨u, hu, ru⟩ := RelO.some_of (v := v) (o := mA "house") (by rw [← l]; exact hr "house")
  have J : PySem.W.InstAt s1.heap a oe C (some od) := ⟨ha, hz.1, by unfold PySem.W.notCls; rw [hd] <;> rfl, by rw [hz.2]; exact ho⟩
  exact HandSPX.exc_get I1.kIn J T.ga T.gg T.exC (PySem.W.findObj_own T.hdC T.noN rfl (by rw [hl, hu])) (handed_of ru) ⟨v, H1, I1.tok _, ru, q⟩
end
end K1

namespace K1
namespace LMost
open PySem PySem.W PySem.Calls PyProof.Rows PySem.HandSPX
/-- the text of __init__ -/
def iA (p1 p2 : Pos) : Arguments := { posonlyargs := [], args := [{ arg := "self", annotation := none, pos := p1 }, { arg := "most", annotation := none, pos := p2 }], vararg := none, kwonlyargs := [], kw_defaults := [], kwarg := none, defaults := [] }
def iB (q1 q2 q3 q4 : Pos) : List Stmt := [.Assign [.Attribute (.Name "self" q1) "most" q2] (.Name "most" q3) q4]
def iS : Scope := { kind := .function, names := [(PySem.Str.ofString "self", .local), (PySem.Str.ofString "most", .local)], isGenerator := false, isCoroutine := false, more := [] }
/-- what the written part says of the class at C (named cn), of its chain bm, and of its __init__, at fI -/
structure Txt (K : Frag) (mg : Str → Option Value) (cn ql : Str) (bm : List Value) (C fI : Addr) : Prop where
  gC : mg cn = some (.ref C)
  cls : ∃ nm q N bs sn sub ab col dd k0 k1 k2 k3 k5, K.lookup C = some (excClassObj nm q C N bs bm true sn sub ab col dd k0 k1 k2 k3 k5 "ValueError.__new__")
  mr : Mro "ValueError" bm
  sa : findIn K (.ref C) "__setattr__" = some (some (.builtin "object.__setattr__"))
  ga : findIn K (.ref C) "__getattribute__" = some (some (.builtin "BaseException.__getattribute__"))
  gg : findIn K (.ref C) "__getattr__" = some none
  noN : findIn K (.ref C) "most" = some none
  iC : findIn K (.ref C) "__init__" = some (some (.ref fI))
  tC : typeIn K (.ref fI) = some (.type "function")
  kC : keepIn K (.ref C) = true
  exC : subIn K (.ref C) (.type "BaseException") = some true
  tyC : typeIn K (.ref C) = some (.type "type")
  hdC : hasDictIn K C = true
  fn : ∃ (oc : Value) (od : Option Addr) (doc pm : Value) (an : Option Addr) (cdv ct : Value) (osl : Array (Option Value)) (p1 p2 q1 q2 q3 q4 : Pos),
    K.lookup fI = some ⟨oc, od, .func (fnOf "__init__" ql (iA p1 p2) (iB q1 q2 q3 q4) iS .none .none doc pm an cdv ct), osl⟩ ∧ codeIn K cdv ql = true
/-- what __init__ leaves of a fresh exception at x -/
structure InitEnd (h h' : Heap) (x C dx t1 : Addr) (v : Value) : Prop where
  keep : ∀ b o, b ≠ x → h.get? b = some o → h'.get? b = some o
  obj : h'.get? x = some { cls := .ref C, dict := some dx, data := .fields #[.ref t1, .none, .none, .none, .bool false, .none] }
  dbig : h.objs.size ≤ dx
  dne : dx ≠ x
  ns : h'.Ns1 dx (fun y => if y = "most" then some v else none)
structure OwnMade (h h' : Heap) (e C d : Addr) (v : Value) : Prop where
  keep : ∀ b o, h.get? b = some o → h'.get? b = some o
  new : h.objs.size ≤ e
  obj : ∃ oe vs, h'.get? e = some oe ∧ oe.cls = .ref C ∧ oe.dict = some d ∧ oe.data = .fields vs ∧ vs[1]? = some .none
  dbig : h.objs.size ≤ d
  dne : d ≠ e
  ns : h'.Ns1 d (fun y => if y = "most" then some v else none)
section
variable {prog : Program} {w : World} {A : Around} {E : Value → Shared → Prop} {R : Result → Shared → Prop} {s : Shared} {K : Frag} {mg : Str → Option Value} {cn ql : Str} {bm : List Value} {C fI : Addr}
theorem init (T : Txt K mg cn ql bm C fI) {x t0 : Addr} {v : Value} (X : K.In s.heap) (hlim : s.heap.NoLimit) (hx : s.heap.get? x = some (excO C t0)) (hnx : K.lookup x = none) (hroom : A.depth < recursionLimit)
    (hq : ∀ h' tk dx, InitEnd s.heap h' x C dx t0 v → R (.ok (.ret .none)) { s with heap := h', toks := tk }) :
    codeAny (model prog w) A (.call (.ref fI) ⟨[.ref x, v], []⟩) R s := by
  obtain ⟨oc, od, doc, pm, an, cdv, ct, osl, p1, p2, q1, q2, q3, q4, ho, hcd⟩ := T.fn
  obtain ⟨nm, q, N, bs, sn, sub, ab, col, dd, k0, k1, k2, k3, k5, hC⟩ := T.cls
  have hcl : clsIn K C = some { name := nm, bases := bs, mro := .ref C :: bm, ns := N, qualname := q, hasDict := true, slotNames := sn, subclasses := sub, abstract := ab, collection := col, hasDel := false } := by unfold clsIn; rw [hC] <;> rfl
  refine Att.call_fn (binds := [("self", .ref x), ("most", v)]) X hlim ho hcd hroom (BindsTo.of_eq (by first | rfl | with_unfolding_all rfl)) (by first | rfl | decide | with_unfolding_all rfl) (fun s₁ IC => ?_) rfl rfl rfl
  obtain ⟨h₁, tk₁, rfl⟩ := IC.toInCall.same
  have k : ∀ b o, s.heap.get? b = some o → h₁.get? b = some o := IC.toInCall.keep
  have hn := IC.toInCall.ns
  have X₁ : K.In h₁ := X.keeps k
  have hx₁ := k _ _ hx
  show wpAny _ _ (execs _ _) _ _ _
  refine wpAny_execs_cons (plainObj_wpAny_Assign_Attribute ?_)
  refine ldE (v := v) hn (by first | rfl | with_unfolding_all rfl | kernel_rfl) (ldE (v := .ref x) hn (by first | rfl | with_unfolding_all rfl | kernel_rfl) ?_)
  refine set_plain X₁ (ox := excO C t0) (od := none) ⟨hx₁, rfl, rfl, trivial⟩ T.sa ?_
  refine exc_osaG X₁ hx₁ hcl rfl T.mr rfl T.noN (fun h₃ tk₃ dx k₃ dn dne hx₃ hn₃ => ?_)
  show wpAny _ _ (execs _ _) _ _ _
  have z : s.heap.objs.size < h₁.objs.size := hn.lt
  exact wpAny_execs_nil (hq h₃ tk₃ dx ⟨fun b o hb e => k₃ b o hb (k b o e), hx₃, Nat.le_of_lt (Nat.lt_of_lt_of_le z dn), dne, hn₃⟩)
theorem made (T : Txt K mg cn ql bm C fI) {v : Value} (X : K.In s.heap) (hlim : s.heap.NoLimit) (hroom : A.depth + 1 < recursionLimit)
    (hq : ∀ h' tk e d, OwnMade s.heap h' e C d v → R (.ok (.ret (.ref e))) { s with heap := h', toks := tk }) :
    codeAny (model prog w) A (.call (.ref C) ⟨[v], []⟩) R s := by
  obtain ⟨nm, q, N, bs, sn, sub, ab, col, dd, k0, k1, k2, k3, k5, hC⟩ := T.cls
  obtain ⟨hp, g, dr, tk, os⟩ := s
  have k : ∀ b o, hp.get? b = some o → ((hp.push (kdv_tup [v])).push (excO C hp.objs.size)).get? b = some o := fun b o e => Heap.get?_push_of_some _ (Heap.get?_push_of_some _ e)
  have hget : ((hp.push (kdv_tup [v])).push (excO C hp.objs.size)).get? (hp.objs.size + 1) = some (excO C hp.objs.size) := by heap_get
  have hnx : K.lookup (hp.objs.size + 1) = none := by
    cases e : K.lookup (hp.objs.size + 1) with
    | none => rfl
    | some o =>
      have z : hp.get? (hp.objs.size + 1) = some o := X _ _ e
      exact absurd (Nat.lt_of_succ_lt (Heap.lt_size z)) (Nat.lt_irrefl _)
  refine call_ownG F.excBase_ValueError T.mr (X _ _ hC) (looks_findIn X T.iC) (fun self => bind_fn X self T.tC) (one_le v) ?_
  refine init (s := ⟨(hp.push (kdv_tup [v])).push (excO C hp.objs.size), g, dr, tk, os⟩) T (X.keeps k) (hlim.keeps k) hget hnx ?_ fun h' tk' dx ⟨k', hx, dn, dne, hns⟩ => ?_
  · show A.depth + 1 < recursionLimit
    exact hroom
  · have old : ∀ b o, hp.get? b = some o → h'.get? b = some o := fun b o e => k' b o (Nat.ne_of_lt (Nat.lt_succ_of_lt (Heap.lt_size e))) (k b o e)
    have z : hp.objs.size + 1 + 1 ≤ dx := by
      first
        | (simpa only [Heap.size_push] using dn)
        | exact dn
        | (have q := dn; rw [Heap.size_push, Heap.size_push] at q; exact q)
    exact ⟨rfl, hq h' tk' (hp.objs.size + 1) dx ⟨old, Nat.le_succ _, ⟨_, _, hx, rfl, rfl, rfl, rfl⟩, Nat.le_trans (Nat.le_trans (Nat.le_succ _) (Nat.le_succ _)) z, dne, hns⟩⟩
end
end LMost
end K1
namespace K1
open PySem PySem.Spec PyProof.Rows L2
section
variable {X : Cx} {cn ql : Str} {bm : List Value} {C fI : Addr}
theorem pmk_LMost {a : Expr} {ta : TA} {p pos : Pos} {k : Nat} (T : LMost.Txt X.K X.mg cn ql bm C fI) (hr : Room k X.A) (ha : PA X [a] ta) (hg : Gl X cn := by rfl)
    (he : starEach (a :: []) X.env = (false, eval a X.env) :: starEach [] X.env := by rfl) (hpl : (backTo pos (starEach [] X.env)).any (·.1) = false := by rfl) (hdb : (cn == ("__debug__" : Str)) = false := by decide) :
    PMk X (.Call (.Name cn p) [a] [] pos) (tMkF "most" C ta) := by
  intro pins s σ H Q I h
  refine wpAny_Call_Name_kw (ld_glob I hg T.gC ?_ hdb)
  refine PySem.W.callWith_K (h₀ := X.base) I.ok.mod.kin T.kC (thn (ha.run pos pins s σ H _ I h) fun us s1 hh => ?_) he hpl
  obtain ⟨vs, H1, I1, r1, v, ev, q1⟩ := hh
  subst ev
  refine ⟨I1.kIn, ?_⟩
  cases r1 with
  | cons rv rn =>
    rename_i v' us'
    cases rn
    show wpAny _ _ (call (.ref C) [v']) _ _ _
    have hlim := I1.nolimit
    obtain ⟨hp, g, dr, tk, os⟩ := s1
    refine wpAny_call (LMost.made T I1.kIn hlim (by have := hr.dp; omega) fun h' tk' e d M => ?_)
    show MkP X pins σ Q (.ref e) ⟨h', g, dr, tk', os⟩
    obtain ⟨oe, fv, hoe, hc, hd, hdat, h1⟩ := M.obj
    have hns := M.ns
    obtain ⟨G', g1, g2⟩ := restrict h' fun b => decide (b ≠ e)
    have gk : ∀ b, b ≠ e → G'.get? b = h'.get? b := fun b hb => g1 b (decide_eq_true hb)
    have ge : G'.get? e = none := g2 e (by simp)
    have old : ∀ b o, hp.get? b = some o → G'.get? b = some o := fun b o q => (gk b (Nat.ne_of_lt (Nat.lt_of_lt_of_le (Heap.lt_size q) M.new))).trans (M.keep b o q)
    have ob : ObjOk X.prog X.w (upd H1 d (.xd [(("most" : Str), v)])) G' d (.xd [(("most" : Str), v)]) :=
      ⟨_, hns.at (fun o q => (gk d M.dne).trans q), fun f => relO_one rv f⟩
    have J : Inv X pins σ (upd H1 d (.xd [(("most" : Str), v)])) ⟨G', g, dr, tk', os⟩ := I1.laid (t' := tk') old M.dbig ob
    refine ⟨e, oe, fv, ⟨G', g, dr, tk', os⟩, _, .ref C, some d, rfl, J, fun b o q => ?_, ge, hoe, ⟨hc, hd⟩, hdat, h1, ?_, rfl, I1.bare, raises_own T.exC T.tyC, q1 d (I1.hok.fresh M.dbig)⟩
    · by_cases hb : b = e
      · have q' : G'.get? b = some o := q
        rw [hb, ge] at q'; cases q'
      · exact (gk b hb).symm.trans q
    · rw [upd_ne (Ne.symm M.dne)]
      exact I1.hok.fresh M.new
theorem ps_raise_LMost {a : Expr} {ta : TA} {W : WX} {p pos pos2 : Pos} {k : Nat} (hc : X.calm = true) (T : LMost.Txt X.K X.mg cn ql bm C fI) (hr : Room k X.A) (tk : Takes X W) (ha : PA X [a] ta) (hg : Gl X cn := by rfl)
    (he : starEach (a :: []) X.env = (false, eval a X.env) :: starEach [] X.env := by rfl) (hpl : (backTo pos (starEach [] X.env)).any (·.1) = false := by rfl) (hdb : (cn == ("__debug__" : Str)) = false := by decide) :
    PS X (.Raise (some (.Call (.Name cn p) [a] [] pos)) none pos2) (tRaiseF "most" C W ta) := ps_raise hc tk (pmk_LMost T hr ha hg he hpl hdb)
theorem pe_by_LMost {a : Addr} {oe : Obj} {cls : Value} {d : Option Addr} {pn : List (Addr × Obj)} {e : Expr} {te : TE} {pos : Pos} (T : LMost.Txt X.K X.mg cn ql bm C fI) (hz : Zc cls d oe) (hf : ∃ vs, oe.data = .fields vs) (he : PE (X.suite a ((a, oe) :: pn)) e te)
    (hb : attributeBase e "most" X.env (eval e X.env) = eval e X.env := by rfl) :
    PE (X.suite a ((a, oe) :: pn)) (.Attribute e "most" pos) (tByF "most" C a cls d te) := by
  refine ⟨fun pins s σ H Q I h => ?_⟩
  refine attr_of hb (thn (he.run pins s σ H _ I h) fun u s1 hh => ?_)
  obtain ⟨x, H1, I1, rx, ex, ec, dd, v, ed, ea, q⟩ := hh
  subst ex
  obtain rfl : u = Value.ref a := rx
  subst ec
  subst ed
  obtain ⟨ha, _⟩ := I1.pin (a, oe) (List.mem_append_left _ List.mem_cons_self)
  obtain ⟨vs, hd⟩ := hf
  have hx : ObjOk X.prog X.w H1 s1.heap dd (.xd [(("most" : Str), v)]) := I1.hok dd _ ea
  obtain ⟨mA, hns, hr⟩ := hx
  obtain ⟨od, ho, hl⟩ := lookIn_ns hns
  have l : List.lookup ("most" : Str) [(("most" : Str), v)] = some v := by simp [List.lookup]
  obtain ⟨u, hu, ru⟩ := RelO.some_of (v := v) (o := mA "most") (by rw [← l]; exact hr "most")
  have J : PySem.W.InstAt s1.heap a oe C (some od) := ⟨ha, hz.1, by unfold PySem.W.notCls; rw [hd] <;> rfl, by rw [hz.2]; exact ho⟩
  exact HandSPX.exc_get I1.kIn J T.ga T.gg T.exC (PySem.W.findObj_own T.hdC T.noN rfl (by rw [hl, hu])) (handed_of ru) ⟨v, H1, I1.tok _, ru, q⟩
end
end K1
/-! enumerate over a tuple, repr of data of any depth, isinstance of a held exception -/
namespace K1
open PySem PySem.Spec PyProof.Rows L2
theorem meets_enum1 {v : Value} {o : Obj} {H : Heap → Prop} (B : Begins v o H) :
    Meets (Builtin.«enumerate.__new__» ⟨[.type "enumerate", v], []⟩) (fun _ R s => H s.heap ∧
      R (.ok (.ret (.ref (s.heap.push o).objs.size))) { s with heap := (s.heap.push o).push { cls := .type "enumerate", data := .fields #[.none, .bool false, .ref s.heap.objs.size, rawInt 0, .none, .none] } }) :=
  .of_wp fun prog w A R s h => by
    obtain ⟨hp, g, d, tk, os⟩ := s
    obtain ⟨h1, h⟩ := h
    have hsub := sub_enumerate
    have q1 : ∀ {A' : Around} {E : Value → Shared → Prop} {Q : Value → Shared → Prop}, Q (.ref hp.objs.size) ⟨hp.push o, g, d, tk, os⟩ → wpAny (model prog w) A' (pyIter v) Q E ⟨hp, g, d, tk, os⟩ :=
      fun q => B.iter prog w _ _ ⟨hp, g, d, tk, os⟩ _ h1 q
    wp_walk using q1
    refine wpAny_stack_any fun st => wpAny_pure ?_
    split
    · rename_i c _ _ _ _ _
      cases (c == Value.type "enumerate") <;> (wp_walk using q1; exact ⟨_, rfl, h⟩)
    · wp_walk using q1
      exact ⟨_, rfl, h⟩
theorem enum_begins1 {prog : Program} {w : World} {A : Around} {E : Value → Shared → Prop} {s : Shared} {v : Value} {o : Obj} {H : Heap → Prop} {Q : Value → Shared → Prop} (B : Begins v o H) (h1 : H s.heap)
    (h : ∀ h', IsEnum h' (s.heap.objs.size + 1) s.heap.objs.size 0 .none → h'.get? s.heap.objs.size = some o → h'.objs.size = s.heap.objs.size + 2 →
      (∀ b o, s.heap.get? b = some o → h'.get? b = some o) → Q (.ref (s.heap.objs.size + 1)) { s with heap := h' }) :
    wpAny (model prog w) A (call (.type "enumerate") [v]) Q E s := by
  refine callType_new F.called_enumerate (by decide) (F.typeCall_enumerate_1 _) (F.newCall_enumerate_1 _) (fun obj => F.args_object_init_2 obj _) F.entry_enumerate_new (meets_enum1 B) ⟨h1, ?_⟩
  have hz : (s.heap.push o).objs.size = s.heap.objs.size + 1 := Heap.size_push ..
  show _ ∧ _
  rw [hz]
  have he := Heap.get?_push_size (s.heap.push o) (o := { cls := .type "enumerate", data := .fields #[.none, .bool false, .ref s.heap.objs.size, rawInt 0, .none, .none] }) rfl
  rw [hz] at he
  exact ⟨⟨_, he, rfl⟩, h _ he (Heap.get?_push_of_some _ (Heap.get?_push_size _ B.free)) (by rw [Heap.size_push, hz]) fun b o x => Heap.get?_push_of_some _ (Heap.get?_push_of_some _ x)⟩
/-- the tuple at a, each item in a new pair -/
def IteT (K : PySem.W.Frag) (a : Addr) : It :=
  ⟨fun i H => ∃ (xs : List V) (x : V), SqT K H a xs ∧ xs[i]? = some x, fun i H v H' => ∃ T x, v = .ref T ∧ H T = none ∧ H' = upd H T (.tup [.int (i : Nat), x]) ∧ ∀ xs, SqT K H a xs → xs[i]? = some x, fun i H => ∃ xs : List V, SqT K H a xs ∧ xs.length ≤ i⟩
theorem turn_enumT {P : Program} {w : World} {K : PySem.W.Frag} {elts : List Expr} {kk : Nat} {tpos : Pos} (a e it : Addr) :
    Turn P w K (.Tuple elts kk tpos) (IteT K a) [e, it] e (fun i h => (∃ old, IsEnum h e it ((i : Nat) : Int) old) ∧ h.IsTupleIter it a i ∧ e ≠ it ∧ e ≠ a ∧ a ≠ it) where
  mem := by simp
  obj := fun i h st b hb => by
    obtain ⟨⟨old, he⟩, ⟨o, ho, hc, hd⟩, _⟩ := st
    rcases (show b = e ∨ b = it by simpa using hb) with z | z
    · rw [z]; exact ⟨_, he, fun v q => nomatch q⟩
    · rw [z]; exact ⟨o, ho, fun v q => by rw [hd] at q; cases q⟩
  keep := fun i h h' st k => let ⟨⟨old, he⟩, hi, hne⟩ := st; ⟨⟨old, k e (by simp) _ he⟩, hi.at fun o q => k it (by simp) o q, hne⟩
  item := by
    intro X hP hw hK hc i pins s σ H E I hf st hg
    subst hP hw hK
    obtain ⟨⟨old, he⟩, hit, hne, nea, nai⟩ := st
    obtain ⟨xs, x, hq, hx⟩ := hg
    obtain ⟨its, rv, p, hz⟩ := I.tuple hq
    obtain ⟨u, hu, ru⟩ := rv.get hx
    have hil' := (List.getElem?_eq_some_iff.mp hu).1
    have hel : e < s.heap.objs.size := Heap.lt_size he
    have hil : it < s.heap.objs.size := by obtain ⟨_, q, _⟩ := hit; exact Heap.lt_size q
    have D := Draws.tuple (prog := X.prog) (w := X.w) (A := X.A.in1) (show X.A.in1.handled = none from I.ok.hd hc) it a nai its.toArray
    refine wpAny_pyNext_enum_itemD D he ⟨hit, (show s.heap.IsTuple a its.toArray from p)⟩ (by simpa using hil') hne (by simp [hne, nea]) fun y h' tk hy ho hst hT hsz hk => ?_
    have ey : y = u := by
      have z : its[i]? = some y := by simpa using hy
      rw [hu] at z
      exact (Option.some.inj z).symm
    subst ey
    refine ⟨_, rfl, wpAny_letOwnedTupleGo_enum (s := { s with heap := h', toks := tk + 1 }) ho fun h'' he' sb => ?_⟩
    have hT2 : h''.get? s.heap.objs.size = some { cls := .type "tuple", data := .seq #[.int i tk, y] } := (sb.2 _ (Nat.ne_of_gt hel)).trans hT
    have new : ObjOk X.prog X.w (upd H s.heap.objs.size (.tup [.int (i : Nat), x])) h'' s.heap.objs.size (.tup [.int (i : Nat), x]) :=
      ⟨by show 2 ≤ sizeLine; decide, [.int i tk, y], .cons ⟨_, rfl⟩ (.cons ru .nil), ⟨_, hT2, rfl, _, rfl⟩⟩
    have I1 : Inv X pins σ (upd H s.heap.objs.size (.tup [.int (i : Nat), x])) { s with heap := h'', toks := tk + 1 } :=
      I.turnedNew (ch := [e, it]) (fun b ob hb q => (sb.2 b (fun z => hb (by simp [z]))).trans (hk b ob (fun z => hb (by simp [z])) (fun z => hb (by simp [z])) q)) hf (Nat.le_refl _) new
    refine ⟨.ref s.heap.objs.size, _, I1, rfl, ⟨_, x, rfl, I.hok.fresh (Nat.le_refl _), rfl, fun ys hy => by rw [I.tuple_inj hy hq]; exact hx⟩, ⟨⟨y, ?_⟩, hst.1.at fun o q => (sb.2 it (Ne.symm hne)).trans q, hne, nea, nai⟩, fun b hb => ?_⟩
    · have e1 : ((i + 1 : Nat) : Int) = (i : Int) + 1 := by omega
      rw [e1]; exact he'
    · have hb' : b < s.heap.objs.size := by
        rcases (show b = e ∨ b = it by simpa using hb) with z | z
        · rw [z]; exact hel
        · rw [z]; exact hil
      rw [upd_ne (Nat.ne_of_lt hb')]
      exact (hf b hb).1
  done := by
    intro X hP hw hK hc i pins s σ H E I hf st hg
    subst hP hw hK
    obtain ⟨⟨old, he⟩, hit, hne, nea, nai⟩ := st
    obtain ⟨xs, hq, hx⟩ := hg
    obtain ⟨its, rv, p, hz⟩ := I.tuple hq
    obtain ⟨f0, f1, f2, f3, f4, f5⟩ := hf it (by simp)
    have hl := rv.length
    have hTs : s.TypeIs (.ref e) "enumerate" := ⟨_, he, rfl⟩
    unfold pyNext
    refine wpAny_bind (wpAny_attempt (wpAny_callSpecial?_slot (name := Str.ofString "__next__") hTs F.slot_enumerate_next
      (wpAny_call_entry F.slot_enumerate_next hTs F.entry_enumerate_next ?_ (F.args_enumerate_next_1 _))))
    show wpAny _ _ (field (.ref e) 2 >>= _) _ _ _
    refine wpAny_bind (wpAny_field he rfl (x := .ref it) rfl ?_)
    refine wpAny_bind (wpAny_nextOf_tuple_end (show X.A.in1.handled = none from I.ok.hd hc) hit (show s.heap.IsTuple a its.toArray from p) (by simp; omega) fun h' y eb hx' => ?_)
    obtain ⟨o, ho, hc'⟩ := hx'
    refine wpAny_bind (wpAny_isInstance (T := "StopIteration") (b := true) ⟨o, ho, hc'⟩ isSubtype_stop ?_)
    exact wpAny_pure ⟨rfl, I.turned (t' := s.toks) (fun b o hb q => eb b o hb q) f0 f1 f3 f4 f5⟩
  self := fun A i s Q E st h => let ⟨⟨_, he⟩, _⟩ := st; wpAny_pyIter_enum he h
def iEnumA (K : PySem.W.Frag) (ta : TA) : TI := fun σ H R => ta σ H fun vs H1 => ∃ a, vs = [.ref a] ∧ ((∃ xs, SqL K H1 a xs ∧ R (Ite K a) H1) ∨ (∃ xs, SqT K H1 a xs ∧ R (IteT K a) H1))
theorem pi_enumA {X : Cx} {e : Expr} {ta : TA} {p pos tpos : Pos} {elts : List Expr} {kk : Nat} (hg : Gl X "enumerate") (hm : X.mg "enumerate" = none) (ha : PA X [e] ta) (hs : starEach [e] X.env = [(false, eval e X.env)] := by rfl) :
    PI X (.Tuple elts kk tpos) (.Call (.Name "enumerate" p) [e] [] pos) (iEnumA X.K ta) := by
  refine ⟨fun pins s σ H R I h => ?_⟩
  refine Call_ (ld_blt I hg hm boot_enumerate (PyProof.Rows.callWith_type1 (thn (ha.run pos pins s σ H _ I h) fun us s1 ⟨vs, H1, I1, r1, q1⟩ => ?_) hs rfl))
  obtain ⟨a, ex, q⟩ := q1
  subst ex
  cases r1 with
  | cons r rr =>
    cases rr
    cases r
    have big : ∀ b ∈ [s1.heap.objs.size + 1, s1.heap.objs.size], s1.heap.objs.size ≤ b := fun b hb => by
      rcases (show b = s1.heap.objs.size + 1 ∨ b = s1.heap.objs.size by simpa using hb) with z | z
      · rw [z]; exact Nat.le_add_right _ _
      · rw [z]; exact Nat.le_refl _
    rcases q with ⟨xs, hq, q⟩ | ⟨xs, hq, q⟩
    · obtain ⟨its, rv, p', hz⟩ := I1.list hq
      refine call_enumerate_list p'.isList fun h' he hit hsz hk => wpAny_pyIter_enum he ?_
      have I2 : Inv X pins σ H1 { s1 with heap := h' } := I1.kept (t' := s1.toks) hk
      exact ⟨s1.heap.objs.size + 1, [s1.heap.objs.size + 1, s1.heap.objs.size], _, _, H1, rfl, I2, turn_enum a (s1.heap.objs.size + 1) s1.heap.objs.size, ⟨⟨.none, he⟩, hit, Nat.succ_ne_self _⟩, fun b hb => I1.fpOk (big b hb) (I1.hok.fresh (big b hb)), q⟩
    · obtain ⟨its, rv, p', hz⟩ := I1.tuple hq
      have hp : s1.heap.IsTuple a its.toArray := p'
      have hal : a < s1.heap.objs.size := by obtain ⟨_, q, _⟩ := hp; exact Heap.lt_size q
      refine enum_begins1 (begins_tuple a its.toArray) hp fun h' he hit hsz hk => wpAny_pyIter_enum he ?_
      have I2 : Inv X pins σ H1 { s1 with heap := h' } := I1.kept (t' := s1.toks) hk
      exact ⟨s1.heap.objs.size + 1, [s1.heap.objs.size + 1, s1.heap.objs.size], _, _, H1, rfl, I2, turn_enumT a (s1.heap.objs.size + 1) s1.heap.objs.size, ⟨⟨.none, he⟩, ⟨_, hit, rfl, rfl⟩, Nat.succ_ne_self _, Nat.ne_of_gt (Nat.lt_succ_of_lt hal), Nat.ne_of_lt hal⟩, fun b hb => I1.fpOk (big b hb) (I1.hok.fresh (big b hb)), q⟩
section
variable {K : PySem.W.Frag} {a : Addr} {xs : List V} {g : TG} {tb : TS} {D : Ends} {σ : L2.St} {H : Hp}
theorem for_enumL (Pv : Nat → L2.St → Hp → Prop) (h0 : Pv 0 σ H) (hl : ∀ i σ H, i ≤ xs.length → Pv i σ H → SqL K H a xs)
    (hs : ∀ i x T σ H, xs[i]? = some x → H T = none → Pv i σ H → g (.ref T) σ (upd H T (.tup [.int (i : Nat), x])) fun σ2 H2 => tb { D with nx := Pv (i + 1), ct := Pv (i + 1), bk := D.nx } σ2 H2) (hd : ∀ σ H, Pv xs.length σ H → D.nx σ H) :
    ∃ W : Nat → Nat → L2.St → Hp → Prop, (∃ m, W 0 m σ H) ∧ ∀ i m σ H, W i m σ H →
      ((Ite K a).stop i H ∧ D.nx σ H) ∨ ((Ite K a).go i H ∧ ∃ N : L2.St → Hp → Prop, (∀ σ' H', N σ' H' → ∃ m', m' < m ∧ W (i + 1) m' σ' H') ∧ ∀ x H', (Ite K a).yld i H x H' → g x σ H' fun σ2 H2 => tb { D with nx := N, ct := N, bk := D.nx } σ2 H2) := by
  refine ⟨fun i m σ H => m = xs.length - i ∧ i ≤ xs.length ∧ Pv i σ H, ⟨xs.length, by simp, Nat.zero_le _, h0⟩, ?_⟩
  rintro i m σ H ⟨rfl, hi, p⟩
  have q := hl i σ H hi p
  by_cases hlt : i < xs.length
  · refine .inr ⟨⟨xs, xs[i], q, by simp [hlt]⟩, Pv (i + 1), fun σ' H' p' => ⟨xs.length - (i + 1), by omega, rfl, hlt, p'⟩, fun x H' y => ?_⟩
    obtain ⟨T, x', e1, e2, e3, e4⟩ := y
    subst e1 e3
    exact hs i x' T σ H (e4 xs q) e2 p
  · have e : i = xs.length := by omega
    subst e
    exact .inl ⟨⟨xs, q, Nat.le_refl _⟩, hd σ H p⟩
theorem for_enumT (Pv : Nat → L2.St → Hp → Prop) (h0 : Pv 0 σ H) (hl : ∀ i σ H, i ≤ xs.length → Pv i σ H → SqT K H a xs)
    (hs : ∀ i x T σ H, xs[i]? = some x → H T = none → Pv i σ H → g (.ref T) σ (upd H T (.tup [.int (i : Nat), x])) fun σ2 H2 => tb { D with nx := Pv (i + 1), ct := Pv (i + 1), bk := D.nx } σ2 H2) (hd : ∀ σ H, Pv xs.length σ H → D.nx σ H) :
    ∃ W : Nat → Nat → L2.St → Hp → Prop, (∃ m, W 0 m σ H) ∧ ∀ i m σ H, W i m σ H →
      ((IteT K a).stop i H ∧ D.nx σ H) ∨ ((IteT K a).go i H ∧ ∃ N : L2.St → Hp → Prop, (∀ σ' H', N σ' H' → ∃ m', m' < m ∧ W (i + 1) m' σ' H') ∧ ∀ x H', (IteT K a).yld i H x H' → g x σ H' fun σ2 H2 => tb { D with nx := N, ct := N, bk := D.nx } σ2 H2) := by
  refine ⟨fun i m σ H => m = xs.length - i ∧ i ≤ xs.length ∧ Pv i σ H, ⟨xs.length, by simp, Nat.zero_le _, h0⟩, ?_⟩
  rintro i m σ H ⟨rfl, hi, p⟩
  have q := hl i σ H hi p
  by_cases hlt : i < xs.length
  · refine .inr ⟨⟨xs, xs[i], q, by simp [hlt]⟩, Pv (i + 1), fun σ' H' p' => ⟨xs.length - (i + 1), by omega, rfl, hlt, p'⟩, fun x H' y => ?_⟩
    obtain ⟨T, x', e1, e2, e3, e4⟩ := y
    subst e1 e3
    exact hs i x' T σ H (e4 xs q) e2 p
  · have e : i = xs.length := by omega
    subst e
    exact .inl ⟨⟨xs, q, Nat.le_refl _⟩, hd σ H p⟩
end
/-! ### repr -/
/-- repr of what is no object -/
def rReprS : List V → Hp → VK → Prop := fun xs H Q => ∃ v, xs = [v] ∧ ((v = .non ∧ Q (.str "None") H) ∨ (∃ b : Bool, v = .bl b ∧ Q (.str (if b then "True" else "False")) H) ∨ (∃ i : Int, v = .int i ∧ i.natAbs.log2 < 1920 ∧ Q (.str (toString i)) H) ∨
  ∃ x : Str, v = .str x ∧ (reprText x).length ≤ sizeLine ∧ Q (.str (reprText x)) H)
theorem call_reprS {X : Cx} : CallR X (.builtin "repr") rReprS := by
  intro pins s σ H xs us Q I r h
  obtain ⟨v, rfl, h⟩ := h
  obtain ⟨u, rfl, rv⟩ := vals1 r
  rcases h with ⟨rfl, q⟩ | ⟨b, rfl, q⟩ | ⟨i, rfl, hz, q⟩ | ⟨x, rfl, hz, q⟩
  · cases rv
    exact PySem.P.repr_of_none ⟨.str _, H, I.tok _, ⟨_, rfl⟩, q⟩
  · cases rv
    exact PySem.P.repr_of_bool ⟨.str _, H, I.tok _, ⟨_, rfl⟩, q⟩
  · obtain ⟨t, rfl⟩ := rv
    exact PySem.P.repr_of_int hz ⟨.str _, H, I.tok _, ⟨_, rfl⟩, q⟩
  · obtain ⟨t, rfl⟩ := rv
    exact PySem.P.repr_of_str (t := t) ⟨.str _, H, I.tok _, ⟨_, rfl⟩, q⟩ hz
/-- repr of a list or tuple: plain data without dicts -/
def rRepr (K : PySem.W.Frag) : List V → Hp → VK → Prop := fun xs H Q => ∃ a d, xs = [.ref a] ∧ Dp K H (.ref a) d ∧ PyData.showable d = true ∧ PyData.hasDict d = false ∧ PyData.depth d ≤ 40 ∧ d.shown.length ≤ sizeLine ∧ Q (.str d.shown) H
theorem call_repr {X : Cx} (hg : X.A.guards = some []) (hu : X.A.units + 64 < cLine) : CallR X (.builtin "repr") (rRepr X.K) := by
  intro pins s σ H xs us Q I r h
  obtain ⟨a, d, rfl, hd, h1, h2, h3, h4, q⟩ := h
  obtain ⟨u, rfl, rv⟩ := vals1 r
  obtain ⟨as, R⟩ := Dp.reads I d _ u hd rv
  cases rv
  exact repr_of_reads' R h1 (PyData.noDict_hsm h2) hg (by omega) (fun _ _ e => e) (fun h' u' tk k => ⟨.str _, H, I.kept (t' := tk) k, ⟨_, rfl⟩, q⟩) h4
/-! ### isinstance of the exception that a suite holds, its own dict at d -/
structure ExcK (K : PySem.W.Frag) (C : Addr) : Prop where
  cl : (PySem.W.clsIn K C).isSome = true
  ga : PySem.W.findIn K (.ref C) "__getattribute__" = some (some (.builtin "BaseException.__getattribute__"))
  gt : PySem.W.findIn K (.ref C) "__getattr__" = some none
  sb : PySem.W.subIn K (.ref C) (.type "BaseException") = some true
  ca : PySem.W.findIn K (.ref C) "__class__" = some (some (.builtin "object.__class__"))
  sp : PySem.W.specialIn K (.builtin "object.__class__") "__get__" = some (some (.builtin "getset_descriptor.__get__"))
  tk : PySem.W.takesIn K (.builtin "object.__class__") = some true
  mo : PySem.W.mroIn K C (.type "object") = some true
def rIsD (K : PySem.W.Frag) (C d a : Addr) : List V → Hp → VK → Prop := fun xs H Q => ∃ (N : Addr) (g : Str) (v : V) (b : Bool), xs = [.ref a, .ref N] ∧ H d = some (.xd [(g, v)]) ∧ PySem.W.kitOne K (.ref C) (.ref N) = some b ∧ Q (.bl b) H
theorem call_isD {X : Cx} {a C d : Addr} {oe : Obj} {pn : List (Addr × Obj)} (T : ExcK X.K C) (hz : Zc (.ref C) (some d) oe) (hf : ∃ vs, oe.data = .fields vs) : CallR (X.suite a ((a, oe) :: pn)) (.builtin "isinstance") (rIsD X.K C d a) := by
  intro pins s σ H xs us Q I r h
  obtain ⟨N, g, v, b, rfl, hx, e, q⟩ := h
  obtain ⟨u1, u2, rfl, r1, r2⟩ := vals2 r
  cases r1
  cases r2
  obtain ⟨hget, _⟩ := I.pin (a, oe) (List.mem_append.mpr (.inl List.mem_cons_self))
  obtain ⟨vs, hd⟩ := hf
  have hx' : ObjOk X.prog X.w H s.heap d (.xd [(g, v)]) := I.hok d _ hx
  obtain ⟨mA, hns, hr⟩ := hx'
  obtain ⟨od, ho, hl⟩ := lookIn_ns hns
  have J : PySem.W.InstAt s.heap a oe C (some od) := ⟨hget, hz.1, by unfold PySem.W.notCls; rw [hd] <;> rfl, by rw [hz.2]; exact ho⟩
  exact PySem.W.kia_one (PySem.W.kitx_exc T.cl T.ga T.gt T.sb T.ca T.sp T.tk T.mo) I.kIn J e (fun z => nomatch z) fun tk => ⟨.bl b, H, I.kept (t' := tk) fun _ _ z => z, rfl, q⟩
/-! ### defs whose bodies show lists: they are told where nothing is being shown -/
structure FnG (P : Program) (w : World) (K : PySem.W.Frag) (mg : Str → Option Value) (base : Heap) (k : Nat) (f : Addr) (fd : FuncData) (ps : List Str) (sp : Sp) : Prop where
  len : ∀ vs H Q E, sp vs H Q E → vs.length = ps.length
  run : ∀ (A : Around) (outer : List Env) (s : Shared) (H : Hp) (args : Args) (us : List Value) (vs : List V) (Q : VK) (E : XK), Room k A → A.guards = some [] → Env0 P w K mg base A outer s H → BindsTo s fd args (ps.zip us) → Vals vs us → sp vs H Q E →
    codeAny (model P w) A (.call (.ref f) args) (CR CX0 outer P w H s Q E) s
end K1
/-! the text by places; short words for calls -/
namespace K1
open PySem PySem.Spec PyProof.Rows L2
def top (i : Nat) : Stmt := PySem.Challenge.pw_houseslessties_k44_whole_far_rounds_and.main.body.getD i (.Pass ⟨0, 0, 0, 0⟩)
abbrev sBadWebInit : Stmt := inClass (top 2) 0
abbrev sBadStepsInit : Stmt := inClass (top 3) 0
abbrev sRefusedInit : Stmt := inClass (top 4) 0
abbrev sTooGreatInit : Stmt := inClass (top 5) 0
abbrev sNoHouseInit : Stmt := inClass (top 6) 0
abbrev sWhole : Stmt := top 8
abbrev sBelow : Stmt := top 9
abbrev sSeq : Stmt := top 10
abbrev sFnb : Stmt := top 11
abbrev sWInit : Stmt := inClass (top 15) 0
abbrev sWEq : Stmt := inClass (top 15) 1
abbrev sPair : Stmt := top 16
abbrev sCTies : Stmt := top 17
abbrev sNeedH : Stmt := top 18
abbrev sCBy : Stmt := top 22
abbrev sCheckMeetings : Stmt := top 26
abbrev sOneAt : Stmt := top 27
abbrev sCountsBehind : Stmt := top 28
abbrev sParted : Stmt := top 29
abbrev sRoundCounts : Stmt := top 30
abbrev sCountsByPowers : Stmt := top 31
abbrev sMadeOf : Stmt := top 32
abbrev sHeardRounds : Stmt := top 33
abbrev sLBox : Stmt := top 35
abbrev sLTake : Stmt := top 36
abbrev sLPick : Stmt := top 37
abbrev sLTies : Stmt := top 38
abbrev sLMet : Stmt := top 39
abbrev sLBegun : Stmt := top 40
abbrev sLSplit : Stmt := top 41
abbrev sLHeard : Stmt := top 42
abbrev sLTrail : Stmt := top 43
abbrev sLFar : Stmt := top 44
abbrev sLRefusedRight : Stmt := top 45
abbrev sLaw : Stmt := top 46
/-- a def of the text: its object, its name in the module, how its arguments bind -/
structure Df (K : PySem.W.Frag) (mg : Str → Option Value) (x : Str) (st : Stmt) (ps : List Str) (f : Addr) (fd : FuncData) : Prop where
  F : Fun K x x st f fd
  g : mg x = some (.ref f)
  b : Binds K fd ps []
section
variable {X : Cx} {CX : CXT} {k : Nat} {f : Addr} {fd : FuncData} {ps : List Str} {sp : Sp} {E : XK} {x : Str} {st : Stmt} {p pos : Pos} {e : Expr} {es : List Expr} {t : TA}
/-- x(e, ..) -/
theorem pc (D : Df X.K X.mg x st ps f fd) (G : FnOk X.prog X.w X.K X.mg X.base CX k f fd ps sp) (hr : Room k X.A) (hx : Passes CX X E) (ha : PA X (e :: es) t) (hg : Gl X x := by rfl)
    (hdb : (x == ("__debug__" : Str)) = false := by decide) (he : starEach (e :: es) X.env = (false, eval e X.env) :: starEach es X.env := by rfl) (hpl : (backTo pos (starEach es X.env)).any (·.1) = false := by rfl) :
    PE X (.Call (.Name x p) (e :: es) [] pos) (tCall sp [] E t) := pe_call G hr hg D.g D.F.kp D.b .nil hx ha hdb he hpl
end
/-- what a def that raises may let out at its caller's def -/
theorem pass1 {X : Cx} {E : XK} (tk : Takes X (fun cls d _ H => E cls d H)) : Passes (L2.CX X.prog X.w) X E := passes_call tk fun _ _ _ _ h => h
/-! ### tests by cases -/
theorem ifD {c : Bool} {A B : Prop} (h1 : c = true → A) (h2 : c = false → B) : if c = true then A else B := by
  cases c with
  | true => exact iteT (h1 rfl)
  | false => exact iteF (h2 rfl)
theorem eqv {α : Type} {P : α → Prop} {a b : α} (e : a = b) (h : P b) : P a := e ▸ h
theorem qbl {Q : VK} {H : Hp} {a b : Bool} (e : a = b) (h : Q (.bl b) H) : Q (.bl a) H := e ▸ h
/-! ### values of any kind -/
/-- what a value is: some items for a list or a tuple, none for the others -/
inductive KV (K : PySem.W.Frag) (H : Hp) : V → Option (List V) → Prop
  | int (i : Int) : KV K H (.int i) none
  | bl (b : Bool) : KV K H (.bl b) none
  | non : KV K H .non none
  | str (x : Str) : KV K H (.str x) none
  | lst {a : Addr} {xs : List V} (h : H a = some (.lst xs)) : KV K H (.ref a) (some xs)
  | tup {a : Addr} {xs : List V} (h : H a = some (.tup xs)) : KV K H (.ref a) (some xs)
theorem KV.same {K : PySem.W.Frag} {H H' : Hp} {v : V} {o : Option (List V)} (h : KV K H v o) (s : Same H H') : KV K H' v o := by
  cases h with
  | int i => exact .int i
  | bl b => exact .bl b
  | non => exact .non
  | str x => exact .str x
  | lst h => exact .lst (s _ _ h)
  | tup h => exact .tup (s _ _ h)
def wholeB : V → Bool | .int _ => true | _ => false
def boolB : V → Bool | .bl _ => true | _ => false
inductive Tg where | i | b | n | s | l | t
def Tg.nm : Tg → String | .i => "int" | .b => "bool" | .n => "NoneType" | .s => "str" | .l => "list" | .t => "tuple"
def Tg.isI : Tg → Bool | .i => true | _ => false
def Tg.isB : Tg → Bool | .b => true | _ => false
def Tg.isQ : Tg → Bool | .l => true | .t => true | _ => false
theorem KV.ty {K : PySem.W.Frag} {H : Hp} {v : V} {o : Option (List V)} (h : KV K H v o) : ∃ g : Tg, TyX K H v (.type g.nm) ∧ g.isI = wholeB v ∧ g.isB = boolB v ∧ g.isQ = o.isSome := by
  cases h with
  | int i => exact ⟨.i, .base (.int i), rfl, rfl, rfl⟩
  | bl b => exact ⟨.b, .base (.bl b), rfl, rfl, rfl⟩
  | non => exact ⟨.n, .base .non, rfl, rfl, rfl⟩
  | str x => exact ⟨.s, .base (.str x), rfl, rfl, rfl⟩
  | lst h => exact ⟨.l, .base (.lst h), rfl, rfl, rfl⟩
  | tup h => exact ⟨.t, .base (.tup h), rfl, rfl, rfl⟩
theorem kit_I (K : PySem.W.Frag) (g : Tg) : PySem.W.kitOne K (.type g.nm) (.type "int") = some (g.isI || g.isB) := by
  cases g <;> exact kit_ty (by decide +kernel)
theorem kit_B (K : PySem.W.Frag) (g : Tg) : PySem.W.kitOne K (.type g.nm) (.type "bool") = some g.isB := by
  cases g <;> exact kit_ty (by decide +kernel)
def Tg.isL : Tg → Bool | .l => true | _ => false
def Tg.isT : Tg → Bool | .t => true | _ => false
theorem kit_L (K : PySem.W.Frag) (g : Tg) : PySem.W.kitOne K (.type g.nm) (.type "list") = some g.isL := by
  cases g <;> exact kit_ty (by decide +kernel)
theorem kit_T (K : PySem.W.Frag) (g : Tg) : PySem.W.kitOne K (.type g.nm) (.type "tuple") = some g.isT := by
  cases g <;> exact kit_ty (by decide +kernel)
theorem kit_Q (K : PySem.W.Frag) (g : Tg) : PySem.W.kitAny K (.type g.nm) [.type "list", .type "tuple"] = some g.isQ := by
  refine kitAny_cons (kit_L K g) (fun e => kitAny_cons (kit_T K g) (fun e2 => ?_) fun e2 => ?_) fun e => ?_
  all_goals (cases g <;> first | rfl | (cases e; done) | (cases e2; done))
/-- the built-in names that the text uses are the built-in ones -/
structure Bt (mg : Str → Option Value) : Prop where
  isinstance : mg "isinstance" = none
  int : mg "int" = none
  bool : mg "bool" = none
  list : mg "list" = none
  tuple : mg "tuple" = none
  len : mg "len" = none
  enumerate : mg "enumerate" = none
  range : mg "range" = none
  sorted : mg "sorted" = none
  set : mg "set" = none
  repr : mg "repr" = none
  abs : mg "abs" = none
  min : mg "min" = none
  max : mg "max" = none
  sum : mg "sum" = none
  all : mg "all" = none
  any : mg "any" = none
  zip : mg "zip" = none
  str : mg "str" = none
  dict : mg "dict" = none
  ke : mg "KeyError" = none
end K1
namespace K1
open PySem PySem.Spec PyProof.Rows L2
def belowB (v : V) (lim : Int) : Bool := match v with | .int i => decide (0 ≤ i) && decide (i < lim) | _ => false
def seqB (o : Option (List V)) (least most : Int) : Bool := match o with | some xs => decide (least ≤ (xs.length : Int)) && decide ((xs.length : Int) ≤ most) | none => false
def spWhole (K : PySem.W.Frag) : Sp := fun vs H Q _ => ∃ v o, vs = [v] ∧ KV K H v o ∧ Q (.bl (wholeB v)) H
def spBelow (K : PySem.W.Frag) : Sp := fun vs H Q _ => ∃ v o lim, vs = [v, .int lim] ∧ KV K H v o ∧ Q (.bl (belowB v lim)) H
def spSeq (K : PySem.W.Frag) : Sp := fun vs H Q _ => ∃ v o least most, vs = [v, .int least, .int most] ∧ KV K H v o ∧ ∀ H', Same H H' → Q (.bl (seqB o least most)) H'
section
variable {P : Program} {w : World} {K : PySem.W.Frag} {mg : Str → Option Value} {base : Heap}
theorem scW : FnScope ["value"] ["value"] (defScope sWhole) := ⟨rfl, rfl, rfl, by decide +kernel, rfl, by decide +kernel, by decide +kernel⟩
theorem ok_whole {f : Addr} {fd : FuncData} (D : Df K mg "is_whole" sWhole ["value"] f fd) (B : Bt mg) : FnOk P w K mg base CX0 1 f fd ["value"] (spWhole K) := by
  refine D.F.ok scW (fun vs H Q E h => ?_) (fun cdv A outer s H vs Q E hr h => ?_)
  · obtain ⟨v, o, rfl, _⟩ := h
    rfl
  · obtain ⟨v, o, rfl, kv, q⟩ := h
    obtain ⟨g, ty, eI, eB, eQ⟩ := kv.ty
    refine ⟨_, pss_one (ps_ret (pe_and (pe_callB call_isi (by rfl) B.isinstance (by decide +kernel) (pa_cons (pv 0) (pa_cons (pe_bltn (v := .ty "int") (by rfl) B.int PyProof.Rows.boot_int rfl) pa_nil)))
      (pe_one (pe_not (pe_callB call_isi (by rfl) B.isinstance (by decide +kernel) (pa_cons (pv 0) (pa_cons (pe_bltn (v := .ty "bool") (by rfl) B.bool PyProof.Rows.boot_bool rfl) pa_nil))))))), ?_⟩
    refine ⟨_, rfl, _, _, _, _, _, rfl, .ty _, ty, kit_I K g, _, rfl, ifD (fun e => ?_) fun e => ?_⟩
    · refine ⟨_, rfl, _, _, _, _, _, rfl, .ty _, ty, kit_B K g, _, rfl, ?_⟩
      have z : (!g.isB) = wholeB v := by rw [← eI]; cases g <;> first | rfl | cases e
      exact qbl z q
    · have z : false = wholeB v := by rw [← eI]; cases g <;> first | rfl | cases e
      exact qbl z q
theorem scB : FnScope ["value", "limit"] ["value", "limit"] (defScope sBelow) := ⟨rfl, rfl, rfl, by decide +kernel, rfl, by decide +kernel, by decide +kernel⟩
theorem ok_below {f fW : Addr} {fd fdW : FuncData} (D : Df K mg "is_below" sBelow ["value", "limit"] f fd) (DW : Df K mg "is_whole" sWhole ["value"] fW fdW) (B : Bt mg) : FnOk P w K mg base CX0 2 f fd ["value", "limit"] (spBelow K) := by
  have GW : FnOk P w K mg base CX0 1 fW fdW ["value"] (spWhole K) := ok_whole DW B
  refine D.F.ok scB (fun vs H Q E h => ?_) (fun cdv A outer s H vs Q E hr h => ?_)
  · obtain ⟨v, o, lim, rfl, _⟩ := h
    rfl
  · obtain ⟨v, o, lim, rfl, kv, q⟩ := h
    refine ⟨_, pss_one (ps_ret (pe_and (pc DW GW hr pass0 (pa_cons (pv 0) pa_nil)) (pe_one (pe_chain op_le op_lt pe_int (pv 0) (pv 1))))), ?_⟩
    refine ⟨_, rfl, _, _, rfl, kv, _, rfl, ifD (fun e => ?_) fun e => ?_⟩
    · obtain ⟨i, rfl⟩ : ∃ i, v = .int i := by
        cases v <;> first | exact ⟨_, rfl⟩ | cases e
      refine ⟨_, rfl, _, _, rfl, rfl, _, rfl, ifD (fun e2 => ?_) fun e2 => ?_⟩
      · refine ⟨_, rfl, _, _, rfl, rfl, ?_⟩
        have z : decide (i < lim) = belowB (.int i) lim := by
          show _ = (decide (0 ≤ i) && decide (i < lim))
          rw [e2]; rfl
        exact qbl z q
      · have z : false = belowB (.int i) lim := by
          show _ = (decide (0 ≤ i) && decide (i < lim))
          rw [e2]; rfl
        exact qbl z q
    · have z : false = belowB v lim := by cases v <;> first | rfl | cases e
      exact qbl z q
theorem scS : FnScope ["value", "least", "most"] ["value", "least", "most"] (defScope sSeq) := ⟨rfl, rfl, rfl, by decide +kernel, rfl, by decide +kernel, by decide +kernel⟩
theorem ok_seq {f : Addr} {fd : FuncData} (D : Df K mg "is_sequence" sSeq ["value", "least", "most"] f fd) (B : Bt mg) : FnOk P w K mg base CX0 1 f fd ["value", "least", "most"] (spSeq K) := by
  refine D.F.ok scS (fun vs H Q E h => ?_) (fun cdv A outer s H vs Q E hr h => ?_)
  · obtain ⟨v, o, least, most, rfl, _⟩ := h
    rfl
  · obtain ⟨v, o, least, most, rfl, kv, q⟩ := h
    refine ⟨_, pss_one (ps_ret (pe_and (pe_callB call_isiT (by rfl) B.isinstance (by decide +kernel) (pa_cons (pv 0) (pa_cons (pe_tup (pa_cons (pe_bltn (v := .ty "list") (by rfl) B.list PyProof.Rows.boot_list rfl) (pa_cons (pe_bltn (v := .ty "tuple") (by rfl) B.tuple PyProof.Rows.boot_tuple rfl) pa_nil))) pa_nil)))
      (pe_one (pe_chain op_le op_le (pv 1) (pe_callB call_len_seq (by rfl) B.len PySem.boot_len (pa_cons (pv 0) pa_nil)) (pv 2))))), ?_⟩
    refine ⟨_, rfl, (by show 2 ≤ sizeLine; decide), fun p hp => ?_⟩
    have sm : Same H (upd H p (.tup [.ty "list", .ty "tuple"])) := fun b o e => by rw [upd_ne (ne_of_none e hp)]; exact e
    obtain ⟨g, ty, eI, eB, eQ⟩ := (kv.same sm).ty
    refine ⟨_, _, _, _, _, _, rfl, upd_same, .cons (.ty _) (.cons (.ty _) .nil), ty, kit_Q K g, _, rfl, ifD (fun e => ?_) fun e => ?_⟩
    · have kv2 := kv.same sm
      generalize hH1 : upd H p (.tup [.ty "list", .ty "tuple"]) = H1 at *
      rw [eQ] at e
      have q2 := q _ sm
      cases kv with
      | lst h =>
        rename_i a xs
        have h1 : H1 a = some (.lst xs) := sm _ _ h
        refine ⟨_, rfl, _, rfl, _, _, rfl, .inl (SqL.of h1), _, _, rfl, rfl, _, rfl, ifD (fun e2 => ?_) fun e2 => ?_⟩
        · refine ⟨_, rfl, _, _, rfl, rfl, qbl ?_ q2⟩
          show _ = (decide (least ≤ (xs.length : Int)) && decide ((xs.length : Int) ≤ most))
          rw [e2]; rfl
        · refine qbl ?_ q2
          show _ = (decide (least ≤ (xs.length : Int)) && decide ((xs.length : Int) ≤ most))
          rw [e2]; rfl
      | tup h =>
        rename_i a xs
        have h1 : H1 a = some (.tup xs) := sm _ _ h
        refine ⟨_, rfl, _, rfl, _, _, rfl, .inr (SqT.of h1), _, _, rfl, rfl, _, rfl, ifD (fun e2 => ?_) fun e2 => ?_⟩
        · refine ⟨_, rfl, _, _, rfl, rfl, qbl ?_ q2⟩
          show _ = (decide (least ≤ (xs.length : Int)) && decide ((xs.length : Int) ≤ most))
          rw [e2]; rfl
        · refine qbl ?_ q2
          show _ = (decide (least ≤ (xs.length : Int)) && decide ((xs.length : Int) ≤ most))
          rw [e2]; rfl
      | _ => cases e
    · rw [eQ] at e
      have z : o = none := by cases o <;> first | rfl | cases e
      subst z
      exact q _ sm
end
end K1
namespace K1
open PySem PySem.Spec PyProof.Rows L2
def fnb (xs : List V) (lim : Int) : V := match xs.findIdx? (fun x => !belowB x lim) with | some i => .int (i : Nat) | none => .non
theorem fnb_at {xs : List V} {lim : Int} {i : Nat} {x : V} (hx : xs[i]? = some x) (hn : belowB x lim = false) (hb : ∀ j y, j < i → xs[j]? = some y → belowB y lim = true) : fnb xs lim = .int (i : Nat) := by
  obtain ⟨hi, ex⟩ := List.getElem?_eq_some_iff.mp hx
  have e : xs.findIdx? (fun x => !belowB x lim) = some i := by
    rw [List.findIdx?_eq_some_iff_getElem]
    refine ⟨hi, by rw [ex, hn]; rfl, fun j hj => ?_⟩
    have hj' : j < xs.length := Nat.lt_trans hj hi
    have := hb j xs[j] hj (by simp [hj'])
    simp [this]
  unfold fnb
  rw [e]
theorem fnb_none {xs : List V} {lim : Int} (hb : ∀ j y, j < xs.length → xs[j]? = some y → belowB y lim = true) : fnb xs lim = .non := by
  have e : xs.findIdx? (fun x => !belowB x lim) = none := by
    rw [List.findIdx?_eq_none_iff]
    intro x hx
    obtain ⟨j, hj, e⟩ := List.mem_iff_getElem.mp hx
    have := hb j xs[j] hj (by simp [hj])
    rw [← e, this]; rfl
  unfold fnb
  rw [e]
/-- a list or tuple at a -/
def SeqA (H : Hp) (a : Addr) (xs : List V) : Prop := H a = some (.lst xs) ∨ H a = some (.tup xs)
theorem SeqA.same {H H' : Hp} {a : Addr} {xs : List V} (h : SeqA H a xs) (s : Same H H') : SeqA H' a xs := h.elim (fun h => .inl (s _ _ h)) fun h => .inr (s _ _ h)
theorem SeqA.kv {K : PySem.W.Frag} {H : Hp} {a : Addr} {xs : List V} (h : SeqA H a xs) : KV K H (.ref a) (some xs) := h.elim .lst .tup
/-- each item is of some kind -/
def Kinds (K : PySem.W.Frag) (H : Hp) (xs : List V) : Prop := ∀ x ∈ xs, ∃ o, KV K H x o
theorem Kinds.same {K : PySem.W.Frag} {H H' : Hp} {xs : List V} (h : Kinds K H xs) (s : Same H H') : Kinds K H' xs := fun x hx => let ⟨o, k⟩ := h x hx; ⟨o, k.same s⟩
theorem same_new {H : Hp} {p : Addr} {o : HO} (hp : H p = none) : Same H (upd H p o) := fun b u e => by rw [upd_ne (ne_of_none e hp)]; exact e
def spFnb (K : PySem.W.Frag) : Sp := fun vs H Q _ => ∃ a xs lim, vs = [.ref a, .int lim] ∧ SeqA H a xs ∧ Kinds K H xs ∧ ∀ H', Same H H' → Q (fnb xs lim) H'
section
variable {P : Program} {w : World} {K : PySem.W.Frag} {mg : Str → Option Value} {base : Heap}
theorem scF : FnScope ["items", "limit", "at", "item"] ["items", "limit"] (defScope sFnb) := ⟨rfl, rfl, rfl, by decide +kernel, rfl, by decide +kernel, by decide +kernel⟩
/-- one turn of the search, and the way behind it: the iterator is a list's or a tuple's -/
theorem ok_fnb {f fB : Addr} {fd fdB : FuncData} (D : Df K mg "first_not_below" sFnb ["items", "limit"] f fd) (DB : Df K mg "is_below" sBelow ["value", "limit"] fB fdB) (B : Bt mg)
    (GB : FnOk P w K mg base CX0 2 fB fdB ["value", "limit"] (spBelow K)) : FnOk P w K mg base CX0 3 f fd ["items", "limit"] (spFnb K) := by
  refine D.F.ok scF (fun vs H Q E h => ?_) (fun cdv A outer s H vs Q E hr h => ?_)
  · obtain ⟨a, xs, lim, rfl, _⟩ := h
    rfl
  · obtain ⟨a, xs, lim, rfl, hS, hK, q⟩ := h
    refine ⟨_, pss_cons (ps_for PassesOwn.never rfl (pi_enumA (by rfl) B.enumerate (pa_cons (pv 0) pa_nil))
        (pg_tup rfl (pgs_cons (pg_name (i := 2) scF.nd rfl (.inl rfl)) (pgs_cons (pg_name (i := 3) scF.nd rfl (.inl rfl)) pgs_nil)))
        (pss_one (ps_if (pt_not (pt_val (pc DB GB hr pass0 (pa_cons (pv 3) (pa_cons (pv 1) pa_nil))))) (pss_one (ps_ret (pv 2))) pss_nil)))
      (pss_one (ps_ret pe_non)), ?_⟩
    let Pv : Nat → L2.St → Hp → Prop := fun i σ H' => ∃ v2 v3 : Option V, σ = [some (.ref a), some (.int lim), v2, v3] ∧ Same H H' ∧ ∀ j y, j < i → xs[j]? = some y → belowB y lim = true
    have end_ : ∀ σ H', Pv xs.length σ H' → Q .non H' := fun σ H' ⟨v2, v3, _, sm, hb⟩ => by
      have := q H' sm
      rw [fnb_none hb] at this
      exact this
    refine ⟨_, rfl, a, rfl, ?_⟩
    rcases hS with hS | hS
    · refine .inl ⟨xs, SqL.of hS, for_enumL (K := K) Pv ⟨none, none, rfl, Same.refl H, fun j y hj => absurd hj (Nat.not_lt_zero _)⟩ (fun i σ H' _ ⟨_, _, _, sm, _⟩ => SqL.of (sm _ _ hS)) ?_ end_⟩
      rintro i x T σ H' hx hT ⟨v2, v3, rfl, sm, hb⟩
      have sm2 : Same H (upd H' T (.tup [.int (i : Nat), x])) := sm.trans (same_new hT)
      obtain ⟨o, kv⟩ := hK x (List.mem_of_getElem? hx)
      refine ⟨T, _, rfl, SqT.of upd_same, rfl, _, _, rfl, _, _, rfl, rfl, ?_⟩
      refine ⟨_, rfl, _, rfl, _, o, lim, rfl, kv.same sm2, _, rfl, ?_⟩
      refine ifD (fun e => ?_) fun e => ?_
      · refine ⟨_, rfl, ?_⟩
        have e' : belowB x lim = false := by simpa using e
        have := q _ sm2
        rw [fnb_at hx e' hb] at this
        exact this
      · have e' : belowB x lim = true := by simpa using e
        refine ⟨_, _, rfl, sm2, fun j y hj hy => ?_⟩
        rcases Nat.lt_succ_iff_lt_or_eq.mp hj with z | z
        · exact hb j y z hy
        · subst z
          rw [hx] at hy
          rw [← Option.some.inj hy]
          exact e'
    · refine .inr ⟨xs, SqT.of hS, for_enumT (K := K) Pv ⟨none, none, rfl, Same.refl H, fun j y hj => absurd hj (Nat.not_lt_zero _)⟩ (fun i σ H' _ ⟨_, _, _, sm, _⟩ => SqT.of (sm _ _ hS)) ?_ end_⟩
      rintro i x T σ H' hx hT ⟨v2, v3, rfl, sm, hb⟩
      have sm2 : Same H (upd H' T (.tup [.int (i : Nat), x])) := sm.trans (same_new hT)
      obtain ⟨o, kv⟩ := hK x (List.mem_of_getElem? hx)
      refine ⟨T, _, rfl, SqT.of upd_same, rfl, _, _, rfl, _, _, rfl, rfl, ?_⟩
      refine ⟨_, rfl, _, rfl, _, o, lim, rfl, kv.same sm2, _, rfl, ?_⟩
      refine ifD (fun e => ?_) fun e => ?_
      · refine ⟨_, rfl, ?_⟩
        have e' : belowB x lim = false := by simpa using e
        have := q _ sm2
        rw [fnb_at hx e' hb] at this
        exact this
      · have e' : belowB x lim = true := by simpa using e
        refine ⟨_, _, rfl, sm2, fun j y hj hy => ?_⟩
        rcases Nat.lt_succ_iff_lt_or_eq.mp hj with z | z
        · exact hb j y z hy
        · subst z
          rw [hx] at hy
          rw [← Option.some.inj hy]
          exact e'
end
end K1
namespace K1
open PySem PySem.Spec PyProof.Rows L2
/-! ### small words -/
theorem seqG {t u : TS} {D : Ends} {σ : L2.St} {H : Hp} (G : L2.St → Hp → Prop) (hu : ∀ σ H, G σ H → u D σ H) (ht : (∀ σ H, G σ H → u D σ H) → t { D with nx := u D } σ H) : tSeq t u D σ H := ht hu
theorem gn {i : Nat} {x : V} {σ : L2.St} {H : Hp} {Q : L2.St → Hp → Prop} (h : Q (σ.set i (some x)) H) : gName i x σ H Q := h
theorem nxP {D : Ends} {σ : L2.St} {H : Hp} (h : D.nx σ H) : tNext D σ H := h
theorem nilP {σ : L2.St} {H : Hp} {Q : List V → Hp → Prop} (h : Q [] H) : tNil σ H Q := h
theorem cP {v : V} {σ : L2.St} {H : Hp} {Q : VK} (h : Q v H) : tC v σ H Q := h
theorem noP {σ : L2.St} {H : Hp} {Q : Option Int → Hp → Prop} (h : Q none H) : tNoPart σ H Q := h
theorem iteN {c : Bool} {A B : Prop} (e : c = false) (h : B) : if c = true then A else B := by subst e; exact iteF h
theorem iteY {c : Bool} {A B : Prop} (e : c = true) (h : A) : if c = true then A else B := by subst e; exact iteT h
theorem neV {x : V} {Q : VK} {H : Hp} (hs : scal x x = true) (q : Q (.bl false) H) : rNe x x H Q := ⟨hs, qbl (by rw [decide_eq_true rfl]; rfl) q⟩
theorem eqVV {x : V} {Q : VK} {H : Hp} (hs : scal x x = true) (q : Q (.bl true) H) : rEq x x H Q := ⟨hs, qbl (by rw [decide_eq_true rfl]) q⟩
theorem passF {X : Cx} : Passes (L2.CX X.prog X.w) X (fun _ _ _ => False) := passes_call LamX.takes0 fun _ _ _ _ h => h
theorem take_succ {α : Type} {l : List α} {i : Nat} {x : α} (h : l[i]? = some x) : l.take (i + 1) = l.take i ++ [x] := by
  rw [List.take_add_one, h]; rfl
theorem fnb_all {xs : List V} {lim : Int} (h : ∀ x ∈ xs, belowB x lim = true) : fnb xs lim = .non := fnb_none fun j y _ hy => h y (List.mem_of_getElem? hy)
theorem find_at {α : Type} {rs : List α} {p : α → Bool} {i : Nat} {r : α} (hr : rs[i]? = some r) (hn : p r = true) (hb : ∀ (j : Nat) y, j < i → rs[j]? = some y → p y = false) : rs.findIdx? p = some i := by
  obtain ⟨hi, ex⟩ := List.getElem?_eq_some_iff.mp hr
  rw [List.findIdx?_eq_some_iff_getElem]
  refine ⟨hi, by rw [ex, hn], fun j hj => ?_⟩
  have hj' : j < rs.length := Nat.lt_trans hj hi
  have := hb j rs[j] hj (by simp [hj'])
  simp [this]
theorem find_none {α : Type} {rs : List α} {p : α → Bool} (hb : ∀ (j : Nat) y, j < rs.length → rs[j]? = some y → p y = false) : rs.findIdx? p = none := by
  rw [List.findIdx?_eq_none_iff]
  intro x hx
  obtain ⟨j, hj, e⟩ := List.mem_iff_getElem.mp hx
  exact e ▸ hb j rs[j] hj (by simp [hj])
theorem lookup_same {α : Type} {l : List α} {i : Nat} {x y : α} (h1 : l[i]? = some x) (h2 : l[i]? = some y) : x = y := Option.some.inj (h1.symm.trans h2)
theorem ex_at {α : Type} {l : List α} {i : Nat} (h : i < l.length) : ∃ x, l[i]? = some x := ⟨l[i], List.getElem?_eq_getElem h⟩
theorem lt_at {α : Type} {l : List α} {i : Nat} {x : α} (h : l[i]? = some x) : i < l.length := (List.getElem?_eq_some_iff.mp h).1
theorem map_at {α β : Type} {f : α → β} {l : List α} {i : Nat} {x : α} (h : l[i]? = some x) : (l.map f)[i]? = some (f x) := by rw [List.getElem?_map, h]; rfl
theorem at_map {α β : Type} {f : α → β} {l : List α} {i : Nat} {y : β} (h : (l.map f)[i]? = some y) : ∃ x, l[i]? = some x ∧ y = f x := by
  rw [List.getElem?_map] at h
  cases e : l[i]? with
  | none => rw [e] at h; cases h
  | some x => rw [e] at h; exact ⟨x, rfl, (Option.some.inj h).symm⟩
theorem at_i {xs : List V} {i : Nat} {x : V} (h : xs[i]? = some x) : atI xs (i : Int) = some x := at_of (j := i) rfl h
theorem sz {n : Nat} (h : n ≤ 16777216) : n ≤ sizeLine := by rw [sizeLine_eq]; exact h
theorem szl {n : Nat} (h : n < 16777216) : n < sizeLine := by rw [sizeLine_eq]; exact h
/-! ### rules with the fragment told -/
section
variable {X : Cx} {K : PySem.W.Frag}
theorem neD (h : X.K = K) (hu : X.A.units + 64 < cLine) : OpR X (compareOp .NotEq) (rNeD K) := by subst h; exact op_neD hu
theorem eqD (h : X.K = K) (hu : X.A.units + 64 < cLine) : OpR X (compareOp .Eq) (rEqD K) := by subst h; exact op_eqD hu
def rList (K : PySem.W.Frag) : List V → Hp → VK → Prop := fun xs H Q => ∃ p ys, xs = [.ref p] ∧ (SqL K H p ys ∨ SqT K H p ys) ∧ ∀ l, H l = none → Q (.ref l) (upd H l (.lst ys))
theorem clist (h : X.K = K) : CallR X (.type "list") (rList K) := by subst h; exact call_list_of
def rTup (K : PySem.W.Frag) : List V → Hp → VK → Prop := fun xs H Q => ∃ p ys, xs = [.ref p] ∧ ((SqL K H p ys ∧ ∀ l, H l = none → Q (.ref l) (upd H l (.tup ys))) ∨ (SqT K H p ys ∧ Q (.ref p) H))
theorem ctup (h : X.K = K) : CallR X (.type "tuple") (rTup K) := by subst h; exact call_tuple_of
theorem slL (h : X.K = K) : SlR X (rSlL K) := by subst h; exact sl_list
theorem slA (h : X.K = K) : SlR X (rSlA K) := by subst h; exact sl_tupA
theorem piL {tg l : Expr} {tl : TE} (h : X.K = K) (hl : PE X l tl) : PI X tg l (iList K tl) := by subst h; exact pi_list hl
theorem ixTK (h : X.K = K) : IxR X (rIxT K) := by subst h; exact ix_tup
theorem ixLK (h : X.K = K) : IxR X (rIxL K) := by subst h; exact ix_list
def rLenK (K : PySem.W.Frag) : List V → Hp → VK → Prop := fun xs H Q => ∃ p ys, xs = [.ref p] ∧ (SqL K H p ys ∨ SqT K H p ys) ∧ Q (.int (ys.length : Int)) H
theorem clen (h : X.K = K) : CallR X (.builtin "len") (rLenK K) := by subst h; exact call_len_seq
theorem opInK (h : X.K = K) : OpR X (compareOp .In) (rIn K false) := by subst h; exact op_in_seq
theorem opNotInK (h : X.K = K) : OpR X (compareOp .NotIn) (rIn K true) := by subst h; exact op_notIn_seq
theorem opCatA (h : X.K = K) : OpR X (binaryOp .Add) (rCatA K) := by subst h; exact op_catA
theorem pe_fldK {e : Expr} {f : Str} {te : TE} {pos : Pos} (h : X.K = K) (he : PE X e te) (hb : attributeBase e f X.env (eval e X.env) = eval e X.env) : PE X (.Attribute e f pos) (tFld K te f) := by subst h; exact pe_fld he hb
end
/-! ### slices and sums of tuples -/
theorem cut_to {xs : List V} {k : Nat} (h : k ≤ xs.length) : cutV xs none (some (k : Int)) = xs.take k := by
  unfold cutV
  rw [HT.sIx_nat, HT.sIx_none, Nat.min_eq_left h]; rfl
theorem cut_from {xs : List V} {k : Nat} (h : k ≤ xs.length) : cutV xs (some (k : Int)) none = xs.drop k := by
  unfold cutV
  rw [HT.sIx_nat, HT.sIx_none, Nat.min_eq_left h, ← List.length_drop, List.take_length]
theorem catA_by {K : PySem.W.Frag} {H : Hp} {Q : VK} {a b : Addr} {xs ys : List V} (ha : H a = some (.tup xs)) (hb : H b = some (.tup ys)) (hl : xs.length + ys.length ≤ sizeLine) (q : ∀ p H', Same H H' → H' p = some (.tup (xs ++ ys)) → Q (.ref p) H') : rCatA K (.ref a) (.ref b) H Q := by
  refine ⟨a, b, xs, ys, rfl, rfl, SqT.of ha, SqT.of hb, hl, fun e => ?_, fun _ e => ?_, fun _ _ p hp => q p _ (K1.same_new hp) upd_same⟩
  · subst e
    exact q b H (fun _ _ e => e) hb
  · subst e
    exact q a H (fun _ _ e => e) (by rw [List.append_nil]; exact ha)
theorem slA_by {K : PySem.W.Frag} {H : Hp} {Q : VK} {a : Addr} {xs : List V} {lo hi : Option Int} (ha : H a = some (.tup xs)) (q : ∀ p H', Same H H' → H' p = some (.tup (cutV xs lo hi)) → Q (.ref p) H') : rSlA K (.ref a) lo hi H Q := by
  refine ⟨a, xs, rfl, SqT.of ha, fun e => ?_, fun _ p hp => q p _ (K1.same_new hp) upd_same⟩
  refine q a H (fun _ _ e => e) ?_
  rw [ha]
  unfold cutV
  rw [e.1, e.2, List.drop_zero, Nat.sub_zero, List.take_length]
/-! ### errors, rows of values -/
/-- an error of the class at C, its field f at v -/
def Rz (C : Addr) (f : Str) (v : V) (H : Hp) (E : XK) : Prop := ∀ d H', Same H H' → H d = none → H' d = some (.xd [(f, v)]) → E (.ref C) (some d) H'
/-- a value, whose items (if it has some) are of known kinds -/
structure Rw (K : PySem.W.Frag) (H : Hp) (x : V) (r : Option (List V)) : Prop where
  kv : KV K H x r
  ks : ∀ ys, r = some ys → Kinds K H ys
theorem Rw.same {K : PySem.W.Frag} {H H' : Hp} {x : V} {r : Option (List V)} (h : Rw K H x r) (s : Same H H') : Rw K H' x r := ⟨h.kv.same s, fun ys e => (h.ks ys e).same s⟩
theorem KV.seqA {K : PySem.W.Frag} {H : Hp} {x : V} {ys : List V} (h : KV K H x (some ys)) : ∃ a, x = .ref a ∧ SeqA H a ys := by
  cases h with
  | lst h => exact ⟨_, rfl, .inl h⟩
  | tup h => exact ⟨_, rfl, .inr h⟩
theorem kv_any {K K' : PySem.W.Frag} {H : Hp} {v : V} {o : Option (List V)} (kv : KV K' H v o) : KV K H v o := by cases kv <;> first | exact .int _ | exact .bl _ | exact .non | exact .str _ | exact .lst (by assumption) | exact .tup (by assumption)
/-! ### whole numbers by rows -/
def vrow (t : List Int) : List V := t.map V.int
def dI (t : List Int) : List PyData := t.map PyData.int
theorem dp_ints {K : PySem.W.Frag} {H : Hp} : ∀ t : List Int, DpAll K H (vrow t) (dI t)
  | [] => .nil
  | i :: r => .cons (.int i) (dp_ints r)
theorem dp_tup {K : PySem.W.Frag} {H : Hp} {a : Addr} {t : List Int} (h : H a = some (.tup (vrow t))) : Dp K H (.ref a) (.tuple (dI t)) := .tup (SqT.of h) (dp_ints t)
theorem dp_lst {K : PySem.W.Frag} {H : Hp} {a : Addr} {t : List Int} (h : H a = some (.lst (vrow t))) : Dp K H (.ref a) (.list (dI t)) := .lst (SqL.of h) (dp_ints t)
theorem vrow_set (t : List Int) (i : Nat) (x : Int) : vrow (t.set i x) = (vrow t).set i (.int x) := by unfold vrow; rw [List.map_set]
theorem vrow_len (t : List Int) : (vrow t).length = t.length := List.length_map _
theorem vrow_at {t : List Int} {i : Nat} {v : V} (h : (vrow t)[i]? = some v) : ∃ x, t[i]? = some x ∧ v = .int x := at_map h
theorem vrow_get {t : List Int} {i : Nat} (h : i < t.length) : (vrow t)[i]? = some (V.int (t.getD i 0)) := by
  rw [vrow, List.getElem?_map, List.getD_eq_getElem?_getD, List.getElem?_eq_getElem h]; rfl
/-- plain data: shown shortly, compared by what they hold -/
structure Pl (d : PyData) (n w : Nat) : Prop where
  lay : d.canLay0 = true
  sh : d.showable = true
  nd : d.hasDict = false
  dp : d.depth ≤ n
  wt : d.weight ≤ w
  sr : d.leavesShort 20 = true
structure PlA (ds : List PyData) (n w : Nat) : Prop where
  lay : PyData.canLayAll0 ds = true
  sh : PyData.showableAll ds = true
  nd : PyData.hasDictAll ds = false
  dp : PyData.depthAll ds ≤ n
  wt : PyData.weightAll ds ≤ w
  sr : PyData.leavesShortAll 20 ds = true
theorem Pl.int {i : Int} (h : i.natAbs < 10 ^ 19) : Pl (.int i) 0 64 := by
  have h3 : i.natAbs ≠ 0 → i.natAbs.log2 < 64 := fun z => (Nat.log2_lt z).mpr (Nat.lt_of_lt_of_le h (by decide))
  refine ⟨by simp only [PyData.canLay0], ?_, by simp only [PyData.hasDict], by simp only [PyData.depth]; omega, ?_, ?_⟩
  · simp only [PyData.showable, decide_eq_true_eq]
    by_cases z : i.natAbs = 0
    · rw [z]; decide
    · have := h3 z
      omega
  · simp only [PyData.weight]
    split
    · omega
    · rename_i z
      have := h3 (fun e => z (by rw [Int.natAbs_eq_zero.mp e]; rfl))
      omega
  · have e := int_text_length_le10 (a := i) (k := 19) (by decide) h
    simp only [PyData.leavesShort, decide_eq_true_eq, PyData.shown]
    exact decide_eq_true (Nat.le_trans (Nat.le_of_eq (PySem.ofString_length _)) e)
theorem Pl.bl (b : Bool) : Pl (.bool b) 0 0 := ⟨by simp only [PyData.canLay0], by simp only [PyData.showable], by simp only [PyData.hasDict], by simp only [PyData.depth]; omega, by simp only [PyData.weight]; omega, by simp only [PyData.leavesShort]⟩
theorem PlA.nil : PlA [] 0 0 := ⟨by simp only [PyData.canLayAll0], by simp only [PyData.showableAll], by simp only [PyData.hasDictAll], by simp only [PyData.depthAll]; omega, by simp only [PyData.weightAll]; omega, by simp only [PyData.leavesShortAll]⟩
theorem PlA.cons {d : PyData} {ds : List PyData} {n m u v : Nat} (a : Pl d n u) (b : PlA ds m v) : PlA (d :: ds) (max n m) (u + 1 + v) := by
  refine ⟨by simp only [PyData.canLayAll0, a.lay, b.lay, Bool.and_self], by simp only [PyData.showableAll, a.sh, b.sh, Bool.and_self], by simp only [PyData.hasDictAll, a.nd, b.nd, Bool.or_self], ?_, ?_, by simp only [PyData.leavesShortAll, a.sr, b.sr, Bool.and_self]⟩
  · have h1 := a.dp; have h2 := b.dp
    simp only [PyData.depthAll]; omega
  · have h1 := a.wt; have h2 := b.wt
    simp only [PyData.weightAll]; omega
theorem Pl.list {ds : List PyData} {n w : Nat} (a : PlA ds n w) : Pl (.list ds) (n + 1) w := by
  refine ⟨by simp only [PyData.canLay0, a.lay], by simp only [PyData.showable, a.sh], by simp only [PyData.hasDict, a.nd], ?_, ?_, by simp only [PyData.leavesShort, a.sr]⟩
  · have h1 := a.dp
    simp only [PyData.depth]; omega
  · have h1 := a.wt
    simp only [PyData.weight]; omega
theorem Pl.tuple {ds : List PyData} {n w : Nat} (a : PlA ds n w) : Pl (.tuple ds) (n + 1) w := by
  refine ⟨by simp only [PyData.canLay0, a.lay], by simp only [PyData.showable, a.sh], by simp only [PyData.hasDict, a.nd], ?_, ?_, by simp only [PyData.leavesShort, a.sr]⟩
  · have h1 := a.dp
    simp only [PyData.depth]; omega
  · have h1 := a.wt
    simp only [PyData.weight]; omega
theorem Pl.mono {d : PyData} {n w m v : Nat} (a : Pl d n w) (h1 : n ≤ m) (h2 : w ≤ v) : Pl d m v := ⟨a.lay, a.sh, a.nd, Nat.le_trans a.dp h1, Nat.le_trans a.wt h2, a.sr⟩
theorem PlA.mono {d : List PyData} {n w m v : Nat} (a : PlA d n w) (h1 : n ≤ m) (h2 : w ≤ v) : PlA d m v := ⟨a.lay, a.sh, a.nd, Nat.le_trans a.dp h1, Nat.le_trans a.wt h2, a.sr⟩
theorem Pl.shaped {d : PyData} {n w : Nat} (a : Pl d n w) (h : n ≤ 40) : SeqAt.shaped d = true := by
  have := a.dp
  unfold SeqAt.shaped
  rw [a.lay, decide_eq_true (by omega)]; rfl
theorem Pl.short {d : PyData} {n w : Nat} (a : Pl d n w) (h : w ≤ 100000) : d.shown.length ≤ sizeLine := by
  have h1 := PyData.shown_le 20 (by decide) d a.sr
  have h2 := a.wt
  rw [sizeLine_eq]
  omega
/-- rows of whole numbers below 10 ^ 19 -/
theorem pla_ints : ∀ t : List Int, (∀ i ∈ t, i.natAbs < 10 ^ 19) → PlA (dI t) 0 (t.length * 65)
  | [], _ => PlA.nil
  | i :: r, h => (PlA.cons (Pl.int (h i List.mem_cons_self)) (pla_ints r fun j hj => h j (List.mem_cons_of_mem _ hj))).mono (by omega) (by show 64 + 1 + r.length * 65 ≤ (r.length + 1) * 65; omega)
abbrev Ts := List (List Int)
theorem pla_rows {n : Nat} : ∀ ts : Ts, (∀ t ∈ ts, t.length ≤ n ∧ ∀ i ∈ t, i.natAbs < 10 ^ 19) → PlA (ts.map fun t => PyData.tuple (dI t)) 1 (ts.length * (n * 65 + 1))
  | [], _ => PlA.nil.mono (by omega) (by omega)
  | t :: r, h => by
    obtain ⟨h1, h2⟩ := h t List.mem_cons_self
    refine (PlA.cons (Pl.tuple (pla_ints t h2)) (pla_rows r fun u hu => h u (List.mem_cons_of_mem _ hu))).mono (by omega) ?_
    show t.length * 65 + 1 + r.length * (n * 65 + 1) ≤ (r.length + 1) * (n * 65 + 1)
    rw [Nat.add_mul]
    omega

theorem pl_str {x : Str} (h1 : PyData.strOk x = true) (h2 : x.cps.size ≤ 100) (h3 : (x.cps.toList.all fun c => decide (c < 16 ^ 8)) = true) : Pl (.str x) 0 100 :=
  ⟨by simp only [PyData.canLay0]; exact h1, by simp only [PyData.showable], by simp only [PyData.hasDict], by simp only [PyData.depth]; omega, by simp only [PyData.weight]; exact h2, by simp only [PyData.leavesShort]; exact h3⟩
theorem pl_non : Pl .none 0 100 := ⟨rfl, rfl, rfl, by show 0 ≤ 0; decide, by show _ ≤ 100; decide +kernel, rfl⟩
/-! ### what repr gives -/
theorem reprP {K : PySem.W.Frag} {p : Addr} {d : PyData} {n w : Nat} {H : Hp} {Q : VK} (hd : Dp K H (.ref p) d) (pl : Pl d n w) (hn : n ≤ 40) (hw : w ≤ 100000) (q : Q (.str d.shown) H) : rRepr K [.ref p] H Q := ⟨p, d, rfl, hd, pl.sh, pl.nd, Nat.le_trans pl.dp hn, pl.short hw, q⟩
theorem neDP {K : PySem.W.Frag} {x y : V} {d : PyData} {n w : Nat} {H : Hp} {Q : VK} (h1 : Dp K H x d) (h2 : Dp K H y d) (pl : Pl d n w) (hn : n ≤ 40) (q : Q (.bl false) H) : rNeD K x y H Q := ⟨d, d, h1, h2, pl.shaped hn, pl.shaped hn, qbl (by rw [SeqAt.eqv_refl _ pl.lay]; rfl) q⟩
theorem eqDP {K : PySem.W.Frag} {x y : V} {d : PyData} {n w : Nat} {H : Hp} {Q : VK} (h1 : Dp K H x d) (h2 : Dp K H y d) (pl : Pl d n w) (hn : n ≤ 40) (q : Q (.bl true) H) : rEqD K x y H Q := ⟨d, d, h1, h2, pl.shaped hn, pl.shaped hn, qbl (SeqAt.eqv_refl _ pl.lay) q⟩
/-! ### what stays: all but the things at xs, and the tables of code -/
def Ks (xs : List Addr) (H H' : Hp) : Prop := ∀ c o, H c = some o → c ∉ xs → (∀ ps, o ≠ .tbl ps) → H' c = some o
section
variable {xs ys : List Addr} {H H1 H2 : Hp}
theorem Ks.refl : Ks xs H H := fun _ _ e _ _ => e
theorem Ks.trans (a : Ks xs H H1) (b : Ks xs H1 H2) : Ks xs H H2 := fun c o e n1 n2 => b c o (a c o e n1 n2) n1 n2
theorem Ks.same (a : Ks xs H H1) (s : Same H1 H2) : Ks xs H H2 := fun c o e n1 n2 => s _ _ (a c o e n1 n2)
theorem Same.ks (s : Same H H1) : Ks xs H H1 := fun c o e _ _ => s _ _ e
theorem Ks.mono (a : Ks xs H H1) (h : ∀ c ∈ xs, c ∈ ys) : Ks ys H H1 := fun c o e n1 n2 => a c o e (fun z => n1 (h c z)) n2
theorem Ks.tup {c : Addr} {vs : List V} (a : Ks xs H H1) (h : H c = some (.tup vs)) (n : c ∉ xs) : H1 c = some (.tup vs) := a c _ h n fun ps z => by cases z
theorem Ks.lst {c : Addr} {vs : List V} (a : Ks xs H H1) (h : H c = some (.lst vs)) (n : c ∉ xs) : H1 c = some (.lst vs) := a c _ h n fun ps z => by cases z
theorem Ks.ins {c C dx : Addr} {fs : List (Str × V)} (a : Ks xs H H1) (h : H c = some (.ins C dx fs)) (n : c ∉ xs) : H1 c = some (.ins C dx fs) := a c _ h n fun ps z => by cases z
end
end K1
namespace K1
open PySem PySem.Spec PyProof.Rows L2
/-! ### replaced -/
/-! ### webs -/
abbrev Prs := List (Nat × Nat)
def pV (p : Nat × Nat) : List V := [.int (p.1 : Int), .int (p.2 : Int)]
structure Wv (n : Nat) (ts : Prs) : Prop where
  n1 : 1 ≤ n
  n12 : n ≤ 12
  t20 : ts.length ≤ 20
  pr : ∀ p ∈ ts, p.1 < n ∧ p.2 < n ∧ p.1 ≠ p.2
theorem Wv.at_ {n : Nat} {ts : Prs} (h : Wv n ts) {i : Nat} {p : Nat × Nat} (e : ts[i]? = some p) : p.1 < n ∧ p.2 < n ∧ p.1 ≠ p.2 := h.pr p (List.mem_of_getElem? e)
def wf (ta : Addr) (n : Int) : List (Str × V) := putF "houses" (.int n) (putF "ties" (.ref ta) [])
theorem wf_t (ta : Addr) (n : Int) : (wf ta n).lookup ("ties" : Str) = some (.ref ta) := by
  unfold wf
  rw [lookup_putF, if_neg (by decide +kernel), lookup_putF, if_pos rfl]
theorem wf_h (ta : Addr) (n : Int) : (wf ta n).lookup ("houses" : Str) = some (.int n) := by
  unfold wf
  rw [lookup_putF, if_pos rfl]
/-- pairs as tuples -/
def PrsA (H : Hp) (as : List Addr) (ts : Prs) : Prop := as.length = ts.length ∧ ∀ (i : Nat) a t, as[i]? = some a → ts[i]? = some t → H a = some (.tup (pV t))
theorem PrsA.same {H H' : Hp} {as : List Addr} {ts : Prs} (h : PrsA H as ts) (s : Same H H') : PrsA H' as ts := ⟨h.1, fun i a t e1 e2 => s _ _ (h.2 i a t e1 e2)⟩
theorem PrsA.get {H : Hp} {as : List Addr} {ts : Prs} (h : PrsA H as ts) {i : Nat} {t : Nat × Nat} (e : ts[i]? = some t) : ∃ a, as[i]? = some a ∧ H a = some (.tup (pV t)) := by
  obtain ⟨a, ha⟩ := ex_at (l := as) (i := i) (by rw [h.1]; exact lt_at e)
  exact ⟨a, ha, h.2 i a t ha e⟩
theorem PrsA.get' {H : Hp} {as : List Addr} {ts : Prs} (h : PrsA H as ts) {i : Nat} {x : V} (e : (as.map V.ref)[i]? = some x) : ∃ a t, x = .ref a ∧ as[i]? = some a ∧ ts[i]? = some t ∧ H a = some (.tup (pV t)) := by
  obtain ⟨a, ha, rfl⟩ := at_map e
  obtain ⟨t, ht⟩ := ex_at (l := ts) (i := i) (by rw [← h.1]; exact lt_at ha)
  exact ⟨a, t, rfl, ha, ht, h.2 i a t ha ht⟩
def TiesT (H : Hp) (ta : Addr) (ts : Prs) : Prop := ∃ as : List Addr, H ta = some (.tup (as.map V.ref)) ∧ PrsA H as ts
theorem TiesT.same {H H' : Hp} {ta : Addr} {ts : Prs} (h : TiesT H ta ts) (s : Same H H') : TiesT H' ta ts := let ⟨as, h1, h2⟩ := h; ⟨as, s _ _ h1, h2.same s⟩
/-- the web at w -/
def WebAt (W : Addr) (H : Hp) (w : Addr) (n : Nat) (ts : Prs) : Prop := ∃ dx ta, H w = some (.ins W dx (wf ta (n : Int))) ∧ TiesT H ta ts
theorem WebAt.same {W : Addr} {H H' : Hp} {w : Addr} {n : Nat} {ts : Prs} (h : WebAt W H w n ts) (s : Same H H') : WebAt W H' w n ts := let ⟨dx, ta, h1, h2⟩ := h; ⟨dx, ta, s _ _ h1, h2.same s⟩
/-- what the walk asks of the class Web, at W -/
structure WcT (K : PySem.W.Frag) (mg : Str → Option Value) (W : Addr) : Prop where
  cl : Cls K W
  nT : NoAttr K W "ties"
  nH : NoAttr K W "houses"
  g : mg "Web" = some (.ref W)
/-- the module's numbers -/
structure Cw (mg : Str → Option Value) : Prop where
  houses : ∃ t, mg "MOST_HOUSES" = some (.int 12 t)
  ties : ∃ t, mg "MOST_TIES" = some (.int 20 t)
/-- a pair of unlike numbers below n -/
def pairB (o : Option (List V)) (n : Int) : Bool := match o with
  | some [x, y] => belowB x n && belowB y n && !decide (x = y)
  | _ => false
theorem fnb_two (x y : V) (n : Int) : decide (fnb [x, y] n = .non) = (belowB x n && belowB y n) := by
  unfold fnb
  rw [List.findIdx?_cons, List.findIdx?_cons, List.findIdx?_nil]
  cases belowB x n <;> cases belowB y n <;> rfl
theorem scal_int {x y : V} {n : Int} (h1 : belowB x n = true) (h2 : belowB y n = true) : scal x y = true := by
  cases x <;> first | (cases h1; done) | skip
  cases y <;> first | (cases h2; done) | rfl
def spPair (K : PySem.W.Frag) : Sp := fun vs H Q _ => ∃ v o n, vs = [v, .int n] ∧ Rw K H v o ∧ ∀ H', Same H H' → Q (.bl (pairB o n)) H'
/-- checked_ties of a good web -/
def spCTies : Sp := fun vs H Q _ => ∃ (n : Nat) (p : Addr) (as : List Addr) (ts : Prs), vs = [.int (n : Int), .ref p] ∧ SeqA H p (as.map V.ref) ∧ PrsA H as ts ∧ Wv n ts ∧ ∀ ta H', Same H H' → TiesT H' ta ts → Q (.ref ta) H'
def spWInit (W : Addr) : Sp := fun vs H Q _ => ∃ (w dx : Addr) (n : Nat) (p : Addr) (as : List Addr) (ts : Prs), vs = [.ref w, .int (n : Int), .ref p] ∧ H w = some (.ins W dx []) ∧ SeqA H p (as.map V.ref) ∧ PrsA H as ts ∧ Wv n ts ∧
  ∀ H', (∀ b u, H b = some u → b ≠ w → H' b = some u) → WebAt W H' w n ts → Q .non H'
def spNeedH (K : PySem.W.Frag) (W C : Addr) : Sp := fun vs H Q E => ∃ w v o n ts, vs = [.ref w, v] ∧ WebAt W H w n ts ∧ KV K H v o ∧ (belowB v (n : Int) = true → Q v H) ∧ (belowB v (n : Int) = false → Rz C "house" v H E)
section
variable {P : Program} {w : World} {K : PySem.W.Frag} {mg : Str → Option Value} {base : Heap}
theorem scPr : FnScope ["value", "houses"] ["value", "houses"] (defScope sPair) := ⟨rfl, rfl, rfl, by decide +kernel, rfl, by decide +kernel, by decide +kernel⟩
theorem ok_pair {f fS fF : Addr} {fd fdS fdF : FuncData} (D : Df K mg "is_pair" sPair ["value", "houses"] f fd) (DS : Df K mg "is_sequence" sSeq ["value", "least", "most"] fS fdS) (DF : Df K mg "first_not_below" sFnb ["items", "limit"] fF fdF)
    (GS : FnOk P w K mg base CX0 1 fS fdS ["value", "least", "most"] (spSeq K)) (GF : FnOk P w K mg base CX0 3 fF fdF ["items", "limit"] (spFnb K)) : FnOk P w K mg base CX0 4 f fd ["value", "houses"] (spPair K) := by
  refine D.F.ok scPr (fun vs H Q E h => ?_) (fun cdv A outer s H vs Q E hr h => ?_)
  · obtain ⟨v, o, n, rfl, _⟩ := h
    rfl
  · obtain ⟨v, o, n, rfl, hw, q⟩ := h
    refine ⟨_, pss_cons (ps_if (PW.pt (pw_or (pt_not (pt_val (pc DS GS (hr.mono (by decide)) pass0 (pa_cons (pv 0) (pa_cons pe_int (pa_cons pe_int pa_nil)))))) (pw_or1 (pt_cmp (pc_notN (pc DF GF hr pass0 (pa_cons (pv 0) (pa_cons (pv 1) pa_nil)))))))) (pss_one (ps_ret pe_bl)) pss_nil)
      (pss_one (ps_ret (pe_cmpR op_ne (pe_ix ix_seq (pv 0) pe_int (fun _ _ => rfl)) (pe_ix ix_seq (pv 0) pe_int (fun _ _ => rfl)) (nomark _)))), ?_⟩
    refine ⟨_, rfl, _, o, 2, 2, rfl, hw.kv, fun H1 s1 => ⟨_, rfl, ?_⟩⟩
    by_cases e : seqB o 2 2 = true
    · rw [e]
      refine iteF ?_
      cases o with
      | none => cases e
      | some ys =>
        have hl : ys.length = 2 := by
          have z : (decide ((2 : Int) ≤ (ys.length : Int)) && decide ((ys.length : Int) ≤ 2)) = true := e
          simp only [Bool.and_eq_true, decide_eq_true_eq] at z
          omega
        obtain ⟨x, y, rfl⟩ : ∃ x y, ys = [x, y] := by
          match ys, hl with
          | [x, y], _ => exact ⟨x, y, rfl⟩
        obtain ⟨a, rfl, hS⟩ := hw.kv.seqA
        refine ⟨_, rfl, _, rfl, a, _, n, rfl, hS.same s1, (hw.ks _ rfl).same s1, fun H2 s2 => ⟨_, rfl, ?_⟩⟩
        have s12 := s1.trans s2
        have hS2 := hS.same s12
        have fe := fnb_two x y n
        rw [fe]
        by_cases e2 : (belowB x n && belowB y n) = true
        · have hb := e2
          simp only [Bool.and_eq_true] at hb
          rw [e2]
          refine iteF (nxP ?_)
          have rd : ∀ (j : Nat) (v : V) (Q : VK), [x, y][j]? = some v → Q v H2 → rIx K (.ref a) (.int (j : Int)) H2 Q := fun j v Q hj q => by
            rcases hS2 with h | h
            · exact .inl ⟨a, _, _, v, rfl, rfl, SqL.of h, at_i hj, q⟩
            · exact .inr (.inl ⟨a, _, _, v, rfl, rfl, SqT.of h, at_i hj, q⟩)
          refine ⟨_, rfl, rd 0 x _ rfl ⟨_, rfl, rd 1 y _ rfl ⟨scal_int hb.1 hb.2, qbl ?_ (q _ s12)⟩⟩⟩
          show _ = (belowB x n && belowB y n && !decide (x = y))
          rw [e2]; rfl
        · have e3 : (belowB x n && belowB y n) = false := by simpa using e2
          rw [e3]
          refine iteT (qbl ?_ (q _ s12))
          show _ = (belowB x n && belowB y n && !decide (x = y))
          rw [e3]; rfl
    · have e3 : seqB o 2 2 = false := by simpa using e
      rw [e3]
      refine iteT (iteT (qbl ?_ (q _ s1)))
      cases o with
      | none => rfl
      | some ys =>
        match ys, e3 with
        | [], _ => rfl
        | [x], _ => rfl
        | [x, y], e3 => cases e3
        | x :: y :: z :: r, _ => rfl
end
end K1
namespace K1
open PySem PySem.Spec PyProof.Rows L2
/-! ### walks over a list or a tuple -/
def iSeqA (K : PySem.W.Frag) (tl : TE) : TI := fun σ H R => tl σ H fun x H1 => ∃ a, x = .ref a ∧ ((∃ xs, SqL K H1 a xs ∧ R (Itl K a) H1) ∨ (∃ xs, SqT K H1 a xs ∧ R (Itt K a) H1))
theorem pi_seqA {X : Cx} {tg l : Expr} {tl : TE} (hl : PE X l tl) : PI X tg l (iSeqA X.K tl) := by
  refine ⟨fun pins s σ H R I h => ?_⟩
  refine thn (hl.run pins s σ H _ I h) fun v s1 ⟨x, H1, I1, r1, q1⟩ => ?_
  obtain ⟨a, e, q⟩ := q1
  subst e
  cases r1
  rcases q with ⟨xs, hq, q⟩ | ⟨xs, hq, q⟩
  · obtain ⟨its, rv, p, hz⟩ := I1.list hq
    refine wpAny_pyIter_list p.isList ?_
    refine ⟨s1.heap.objs.size, [s1.heap.objs.size], _, _, H1, rfl, I1.kept (t' := s1.toks) fun b o e => Heap.get?_push_of_some _ e, turn_list a _, ⟨_, Heap.get?_push_size _ rfl, rfl, rfl⟩, fun b hb => ?_, q⟩
    have e : b = s1.heap.objs.size := by simpa using hb
    subst e
    exact I1.fpOk (Nat.le_refl _) (I1.hok.fresh (Nat.le_refl _))
  · obtain ⟨its, rv, p, hz⟩ := I1.tuple hq
    refine wpAny_pyIter_tuple (show s1.heap.IsTuple a its.toArray from p) ?_
    refine ⟨s1.heap.objs.size, [s1.heap.objs.size], _, _, H1, rfl, I1.kept (t' := s1.toks) fun b o e => Heap.get?_push_of_some _ e, turn_tuple a _, ⟨_, Heap.get?_push_size _ rfl, rfl, rfl⟩, fun b hb => ?_, q⟩
    have e : b = s1.heap.objs.size := by simpa using hb
    subst e
    exact I1.fpOk (Nat.le_refl _) (I1.hok.fresh (Nat.le_refl _))
theorem pi_seqK {X : Cx} {K : PySem.W.Frag} {tg l : Expr} {tl : TE} (h : X.K = K) (hl : PE X l tl) : PI X tg l (iSeqA K tl) := by subst h; exact pi_seqA hl
theorem pi_enumK {X : Cx} {K : PySem.W.Frag} {e : Expr} {ta : TA} {p pos tpos : Pos} {elts : List Expr} {kk : Nat} (h : X.K = K) (hg : Gl X "enumerate") (hm : X.mg "enumerate" = none) (ha : PA X [e] ta) (hs : starEach [e] X.env = [(false, eval e X.env)] := by rfl) :
    PI X (.Tuple elts kk tpos) (.Call (.Name "enumerate" p) [e] [] pos) (iEnumA K ta) := by subst h; exact pi_enumA hg hm ha hs
/-- a list, or a tuple, at a wherever Pv holds -/
def AtA {α : Type} (Pv : α → Hp → Prop) (a : Addr) (xs : List V) : Prop := (∀ y H, Pv y H → H a = some (.lst xs)) ∨ (∀ y H, Pv y H → H a = some (.tup xs))
section
variable {K : PySem.W.Frag} {a : Addr} {xs : List V}
/-- a comprehension over enumerate of a tuple -/
theorem lc_enumT {g : TG} {tt : TT} {te : TE} {vs : List Nat} {σ : L2.St} {H1 : Hp} {D : Addr} {Qd : Hp → Prop} (Pv : Nat → Hp → Prop) (h0 : Pv 0 (upd H1 D (.lst []))) (hl : ∀ i H, i ≤ xs.length → Pv i H → SqT K H a xs)
    (hs : ∀ i x T H, xs[i]? = some x → H T = none → Pv i H → g (.ref T) (wipe σ vs) (upd H T (.tup [.int (i : Nat), x])) fun σ2 H2 => wipe σ2 vs = wipe σ vs ∧ tt σ2 H2 fun b H3 =>
      if b = true then te σ2 H3 fun y H4 => ∃ acc, H4 D = some (.lst acc) ∧ acc.length < sizeLine ∧ Pv (i + 1) (upd H4 D (.lst (acc ++ [y]))) else Pv (i + 1) H3) (hd : ∀ H, Pv xs.length H → Qd H) :
    ∃ W : Nat → Nat → Hp → Prop, (∃ m, W 0 m (upd H1 D (.lst []))) ∧ ∀ i m H, W i m H →
      ((IteT K a).stop i H ∧ Qd H) ∨ ((IteT K a).go i H ∧ ∃ Nx : Hp → Prop, (∀ H', Nx H' → ∃ m', m' < m ∧ W (i + 1) m' H') ∧ ∀ x H', (IteT K a).yld i H x H' → g x (wipe σ vs) H' fun σ2 H2 => wipe σ2 vs = wipe σ vs ∧ tt σ2 H2 fun b H3 =>
        if b = true then te σ2 H3 fun y H4 => ∃ acc, H4 D = some (.lst acc) ∧ acc.length < sizeLine ∧ Nx (upd H4 D (.lst (acc ++ [y]))) else Nx H3) := by
  refine ⟨fun i m H => m = xs.length - i ∧ i ≤ xs.length ∧ Pv i H, ⟨xs.length, by simp, Nat.zero_le _, h0⟩, ?_⟩
  rintro i m H ⟨rfl, hi, p⟩
  have q := hl i H hi p
  by_cases hlt : i < xs.length
  · refine .inr ⟨⟨xs, xs[i], q, by simp [hlt]⟩, Pv (i + 1), fun H' p' => ⟨xs.length - (i + 1), by omega, rfl, hlt, p'⟩, fun x H' y => ?_⟩
    obtain ⟨T, x', e1, e2, e3, e4⟩ := y
    subst e1 e3
    exact hs i x' T H (e4 xs q) e2 p
  · have e : i = xs.length := by omega
    subst e
    exact .inl ⟨⟨xs, q, Nat.le_refl _⟩, hd H p⟩
end
section
variable {P : Program} {w : World} {K : PySem.W.Frag} {mg : Str → Option Value} {base : Heap}
theorem pair_ok {n : Nat} {ts : Prs} (hW : Wv n ts) {i : Nat} {t : Nat × Nat} (ht : ts[i]? = some t) : pairB (some (pV t)) (n : Int) = true := by
  obtain ⟨h1, h2, h3⟩ := hW.at_ ht
  show ((decide (0 ≤ (t.1 : Int)) && decide ((t.1 : Int) < (n : Int))) && (decide (0 ≤ (t.2 : Int)) && decide ((t.2 : Int) < (n : Int))) && !decide (V.int (t.1 : Int) = V.int (t.2 : Int))) = true
  rw [decide_eq_true (by omega), decide_eq_true (by omega), decide_eq_true (by omega), decide_eq_true (by omega), decide_eq_false (by intro e; injection e with e; omega)]; rfl
theorem kinds_pV {H : Hp} (t : Nat × Nat) : Kinds K H (pV t) := fun x hx => by
  simp only [pV, List.mem_cons, List.mem_nil_iff, or_false] at hx
  rcases hx with rfl | rfl <;> exact ⟨_, .int _⟩
theorem rw_pV {H : Hp} {a : Addr} {t : Nat × Nat} (h : H a = some (.tup (pV t))) : Rw K H (.ref a) (some (pV t)) := ⟨.tup h, fun ys e => by obtain rfl := Option.some.inj e; exact kinds_pV t⟩
theorem scCT : FnScope ["houses", "ties", "at", "pair"] ["houses", "ties"] (defScope sCTies) := ⟨rfl, rfl, rfl, by decide +kernel, rfl, by decide +kernel, by decide +kernel⟩
theorem ok_cties {f fW fS fP C cI : Addr} {fd fdW fdS fdP : FuncData} {bm : List Value} {ql : Str} (D : Df K mg "checked_ties" sCTies ["houses", "ties"] f fd) (DW : Df K mg "is_whole" sWhole ["value"] fW fdW) (DS : Df K mg "is_sequence" sSeq ["value", "least", "most"] fS fdS) (DP : Df K mg "is_pair" sPair ["value", "houses"] fP fdP)
    (B : Bt mg) (c : Cw mg) (T : LAt.Txt K mg "BadWeb" ql bm C cI) (GW : FnOk P w K mg base CX0 1 fW fdW ["value"] (spWhole K)) (GS : FnOk P w K mg base CX0 1 fS fdS ["value", "least", "most"] (spSeq K)) (GP : FnOk P w K mg base CX0 4 fP fdP ["value", "houses"] (spPair K)) :
    FnOk P w K mg base (L2.CX P w) 5 f fd ["houses", "ties"] spCTies := by
  obtain ⟨t1, hc1⟩ := c.houses
  obtain ⟨t2, hc2⟩ := c.ties
  refine D.F.okX scCT (fun vs H Q E h => ?_) (fun cdv A outer s H vs Q E hr h => ?_)
  · obtain ⟨n, p, as, ts, rfl, _⟩ := h
    rfl
  · obtain ⟨n, p, as, ts, rfl, hS, hA, hW, q⟩ := h
    have hr1 : Room 1 _ := hr.mono (by decide)
    refine ⟨_, pss_cons (ps_if (PW.pt (pw_or (pt_not (pt_val (pc DW GW hr1 pass0 (pa_cons (pv 0) pa_nil)))) (pw_or (pt_not (pt_chain op_le op_le pe_int (pv 0) (pe_glob (v := .int 12) (by rfl) hc1 ⟨_, rfl⟩))) (pw_or1 (pt_not (pt_val (pc DS GS hr1 pass0 (pa_cons (pv 1) (pa_cons pe_int (pa_cons (pe_glob (v := .int 20) (by rfl) hc2 ⟨_, rfl⟩) pa_nil)))))))))) (pss_one (ps_raise_LAt rfl T hr (takes_of rfl rfl rfl rfl) (pa_cons (pe_un un_neg pe_int) pa_nil))) pss_nil)
      (pss_cons (ps_for (passes_of rfl) rfl (pi_enumA (by rfl) B.enumerate (pa_cons (pv 1) pa_nil)) (pg_tup rfl (pgs_cons (pg_name (i := 2) scCT.nd rfl (.inl rfl)) (pgs_cons (pg_name (i := 3) scCT.nd rfl (.inl rfl)) pgs_nil)))
        (pss_one (ps_if (pt_not (pt_val (pc DP GP hr pass0 (pa_cons (pv 3) (pa_cons (pv 0) pa_nil))))) (pss_one (ps_raise_LAt rfl T hr (takes_of rfl rfl rfl rfl) (pa_cons (pv 2) pa_nil))) pss_nil)))
      (pss_one (ps_ret (pe_callTy call_tuple_of (by rfl) B.tuple (by decide +kernel) (pa_cons
        (pe_lc (own := [("pair", 3)]) (g := gName 3) (tt := tYes) rfl scCT.nd (pi_seqA (pv 1)) (blkOk_by (N := ["houses", "ties", "at", "pair"]) (sc := defScope sCTies) (by decide +kernel)) (fun _ _ _ _ _ => pg_name (i := 3) scCT.nd rfl (Or.inl rfl)) (fun _ _ _ _ _ => pts_nil)
          (fun _ _ _ _ _ => pe_callTy (ctup (K := K) rfl) (by rfl) B.tuple PyProof.Rows.boot_tuple (pa_cons (pv 3) pa_nil))) pa_nil))))), ?_⟩
    have n1 := hW.n1
    have n12 := hW.n12
    have t20 := hW.t20
    have la : (as.map V.ref).length = ts.length := by rw [List.length_map, hA.1]
    have lt20 : (as.map V.ref).length ≤ 20 := by omega
    have sq : seqB (some (as.map V.ref)) 0 20 = true := by
      show (decide ((0 : Int) ≤ ((as.map V.ref).length : Int)) && decide (((as.map V.ref).length : Int) ≤ 20)) = true
      rw [decide_eq_true (by omega), decide_eq_true (by omega)]; rfl
    refine ⟨_, rfl, _, none, rfl, .int _, true, rfl, iteF ?_⟩
    refine ⟨_, rfl, _, _, rfl, rfl, _, rfl, iteY (decide_eq_true (by omega)) ⟨_, _, rfl, rfl, true, congrArg V.bl (decide_eq_true (show (n : Int) ≤ 12 by omega)), iteF ?_⟩⟩
    refine ⟨_, rfl, _, some (as.map V.ref), 0, 20, rfl, hS.kv, fun H1 s1 => ⟨_, rfl, ?_⟩⟩
    rw [sq]
    refine iteF (nxP ?_)
    refine ⟨_, rfl, p, rfl, ?_⟩
    rcases hS with hS | hS
    · refine .inl ⟨_, SqL.of (s1 _ _ hS), for_enumL (K := K) (fun (_ : Nat) (σ : L2.St) (H' : Hp) => ∃ v2 v3 : Option V, σ = [some (.int (n : Int)), some (.ref p), v2, v3] ∧ Same H H') ⟨none, none, rfl, s1⟩ (fun i σ H' _ ⟨_, _, _, sm⟩ => SqL.of (sm _ _ hS)) ?_ ?_⟩
      · rintro i x T σ H' hx hT ⟨v2, v3, rfl, sm⟩
        obtain ⟨a, t, rfl, ha, ht, hat⟩ := hA.get' hx
        have sm2 := sm.trans (same_new (o := HO.tup [.int (i : Nat), .ref a]) hT)
        refine ⟨T, _, rfl, SqT.of upd_same, rfl, _, _, rfl, _, _, rfl, rfl, ?_⟩
        refine ⟨_, rfl, _, rfl, .ref a, some (pV t), (n : Int), rfl, rw_pV (sm2 _ _ hat), fun H3 s3 => ⟨_, rfl, ?_⟩⟩
        rw [pair_ok hW ht]
        exact iteF ⟨_, _, rfl, sm2.trans s3⟩
      · rintro σ H' ⟨v2, v3, rfl, sm⟩
        refine ⟨_, rfl, p, rfl, .inl ⟨_, SqL.of (sm _ _ hS), fun D hD => lc_list (K := K) (a := p) (xs := as.map V.ref) (fun i H2 => Same H' H2 ∧ H2 D = some (.lst ((as.map V.ref).take i))) ⟨same_new hD, by rw [upd_same]; rfl⟩ (fun i H2 _ ⟨s5, _⟩ => SqL.of (s5 _ _ (sm _ _ hS))) ?_ ?_⟩⟩
        · rintro i x H2 hx ⟨s5, hD2⟩
          obtain ⟨a, t, e, ha, ht, hat⟩ := hA.get' hx
          subst e
          refine ⟨rfl, _, rfl, a, pV t, rfl, .inr ⟨SqT.of (s5 _ _ (sm _ _ hat)), _, hD2, szl (by rw [List.length_take]; omega), fun c o e => ?_, ?_⟩⟩
          · rw [upd_ne (ne_of_none e hD)]
            exact s5 _ _ e
          · rw [upd_same, take_succ hx]
        · rintro H2 ⟨s5, hD2⟩
          rw [List.take_of_length_le (Nat.le_refl _)] at hD2
          refine ⟨D, _, rfl, .inl ⟨SqL.of hD2, fun ta hta => ?_⟩⟩
          have s6 := (sm.trans s5).trans (same_new (o := HO.tup (as.map V.ref)) hta)
          exact q ta _ s6 ⟨as, upd_same, hA.same s6⟩
    · refine .inr ⟨_, SqT.of (s1 _ _ hS), for_enumT (K := K) (fun (_ : Nat) (σ : L2.St) (H' : Hp) => ∃ v2 v3 : Option V, σ = [some (.int (n : Int)), some (.ref p), v2, v3] ∧ Same H H') ⟨none, none, rfl, s1⟩ (fun i σ H' _ ⟨_, _, _, sm⟩ => SqT.of (sm _ _ hS)) ?_ ?_⟩
      · rintro i x T σ H' hx hT ⟨v2, v3, rfl, sm⟩
        obtain ⟨a, t, rfl, ha, ht, hat⟩ := hA.get' hx
        have sm2 := sm.trans (same_new (o := HO.tup [.int (i : Nat), .ref a]) hT)
        refine ⟨T, _, rfl, SqT.of upd_same, rfl, _, _, rfl, _, _, rfl, rfl, ?_⟩
        refine ⟨_, rfl, _, rfl, .ref a, some (pV t), (n : Int), rfl, rw_pV (sm2 _ _ hat), fun H3 s3 => ⟨_, rfl, ?_⟩⟩
        rw [pair_ok hW ht]
        exact iteF ⟨_, _, rfl, sm2.trans s3⟩
      · rintro σ H' ⟨v2, v3, rfl, sm⟩
        refine ⟨_, rfl, p, rfl, .inr ⟨_, SqT.of (sm _ _ hS), fun D hD => lc_tup (K := K) (a := p) (xs := as.map V.ref) (fun i H2 => Same H' H2 ∧ H2 D = some (.lst ((as.map V.ref).take i))) ⟨same_new hD, by rw [upd_same]; rfl⟩ (fun i H2 _ ⟨s5, _⟩ => SqT.of (s5 _ _ (sm _ _ hS))) ?_ ?_⟩⟩
        · rintro i x H2 hx ⟨s5, hD2⟩
          obtain ⟨a, t, e, ha, ht, hat⟩ := hA.get' hx
          subst e
          refine ⟨rfl, _, rfl, a, pV t, rfl, .inr ⟨SqT.of (s5 _ _ (sm _ _ hat)), _, hD2, szl (by rw [List.length_take]; omega), fun c o e => ?_, ?_⟩⟩
          · rw [upd_ne (ne_of_none e hD)]
            exact s5 _ _ e
          · rw [upd_same, take_succ hx]
        · rintro H2 ⟨s5, hD2⟩
          rw [List.take_of_length_le (Nat.le_refl _)] at hD2
          refine ⟨D, _, rfl, .inl ⟨SqL.of hD2, fun ta hta => ?_⟩⟩
          have s6 := (sm.trans s5).trans (same_new (o := HO.tup (as.map V.ref)) hta)
          exact q ta _ s6 ⟨as, upd_same, hA.same s6⟩
theorem scWI : FnScope ["self", "houses", "ties"] ["self", "houses", "ties"] (defScope sWInit) := ⟨rfl, rfl, rfl, by decide +kernel, rfl, by decide +kernel, by decide +kernel⟩
theorem ok_winit {f fC W : Addr} {fd fdC : FuncData} (F : Fun K "__init__" "Web.__init__" sWInit f fd) (DC : Df K mg "checked_ties" sCTies ["houses", "ties"] fC fdC) (T : WcT K mg W)
    (GC : FnOk P w K mg base (L2.CX P w) 5 fC fdC ["houses", "ties"] spCTies) : FnOk P w K mg base (L2.CX P w) 6 f fd ["self", "houses", "ties"] (spWInit W) := by
  refine F.okX scWI (fun vs H Q E h => ?_) (fun cdv A outer s H vs Q E hr h => ?_)
  · obtain ⟨w, dx, n, p, as, ts, rfl, _⟩ := h
    rfl
  · obtain ⟨w, dx, n, p, as, ts, rfl, hw, hS, hA, hW, q⟩ := h
    refine ⟨_, pss_cons (ps_fld (pv 0) (pc DC GC hr (pass1 (takes_of rfl rfl rfl rfl)) (pa_cons (pv 1) (pa_cons (pv 2) pa_nil))) rfl) (pss_one (ps_fld (pv 0) (pv 1) rfl)), ?_⟩
    refine ⟨_, rfl, _, rfl, n, p, as, ts, rfl, hS, hA, hW, fun ta H' sm hT => ?_⟩
    have hw1 := sm _ _ hw
    refine ⟨_, rfl, w, W, dx, [], rfl, hw1, T.cl, T.nT, (by show 0 < 1000; decide), ?_⟩
    refine ⟨_, rfl, _, rfl, w, W, dx, _, rfl, upd_same, T.cl, T.nH, (by show 1 < 1000; decide), ?_⟩
    rw [upd_upd]
    obtain ⟨bs, k1, k2⟩ := hT
    have kp : ∀ b u, H' b = some u → b ≠ w → (upd H' w (.ins W dx (wf ta (n : Int)))) b = some u := fun b u e nb => by rw [upd_ne nb]; exact e
    have nw : ∀ {c : Addr} {xs : List V}, H' c = some (.tup xs) → c ≠ w := fun h e => by rw [e, hw1] at h; cases h
    exact q _ (fun b u e nb => kp b u (sm _ _ e) nb) ⟨dx, ta, upd_same, bs, kp _ _ k1 (nw k1), k2.1, fun i a t e1 e2 => kp _ _ (k2.2 i a t e1 e2) (nw (k2.2 i a t e1 e2))⟩
theorem scNH : FnScope ["web", "house"] ["web", "house"] (defScope sNeedH) := ⟨rfl, rfl, rfl, by decide +kernel, rfl, by decide +kernel, by decide +kernel⟩
theorem ok_needH {f fB C W cI : Addr} {fd fdB : FuncData} {bm : List Value} {ql : Str} (D : Df K mg "need_house" sNeedH ["web", "house"] f fd) (DB : Df K mg "is_below" sBelow ["value", "limit"] fB fdB) (T : WcT K mg W) (TX : LHouse.Txt K mg "NoHouse" ql bm C cI)
    (GB : FnOk P w K mg base CX0 2 fB fdB ["value", "limit"] (spBelow K)) : FnOk P w K mg base (L2.CX P w) 3 f fd ["web", "house"] (spNeedH K W C) := by
  refine D.F.okX scNH (fun vs H Q E h => ?_) (fun cdv A outer s H vs Q E hr h => ?_)
  · obtain ⟨w, v, o, n, ts, rfl, _⟩ := h
    rfl
  · obtain ⟨w, v, o, n, ts, rfl, ⟨dx, ta, h1, _⟩, kv, q1, q2⟩ := h
    refine ⟨_, pss_cons (ps_if (pt_not (pt_val (pc DB GB hr pass0 (pa_cons (pv 1) (pa_cons (pe_fld (pv 0) rfl) pa_nil))))) (pss_one (ps_raise_LHouse rfl TX hr (takes_of rfl rfl rfl rfl) (pa_cons (pv 1) pa_nil))) pss_nil) (pss_one (ps_ret (pv 1))), ?_⟩
    refine ⟨_, rfl, _, rfl, w, W, dx, _, _, rfl, h1, T.cl, T.nH, wf_h _ _, v, o, _, rfl, kv, _, rfl, ifD (fun e => ?_) fun e => ?_⟩
    · exact ⟨_, rfl, _, rfl, fun d hd => q2 (by simpa using e) d _ (same_new hd) hd upd_same⟩
    · exact ⟨_, rfl, q1 (by simpa using e)⟩
end
end K1
namespace K1
open PySem PySem.Spec PyProof.Rows L2
/-- a source of draws -/
def BoxO (H : Hp) (b : Addr) : Prop := ∃ x y z : Int, H b = some (.lst [.int x, .int y, .int z])
/-- all but the source stands, which is one again -/
def Bx (b : Addr) (H H' : Hp) : Prop := BoxO H' b ∧ ∀ c o, H c = some o → c ≠ b → H' c = some o
theorem Bx.refl {b : Addr} {H : Hp} (h : BoxO H b) : Bx b H H := ⟨h, fun _ _ e _ => e⟩
theorem Bx.trans {b : Addr} {H H1 H2 : Hp} (a : Bx b H H1) (c : Bx b H1 H2) : Bx b H H2 := ⟨c.1, fun d o e n => c.2 d o (a.2 d o e n) n⟩
theorem Bx.same {b : Addr} {H H1 H2 : Hp} (a : Bx b H H1) (s : Same H1 H2) : Bx b H H2 := ⟨let ⟨x, y, z, e⟩ := a.1; ⟨x, y, z, s _ _ e⟩, fun d o e n => s _ _ (a.2 d o e n)⟩
theorem BoxO.same {b : Addr} {H H' : Hp} (h : BoxO H b) (s : Same H H') : BoxO H' b := let ⟨x, y, z, e⟩ := h; ⟨x, y, z, s _ _ e⟩
theorem Same.bx {b : Addr} {H H1 H2 : Hp} (s : Same H H1) (a : Bx b H1 H2) : Bx b H H2 := ⟨a.1, fun d o e n => a.2 d o (s _ _ e) n⟩
theorem Bx.set {b : Addr} {H : Hp} {x y z : Int} : Bx b H (upd H b (.lst [.int x, .int y, .int z])) := ⟨⟨x, y, z, upd_same⟩, fun c o e n => by rw [upd_ne n]; exact e⟩
theorem Bx.free {b c : Addr} {H H' : Hp} (a : Bx b H H') (hb : c ≠ b) (h : H' c = none) : H c = none := by
  cases q : H c with
  | none => rfl
  | some o => rw [a.2 c o q hb] at h; cases h
theorem BoxO.ne {b c : Addr} {H : Hp} {o : HO} (h : BoxO H b) (e : H c = some o) (n : ∀ xs, o ≠ .lst xs) : c ≠ b := fun z => by
  obtain ⟨x, y, u, hb⟩ := h
  rw [z, hb] at e
  exact n _ (Option.some.inj e).symm
theorem Bx.ne {b c : Addr} {H H' : Hp} (a : Bx b H H') (h : H' c = none) : c ≠ b := fun z => by
  obtain ⟨x, y, u, hb⟩ := a.1
  rw [z, hb] at h
  cases h
theorem Bx.new {b p : Addr} {H H' : Hp} {o : HO} (a : Bx b H H') (h : H' p = none) : Bx b H (upd H' p o) := a.same (same_new h)
theorem Bx.put {b p : Addr} {H H' : Hp} {o : HO} (a : Bx b H H') (hp : H p = none) (n : p ≠ b) : Bx b H (upd H' p o) := ⟨let ⟨x, y, u, e⟩ := a.1; ⟨x, y, u, by rw [upd_ne n.symm]; exact e⟩, fun c o' e n' => by rw [upd_ne (ne_of_none e hp)]; exact a.2 c o' e n'⟩
theorem Bx.tup {b c : Addr} {H H' : Hp} {xs : List V} (x : Bx b H H') (hb : BoxO H b) (h : H c = some (.tup xs)) : H' c = some (.tup xs) := x.2 _ _ h (hb.ne h fun xs => by intro z; cases z)
def spTake : Sp := fun vs H Q _ => ∃ b n, vs = [.ref b, .int n] ∧ BoxO H b ∧ 1 ≤ n ∧ n < 1073741824 ∧ ∀ r H', 0 ≤ r → r < n → Bx b H H' → Q (.int r) H'
def spPick : Sp := fun vs H Q _ => ∃ (b l : Addr) (xs : List V), vs = [.ref b, .ref l] ∧ BoxO H b ∧ H l = some (.lst xs) ∧ l ≠ b ∧ 1 ≤ xs.length ∧ xs.length ≤ 1000 ∧ ∀ (i : Nat) v H', xs[i]? = some v → Bx b H H' → Q v H'
def spBox (K : PySem.W.Frag) : Sp := fun vs H Q _ => ∃ (a : Addr) (ns : List Int) (k : Int), vs = [.ref a, .int k] ∧ SqL K H a (ns.map V.int) ∧ ns.length ≤ 63 ∧ 0 ≤ k ∧ k ≤ 10 ∧ ∀ b H', Same H H' → H b = none → BoxO H' b → Q (.ref b) H'
section
variable {P : Program} {w : World} {K : PySem.W.Frag} {mg : Str → Option Value} {base : Heap}
theorem scTk : FnScope ["_law_box_here", "_law_many", "_law_digit", "_law_raw"] ["_law_box_here", "_law_many"] (defScope sLTake) := ⟨rfl, rfl, rfl, by decide +kernel, rfl, by decide +kernel, by decide +kernel⟩
theorem ok_take {f : Addr} {fd : FuncData} (D : Df K mg "_law_take" sLTake ["_law_box_here", "_law_many"] f fd) (B : Bt mg) : FnOk P w K mg base CX0 1 f fd ["_law_box_here", "_law_many"] spTake := by
  refine D.F.ok scTk (fun vs H Q E h => ?_) (fun cdv A outer s H vs Q E hr h => ?_)
  · obtain ⟨b, n, rfl, _⟩ := h
    rfl
  · obtain ⟨b, n, rfl, ⟨x, y, z, hb⟩, h1, h2, q⟩ := h
    refine ⟨_, pss_cons (ps_if (pt_cmpR op_gt (pe_ix ix_list (pv 0) pe_int (fun _ _ => rfl)) pe_int (nomark _))
        (pss_cons (ps_set (i := 2) scTk.nd rfl (.inl rfl) (pe_op op_mod (pe_callTy call_int1 (by rfl) B.int PyProof.Rows.boot_int (pa_cons (pe_ix ix_list (pv 0) pe_int (fun _ _ => rfl)) pa_nil)) (pv 1)))
        (pss_cons (ps_asg (pe_op op_fdivN (pe_ix ix_list (pv 0) pe_int (fun _ _ => rfl)) (pv 1)) (pg_sub (pv 0) pe_int set_list))
        (pss_one (ps_ret (pv 2))))) pss_nil)
      (pss_cons (ps_asg (pe_op op_add (pe_ix ix_list (pv 0) pe_int (fun _ _ => rfl)) pe_int) (pg_sub (pv 0) pe_int set_list))
      (pss_cons (ps_set (i := 3) scTk.nd rfl (.inl rfl) (pe_op op_mod (pe_callTy call_int1 (by rfl) B.int PyProof.Rows.boot_int (pa_cons (pe_op op_add (pe_op op_mul (pe_op op_add (pe_ix ix_list (pv 0) pe_int (fun _ _ => rfl)) (pe_op op_mul pe_int (pe_ix ix_list (pv 0) pe_int (fun _ _ => rfl)))) pe_int) pe_int) pa_nil)) pe_int))
      (pss_cons (ps_asg (pe_op op_add (pe_op op_mod (pe_callTy call_int1 (by rfl) B.int PyProof.Rows.boot_int (pa_cons (pe_op op_add (pe_op op_mul (pv 3) pe_int) pe_int) pa_nil)) pe_int) pe_int) (pg_sub (pv 0) pe_int set_list))
      (pss_one (ps_ret (pe_op op_mod (pe_callTy call_int1 (by rfl) B.int PyProof.Rows.boot_int (pa_cons (pe_op op_fdivN (pe_op op_add (pe_op op_mul (pv 3) pe_int) (pe_ix ix_list (pv 0) pe_int (fun _ _ => rfl))) pe_int) pa_nil)) (pv 1))))))), ?_⟩
    have a0 : ∀ {u v t : Int}, atI [V.int u, V.int v, V.int t] 0 = some (V.int u) := fun {u v t} => atI_nat (j := 0) rfl
    have a1 : ∀ {u v t : Int}, atI [V.int u, V.int v, V.int t] 1 = some (V.int v) := fun {u v t} => atI_nat (j := 1) rfl
    have a2 : ∀ {u v t : Int}, atI [V.int u, V.int v, V.int t] 2 = some (V.int t) := fun {u v t} => atI_nat (j := 2) rfl
    have np : 0 < n := by omega
    refine ⟨_, rfl, b, _, 0, .int x, rfl, rfl, SqL.of hb, a0, _, _, rfl, rfl, _, rfl, ifD (fun e => ?_) fun e => ?_⟩
    · refine ⟨_, rfl, b, _, 0, .int x, rfl, rfl, SqL.of hb, a0, .inl ⟨x, rfl, _, rfl, _, _, rfl, rfl, np, ?_⟩⟩
      refine ⟨_, rfl, b, _, 0, .int x, rfl, rfl, SqL.of hb, a0, _, rfl, _, _, rfl, rfl, ⟨by omega, by omega⟩, _, rfl, b, _, 0, 0, rfl, rfl, hb, rfl, ?_⟩
      exact ⟨_, rfl, q _ _ (Int.emod_nonneg _ (by omega)) (Int.emod_lt_of_pos _ np) Bx.set⟩
    · refine ⟨_, rfl, b, _, 2, .int z, rfl, rfl, SqL.of hb, a2, _, _, rfl, rfl, _, rfl, b, _, 2, 2, rfl, rfl, hb, rfl, ?_⟩
      show tSeq _ _ _ _ (upd H b (.lst [.int x, .int y, .int (z + 1)]))
      generalize hH1 : upd H b (.lst [.int x, .int y, .int (z + 1)]) = H1
      have hb1 : H1 b = some (.lst [.int x, .int y, .int (z + 1)]) := by rw [← hH1, upd_same]
      refine ⟨_, rfl, b, _, 1, .int y, rfl, rfl, SqL.of hb1, a1, _, rfl, b, _, 2, .int (z + 1), rfl, rfl, SqL.of hb1, a2, _, _, rfl, rfl, .inl ⟨by decide, by decide⟩, _, _, rfl, rfl, _, _, rfl, rfl, .inr ⟨by decide, by decide⟩, _, _, rfl, rfl, .inl ⟨_, rfl, _, _, rfl, rfl, (by decide : (0 : Int) < 2147483423), ?_⟩⟩
      refine ⟨_, rfl, _, _, rfl, rfl, .inr ⟨by decide, by decide⟩, _, _, rfl, rfl, .inl ⟨_, rfl, _, _, rfl, rfl, (by decide : (0 : Int) < 2147483477), _, _, rfl, rfl, _, rfl, b, _, 1, 1, rfl, rfl, hb1, rfl, ?_⟩⟩
      generalize hH2 : upd H1 b _ = H2
      have hb2 : ∃ y', H2 b = some (.lst [.int x, .int y', .int (z + 1)]) := ⟨_, by rw [← hH2, upd_same]; rfl⟩
      obtain ⟨y', hb2⟩ := hb2
      have bx : Bx b H H2 := ⟨⟨_, _, _, hb2⟩, fun c o e n => by rw [← hH2, upd_ne n, ← hH1, upd_ne n]; exact e⟩
      refine ⟨_, rfl, _, _, rfl, rfl, .inr ⟨by decide, by decide⟩, _, rfl, b, _, 1, .int y', rfl, rfl, SqL.of hb2, a1, _, _, rfl, rfl, _, _, rfl, rfl, ⟨by decide, by decide⟩, .inl ⟨_, rfl, _, rfl, _, _, rfl, rfl, np, ?_⟩⟩
      exact q _ _ (Int.emod_nonneg _ (by omega)) (Int.emod_lt_of_pos _ np) bx
theorem scPi : FnScope ["_law_box_here", "_law_some"] ["_law_box_here", "_law_some"] (defScope sLPick) := ⟨rfl, rfl, rfl, by decide +kernel, rfl, by decide +kernel, by decide +kernel⟩
theorem ok_pick {f fT : Addr} {fd fdT : FuncData} (D : Df K mg "_law_pick" sLPick ["_law_box_here", "_law_some"] f fd) (DT : Df K mg "_law_take" sLTake ["_law_box_here", "_law_many"] fT fdT) (B : Bt mg) (GT : FnOk P w K mg base CX0 1 fT fdT ["_law_box_here", "_law_many"] spTake) :
    FnOk P w K mg base CX0 2 f fd ["_law_box_here", "_law_some"] spPick := by
  refine D.F.ok scPi (fun vs H Q E h => ?_) (fun cdv A outer s H vs Q E hr h => ?_)
  · obtain ⟨b, l, xs, rfl, _⟩ := h
    rfl
  · obtain ⟨b, l, xs, rfl, hb, hl, hne, h1, h2, q⟩ := h
    refine ⟨_, pss_one (ps_ret (pe_ix ix_list (pv 1) (pc DT GT hr pass0 (pa_cons (pv 0) (pa_cons (pe_callB call_len_seq (by rfl) B.len PySem.boot_len (pa_cons (pv 1) pa_nil)) pa_nil))) (fun _ _ => rfl))), ?_⟩
    refine ⟨_, rfl, _, rfl, _, rfl, l, xs, rfl, .inl (SqL.of hl), b, _, rfl, hb, by omega, by omega, fun r H' r0 r1 bx => ?_⟩
    have hi : r.toNat < xs.length := by omega
    refine ⟨l, xs, r, xs[r.toNat], rfl, rfl, SqL.of (bx.2 _ _ hl hne), at_of (j := r.toNat) (by omega) (List.getElem?_eq_getElem hi), q r.toNat _ H' (List.getElem?_eq_getElem hi) bx⟩
theorem scBx : FnScope ["_law_script", "_law_k", "_law_cell"] ["_law_script", "_law_k"] (defScope sLBox) := ⟨rfl, rfl, rfl, by decide +kernel, rfl, by decide +kernel, by decide +kernel⟩
theorem ok_box {f : Addr} {fd : FuncData} (D : Df K mg "_law_box" sLBox ["_law_script", "_law_k"] f fd) (B : Bt mg) : FnOk P w K mg base CX0 1 f fd ["_law_script", "_law_k"] (spBox K) := by
  refine D.F.ok scBx (fun vs H Q E h => ?_) (fun cdv A outer s H vs Q E hr h => ?_)
  · obtain ⟨a, ns, k, rfl, _⟩ := h
    rfl
  · obtain ⟨a, ns, k, rfl, hS, hl, k0, k1, q⟩ := h
    refine ⟨_, pss_cons (ps_set (i := 2) scBx.nd rfl (.inl rfl) (pe_op op_add (pe_op op_mul pe_int (pv 1)) pe_int))
      (pss_cons (ps_if (pt_cmpR op_lt (pv 1) (pe_callB call_len_seq (by rfl) B.len PySem.boot_len (pa_cons (pv 0) pa_nil)) (nomark _))
        (pss_one (ps_set (i := 2) scBx.nd rfl (.inl rfl) (pe_callB call_abs (by rfl) B.abs (by decide +kernel) (pa_cons (pe_ix ix_list (pv 0) (pv 1) (fun _ _ => rfl)) pa_nil))))
        (pss_one (ps_if (pt_cmpR op_gt (pe_callB call_len_seq (by rfl) B.len PySem.boot_len (pa_cons (pv 0) pa_nil)) pe_int (nomark _))
          (pss_one (ps_set (i := 2) scBx.nd rfl (.inl rfl) (pe_op op_add (pv 2) (pe_op op_mul (pe_op op_mod (pe_callTy call_int1 (by rfl) B.int PyProof.Rows.boot_int (pa_cons (pe_callB call_abs (by rfl) B.abs (by decide +kernel) (pa_cons (pe_ix ix_list (pv 0)
            (pe_op op_mod (pe_callTy call_int1 (by rfl) B.int PyProof.Rows.boot_int (pa_cons (pv 1) pa_nil)) (pe_callB call_len_seq (by rfl) B.len PySem.boot_len (pa_cons (pv 0) pa_nil))) (fun _ _ => rfl)) pa_nil)) pa_nil)) pe_int) pe_int)))) pss_nil)))
      (pss_one (ps_ret (pe_lst (pa_cons (pe_ix ix_list (pe_lst (pa_cons pe_int (pa_cons (pv 2) pa_nil))) (pe_callTy call_int1 (by rfl) B.int PyProof.Rows.boot_int (pa_cons (pe_cmpR op_ge (pv 2) (pe_op op_pow pe_int pe_int) (nomark _)) pa_nil)) (fun _ _ => rfl))
        (pa_cons (pe_op op_add (pe_op op_mod (pe_callTy call_int1 (by rfl) B.int PyProof.Rows.boot_int (pa_cons (pe_op op_add (pe_op op_mul (pe_op op_mod (pe_callTy call_int1 (by rfl) B.int PyProof.Rows.boot_int (pa_cons (pv 2) pa_nil)) pe_int) pe_int) (pe_op op_mul pe_int (pv 1))) pa_nil)) pe_int) pe_int)
        (pa_cons pe_int pa_nil))))))), ?_⟩
    have pk : ∀ (b : Bool) (c : Int), ∃ v : Int, atI [V.int 0, V.int c] (if b = true then 1 else 0) = some (V.int v) := fun b c => by
      cases b with
      | true => exact ⟨c, atI_nat (j := 1) rfl⟩
      | false => exact ⟨0, atI_nat (j := 0) rfl⟩
    have hget : ∀ (j : Int), 0 ≤ j → j < (ns.length : Int) → ∃ z : Int, atI (ns.map V.int) j = some (V.int z) := fun j h0 h1 => by
      have hj : j.toNat < ns.length := by omega
      exact ⟨ns[j.toNat], at_of (j := j.toNat) (by omega) (by rw [List.getElem?_map, List.getElem?_eq_getElem hj]; rfl)⟩
    have fin : ∀ (c x y : Int) (l p : Addr), H l = none → (upd H l (.lst [.int 0, .int c])) p = none → Q (.ref p) (upd (upd H l (.lst [.int 0, .int c])) p (.lst [.int x, .int y, .int 0])) := fun c x y l p hl hp =>
      q p _ ((same_new hl).trans (same_new hp)) ((same_new (o := HO.lst [.int 0, .int c]) hl).free hp) ⟨x, y, 0, upd_same⟩
    refine ⟨_, rfl, _, _, rfl, rfl, .inl ⟨by decide, by decide⟩, _, _, rfl, rfl, ?_⟩
    refine ⟨_, rfl, _, rfl, a, _, rfl, .inl (hS), _, _, rfl, rfl, _, rfl, ifD (fun e => ?_) fun e => ?_⟩
    · have e' : k < (ns.length : Int) := by
        have z := of_decide_eq_true e
        rw [List.length_map] at z
        exact z
      obtain ⟨z, hz⟩ := hget k k0 e'
      refine ⟨_, rfl, _, rfl, a, _, k, _, rfl, rfl, hS, hz, z, rfl, ?_⟩
      refine ⟨_, rfl, (by show 2 ≤ sizeLine; decide), fun l hl => ⟨_, rfl, _, _, rfl, rfl, ⟨by decide, by decide, by decide⟩, _, _, rfl, rfl, .inr ⟨_, rfl, l, _, _, .int (pk _ _).choose, rfl, rfl, SqL.of upd_same, (pk _ _).choose_spec, ?_⟩⟩⟩
      refine ⟨_, rfl, .inl ⟨_, rfl, _, _, rfl, rfl, (by decide : (0 : Int) < 2147483477), _, _, rfl, rfl, .inr ⟨by decide, by decide⟩, _, rfl, _, _, rfl, rfl, .inl ⟨by decide, by decide⟩, _, _, rfl, rfl, .inl ⟨_, rfl, _, _, rfl, rfl, (by decide : (0 : Int) < 2147483477), _, _, rfl, rfl, (by show 3 ≤ sizeLine; decide), fun p hp => ?_⟩⟩⟩
      exact fin _ _ _ l p hl hp
    · refine ⟨_, rfl, a, _, rfl, .inl hS, _, _, rfl, rfl, _, rfl, ifD (fun e => ?_) fun e => ?_⟩
      · have e' : 0 < (ns.length : Int) := by
          have z := of_decide_eq_true e
          rw [List.length_map] at z
          omega
        have em : (k % ((ns.map V.int).length : Int)) = k % (ns.length : Int) := by rw [List.length_map]
        obtain ⟨z, hz⟩ := hget (k % (ns.length : Int)) (Int.emod_nonneg _ (by omega)) (Int.emod_lt_of_pos _ e')
        refine ⟨_, rfl, _, rfl, _, rfl, .inl ⟨_, rfl, _, rfl, a, _, rfl, .inl hS, _, _, rfl, rfl, (by rw [List.length_map]; exact e'), a, _, _, _, rfl, rfl, hS, (by rw [em]; exact hz), z, rfl, .inl ⟨_, rfl, _, _, rfl, rfl, (by decide : (0 : Int) < 2147483477), _, _, rfl, rfl, .inr ⟨by decide, by decide⟩, _, _, rfl, rfl, ?_⟩⟩⟩
        refine ⟨_, rfl, (by show 2 ≤ sizeLine; decide), fun l hl => ⟨_, rfl, _, _, rfl, rfl, ⟨by decide, by decide, by decide⟩, _, _, rfl, rfl, .inr ⟨_, rfl, l, _, _, .int (pk _ _).choose, rfl, rfl, SqL.of upd_same, (pk _ _).choose_spec, ?_⟩⟩⟩
        refine ⟨_, rfl, .inl ⟨_, rfl, _, _, rfl, rfl, (by decide : (0 : Int) < 2147483477), _, _, rfl, rfl, .inr ⟨by decide, by decide⟩, _, rfl, _, _, rfl, rfl, .inl ⟨by decide, by decide⟩, _, _, rfl, rfl, .inl ⟨_, rfl, _, _, rfl, rfl, (by decide : (0 : Int) < 2147483477), _, _, rfl, rfl, (by show 3 ≤ sizeLine; decide), fun p hp => ?_⟩⟩⟩
        exact fin _ _ _ l p hl hp
      · refine ⟨_, rfl, (by show 2 ≤ sizeLine; decide), fun l hl => ⟨_, rfl, _, _, rfl, rfl, ⟨by decide, by decide, by decide⟩, _, _, rfl, rfl, .inr ⟨_, rfl, l, _, _, .int (pk _ _).choose, rfl, rfl, SqL.of upd_same, (pk _ _).choose_spec, ?_⟩⟩⟩
        refine ⟨_, rfl, .inl ⟨_, rfl, _, _, rfl, rfl, (by decide : (0 : Int) < 2147483477), _, _, rfl, rfl, .inr ⟨by decide, by decide⟩, _, rfl, _, _, rfl, rfl, .inl ⟨by decide, by decide⟩, _, _, rfl, rfl, .inl ⟨_, rfl, _, _, rfl, rfl, (by decide : (0 : Int) < 2147483477), _, _, rfl, rfl, (by show 3 ≤ sizeLine; decide), fun p hp => ?_⟩⟩⟩
        exact fin _ _ _ l p hl hp
end
end K1
/-! several clauses 'except x as n', the same n -/
namespace K1
open PySem PySem.Spec PyProof.Rows L2
/-- what the clauses wish of an exception of the body, one after the other; slot i is the name's -/
def wAll (K : PySem.W.Frag) (i : Nat) (Wout : WX) (D : Ends) : List (Value × (Addr → Value → Option Addr → TS)) → WX
  | [] => Wout
  | (c, ts) :: r => fun cls d σ H => ∃ b, PySem.W.exmOne K cls c = some b ∧ (b = true → ∀ a, H a = none → ts a cls d { nx := fun σ' H' => D.nx (σ'.set i none) H', rt := D.rt, bk := fun σ' H' => D.bk (σ'.set i none) H', ct := fun σ' H' => D.ct (σ'.set i none) H' } (σ.set i (some (.ref a))) H) ∧
      (b = false → wAll K i Wout D r cls d σ H)
inductive HdsA (X : Cx) (n : Str) : List ExceptHandler → List (Value × (Addr → Value → Option Addr → TS)) → Prop
  | nil : HdsA X n [] []
  | cons {x : Str} {c : Value} {ts : Addr → Value → Option Addr → TS} {b₀ : Stmt} {suite : List Stmt} {np pos' : Pos} {hds : List ExceptHandler} {l : List (Value × (Addr → Value → Option Addr → TS))} (hc : Names X x c)
      (hsu : ∀ (a : Addr) (oe : Obj) (cls : Value) (d : Option Addr) (pn : List (Addr × Obj)), Zc cls d oe → (∃ vs, oe.data = .fields vs) → PSs (X.suite a ((a, oe) :: pn)) (b₀ :: suite) (ts a cls d)) (r : HdsA X n hds l) :
      HdsA X n (.ExceptHandler (some (.Name x np)) (some n) (b₀ :: suite) pos' :: hds) ((c, ts) :: l)
section
variable {X : Cx} {n : Str} {i : Nat} {body : List Stmt} {h₀ : ExceptHandler} {hds : List ExceptHandler} {l : List (Value × (Addr → Value → Option Addr → TS))} {pos : Pos} {tb : WX → TS} {Wout : WX}
theorem ps_try_all (hs : X.stack = X.env :: X.outer) (hf : X.env.frame = some X.env.locals) (hN : X.N.Nodup) (hi : X.N[i]? = some n) (hln : X.env.kindOf n = some .local) (tk : Takes X Wout)
    (hb : ∀ (W : WX) (pn : List (Addr × Obj)) (xe : Value → Shared → Prop), Takes (X.tr pn xe) W → PassesOwn (model X.prog X.w) X.A X.env xe → PSs (X.tr pn xe) body (tb W))
    (hh : HdsA X n (h₀ :: hds) l) : PS X (.Try body (h₀ :: hds) [] [] pos) (fun D σ H => tb (wAll X.K i Wout D l) D σ H) := by
  refine ⟨fun pins s σ H D I h => ?_⟩
  have ok := I.ok
  have hfr : X.A.frames = some (X.env :: X.outer) := by rw [ok.frames, hs]
  have hloc : Loc X.env.scope n := .inl hln
  refine wpAny_Try_except ?_
  refine wpAny_mono ((hb (wAll X.K i Wout D l) (X.pn ++ pins) (fun e s₁ => wpAny (model X.prog X.w) X.A (noteFrame e X.env) (fun _ s₂ => wpAny (model X.prog X.w) X.A (setFlight e none) (fun _ s₃ =>
    wpAny (model X.prog X.w) X.A (handleBy e X.env (h₀ :: hds)) (SP X pins D) X.xe s₃) X.xe s₂) X.xe s₁) (fun u s' xx => ?_) PassesOwn.looking).run [] s σ H D (I.toTry _) h) (fun f s1 hsp => ?_) (fun e s1 he => he)
  · -- the catch
    obtain ⟨a, B, sI, pins', σ', H', cls, d, rfl, J', nb, up, sky, na, os, ag, w⟩ := xx
    have J : Inv X pins σ' H' sI := J'.ofTry ok
    have sky' : Sky B (X.env :: X.outer) a (Zc cls d) X.env.locals s'.heap := by rw [← hs]; exact sky
    show wpAny (model X.prog X.w) X.A (noteFrame (.ref a) X.env) _ _ _
    refine Sky.land Zc.steady hfr hf sky' fun h3 fl3 up3 => ?_
    have J3 : Inv X pins σ' H' { s' with heap := h3 } := J.landed nb fl3.1 (up.trans up3) os ag
    obtain ⟨oe3, vs3, he3, hz3, hd3⟩ := fl3.there
    have notFr : ∀ {h : Heap} {o : Obj} {vs : Array Value}, h.FunFrames B (X.env :: X.outer) → h.get? a = some o → o.data = .fields vs → a ∉ frs (X.env :: X.outer) := fun {h o vs} ff e dd hm => by
      obtain ⟨_, o', e', hnf⟩ := ff.mem hm
      rw [e] at e'; cases e'
      exact hnf _ dd
    have nfr := notFr fl3.2.2.1 he3 hd3
    have nL : a ≠ X.env.locals := fun z => nfr (List.mem_filterMap.mpr ⟨X.env, List.mem_cons_self, by rw [hf, z]⟩)
    have nF : a ∉ X.fs := fun hm => by
      obtain ⟨e, he, q⟩ := List.mem_filterMap.mp hm
      exact nfr (List.mem_filterMap.mpr ⟨e, List.mem_cons_of_mem _ he, q⟩)
    have S3 := J3.suite he3 hd3 na nL nF
    have go : ∀ {hds' : List ExceptHandler} {l' : List (Value × (Addr → Value → Option Addr → TS))}, HdsA X n hds' l' → wAll X.K i Wout D l' cls d σ' H' →
        wpAny (model X.prog X.w) X.A (handleBy (.ref a) X.env hds') (SP X pins D) X.xe { s' with heap := h3 } := by
      intro hds' l' hk
      induction hk with
      | nil =>
        intro w
        refine wpAny_handleBy_nil ?_
        obtain ⟨k1, k2, k3, oe, vs, T, oT, ts', he, hz, hd, h1, hr⟩ := id fl3
        unfold PySem.passOn
        refine wpAny_bind (wpAny_field he hd h1 ?_)
        rw [if_neg (show ¬ ((Value.ref T == Value.none) = true) from by simp)]
        have fin : wpAny (model X.prog X.w) X.A (setFlight (.ref a) X.env.frame) (fun _ s4 => wpAny (model X.prog X.w) X.A (throw (.ref a) : Sem Flow) (SP X pins D) X.xe s4) X.xe { s' with heap := h3 } := by
          rw [hf]
          refine HandSPX.setFlight_upZ fl3 fun h4 hh4 up4 => wpAny_throw (tk _ _ ?_)
          exact ⟨a, B, sI, pins, σ', H', cls, d, rfl, J, nb, (up.trans up3).trans up4, .inr (.inr (by rw [hs]; exact hh4)), na, os, ag, w⟩
        first
          | exact wpAny_bind (wpAny_pure (wpAny_bind fin))
          | exact wpAny_bind fin
      | @cons x c ts b₀ suite np pos' hds2 l2 hc hsu r ih =>
        intro w
        obtain ⟨b, hb1, hyes, hno⟩ := w
        refine wpAny_handleBy_cons (codeAny_handlers_test ?_) (by intro q; cases q)
        have LT : PySem.W.Looks (model X.prog X.w) h3 (typeOf (.ref a)) cls := fun A Q E s k q => wpAny_typeOf_ref (k _ _ he3) (by rw [hz3.1]; exact q)
        have LM := PySem.W.exm_one (M := model X.prog X.w) (J3.kIn) LT hb1
        have test : ∀ {Q : Value → Shared → Prop} {E : Value → Shared → Prop}, Q c { s' with heap := h3 } → wpAny (model X.prog X.w) (X.A.mark (some (.ref a))) (eval (.Name x np) X.env) Q E { s' with heap := h3 } := fun {Q E} q => by
          obtain ⟨hg, hdbg, hm | ⟨hm, hv, hnn⟩⟩ := hc
          · exact ld_glob (X := X.suite a ((a, oe3) :: (X.pn ++ pins))) S3 hg hm q hdbg
          · exact ld_blt (X := X.suite a ((a, oe3) :: (X.pn ++ pins))) S3 hg hm hv q hnn hdbg
        refine test (LM.here ?_)
        cases b with
        | true =>
          refine codeAny_handlers_suite_as ?_
          refine HandSPX.lands_againZ fl3 fun h4 fl4 up4 => ?_
          have J4 : Inv X pins σ' H' { s' with heap := h4 } := J.landed nb fl4.1 ((up.trans up3).trans up4) os ag
          obtain ⟨oe4, vs4, he4, hz4, hd4⟩ := fl4.there
          have S4 := J4.suite he4 hd4 na nL nF
          refine store_ok (X := X.suite a ((a, oe4) :: (X.pn ++ pins))) (v := .ref a) S4 hN hi hloc rfl (fun s5 S5 => ?_) (.inr hln)
          refine wpAny_mono ((hsu a oe4 cls d (X.pn ++ pins) hz4 ⟨_, hd4⟩).run [] s5 _ H' _ S5 (hyes rfl a na)) (fun f s6 hsp => ?_) (fun _ _ z => False.elim z)
          have end_ : ∀ {σ6 : L2.St} {H6 : Hp} {Q : Shared → Prop}, Inv (X.suite a ((a, oe4) :: (X.pn ++ pins))) [] σ6 H6 s6 → (∀ s7, Inv X pins (σ6.set i none) H6 s7 → Q s7) →
              wpAny (model X.prog X.w) X.A (do bindName X.env n .none; unbindBehindTheSuite X.env n pos') (fun _ s7 => Q s7) X.xe s6 := fun {σ6 H6 Q} S6 hq => gone_ok (S6.unsuite ok) hN hi hln hq
          cases f with
          | next =>
            obtain ⟨σ6, H6, S6, q6⟩ := hsp
            exact end_ S6 fun s7 J7 => ⟨_, _, J7, q6⟩
          | brk =>
            obtain ⟨σ6, H6, S6, q6⟩ := hsp
            exact end_ S6 fun s7 J7 => ⟨_, _, J7, q6⟩
          | cont =>
            obtain ⟨σ6, H6, S6, q6⟩ := hsp
            exact end_ S6 fun s7 J7 => ⟨_, _, J7, q6⟩
          | ret u =>
            obtain ⟨v6, σ6, H6, S6, r6, q6⟩ := hsp
            exact end_ S6 fun s7 J7 => ⟨_, _, _, J7, r6, q6⟩
        | false =>
          show wpAny _ X.A (handleBy (.ref a) X.env hds2) _ _ _
          exact ih (hno rfl)
    exact go hh w
  · cases f with
    | next =>
      obtain ⟨σ', H', J', q⟩ := hsp
      exact wpAny_execs_nil ⟨σ', H', J'.ofTry ok, q⟩
    | brk =>
      obtain ⟨σ', H', J', q⟩ := hsp
      exact ⟨σ', H', J'.ofTry ok, q⟩
    | cont =>
      obtain ⟨σ', H', J', q⟩ := hsp
      exact ⟨σ', H', J'.ofTry ok, q⟩
    | ret u =>
      obtain ⟨v, σ', H', J', r, q⟩ := hsp
      exact ⟨v, σ', H', J'.ofTry ok, r, q⟩
end
end K1
/-! ### zip of two, each a list or a tuple -/
namespace ZM
open PySem PySem.Spec PyProof.Rows L2
def Sq (t : Bool) (K : PySem.W.Frag) (H : Hp) (a : Addr) (xs : List V) : Prop := match t with | true => SqT K H a xs | false => SqL K H a xs
def itOf (t : Bool) (h : Heap) (i l : Addr) (k : Nat) : Prop := match t with | true => h.IsTupleIter i l k | false => h.IsListIter i l k
def seqOf (t : Bool) (h : Heap) (l : Addr) (xs : Array Value) : Prop := match t with | true => h.IsTuple l xs | false => h.IsList l xs
theorem drawsM {prog : Program} {w : World} {A : Around} (t : Bool) (hh : A.handled = none) (it l : Addr) (hne : l ≠ it) (items : Array Value) :
    Draws prog w A it [it, l] items.size (fun i v => items[i]? = some v) (fun i h => itOf t h it l i ∧ seqOf t h l items) := match t with
  | true => Draws.tuple hh it l hne items
  | false => Draws.list hh it l hne items
theorem itOf.obj {t : Bool} {h : Heap} {i l : Addr} {k : Nat} (x : itOf t h i l k) : ∃ o, h.get? i = some o ∧ ∀ v, o.data ≠ .cell v := by
  cases t <;> (obtain ⟨o, e, _, d⟩ := x; exact ⟨o, e, fun v q => by rw [d] at q; cases q⟩)
theorem itOf.at {t : Bool} {h h' : Heap} {i l : Addr} {k : Nat} (x : itOf t h i l k) (m : ∀ o, h.get? i = some o → h'.get? i = some o) : itOf t h' i l k := by
  cases t
  · exact Heap.IsListIter.at x m
  · exact Heap.IsTupleIter.at x m
theorem Sq.real {X : Cx} {pins : List (Addr × Obj)} {σ : L2.St} {H : Hp} {s : Shared} {t : Bool} {a : Addr} {xs : List V} (I : Inv X pins σ H s) (q : Sq t X.K H a xs) : ∃ its, Vals xs its ∧ seqOf t s.heap a its.toArray ∧ a < s.heap.objs.size := by
  cases t
  · obtain ⟨its, rv, p, _⟩ := I.list q
    exact ⟨its, rv, p.isList, p.lt⟩
  · obtain ⟨its, rv, p, _⟩ := I.tuple q
    obtain ⟨o, ho, _⟩ := id p
    exact ⟨its, rv, p, Heap.lt_size ho⟩
theorem Sq.inj {X : Cx} {pins : List (Addr × Obj)} {σ : L2.St} {H : Hp} {s : Shared} {t : Bool} {a : Addr} {xs ys : List V} (I : Inv X pins σ H s) (q : Sq t X.K H a xs) (q2 : Sq t X.K H a ys) : xs = ys := by
  cases t
  · exact I.list_inj q q2
  · exact I.tuple_inj q q2
/-- what stands at a and b as it is at each turn, the items in new pairs -/
def ItzM (K : PySem.W.Frag) (t1 t2 : Bool) (a b : Addr) : It :=
  ⟨fun i H => ∃ (xs ys : List V) (x y : V), Sq t1 K H a xs ∧ Sq t2 K H b ys ∧ xs[i]? = some x ∧ ys[i]? = some y,
    fun i H v H' => ∃ T x y, v = .ref T ∧ H T = none ∧ H' = upd H T (.tup [x, y]) ∧ (∀ xs, Sq t1 K H a xs → xs[i]? = some x) ∧ ∀ ys, Sq t2 K H b ys → ys[i]? = some y,
    fun i H => ∃ xs ys : List V, Sq t1 K H a xs ∧ Sq t2 K H b ys ∧ i ≤ xs.length ∧ i ≤ ys.length ∧ (i = xs.length ∨ i = ys.length)⟩
theorem zlt {h : Heap} {c : Addr} {o : Obj} (e : h.get? c = some o) : c ≠ h.objs.size := Nat.ne_of_lt (Heap.lt_size e)
structure Sep (z TI TO i1 i2 a b : Addr) : Prop extends ZipSep2 z TI TO i1 i2 [i1, a] [i2, b] where
  na : a ≠ i1
  nb : b ≠ i2
  n1 : i1 ≠ z
  n2 : i2 ≠ z
theorem turnM {P : Program} {w : World} {K : PySem.W.Frag} {elts : List Expr} {kk : Nat} {tpos : Pos} {a b z TI TO i1 i2 : Addr} (t1 t2 : Bool) (S : Sep z TI TO i1 i2 a b) :
    Turn P w K (.Tuple elts kk tpos) (ItzM K t1 t2 a b) [z, TI, TO, i1, i2] z (fun i h => IsZip h z TI TO .none ∧ IsTupOf2 h TI (.ref i1) (.ref i2) ∧ (∃ x y, IsTupOf2 h TO x y) ∧ itOf t1 h i1 a i ∧ itOf t2 h i2 b i) where
  mem := by simp
  obj := fun i h st c hc => by
    obtain ⟨hz, hTI, ⟨x, y, hTO⟩, h1, h2⟩ := st
    simp only [List.mem_cons, List.mem_nil_iff, or_false] at hc
    rcases hc with rfl | rfl | rfl | rfl | rfl
    · exact ⟨_, hz, fun v q => nomatch q⟩
    · exact ⟨_, hTI, fun v q => nomatch q⟩
    · exact ⟨_, hTO, fun v q => nomatch q⟩
    · exact h1.obj
    · exact h2.obj
  keep := fun i h h' st k => by
    obtain ⟨hz, hTI, ⟨x, y, hTO⟩, h1, h2⟩ := st
    exact ⟨k _ (by simp) _ hz, k _ (by simp) _ hTI, ⟨x, y, k _ (by simp) _ hTO⟩, h1.at fun o q => k _ (by simp) o q, h2.at fun o q => k _ (by simp) o q⟩
  item := by
    intro X hP hw hK hc i pins s σ H E I hf st hg
    subst hP hw hK
    obtain ⟨hz, hTI, ⟨x0, y0, hTO⟩, h1, h2⟩ := st
    obtain ⟨xs, ys, x, y, hqx, hqy, hx, hy⟩ := hg
    obtain ⟨its, rv, p, _⟩ := hqx.real I
    obtain ⟨its2, rv2, p2, _⟩ := hqy.real I
    obtain ⟨u, hu, ru⟩ := rv.get hx
    obtain ⟨u2, hu2, ru2⟩ := rv2.get hy
    have l1 : i < its.toArray.size := by simpa using (List.getElem?_eq_some_iff.mp hu).1
    have l2 : i < its2.toArray.size := by simpa using (List.getElem?_eq_some_iff.mp hu2).1
    have d1 := drawsM (prog := X.prog) (w := X.w) (A := X.A.in1) t1 (I.ok.hd hc) i1 a S.na its.toArray
    have d2 := drawsM (prog := X.prog) (w := X.w) (A := X.A.in1) t2 (I.ok.hd hc) i2 b S.nb its2.toArray
    refine wpAny_pyNext_zipD2_item S.toZipSep2 d1 d2 hz hTI hTO ⟨h1, p⟩ ⟨h2, p2⟩ l1 l2 fun v1 v2 h' tk e1 e2 z' TO' s1' s2' hT hsz hk => ?_
    obtain rfl : u = v1 := by
      have q : its[i]? = some v1 := by simpa using e1
      exact Option.some.inj (hu.symm.trans q)
    obtain rfl : u2 = v2 := by
      have q : its2[i]? = some v2 := by simpa using e2
      exact Option.some.inj (hu2.symm.trans q)
    refine ⟨_, rfl, wpAny_letOwnedTupleGo_zip (s := { s with heap := h', toks := tk }) z' fun h'' z'' sb => ?_⟩
    have nz := zlt hz
    have hT2 : h''.get? s.heap.objs.size = some { cls := .type "tuple", data := .seq #[u, u2] } := (sb.2 _ (Ne.symm nz)).trans hT
    have new : ObjOk X.prog X.w (upd H s.heap.objs.size (.tup [x, y])) h'' s.heap.objs.size (.tup [x, y]) :=
      ⟨by show 2 ≤ sizeLine; decide, [u, u2], .cons ru (.cons ru2 .nil), ⟨_, hT2, rfl, _, rfl⟩⟩
    have I1 : Inv X pins σ (upd H s.heap.objs.size (.tup [x, y])) { s with heap := h'', toks := tk } :=
      I.turnedNew (t' := tk) (ch := [z, TI, TO, i1, i2]) (fun c o hb q => (sb.2 c (fun q' => hb (by simp [q']))).trans (hk c o (fun q' => hb (by simp [q'])) (fun q' => hb (by simp [q'])) (fun q' => hb (by simp [q'])) (fun q' => hb (by simp [q'])) q)) hf (Nat.le_refl _) new
    have back : ∀ c o, c ≠ z → h'.get? c = some o → h''.get? c = some o := fun c o k q => (sb.2 c k).trans q
    refine ⟨.ref s.heap.objs.size, _, I1, rfl, ⟨_, x, y, rfl, I.hok.fresh (Nat.le_refl _), rfl, fun l hl => by rw [hl.inj I hqx]; exact hx, fun l hl => by rw [hl.inj I hqy]; exact hy⟩, ⟨z'', back _ _ S.TIz (hk _ _ S.TIz S.TITO S.TIi1 S.TIi2 hTI), ⟨u, u2, back _ _ S.TOz TO'⟩, s1'.1.at fun o q => back _ o S.n1 q, s2'.1.at fun o q => back _ o S.n2 q⟩, fun c hcm => ?_⟩
    have hlt : c ≠ s.heap.objs.size := by
      simp only [List.mem_cons, List.mem_nil_iff, or_false] at hcm
      rcases hcm with rfl | rfl | rfl | rfl | rfl
      · exact nz
      · exact zlt hTI
      · exact zlt hTO
      · obtain ⟨o, e, _⟩ := h1.obj; exact zlt e
      · obtain ⟨o, e, _⟩ := h2.obj; exact zlt e
    rw [upd_ne hlt]
    exact (hf c hcm).1
  done := by
    intro X hP hw hK hc i pins s σ H E I hf st hg
    subst hP hw hK
    obtain ⟨hz, hTI, ⟨x0, y0, hTO⟩, h1, h2⟩ := st
    obtain ⟨xs, ys, hqx, hqy, k1, k2, hend⟩ := hg
    obtain ⟨its, rv, p, _⟩ := hqx.real I
    obtain ⟨its2, rv2, p2, _⟩ := hqy.real I
    have l1 : its.toArray.size = xs.length := by have := rv.length; simp; omega
    have l2 : its2.toArray.size = ys.length := by have := rv2.length; simp; omega
    have d1 := drawsM (prog := X.prog) (w := X.w) (A := X.A.in1) t1 (I.ok.hd hc) i1 a S.na its.toArray
    have d2 := drawsM (prog := X.prog) (w := X.w) (A := X.A.in1) t2 (I.ok.hd hc) i2 b S.nb its2.toArray
    exact wpAny_pyNext_zipD2_end S.toZipSep2 d1 d2 hz hTI hTO ⟨h1, p⟩ ⟨h2, p2⟩ (by rw [l1]; exact k1) (by rw [l2]; exact k2) (by rw [l1, l2]; exact hend) fun h' tk hk =>
      ⟨rfl, I.turnedL (t' := tk) (ch := [z, TI, TO, i1, i2]) (fun c o hb q => hk c o (fun q' => hb (by simp [q'])) (fun q' => hb (by simp [q'])) (fun q' => hb (by simp [q'])) (fun q' => hb (by simp [q'])) q) hf⟩
  self := fun A i s Q E st h => wpAny_pyIter_zip st.1 h
theorem nne (x y : Nat) (h : x < y ∨ y < x) : @Ne Addr x y := fun z => by
  have z' : @Eq Nat x y := z
  omega
theorem nin (x y y2 : Nat) (h : x < y ∨ y < x) (h2 : x < y2 ∨ y2 < x) : @Membership.mem Addr (List Addr) _ [y, y2] x → False := fun m => by
  rcases List.mem_cons.mp m with z | m
  · exact nne _ _ h z
  · exact nne _ _ h2 (List.mem_singleton.mp m)
theorem sep (n a b : Nat) (ha : a < n) (hb : b < n) : Sep (n + 4) (n + 2) (n + 3) n (n + 1) a b :=
  { TIz := nne _ _ (by omega), TOz := nne _ _ (by omega), TITO := nne _ _ (by omega), TIi1 := nne _ _ (by omega), mem1 := List.mem_cons_self, zf1 := nin _ _ _ (by omega) (by omega), Tf1 := nin _ _ _ (by omega) (by omega)
    TIi2 := nne _ _ (by omega), mem2 := List.mem_cons_self, zf2 := nin _ _ _ (by omega) (by omega), Tf2 := nin _ _ _ (by omega) (by omega)
    sep1_2 := nin _ _ _ (by omega) (by omega), sep2_1 := nin _ _ _ (by omega) (by omega)
    na := nne _ _ (by omega), nb := nne _ _ (by omega), n1 := nne _ _ (by omega), n2 := nne _ _ (by omega) }
theorem beginsM (t : Bool) (l : Addr) (items : Array Value) : ∃ o, Begins (.ref l) o (fun h => seqOf t h l items) ∧ ∀ (h : Heap) (i : Addr), h.get? i = some o → itOf t h i l 0 := by
  cases t
  · exact ⟨_, begins_list l items, fun h i e => ⟨_, e, rfl, rfl⟩⟩
  · exact ⟨_, begins_tuple l items, fun h i e => ⟨_, e, rfl, rfl⟩⟩
theorem five (n c : Nat) (h : c ∈ [n + 4, n + 2, n + 3, n, n + 1]) : n ≤ c := by
  simp only [List.mem_cons, List.mem_nil_iff, or_false] at h
  omega
def iZipM (K : PySem.W.Frag) (ta : TA) : TI := fun σ H R => ta σ H fun vs H1 => ∃ t1 t2 a b xs ys, vs = [.ref a, .ref b] ∧ Sq t1 K H1 a xs ∧ Sq t2 K H1 b ys ∧ R (ItzM K t1 t2 a b) H1
theorem pi_zipM {X : Cx} {e e2 : Expr} {ta : TA} {p pos tpos : Pos} {elts : List Expr} {kk : Nat} (hg : Gl X "zip") (hm : X.mg "zip" = none) (ha : PA X [e, e2] ta)
    (hs : starEach [e, e2] X.env = (false, eval e X.env) :: starEach [e2] X.env := by rfl) (hpl : (backTo pos (starEach [e2] X.env)).any (·.1) = false := by rfl) :
    PI X (.Tuple elts kk tpos) (.Call (.Name "zip" p) [e, e2] [] pos) (iZipM X.K ta) := by
  refine ⟨fun pins s σ H R I h => ?_⟩
  have run := ha.run pos pins s σ H _ I h
  refine Call_ (ld_blt I hg hm PyProof.Rows.boot_zip ?_)
  refine PyProof.Rows.callWith_type1 (thn run ?_) hs hpl
  rintro us s1 ⟨vs, H1, I1, r1, t1, t2, a, b, xs, ys, rfl, hqx, hqy, q⟩
  cases r1 with
  | cons r rr =>
   cases rr with
   | cons r' rr =>
    cases rr
    cases r
    cases r'
    obtain ⟨its, rv, p1, la⟩ := hqx.real I1
    obtain ⟨its2, rv2, p2, lb⟩ := hqy.real I1
    obtain ⟨o1, B1, i1⟩ := beginsM t1 a its.toArray
    obtain ⟨o2, B2, i2⟩ := beginsM t2 b its2.toArray
    refine zip_begins2 B1 B2 p1 p2 fun h' hz hTI hTO g1 g2 hsz hk => wpAny_pyIter_zip hz ?_
    have I2 : Inv X pins σ H1 { s1 with heap := h' } := I1.kept (t' := s1.toks) hk
    refine ⟨_, [s1.heap.objs.size + 4, s1.heap.objs.size + 2, s1.heap.objs.size + 3, s1.heap.objs.size, s1.heap.objs.size + 1], _, _, H1, rfl, I2, turnM t1 t2 (sep _ _ _ la lb), ⟨hz, hTI, ⟨_, _, hTO⟩, i1 _ _ g1, i2 _ _ g2⟩, fun c hcm => ?_, q⟩
    have hle : s1.heap.objs.size ≤ c := five _ _ hcm
    exact I1.fpOk hle (I1.hok.fresh hle)
theorem for_zipM {K : PySem.W.Frag} {t1 t2 : Bool} {a b : Addr} {xs ys : List V} {g : TG} {tb : TS} {D : Ends} {σ : L2.St} {H : Hp} (hl : xs.length = ys.length) (Pv : Nat → L2.St → Hp → Prop) (h0 : Pv 0 σ H) (hq : ∀ i σ H, Pv i σ H → Sq t1 K H a xs ∧ Sq t2 K H b ys)
    (hs : ∀ (i : Nat) (x y : V) (T : Addr) (σ : L2.St) (H : Hp), xs[i]? = some x → ys[i]? = some y → Pv i σ H → H T = none → g (.ref T) σ (upd H T (.tup [x, y])) fun σ2 H2 => tb { D with nx := Pv (i + 1), ct := Pv (i + 1), bk := D.nx } σ2 H2) (hd : ∀ σ H, Pv xs.length σ H → D.nx σ H) :
    ∃ W : Nat → Nat → L2.St → Hp → Prop, (∃ m, W 0 m σ H) ∧ ∀ i m σ H, W i m σ H →
      ((ItzM K t1 t2 a b).stop i H ∧ D.nx σ H) ∨ ((ItzM K t1 t2 a b).go i H ∧ ∃ N : L2.St → Hp → Prop, (∀ σ' H', N σ' H' → ∃ m', m' < m ∧ W (i + 1) m' σ' H') ∧ ∀ v H', (ItzM K t1 t2 a b).yld i H v H' → g v σ H' fun σ2 H2 => tb { D with nx := N, ct := N, bk := D.nx } σ2 H2) := by
  refine ⟨fun i m σ H => m = xs.length - i ∧ i ≤ xs.length ∧ Pv i σ H, ⟨xs.length, rfl, Nat.zero_le _, h0⟩, ?_⟩
  rintro i m σ H ⟨rfl, hi, p⟩
  obtain ⟨qx, qy⟩ := hq i σ H p
  rcases Nat.lt_or_ge i xs.length with hlt | hge
  · refine .inr ⟨⟨xs, ys, _, _, qx, qy, List.getElem?_eq_getElem hlt, List.getElem?_eq_getElem (hl ▸ hlt)⟩, Pv (i + 1), fun σ' H' p' => ⟨xs.length - (i + 1), by omega, rfl, hlt, p'⟩, ?_⟩
    rintro v H' ⟨T, x', y', rfl, hT, rfl, f1, f2⟩
    exact hs i x' y' T σ H (f1 xs qx) (f2 ys qy) p hT
  · obtain rfl : i = xs.length := Nat.le_antisymm hi hge
    exact .inl ⟨⟨xs, ys, qx, qy, hi, hl ▸ hi, .inl rfl⟩, hd σ H p⟩
end ZM
namespace K1
open PySem PySem.Spec PyProof.Rows L2
def vn (ns : List Nat) : List V := ns.map fun (x : Nat) => V.int (x : Int)
theorem vn_len (ns : List Nat) : (vn ns).length = ns.length := List.length_map _
theorem vn_at {ns : List Nat} {i : Nat} {x : Nat} (h : ns[i]? = some x) : (vn ns)[i]? = some (.int (x : Int)) := map_at h
theorem at_vn {ns : List Nat} {i : Nat} {v : V} (h : (vn ns)[i]? = some v) : ∃ x, ns[i]? = some x ∧ v = .int (x : Int) := at_map h
theorem flat_vn (ns : List Nat) : (vn ns).all flatV = true := by
  rw [List.all_eq_true]
  intro x hx
  obtain ⟨y, _, rfl⟩ := List.mem_map.mp hx
  rfl
theorem inV_vn (a : Nat) (ns : List Nat) : inV (.int (a : Int)) (vn ns) = decide (a ∈ ns) := by
  unfold inV vn
  rw [List.any_map]
  induction ns with
  | nil => rfl
  | cons b r ih =>
    rw [List.any_cons, ih]
    have e : (eqV (V.int (b : Int)) (V.int (a : Int))) = decide (a = b) := by
      show ((b : Int) == (a : Int)) = _
      by_cases z : a = b
      · rw [decide_eq_true z, z]; simp
      · rw [decide_eq_false z]
        simp only [beq_eq_false_iff_ne, ne_eq]
        omega
    show (eqV (V.int (b : Int)) (V.int (a : Int)) || _) = _
    rw [e]
    by_cases z : a = b
    · rw [decide_eq_true z, decide_eq_true (show a ∈ b :: r by rw [z]; exact List.mem_cons_self)]; rfl
    · rw [decide_eq_false z, Bool.false_or]
      congr 1
      exact propext ⟨fun h => List.mem_cons_of_mem _ h, fun h => (List.mem_cons.mp h).resolve_left z⟩
section
variable {P : Program} {w : World} {K : PySem.W.Frag} {mg : Str → Option Value} {base : Heap}
def cby (m x : Int) : Int := if m = 0 then x else x % m
def spCBy : Sp := fun vs H Q _ => ∃ (m x : Int), vs = [.int m, .int x] ∧ 0 ≤ m ∧ Q (.int (cby m x)) H
theorem scCB : FnScope ["modulus", "number"] ["modulus", "number"] (defScope sCBy) := ⟨rfl, rfl, rfl, by decide +kernel, rfl, by decide +kernel, by decide +kernel⟩
theorem ok_cby {f : Addr} {fd : FuncData} (D : Df K mg "counted_by" sCBy ["modulus", "number"] f fd) : FnOk P w K mg base CX0 1 f fd ["modulus", "number"] spCBy := by
  refine D.F.ok scCB (fun vs H Q E h => ?_) (fun cdv A outer s H vs Q E hr h => ?_)
  · obtain ⟨m, x, rfl, _⟩ := h
    rfl
  · obtain ⟨m, x, rfl, h0, q⟩ := h
    refine ⟨_, pss_one (ps_ret (pe_ifExp (pt_cmpR op_eq (pv 0) pe_int (nomark _)) (pv 1) (pe_op op_mod (pv 1) (pv 0)))), ?_⟩
    refine ⟨_, rfl, rfl, _, rfl, ifD (fun e => ?_) fun e => ?_⟩
    · have e3 : m = 0 := by
        have z : V.int m = V.int 0 := of_decide_eq_true e
        injection z
      refine ⟨_, rfl, ?_⟩
      unfold cby at q
      rw [if_pos e3] at q
      exact q
    · have e3 : ¬ m = 0 := fun z => by
        have y : ¬ (V.int m = V.int 0) := of_decide_eq_false e
        exact y (by rw [z])
      unfold cby at q
      rw [if_neg e3] at q
      exact ⟨_, rfl, _, rfl, _, _, rfl, rfl, by omega, q⟩
end
theorem vn_row (ns : List Nat) : vn ns = vrow (ns.map fun (x : Nat) => (x : Int)) := by unfold vn vrow; rw [List.map_map]; rfl
theorem kinds_vn {K : PySem.W.Frag} {H : Hp} (ns : List Nat) : Kinds K H (vn ns) := fun x hx => by
  obtain ⟨y, _, rfl⟩ := List.mem_map.mp hx
  exact ⟨_, .int _⟩
theorem dp_vn {K : PySem.W.Frag} {H : Hp} {a : Addr} {ns : List Nat} (h : H a = some (.tup (vn ns))) : Dp K H (.ref a) (.tuple (dI (ns.map fun (x : Nat) => (x : Int)))) := dp_tup (by rw [← vn_row]; exact h)
abbrev gM : List Value → List Value → List Value := fun us ws => us ++ ws.reverse
abbrev gMV : List V → List V → List V := fun us ws => us ++ ws.reverse
section
variable {X : Cx} {k : Nat} {f C : Addr} {fd : FuncData} {ps ks : List Str} {sp : Sp} {x m : Str} {st : Stmt} {p pos apos : Pos} {o : Expr} {kws : List Keyword} {tk : TA} {ta : TE}
theorem pe_callW {CX : CXT} {E : XK} {g : List Value → List Value → List Value} {gV : List V → List V → List V} (D : Df X.K X.mg x st ps f fd) (G : FnOk X.prog X.w X.K X.mg X.base CX k f fd ps sp) (hr : Room k X.A) (hb : KBn X.K fd ps 0 ks g gV) (hx : Passes CX X E) (hkw : PK X kws tk) (hg : Gl X x := by rfl)
    (hall : (backToKw pos (keywordEach kws X.env)).all (·.1.isSome) = true := by rfl) (hks : (backToKw pos (keywordEach kws X.env)).filterMap (·.1) = ks := by rfl) (hdb : (x == ("__debug__" : Str)) = false := by decide)
    (hpl : ((backTo pos (starEach [] X.env)).any (·.1) || (backToKw pos (keywordEach kws X.env)).any (·.1.isNone)) = false := by rfl) :
    PE X (.Call (.Name x p) [] kws pos) (fun σ H Q => tk σ H fun zs H1 => zs.length = ks.length ∧ sp (gV [] zs) H1 Q E) := by
  refine ⟨fun pins s σ H Q I h => ?_⟩
  refine wpAny_Call_Name_kw (ld_glob I hg D.g ?_ hdb)
  refine PySem.W.callWith_KW0 (h₀ := X.base) I.ok.mod.kin D.F.kp hall ?_ hpl
  refine thn (hkw.run pos pins s σ H _ I h) fun ws s2 ⟨zs, H2, I2, rz, l2, q2⟩ => ⟨I2.kIn, ?_⟩
  rw [hks]
  exact run_fnN (us := []) (vs := []) G hr hb hx I2 .nil rz rfl l2 q2
end
/-- what a turn of a while leaves to show -/
def WT (Pv : L2.St → Hp → Prop) (μ : L2.St → Hp → Nat) (tb : TS) (D : Ends) (σ : L2.St) (H H1 : Hp) : Prop := ∃ N : L2.St → Hp → Prop, (∀ σ' H', N σ' H' → ∃ m', m' < μ σ H ∧ m' = μ σ' H' ∧ Pv σ' H') ∧ tb { D with nx := N, ct := N, bk := D.nx } σ H1
theorem while_D {c : TT} {tb : TS} {D : Ends} {σ : L2.St} {H : Hp} (Pv : L2.St → Hp → Prop) (μ : L2.St → Hp → Nat) (h0 : Pv σ H)
    (hs : ∀ σ H, Pv σ H → c σ H fun b H1 => if b = true then WT Pv μ tb D σ H H1 else D.nx σ H1) : tWhile c tb D σ H :=
  ⟨fun m σ H => m = μ σ H ∧ Pv σ H, ⟨_, rfl, h0⟩, fun m σ H ⟨e, p⟩ => by subst e; exact hs σ H p⟩
theorem whT {tb : TS} {D : Ends} {σ : L2.St} {H H1 : Hp} {Pv : L2.St → Hp → Prop} {μ : L2.St → Hp → Nat} (h : tb { D with nx := fun σ' H' => Pv σ' H' ∧ μ σ' H' < μ σ H, ct := fun σ' H' => Pv σ' H' ∧ μ σ' H' < μ σ H, bk := D.nx } σ H1) : WT Pv μ tb D σ H H1 :=
  ⟨_, fun σ' H' ⟨p', l⟩ => ⟨_, l, rfl, p'⟩, h⟩
theorem rows_at {α : Type} {n x : Nat} {f : Nat → α} (h : x < n) : ((List.range n).map f)[x]? = some (f x) := by rw [List.getElem?_map, List.getElem?_range h]; rfl
end K1
namespace K1
open PySem PySem.Spec PyProof.Rows L2
theorem kints {K : PySem.W.Frag} {H : Hp} {tu : List Nat} : ∀ ys, some (vn tu) = some ys → Kinds K H ys := fun ys e => by
  obtain rfl := Option.some.inj e
  exact kinds_vn _
theorem rw_vnT {K : PySem.W.Frag} {H : Hp} {p : Addr} {tu : List Nat} (h : H p = some (.tup (vn tu))) : Rw K H (.ref p) (some (vn tu)) := ⟨.tup h, kints⟩
theorem rw_vnL {K : PySem.W.Frag} {H : Hp} {p : Addr} {tu : List Nat} (h : H p = some (.lst (vn tu))) : Rw K H (.ref p) (some (vn tu)) := ⟨.lst h, kints⟩
theorem Rz.of_same {C : Addr} {f : Str} {v : V} {H H1 : Hp} {E : XK} (r : Rz C f v H E) (s : Same H H1) : Rz C f v H1 E := fun d H' s' hd hx => r d H' (s.trans s') (s.free hd) hx
theorem below_nat {v : V} {n : Nat} (hb : belowB v (n : Int) = true) : ∃ h : Nat, v = .int (h : Int) ∧ h < n := by
  cases v <;> first | (cases hb; done) | skip
  rename_i i
  have z : (decide (0 ≤ i) && decide (i < (n : Int))) = true := hb
  simp only [Bool.and_eq_true, decide_eq_true_eq] at z
  exact ⟨i.toNat, by congr 1; omega, by omega⟩
theorem ixN_nat {i n : Nat} (h : i < n) : ixN n (i : Int) = some i := by
  unfold ixN
  rw [if_pos (by omega), if_pos (by omega)]
  simp
/-! ### counts, of houses and then of ties -/
def metV (m : Int) (n : Nat) (cs : List Int) (p : Nat × Nat) (t : Nat) : Int := cby m (cs.getD p.1 0 + cs.getD p.2 0 - cs.getD (n + t) 0)
def metC (m : Int) (n : Nat) (ts : Prs) (cs : List Int) (t : Nat) : List Int := match ts[t]? with
  | some p => ((cs.set p.1 (metV m n cs p t)).set p.2 (metV m n cs p t)).set (n + t) (metV m n cs p t)
  | none => cs
theorem metC_at {m : Int} {n : Nat} {ts : Prs} {cs : List Int} {t : Nat} {p : Nat × Nat} (hp : ts[t]? = some p) : metC m n ts cs t = ((cs.set p.1 (metV m n cs p t)).set p.2 (metV m n cs p t)).set (n + t) (metV m n cs p t) := by unfold metC; rw [hp]
theorem metC_len (m : Int) (n : Nat) (ts : Prs) (cs : List Int) (t : Nat) : (metC m n ts cs t).length = cs.length := by
  unfold metC
  cases ts[t]? with
  | none => rfl
  | some p => simp only [List.length_set]
def runC (m : Int) (n : Nat) (ts : Prs) (cs : List Int) (o : List Nat) : List Int := o.foldl (metC m n ts) cs
theorem runC_snoc (m : Int) (n : Nat) (ts : Prs) (cs : List Int) (o : List Nat) (t : Nat) : runC m n ts cs (o ++ [t]) = metC m n ts (runC m n ts cs o) t := by unfold runC; rw [List.foldl_append]; rfl
theorem runC_len (m : Int) (n : Nat) (ts : Prs) : ∀ (o : List Nat) (cs : List Int), (runC m n ts cs o).length = cs.length
  | [], _ => rfl
  | t :: o, cs => by
    show (runC m n ts (metC m n ts cs t) o).length = cs.length
    rw [runC_len m n ts o, metC_len]
def dlt (N x : Nat) : List Int := (List.range N).map fun i => if i = x then 1 else 0
theorem dlt_len (N x : Nat) : (dlt N x).length = N := by simp [dlt]
structure Cm (mg : Str → Option Value) : Prop where
  mm : ∃ t, mg "MOST_MEETINGS" = some (.int 10000 t)
  mr : ∃ t, mg "MOST_ROUNDS" = some (.int 400 t)
  mo : ∃ t, mg "MOST_MODULUS" = some (.int 1000000 t)
  mn : ∃ t, mg "MOST_NUMBER" = some (.int 1000000000000000000 t)
def spCM (K : PySem.W.Frag) (W C : Addr) : Sp := fun vs H Q E => ∃ (w : Addr) (v : V) (o : Option (List V)) (n : Nat) (ts : Prs), vs = [.ref w, v] ∧ WebAt W H w n ts ∧ Wv n ts ∧ Rw K H v o ∧
  ((seqB o 0 10000 = false ∧ Rz C "at" (.int (-1)) H E) ∨ (∃ (xs : List V) (i : Nat), o = some xs ∧ seqB o 0 10000 = true ∧ fnb xs (ts.length : Int) = .int (i : Nat) ∧ Rz C "at" (.int (i : Nat)) H E) ∨
    ∃ tu, o = some (vn tu) ∧ tu.length ≤ 10000 ∧ (∀ t ∈ tu, t < ts.length) ∧ ∀ p H', Same H H' → H' p = some (.tup (vn tu)) → Q (.ref p) H')
def spOneAt (W : Addr) : Sp := fun vs H Q _ => ∃ (w : Addr) (n : Nat) (ts : Prs) (k : Nat), vs = [.ref w, .int (k : Int)] ∧ WebAt W H w n ts ∧ Wv n ts ∧ ∀ p H', Same H H' → H' p = some (.tup (vrow (dlt (n + ts.length) k))) → Q (.ref p) H'
def spCB (W : Addr) : Sp := fun vs H Q _ => ∃ (w c p : Addr) (m : Int) (n : Nat) (ts : Prs) (cs : List Int) (tu : List Nat), vs = [.ref w, .ref c, .ref p, .int m] ∧ WebAt W H w n ts ∧ Wv n ts ∧ H c = some (.tup (vrow cs)) ∧ cs.length = n + ts.length ∧ H p = some (.tup (vn tu)) ∧ (∀ t ∈ tu, t < ts.length) ∧ 0 ≤ m ∧
  ∀ r H', Same H H' → H' r = some (.tup (vrow (runC m n ts cs tu))) → Q (.ref r) H'
def spParted (W : Addr) : Sp := fun vs H Q _ => ∃ (w c : Addr) (n : Nat) (ts : Prs) (cs : List Int), vs = [.ref w, .ref c] ∧ WebAt W H w n ts ∧ H c = some (.tup (vrow cs)) ∧ n ≤ cs.length ∧
  ∀ r a b H', Same H H' → H' r = some (.tup [.ref a, .ref b]) → H' a = some (.tup (vrow (cs.take n))) → H' b = some (.tup (vrow (cs.drop n))) → Q (.ref r) H'
theorem vrow_take (cs : List Int) (n : Nat) : (vrow cs).take n = vrow (cs.take n) := by unfold vrow; rw [List.map_take]
theorem vrow_drop (cs : List Int) (n : Nat) : (vrow cs).drop n = vrow (cs.drop n) := by unfold vrow; rw [List.map_drop]
section
variable {P : Program} {w : World} {K : PySem.W.Frag} {mg : Str → Option Value} {base : Heap}
theorem scCM : FnScope ["web", "value", "at"] ["web", "value"] (defScope sCheckMeetings) := ⟨rfl, rfl, rfl, by decide +kernel, rfl, by decide +kernel, by decide +kernel⟩
theorem ok_cm {f fS fF W C cI : Addr} {fd fdS fdF : FuncData} {bm : List Value} {ql : Str} (D : Df K mg "check_meetings" sCheckMeetings ["web", "value"] f fd) (DS : Df K mg "is_sequence" sSeq ["value", "least", "most"] fS fdS) (DF : Df K mg "first_not_below" sFnb ["items", "limit"] fF fdF) (B : Bt mg) (c : Cm mg) (T : WcT K mg W) (TX : LAt.Txt K mg "BadSteps" ql bm C cI)
    (GS : FnOk P w K mg base CX0 1 fS fdS ["value", "least", "most"] (spSeq K)) (GF : FnOk P w K mg base CX0 3 fF fdF ["items", "limit"] (spFnb K)) : FnOk P w K mg base (L2.CX P w) 4 f fd ["web", "value"] (spCM K W C) := by
  obtain ⟨t1, hc1⟩ := c.mm
  refine D.F.okX scCM (fun vs H Q E h => ?_) (fun cdv A outer s H vs Q E hr h => ?_)
  · obtain ⟨w, v, o, n, ts, rfl, _⟩ := h
    rfl
  · obtain ⟨w, v, o, n, ts, rfl, hw, hW, hv, q⟩ := h
    refine ⟨_, pss_cons (ps_if (pt_not (pt_val (pc DS GS (hr.mono (by decide)) pass0 (pa_cons (pv 1) (pa_cons pe_int (pa_cons (pe_glob (v := .int 10000) (by rfl) hc1 ⟨_, rfl⟩) pa_nil)))))) (pss_one (ps_raise_LAt rfl TX hr (takes_of rfl rfl rfl rfl) (pa_cons (pe_un un_neg pe_int) pa_nil))) pss_nil)
      (pss_cons (ps_set (i := 2) scCM.nd rfl (.inl rfl) (pc DF GF hr pass0 (pa_cons (pv 1) (pa_cons (pe_callB call_len_seq (by rfl) B.len PySem.boot_len (pa_cons (pe_fld (pv 0) rfl) pa_nil)) pa_nil))))
      (pss_cons (ps_if (pt_cmp (pc_notN (pv 2))) (pss_one (ps_raise_LAt rfl TX hr (takes_of rfl rfl rfl rfl) (pa_cons (pv 2) pa_nil))) pss_nil)
      (pss_one (ps_ret (pe_callTy call_tuple_of (by rfl) B.tuple PyProof.Rows.boot_tuple (pa_cons (pv 1) pa_nil)))))), ?_⟩
    obtain ⟨dx, ta, h1, tas, h2, h3⟩ := id hw
    have el : ((tas.map V.ref).length : Int) = (ts.length : Int) := by rw [List.length_map, h3.1]
    refine ⟨_, rfl, v, o, 0, 10000, rfl, hv.kv, fun H1 s1 => ⟨_, rfl, ?_⟩⟩
    have hw1 := hw.same s1
    rcases q with ⟨e, r⟩ | ⟨xs, i, eo, e, ef, r⟩ | ⟨tu, eo, lt, hlt, q⟩
    · rw [e]
      exact iteT ⟨_, rfl, _, rfl, fun d hd => r d _ (s1.trans (same_new hd)) (s1.free hd) upd_same⟩
    all_goals subst eo
    · rw [e]
      refine iteF (nxP ?_)
      obtain ⟨a, rfl, hS⟩ := hv.kv.seqA
      refine ⟨_, rfl, _, rfl, w, W, dx, _, _, rfl, s1 _ _ h1, T.cl, T.nT, wf_t _ _, ta, _, rfl, .inr (SqT.of (s1 _ _ h2)), ?_⟩
      rw [el]
      refine ⟨a, xs, (ts.length : Int), rfl, hS.same s1, (hv.ks _ rfl).same s1, fun H2 s2 => ?_⟩
      rw [ef]
      refine gn ⟨_, rfl, _, rfl, iteT ⟨_, rfl, _, rfl, fun d hd => r d _ ((s1.trans s2).trans (same_new hd)) ((s1.trans s2).free hd) upd_same⟩⟩
    · have sq : seqB (some (vn tu)) 0 10000 = true := by
        show (decide (0 ≤ ((vn tu).length : Int)) && decide (((vn tu).length : Int) ≤ 10000)) = true
        rw [vn_len, decide_eq_true (by omega), decide_eq_true (by omega)]; rfl
      rw [sq]
      refine iteF (nxP ?_)
      obtain ⟨a, rfl, hS⟩ := hv.kv.seqA
      refine ⟨_, rfl, _, rfl, w, W, dx, _, _, rfl, s1 _ _ h1, T.cl, T.nT, wf_t _ _, ta, _, rfl, .inr (SqT.of (s1 _ _ h2)), ?_⟩
      rw [el]
      refine ⟨a, vn tu, (ts.length : Int), rfl, hS.same s1, (hv.ks _ rfl).same s1, fun H2 s2 => ?_⟩
      have fn : fnb (vn tu) (ts.length : Int) = .non := fnb_none fun j y _ hy => by
        obtain ⟨x, hx, rfl⟩ := at_vn hy
        have := hlt x (List.mem_of_getElem? hx)
        show (decide (0 ≤ (x : Int)) && decide ((x : Int) < (ts.length : Int))) = true
        rw [decide_eq_true (by omega), decide_eq_true (by omega)]; rfl
      rw [fn]
      refine gn ⟨_, rfl, _, rfl, iteF (nxP ?_)⟩
      have s12 := s1.trans s2
      have hS2 := hS.same s12
      refine ⟨_, rfl, a, vn tu, rfl, ?_⟩
      rcases hS2 with h | h
      · exact .inl ⟨SqL.of h, fun l hl => q l _ (s12.trans (same_new hl)) upd_same⟩
      · exact .inr ⟨SqT.of h, q a _ s12 h⟩
abbrev nOA : List Str := ["web", "place", "at"]
theorem scOA : FnScope nOA ["web", "place"] (defScope sOneAt) := ⟨rfl, rfl, rfl, by decide +kernel, rfl, by decide +kernel, by decide +kernel⟩
theorem ok_oneAt {f W : Addr} {fd : FuncData} (D : Df K mg "one_at" sOneAt ["web", "place"] f fd) (B : Bt mg) (T : WcT K mg W) : FnOk P w K mg base CX0 1 f fd ["web", "place"] (spOneAt W) := by
  refine D.F.ok scOA (fun vs H Q E h => ?_) (fun cdv A outer s H vs Q E hr h => ?_)
  · obtain ⟨w, n, ts, k, rfl, _⟩ := h
    rfl
  · obtain ⟨w, n, ts, k, rfl, hw, hW, q⟩ := h
    refine ⟨_, pss_one (ps_ret (pe_callTy call_tuple_of (by rfl) B.tuple PyProof.Rows.boot_tuple (pa_cons (pe_lc (own := [("at", 2)]) (g := gName 2) (tt := tYes) rfl scOA.nd (pi_range1 (by rfl) B.range (pa_cons (pe_op op_add (pe_fld (pv 0) rfl) (pe_callB call_len_seq (by rfl) B.len PySem.boot_len (pa_cons (pe_fld (pv 0) rfl) pa_nil))) pa_nil)) (blkOk_by (N := nOA) (sc := defScope sOneAt) (by decide +kernel)) (fun _ _ _ _ _ => pg_name (i := 2) scOA.nd rfl (.inl rfl)) (fun _ _ _ _ _ => pts_nil)
          (fun _ _ _ _ _ => pe_callTy call_int1 (by rfl) B.int PyProof.Rows.boot_int (pa_cons (pe_cmpR op_eq (pv 2) (pv 1) (nomark _)) pa_nil))) pa_nil))), ?_⟩
    obtain ⟨dxw, tw, w1, tas, w2, w3⟩ := id hw
    have n12 := hW.n12
    have t20 := hW.t20
    have el : ((tas.map V.ref).length : Int) = (ts.length : Int) := by rw [List.length_map, w3.1]
    refine ⟨_, rfl, w, W, dxw, _, _, rfl, w1, T.cl, T.nH, wf_h _ _, _, rfl, w, W, dxw, _, _, rfl, w1, T.cl, T.nT, wf_t _ _, tw, _, rfl, .inr (SqT.of w2), _, _, rfl, rfl, ?_⟩
    rw [el]
    obtain ⟨N, hN, eN⟩ : ∃ N : Nat, (n : Int) + (ts.length : Int) = (N : Int) ∧ N = n + ts.length := ⟨n + ts.length, by omega, rfl⟩
    rw [← eN] at q
    refine ⟨(N : Int), congrArg (fun z => [V.int z]) hN, by omega, by omega, fun D1 hE0 => lc_range (fun j H' => Same H H' ∧ H' D1 = some (.lst (vrow ((dlt N k).take j)))) ⟨same_new hE0, by rw [upd_same]; rfl⟩ ?_ ?_⟩
    · rintro j H2 hj ⟨s2, hD2⟩
      have hj' : j < N := by omega
      refine ⟨rfl, _, rfl, _, rfl, rfl, .inr ⟨_, rfl, _, hD2, szl (by rw [vrow_len, List.length_take, dlt_len]; omega), fun c o e => ?_, ?_⟩⟩
      · rw [upd_ne (ne_of_none e hE0)]
        exact s2 _ _ e
      · have e : (dlt N k)[j]? = some (if j = k then 1 else 0) := rows_at hj'
        rw [upd_same, take_succ e, vrow, vrow, List.map_append]
        congr 4
        by_cases c : j = k
        · rw [if_pos c, if_pos (decide_eq_true (by rw [c, Int.zero_add]))]
        · rw [if_neg c, if_neg (by
            intro z
            have z := of_decide_eq_true z
            injection z with z
            omega)]
    · rintro H2 ⟨s2, hD2⟩
      rw [List.take_of_length_le (by rw [dlt_len]; omega)] at hD2
      exact ⟨D1, _, rfl, .inl ⟨SqL.of hD2, fun l hl => q l _ (s2.trans (same_new hl)) upd_same⟩⟩
abbrev nCB : List Str := ["web", "counts", "meetings", "modulus", "numbers", "tie", "one", "other", "at", "joined"]
theorem scCBh : FnScope nCB ["web", "counts", "meetings", "modulus"] (defScope sCountsBehind) := ⟨rfl, rfl, rfl, by decide +kernel, rfl, by decide +kernel, by decide +kernel⟩
theorem ok_cb {f fC W : Addr} {fd fdC : FuncData} (D : Df K mg "counts_behind" sCountsBehind ["web", "counts", "meetings", "modulus"] f fd) (DC : Df K mg "counted_by" sCBy ["modulus", "number"] fC fdC) (B : Bt mg) (T : WcT K mg W) (GC : FnOk P w K mg base CX0 1 fC fdC ["modulus", "number"] spCBy) : FnOk P w K mg base CX0 2 f fd ["web", "counts", "meetings", "modulus"] (spCB W) := by
  refine D.F.ok scCBh (fun vs H Q E h => ?_) (fun cdv A outer s H vs Q E hr h => ?_)
  · obtain ⟨w, c, p, m, n, ts, cs, tu, rfl, _⟩ := h
    rfl
  · obtain ⟨w, c, p, m, n, ts, cs, tu, rfl, hw, hW, hc, hl, hp, hlt, m0, q⟩ := h
    refine ⟨_, pss_cons (ps_set (i := 4) scCBh.nd rfl (.inl rfl) (pe_callTy call_list_of (by rfl) B.list PyProof.Rows.boot_list (pa_cons (pv 1) pa_nil)))
      (pss_cons (ps_for PassesOwn.never rfl (pi_tup (pv 2)) (pg_name (i := 5) scCBh.nd rfl (.inl rfl))
        (pss_cons (ps_asg (pe_ix ix_tup (pe_fld (pv 0) rfl) (pv 5) (fun _ _ => rfl)) (pg_tup rfl (pgs_cons (pg_name (i := 6) scCBh.nd rfl (.inl rfl)) (pgs_cons (pg_name (i := 7) scCBh.nd rfl (.inl rfl)) pgs_nil))))
        (pss_cons (ps_set (i := 8) scCBh.nd rfl (.inl rfl) (pe_op op_add (pe_fld (pv 0) rfl) (pv 5)))
        (pss_cons (ps_set (i := 9) scCBh.nd rfl (.inl rfl) (pc DC GC hr pass0 (pa_cons (pv 3) (pa_cons (pe_op op_sub (pe_op op_add (pe_ix ix_list (pv 4) (pv 6) (fun _ _ => rfl)) (pe_ix ix_list (pv 4) (pv 7) (fun _ _ => rfl))) (pe_ix ix_list (pv 4) (pv 8) (fun _ _ => rfl))) pa_nil))))
        (pss_one (ps_asg3 (pv 9) (pg_sub (pv 4) (pv 6) set_list) (pg_sub (pv 4) (pv 7) set_list) (pg_sub (pv 4) (pv 8) set_list)))))))
      (pss_one (ps_ret (pe_callTy call_tuple_of (by rfl) B.tuple PyProof.Rows.boot_tuple (pa_cons (pv 4) pa_nil))))), ?_⟩
    refine ⟨_, rfl, c, _, rfl, .inr (SqT.of hc), fun D0 hD0 => ?_⟩
    have s0 := same_new (o := HO.lst (vrow cs)) hD0
    refine gn ?_
    dsimp only [List.set]
    refine ⟨_, rfl, p, rfl, ⟨_, SqT.of (s0 _ _ hp)⟩, for_tup (K := K) (a := p) (xs := vn tu) (fun i σ H' => ∃ (v5 v6 v7 v8 v9 : Option V), σ = [some (.ref w), some (.ref c), some (.ref p), some (.int m), some (.ref D0), v5, v6, v7, v8, v9] ∧ Same H H' ∧ H' D0 = some (.lst (vrow (runC m n ts cs (tu.take i)))))
      ⟨none, none, none, none, none, rfl, s0, upd_same⟩ (fun i σ H' _ ⟨_, _, _, _, _, _, s', _⟩ => SqT.of (s' _ _ hp)) ?_ ?_⟩
    · rintro i x σ H1 hx ⟨v5, v6, v7, v8, v9, rfl, s1, hD⟩
      obtain ⟨t, ht, rfl⟩ := at_vn hx
      have tl := hlt t (List.mem_of_getElem? ht)
      obtain ⟨pr, hpr⟩ := ex_at tl
      obtain ⟨p1, p2, p3⟩ := hW.at_ hpr
      obtain ⟨dxw, tw, w1, tas, w2, w3⟩ := id (hw.same s1)
      obtain ⟨pa, hpa0, hpa⟩ := w3.get hpr
      have hpa' : H1 pa = some (.tup [.int (pr.1 : Int), .int (pr.2 : Int)]) := hpa
      have lr : (runC m n ts cs (tu.take i)).length = n + ts.length := by rw [runC_len, hl]
      have hrun : runC m n ts cs (tu.take (i + 1)) = metC m n ts (runC m n ts cs (tu.take i)) t := by rw [take_succ ht, runC_snoc]
      generalize runC m n ts cs (tu.take i) = xs at hD lr hrun ⊢
      refine ⟨_, rfl, w, W, dxw, _, _, rfl, w1, T.cl, T.nT, wf_t _ _, _, rfl, tw, _, (t : Int), .ref pa, rfl, rfl, SqT.of w2, at_i (map_at hpa0), pa, _, rfl, SqT.of hpa', rfl, _, _, rfl, _, _, rfl, rfl, ?_⟩
      refine ⟨_, rfl, w, W, dxw, _, _, rfl, w1, T.cl, T.nH, wf_h _ _, _, rfl, _, _, rfl, rfl, ?_⟩
      have et : (n : Int) + (t : Int) = ((n + t : Nat) : Int) := by omega
      refine gn ?_
      dsimp only [List.set]
      rw [et]
      refine ⟨_, rfl, _, rfl, _, rfl, D0, _, (pr.1 : Int), .int (xs.getD pr.1 0), rfl, rfl, SqL.of hD, at_i (vrow_get (by omega)), _, rfl, _, rfl, D0, _, (pr.2 : Int), .int (xs.getD pr.2 0), rfl, rfl, SqL.of hD, at_i (vrow_get (by omega)), _, _, rfl, rfl, _, rfl, _, rfl, D0, _, ((n + t : Nat) : Int), .int (xs.getD (n + t) 0), rfl, rfl, SqL.of hD, at_i (vrow_get (by omega)), _, _, rfl, rfl, m, _, rfl, m0, ?_⟩
      refine gn ?_
      dsimp only [List.set]
      have em := metC_at (m := m) (n := n) (cs := xs) hpr
      unfold metV at em
      generalize cby m (xs.getD pr.1 0 + xs.getD pr.2 0 - xs.getD (n + t) 0) = y at em ⊢
      refine ⟨_, rfl, _, rfl, _, rfl, D0, _, (pr.1 : Int), pr.1, rfl, rfl, hD, ixN_nat (by rw [vrow_len]; omega), ?_⟩
      rw [← vrow_set]
      refine ⟨_, rfl, _, rfl, D0, _, (pr.2 : Int), pr.2, rfl, rfl, upd_same, ixN_nat (by rw [vrow_len, List.length_set]; omega), ?_⟩
      rw [← vrow_set]
      refine ⟨_, rfl, _, rfl, D0, _, ((n + t : Nat) : Int), n + t, rfl, rfl, upd_same, ixN_nat (by rw [vrow_len, List.length_set, List.length_set]; omega), ?_⟩
      rw [← vrow_set]
      refine ⟨_, _, _, _, _, rfl, fun c' o e => ?_, by rw [upd_same, hrun, em]⟩
      have nD : c' ≠ D0 := ne_of_none e hD0
      rw [upd_ne nD, upd_ne nD, upd_ne nD]
      exact s1 _ _ e
    · rintro σ H1 ⟨v5, v6, v7, v8, v9, rfl, s1, hD⟩
      rw [vn_len, List.take_of_length_le (Nat.le_refl _)] at hD
      exact ⟨_, rfl, D0, _, rfl, .inl ⟨SqL.of hD, fun l hl => q l _ (s1.trans (same_new hl)) upd_same⟩⟩
theorem scPt : FnScope ["web", "counts"] ["web", "counts"] (defScope sParted) := ⟨rfl, rfl, rfl, by decide +kernel, rfl, by decide +kernel, by decide +kernel⟩
theorem ok_parted {f W : Addr} {fd : FuncData} (D : Df K mg "parted" sParted ["web", "counts"] f fd) (T : WcT K mg W) : FnOk P w K mg base CX0 1 f fd ["web", "counts"] (spParted W) := by
  refine D.F.ok scPt (fun vs H Q E h => ?_) (fun cdv A outer s H vs Q E hr h => ?_)
  · obtain ⟨w, c, n, ts, cs, rfl, _⟩ := h
    rfl
  · obtain ⟨w, c, n, ts, cs, rfl, hw, hc, hn, q⟩ := h
    refine ⟨_, pss_one (ps_ret (pe_tup (pa_cons (pe_slice (slA (K := K) rfl) (pv 1) po_none (po_some (pe_fld (pv 0) rfl))) (pa_cons (pe_slice (slA (K := K) rfl) (pv 1) (po_some (pe_fld (pv 0) rfl)) po_none) pa_nil)))), ?_⟩
    obtain ⟨dxw, tw, w1, tas, w2, w3⟩ := id hw
    refine ⟨_, rfl, noP ⟨_, rfl, w, W, dxw, _, _, rfl, w1, T.cl, T.nH, wf_h _ _, _, rfl, slA_by hc fun a H1 s1 ha => ?_⟩⟩
    rw [cut_to (by rw [vrow_len]; exact hn), vrow_take] at ha
    refine ⟨_, rfl, _, rfl, w, W, dxw, _, _, rfl, s1 _ _ w1, T.cl, T.nH, wf_h _ _, _, rfl, noP (slA_by (s1 _ _ hc) fun b H2 s2 hb => ?_)⟩
    rw [cut_from (by rw [vrow_len]; exact hn), vrow_drop] at hb
    exact ⟨(by show 2 ≤ sizeLine; decide), fun r hr => q r a b _ ((s1.trans s2).trans (same_new hr)) upd_same (same_new hr _ _ (s2 _ _ ha)) (same_new hr _ _ hb)⟩
end
end K1
namespace ZM
open PySem PySem.Spec PyProof.Rows L2
theorem lc_zipM {K : PySem.W.Frag} {t1 t2 : Bool} {a b : Addr} {xs ys : List V} {g : TG} {tt : TT} {te : TE} {vs : List Nat} {σ : L2.St} {H1 : Hp} {D : Addr} {Qd : Hp → Prop} (hl : xs.length = ys.length) (Pv : Nat → Hp → Prop) (h0 : Pv 0 (upd H1 D (.lst []))) (hq : ∀ i H, i ≤ xs.length → Pv i H → Sq t1 K H a xs ∧ Sq t2 K H b ys)
    (hs : ∀ i x y T H, xs[i]? = some x → ys[i]? = some y → H T = none → Pv i H → g (.ref T) (wipe σ vs) (upd H T (.tup [x, y])) fun σ2 H2 => wipe σ2 vs = wipe σ vs ∧ tt σ2 H2 fun b H3 =>
      if b = true then te σ2 H3 fun y H4 => ∃ acc, H4 D = some (.lst acc) ∧ acc.length < sizeLine ∧ Pv (i + 1) (upd H4 D (.lst (acc ++ [y]))) else Pv (i + 1) H3) (hd : ∀ H, Pv xs.length H → Qd H) :
    ∃ W : Nat → Nat → Hp → Prop, (∃ m, W 0 m (upd H1 D (.lst []))) ∧ ∀ i m H, W i m H →
      ((ItzM K t1 t2 a b).stop i H ∧ Qd H) ∨ ((ItzM K t1 t2 a b).go i H ∧ ∃ Nx : Hp → Prop, (∀ H', Nx H' → ∃ m', m' < m ∧ W (i + 1) m' H') ∧ ∀ x H', (ItzM K t1 t2 a b).yld i H x H' → g x (wipe σ vs) H' fun σ2 H2 => wipe σ2 vs = wipe σ vs ∧ tt σ2 H2 fun b H3 =>
        if b = true then te σ2 H3 fun y H4 => ∃ acc, H4 D = some (.lst acc) ∧ acc.length < sizeLine ∧ Nx (upd H4 D (.lst (acc ++ [y]))) else Nx H3) := by
  refine ⟨fun i m H => m = xs.length - i ∧ i ≤ xs.length ∧ Pv i H, ⟨xs.length, by simp, Nat.zero_le _, h0⟩, ?_⟩
  rintro i m H ⟨rfl, hi, p⟩
  obtain ⟨q1, q2⟩ := hq i H hi p
  by_cases hlt : i < xs.length
  · have hlt2 : i < ys.length := by omega
    refine .inr ⟨⟨xs, ys, _, _, q1, q2, List.getElem?_eq_getElem hlt, List.getElem?_eq_getElem hlt2⟩, Pv (i + 1), fun H' p' => ⟨xs.length - (i + 1), by omega, rfl, hlt, p'⟩, fun x H' y => ?_⟩
    obtain ⟨T, x', y', e1, e2, e3, e4, e5⟩ := y
    subst e1 e3
    exact hs i x' y' T H (e4 xs q1) (e5 ys q2) e2 p
  · have e : i = xs.length := by omega
    subst e
    exact .inl ⟨⟨xs, ys, q1, q2, Nat.le_refl _, by omega, .inl rfl⟩, hd H p⟩
end ZM
namespace K1
open PySem PySem.Spec PyProof.Rows L2
theorem map_getD {n x : Nat} {f : Nat → Int} : ((List.range n).map f).getD x 0 = if x < n then f x else 0 := by
  rw [List.getD_eq_getElem?_getD, List.getElem?_map]
  by_cases h : x < n
  · rw [List.getElem?_range h, if_pos h]; rfl
  · rw [List.getElem?_eq_none (by rw [List.length_range]; omega), if_neg h]; rfl
def lin (N : Nat) (c f : Nat → Int) : Int := ((List.range N).map fun i => c i * f i).sum
theorem lin_succ (N : Nat) (c f : Nat → Int) : lin (N + 1) c f = lin N c f + c N * f N := by
  unfold lin
  rw [List.range_succ, List.map_append, List.sum_append]
  simp
theorem lin_cong {N : Nat} {c f g : Nat → Int} (h : ∀ i, i < N → f i = g i) : lin N c f = lin N c g := by
  unfold lin
  rw [List.map_congr_left fun i hi => by rw [h i (List.mem_range.mp hi)]]
theorem lin_unit {N x : Nat} (c : Nat → Int) (hx : x < N) : lin N c (fun i => if x = i then 1 else 0) = c x := by
  induction N with
  | zero => omega
  | succ N ih =>
    rw [lin_succ]
    by_cases e : x = N
    · subst e
      have : lin x c (fun i => if x = i then 1 else 0) = 0 := by
        have : ∀ M, M ≤ x → lin M c (fun i => if x = i then 1 else 0) = 0 := fun M => by
          induction M with
          | zero => intro _; rfl
          | succ M ih2 => intro h; rw [lin_succ, ih2 (by omega), if_neg (by omega)]; simp
        exact this x (Nat.le_refl _)
      rw [this, if_pos rfl]; omega
    · rw [ih (by omega), if_neg e]; omega
theorem lin_met (N : Nat) (c f g h : Nat → Int) : lin N c (fun i => f i + g i - h i) = lin N c f + lin N c g - lin N c h := by
  induction N with
  | zero => rfl
  | succ N ih =>
    simp only [lin_succ, ih]
    have : c N * (f N + g N - h N) = c N * f N + c N * g N - c N * h N := by rw [Int.mul_sub, Int.mul_add]
    omega
abbrev Rws := List (List Int)
def RwsA (H : Hp) (as : List Addr) (rs : Rws) : Prop := as.length = rs.length ∧ ∀ (i : Nat) a r, as[i]? = some a → rs[i]? = some r → H a = some (.tup (vrow r))
theorem RwsA.same {H H' : Hp} {as : List Addr} {rs : Rws} (h : RwsA H as rs) (s : Same H H') : RwsA H' as rs := ⟨h.1, fun i a t e1 e2 => s _ _ (h.2 i a t e1 e2)⟩
theorem RwsA.kp {H H' : Hp} {as : List Addr} {rs : Rws} (h : RwsA H as rs) (k : ∀ a xs, H a = some (.tup xs) → H' a = some (.tup xs)) : RwsA H' as rs := ⟨h.1, fun i a t e1 e2 => k _ _ (h.2 i a t e1 e2)⟩
theorem RwsA.get {H : Hp} {as : List Addr} {rs : Rws} (h : RwsA H as rs) {i : Nat} {r : List Int} (e : rs[i]? = some r) : ∃ a, as[i]? = some a ∧ H a = some (.tup (vrow r)) := by
  obtain ⟨a, ha⟩ := ex_at (l := as) (i := i) (by rw [h.1]; exact lt_at e)
  exact ⟨a, ha, h.2 i a r ha e⟩
theorem refs_set (as : List Addr) (i : Nat) (a : Addr) : (as.set i a).map V.ref = (as.map V.ref).set i (.ref a) := by rw [List.map_set]
/-! ### counts are sums of what each count alone becomes -/
theorem dlt_getD (N x i : Nat) : (dlt N x).getD i 0 = if i < N then (if i = x then 1 else 0) else 0 := map_getD
theorem set_getD {xs : List Int} {i j : Nat} {v : Int} (h : i < xs.length) : (xs.set i v).getD j 0 = if j = i then v else xs.getD j 0 := by
  rw [List.getD_eq_getElem?_getD, List.getD_eq_getElem?_getD, List.getElem?_set]
  by_cases c : i = j
  · rw [if_pos c, if_pos h, if_pos c.symm]; rfl
  · rw [if_neg c, if_neg fun z => c z.symm]
theorem metC_getD {m : Int} {n : Nat} {ts : Prs} {cs : List Int} {t : Nat} {p : Nat × Nat} (hW : Wv n ts) (hl : cs.length = n + ts.length) (hp : ts[t]? = some p) (i : Nat) : (metC m n ts cs t).getD i 0 = if i = p.1 ∨ i = p.2 ∨ i = n + t then metV m n cs p t else cs.getD i 0 := by
  obtain ⟨p1, p2, _⟩ := hW.at_ hp
  have tl := lt_at hp
  rw [metC_at hp, set_getD (by rw [List.length_set, List.length_set]; omega), set_getD (by rw [List.length_set]; omega), set_getD (by omega)]
  by_cases c1 : i = n + t
  · rw [if_pos c1, if_pos (.inr (.inr c1))]
  · rw [if_neg c1]
    by_cases c2 : i = p.2
    · rw [if_pos c2, if_pos (.inr (.inl c2))]
    · rw [if_neg c2]
      by_cases c3 : i = p.1
      · rw [if_pos c3, if_pos (.inl c3)]
      · rw [if_neg c3, if_neg (by omega)]
/-- what of xs becomes of the counts that the images are of each alone -/
def mo (N : Nat) (xs : List Int) (col : Nat → List Int) (i : Nat) : Int := lin N (fun j => xs.getD j 0) fun j => (col j).getD i 0
theorem run_mo {n : Nat} {ts : Prs} (hW : Wv n ts) {xs : List Int} (hl : xs.length = n + ts.length) : ∀ (o : List Nat) (i : Nat), i < n + ts.length → (runC 0 n ts xs o).getD i 0 = mo (n + ts.length) xs (fun j => runC 0 n ts (dlt (n + ts.length) j) o) i := fun o => by
  have base0 : ∀ i, i < n + ts.length → (runC 0 n ts xs []).getD i 0 = mo (n + ts.length) xs (fun j => runC 0 n ts (dlt (n + ts.length) j) []) i := fun i hi => by
    show xs.getD i 0 = lin _ _ fun j => (dlt (n + ts.length) j).getD i 0
    rw [lin_cong (g := fun j => if i = j then 1 else 0) fun j hj => by rw [dlt_getD, if_pos hi]]
    exact (lin_unit (fun j => xs.getD j 0) hi).symm
  have step0 : ∀ (o : List Nat) (t : Nat), (∀ i, i < n + ts.length → (runC 0 n ts xs o).getD i 0 = mo (n + ts.length) xs (fun j => runC 0 n ts (dlt (n + ts.length) j) o) i) → ∀ i, i < n + ts.length → (runC 0 n ts xs (o ++ [t])).getD i 0 = mo (n + ts.length) xs (fun j => runC 0 n ts (dlt (n + ts.length) j) (o ++ [t])) i := fun o t ih i hi => by
    unfold mo
    rw [runC_snoc, lin_cong (g := fun j => (metC 0 n ts (runC 0 n ts (dlt (n + ts.length) j) o) t).getD i 0) fun j _ => by show (runC 0 n ts (dlt (n + ts.length) j) (o ++ [t])).getD i 0 = _; rw [runC_snoc]]
    cases hp : ts[t]? with
    | none =>
      have e : ∀ cs, metC 0 n ts cs t = cs := fun cs => by unfold metC; rw [hp]
      simp only [e]
      exact ih i hi
    | some p =>
      obtain ⟨p1, p2, _⟩ := hW.at_ hp
      have tl := lt_at hp
      have ll : (runC 0 n ts xs o).length = n + ts.length := by rw [runC_len, hl]
      rw [metC_getD hW ll hp, lin_cong (g := fun j => if i = p.1 ∨ i = p.2 ∨ i = n + t then metV 0 n (runC 0 n ts (dlt (n + ts.length) j) o) p t else (runC 0 n ts (dlt (n + ts.length) j) o).getD i 0) fun j _ => metC_getD hW (by rw [runC_len, dlt_len]) hp i]
      by_cases c : i = p.1 ∨ i = p.2 ∨ i = n + t
      · rw [if_pos c]
        simp only [if_pos c]
        have e : ∀ cs, metV 0 n cs p t = cs.getD p.1 0 + cs.getD p.2 0 - cs.getD (n + t) 0 := fun cs => by unfold metV cby; rw [if_pos rfl]
        simp only [e]
        rw [lin_met, ih p.1 (by omega), ih p.2 (by omega), ih (n + t) (by omega)]
        rfl
      · rw [if_neg c]
        simp only [if_neg c]
        exact ih i hi
  have key : ∀ (k : Nat) (o : List Nat), o.length = k → ∀ i, i < n + ts.length → (runC 0 n ts xs o).getD i 0 = mo (n + ts.length) xs (fun j => runC 0 n ts (dlt (n + ts.length) j) o) i := fun k => by
    induction k with
    | zero =>
      intro o ho i hi
      obtain rfl := List.length_eq_zero_iff.mp ho
      exact base0 i hi
    | succ k ih =>
      intro o ho i hi
      have ne : o ≠ [] := fun z => by rw [z] at ho; cases ho
      obtain ⟨o', t, rfl⟩ : ∃ o' t, o = o' ++ [t] := ⟨o.dropLast, o.getLast ne, (List.dropLast_concat_getLast ne).symm⟩
      rw [List.length_append] at ho
      exact step0 o' t (ih o' (by simp only [List.length_cons, List.length_nil] at ho; omega)) i hi
  exact key o.length o rfl
/-- alike, counted by m -/
def Cg (m : Int) (xs ys : List Int) : Prop := xs.length = ys.length ∧ ∀ i, xs.getD i 0 % m = ys.getD i 0 % m
theorem Cg.rfl' {m : Int} {xs : List Int} : Cg m xs xs := ⟨rfl, fun _ => rfl⟩
theorem Cg.sym {m : Int} {xs ys : List Int} (h : Cg m xs ys) : Cg m ys xs := ⟨h.1.symm, fun i => (h.2 i).symm⟩
theorem Cg.trans {m : Int} {xs ys zs : List Int} (h : Cg m xs ys) (k : Cg m ys zs) : Cg m xs zs := ⟨h.1.trans k.1, fun i => (h.2 i).trans (k.2 i)⟩
def red (m : Int) (xs : List Int) : List Int := xs.map fun x => x % m
theorem red_len (m : Int) (xs : List Int) : (red m xs).length = xs.length := List.length_map _
theorem red_getD {m : Int} {xs : List Int} (i : Nat) : (red m xs).getD i 0 = xs.getD i 0 % m := by
  unfold red
  rw [List.getD_eq_getElem?_getD, List.getD_eq_getElem?_getD, List.getElem?_map]
  cases xs[i]? with
  | none => exact (Int.zero_emod m).symm
  | some x => rfl
theorem red_cg {m : Int} {xs : List Int} : Cg m (red m xs) xs := ⟨red_len m xs, fun i => by rw [red_getD, Int.emod_emod]⟩
theorem getD_ext {xs ys : List Int} (hl : xs.length = ys.length) (h : ∀ i, i < xs.length → xs.getD i 0 = ys.getD i 0) : xs = ys := by
  refine List.ext_getElem? fun i => ?_
  by_cases c : i < xs.length
  · have := h i c
    rw [List.getD_eq_getElem?_getD, List.getD_eq_getElem?_getD, List.getElem?_eq_getElem c, List.getElem?_eq_getElem (hl ▸ c)] at this
    rw [List.getElem?_eq_getElem c, List.getElem?_eq_getElem (hl ▸ c)]
    exact congrArg some this
  · rw [List.getElem?_eq_none (by omega), List.getElem?_eq_none (by omega)]
theorem cg_red {m : Int} {xs ys : List Int} (h : Cg m xs ys) : red m xs = red m ys := getD_ext (by rw [red_len, red_len]; exact h.1) fun i _ => by rw [red_getD, red_getD]; exact h.2 i
theorem metC_cg {m k : Int} {n : Nat} {ts : Prs} (hW : Wv n ts) {xs ys : List Int} (hl : xs.length = n + ts.length) (hk : k = 0 ∨ k = m) (m0 : m ≠ 0) (h : Cg m xs ys) (t : Nat) : Cg m (metC k n ts xs t) (metC 0 n ts ys t) := by
  refine ⟨by rw [metC_len, metC_len]; exact h.1, fun i => ?_⟩
  cases hp : ts[t]? with
  | none =>
    have e : ∀ k cs, metC k n ts cs t = cs := fun k cs => by unfold metC; rw [hp]
    rw [e, e]
    exact h.2 i
  | some p =>
    rw [metC_getD hW hl hp, metC_getD hW (h.1 ▸ hl) hp]
    by_cases c : i = p.1 ∨ i = p.2 ∨ i = n + t
    · rw [if_pos c, if_pos c]
      have key : (xs.getD p.1 0 + xs.getD p.2 0 - xs.getD (n + t) 0) % m = (ys.getD p.1 0 + ys.getD p.2 0 - ys.getD (n + t) 0) % m := by
        rw [Int.sub_emod, Int.add_emod, h.2 p.1, h.2 p.2, h.2 (n + t), ← Int.add_emod, ← Int.sub_emod]
      unfold metV cby
      rw [if_pos rfl]
      rcases hk with rfl | rfl
      · rw [if_pos rfl]; exact key
      · rw [if_neg m0, Int.emod_emod]; exact key
    · rw [if_neg c, if_neg c]
      exact h.2 i
theorem runC_cg {m k : Int} {n : Nat} {ts : Prs} (hW : Wv n ts) (hk : k = 0 ∨ k = m) (m0 : m ≠ 0) : ∀ (o : List Nat) {xs ys : List Int}, xs.length = n + ts.length → Cg m xs ys → Cg m (runC k n ts xs o) (runC 0 n ts ys o)
  | [], _, _, _, h => h
  | t :: o, xs, ys, hl, h => runC_cg hW hk m0 o (by rw [metC_len]; exact hl) (metC_cg hW hl hk m0 h t)
theorem lin_cg {m : Int} (N : Nat) {c d f g : Nat → Int} (h1 : ∀ i, i < N → c i % m = d i % m) (h2 : ∀ i, i < N → f i % m = g i % m) : lin N c f % m = lin N d g % m := by
  induction N with
  | zero => rfl
  | succ N ih =>
    rw [lin_succ, lin_succ, Int.add_emod, Int.mul_emod, ih (fun i hi => h1 i (by omega)) (fun i hi => h2 i (by omega)), h1 N (by omega), h2 N (by omega), ← Int.mul_emod, ← Int.add_emod]
/-- the meetings of so many rounds -/
def rep (k : Nat) (tu : List Nat) : List Nat := (List.replicate k tu).flatten
theorem rep_add (a b : Nat) (tu : List Nat) : rep (a + b) tu = rep a tu ++ rep b tu := by unfold rep; rw [← List.replicate_append_replicate, List.flatten_append]
theorem rep_one (tu : List Nat) : rep 1 tu = tu := by unfold rep; simp
theorem rep_zero (tu : List Nat) : rep 0 tu = [] := rfl
theorem runC_app (m : Int) (n : Nat) (ts : Prs) (cs : List Int) (a b : List Nat) : runC m n ts cs (a ++ b) = runC m n ts (runC m n ts cs a) b := by unfold runC; rw [List.foldl_append]
end K1
namespace K1
open PySem PySem.Spec PyProof.Rows L2
theorem snoc_at {α : Type} {l : List α} {i : Nat} {a b : α} (h : (l ++ [a])[i]? = some b) : l[i]? = some b ∨ (i = l.length ∧ a = b) := by
  by_cases hi : i < l.length
  · rw [List.getElem?_append_left hi] at h
    exact .inl h
  · rw [List.getElem?_append_right (by omega)] at h
    cases z : i - l.length with
    | zero =>
      rw [z] at h
      exact .inr ⟨by omega, Option.some.inj h⟩
    | succ n => rw [z] at h; cases h
def Bd6 (xs : List Int) : Prop := ∀ x ∈ xs, -1000000 ≤ x ∧ x ≤ 1000000
def moR (m : Int) (rows : Rws) (xs : List Int) : List Int := (List.range xs.length).map fun i => cby m (mo xs.length xs (fun j => rows.getD j []) i)
theorem moR_red {m : Int} {n : Nat} {ts : Prs} (hW : Wv n ts) (m0 : m ≠ 0) {rows : Rws} {xs ys : List Int} {o : List Nat} (hl : xs.length = n + ts.length) (h : Cg m xs ys) (hr : ∀ j, j < n + ts.length → Cg m (rows.getD j []) (runC 0 n ts (dlt (n + ts.length) j) o)) : moR m rows xs = red m (runC 0 n ts ys o) := by
  have ly : ys.length = n + ts.length := by rw [← h.1, hl]
  refine getD_ext (by rw [red_len, runC_len, moR, List.length_map, List.length_range]; omega) fun i hi => ?_
  rw [moR, List.length_map, List.length_range, hl] at hi
  rw [red_getD, run_mo hW ly o i hi, moR, map_getD, if_pos (by omega)]
  unfold cby
  rw [if_neg m0, hl]
  exact lin_cg _ (fun j _ => h.2 j) fun j hj => (hr j hj).2 i
theorem rep0 (N : Nat) : (List.replicate N [V.int 0]).flatten = vrow ((List.range N).map fun _ => (0 : Int)) := by
  induction N with
  | zero => rfl
  | succ N ih => rw [List.replicate_succ', List.flatten_append, ih, List.range_succ, List.map_append, vrow, vrow, List.map_append]; rfl
def spMO : Sp := fun vs H Q _ => ∃ (im nu : Addr) (m : Int) (as : List Addr) (rows : Rws) (xs : List Int), vs = [.ref im, .ref nu, .int m] ∧ H im = some (.lst (as.map V.ref)) ∧ RwsA H as rows ∧ H nu = some (.tup (vrow xs)) ∧ rows.length = xs.length ∧ (∀ r ∈ rows, r.length = xs.length) ∧ xs.length ≤ 100 ∧ 0 ≤ m ∧ Bd6 xs ∧ ∀ r H', Same H H' → H' r = some (.tup (vrow (moR m rows xs))) → Q (.ref r) H'
def spCP (W : Addr) : Sp := fun vs H Q _ => ∃ (w c p : Addr) (k : Nat) (m : Int) (n : Nat) (ts : Prs) (cs : List Int) (tu : List Nat), vs = [.ref w, .ref c, .ref p, .int (k : Int), .int m] ∧ WebAt W H w n ts ∧ Wv n ts ∧ H c = some (.tup (vrow cs)) ∧ cs.length = n + ts.length ∧ H p = some (.tup (vn tu)) ∧ (∀ t ∈ tu, t < ts.length) ∧ 0 < m ∧ m ≤ 1000000 ∧
  ∀ r H', Same H H' → H' r = some (.tup (vrow (red m (runC 0 n ts cs (rep k tu))))) → Q (.ref r) H'
theorem rws_len {H : Hp} {as : List Addr} {rows : Rws} (h : RwsA H as rows) : (as.map V.ref).length = rows.length := by rw [List.length_map, h.1]
theorem RwsA.snoc {H : Hp} {as : List Addr} {rs : Rws} {a : Addr} {r : List Int} (h : RwsA H as rs) (ha : H a = some (.tup (vrow r))) : RwsA H (as ++ [a]) (rs ++ [r]) := by
  refine ⟨by rw [List.length_append, List.length_append, h.1]; rfl, fun i c t e1 e2 => ?_⟩
  have l := h.1
  rcases snoc_at e1 with e1 | ⟨i1, rfl⟩
  · rcases snoc_at e2 with e2 | ⟨i2, rfl⟩
    · exact h.2 i c t e1 e2
    · have := lt_at e1
      omega
  · rcases snoc_at e2 with e2 | ⟨i2, rfl⟩
    · have := lt_at e2
      omega
    · exact ha
section
variable {P : Program} {w : World} {K : PySem.W.Frag} {mg : Str → Option Value} {base : Heap}
abbrev nMO : List Str := ["images", "numbers", "modulus", "sums", "image", "times", "total", "number"]
theorem scMO : FnScope nMO ["images", "numbers", "modulus"] (defScope sMadeOf) := ⟨rfl, rfl, rfl, by decide +kernel, rfl, by decide +kernel, by decide +kernel⟩
theorem ok_mo {f fC : Addr} {fd fdC : FuncData} (D : Df K mg "made_of" sMadeOf ["images", "numbers", "modulus"] f fd) (DC : Df K mg "counted_by" sCBy ["modulus", "number"] fC fdC) (B : Bt mg) (GC : FnOk P w K mg base CX0 1 fC fdC ["modulus", "number"] spCBy) : FnOk P w K mg base CX0 2 f fd ["images", "numbers", "modulus"] spMO := by
  refine D.F.ok scMO (fun vs H Q E h => ?_) (fun cdv A outer s H vs Q E hr h => ?_)
  · obtain ⟨im, nu, m, as, rows, xs, rfl, _⟩ := h
    rfl
  · obtain ⟨im, nu, m, as, rows, xs, rfl, hi, hR, hn, lr, lrs, l100, m0, b6, q⟩ := h
    refine ⟨_, pss_cons (ps_set (i := 3) scMO.nd rfl (.inl rfl) (pe_op op_rep (pe_lst (pa_cons pe_int pa_nil)) (pe_callB call_len_seq (by rfl) B.len PySem.boot_len (pa_cons (pv 1) pa_nil))))
      (pss_cons (ps_for PassesOwn.never rfl (ZM.pi_zipM (by rfl) B.zip (pa_cons (pv 0) (pa_cons (pv 1) pa_nil))) (pg_tup rfl (pgs_cons (pg_name (i := 4) scMO.nd rfl (.inl rfl)) (pgs_cons (pg_name (i := 5) scMO.nd rfl (.inr rfl)) pgs_nil)))
        (pss_one (ps_if (pt_cmpR op_ne (pv 5) pe_int (nomark _)) (pss_one (ps_setLc (i := 3) (own := [("total", 6), ("number", 7)]) (g := gTup K 2 (gCons (gName 6) (gCons (gName 7) gNil))) (tt := tYes) rfl scMO.nd rfl rfl (sw_true rfl rfl rfl rfl) (ZM.pi_zipM (by rfl) B.zip (pa_cons (pv 3) (pa_cons (pv 4) pa_nil))) (blkOk_by (N := nMO) (sc := defScope sMadeOf) (by decide +kernel))
          (fun _ _ _ _ _ => pg_tup rfl (pgs_cons (pg_name (i := 6) scMO.nd rfl (.inl rfl)) (pgs_cons (pg_name (i := 7) scMO.nd rfl (.inl rfl)) pgs_nil))) (fun _ _ _ _ _ => pts_nil) (fun _ _ _ _ _ => pe_op op_add (pv 6) (pe_op op_mul (pv 5) (pv 7))))) pss_nil)))
      (pss_one (ps_ret (pe_callTy call_tuple_of (by rfl) B.tuple PyProof.Rows.boot_tuple (pa_cons (pe_lc (own := [("total", 6)]) (g := gName 6) (tt := tYes) rfl scMO.nd (pi_list (pv 3)) (blkOk_by (N := nMO) (sc := defScope sMadeOf) (by decide +kernel)) (fun _ _ _ _ _ => pg_name (i := 6) scMO.nd rfl (.inl rfl)) (fun _ _ _ _ _ => pts_nil)
          (fun _ _ _ _ _ => pc DC GC hr pass0 (pa_cons (pv 2) (pa_cons (pv 6) pa_nil)))) pa_nil))))), ?_⟩
    have lv : (vrow xs).length = xs.length := vrow_len xs
    obtain ⟨Nn, eN⟩ : ∃ N : Nat, N = xs.length := ⟨_, rfl⟩
    refine ⟨(by show 1 ≤ sizeLine; decide), fun l0 hl0 => ⟨_, rfl, nu, _, rfl, .inr (SqT.of (same_new hl0 _ _ hn)), l0, _, _, rfl, rfl, upd_same, by omega, by omega, sz (by rw [Int.toNat_natCast]; simp only [List.length_cons, List.length_nil]; omega), fun D0 hD0 => ?_⟩⟩
    have s0 := (same_new (o := HO.lst [V.int 0]) hl0).trans (same_new (o := HO.lst (List.replicate ((vrow xs).length : Int).toNat [V.int 0]).flatten) hD0)
    have hD1 : (upd (upd H l0 (.lst [V.int 0])) D0 (.lst (List.replicate ((vrow xs).length : Int).toNat [V.int 0]).flatten)) D0 = some (.lst (List.replicate ((vrow xs).length : Int).toNat [V.int 0]).flatten) := upd_same
    generalize upd (upd H l0 (.lst [V.int 0])) D0 (.lst (List.replicate ((vrow xs).length : Int).toNat [V.int 0]).flatten) = H1 at s0 hD1 ⊢
    rw [Int.toNat_natCast, lv, rep0] at hD1
    refine gn ?_
    dsimp only [List.set]
    have lrw := rws_len hR
    refine ⟨_, rfl, _, rfl, false, true, im, nu, _, _, rfl, SqL.of (s0 _ _ hi), SqT.of (s0 _ _ hn), ZM.for_zipM (K := K) (by rw [lrw, lv, lr]) (fun k σ H' => ∃ (S : Addr) (v4 v5 : Option V), σ = [some (.ref im), some (.ref nu), some (.int m), some (.ref S), v4, v5, none, none] ∧ Same H H' ∧ H' S = some (.lst (vrow ((List.range xs.length).map fun i => lin k (fun j => xs.getD j 0) fun j => (rows.getD j []).getD i 0))))
      ⟨D0, none, none, rfl, s0, hD1⟩ (fun k σ H' ⟨_, _, _, _, s', _⟩ => ⟨SqL.of (s' _ _ hi), SqT.of (s' _ _ hn)⟩) ?_ ?_⟩
    · rintro k x y T σ H2 hx hy ⟨S, v4, v5, rfl, s2, hS⟩ hT
      obtain ⟨a, ha, rfl⟩ := at_map hx
      obtain ⟨z, hz, rfl⟩ := vrow_at hy
      obtain ⟨r, hr'⟩ := ex_at (l := rows) (i := k) (by rw [← hR.1]; exact lt_at ha)
      have har := hR.2 k a r ha hr'
      have lrr := lrs r (List.mem_of_getElem? hr')
      have ez : xs.getD k 0 = z := by rw [List.getD_eq_getElem?_getD, hz]; rfl
      have er : rows.getD k [] = r := by rw [List.getD_eq_getElem?_getD, hr']; rfl
      have sT := same_new (o := HO.tup [V.ref a, .int z]) hT
      refine ⟨T, _, rfl, SqT.of upd_same, rfl, _, _, rfl, _, _, rfl, rfl, ?_⟩
      have hS2 := sT _ _ hS
      have s3 := s2.trans sT
      generalize upd H2 T (.tup [V.ref a, .int z]) = H3 at hS2 s3 ⊢
      dsimp only [List.set]
      have nx : (fun i => lin (k + 1) (fun j => xs.getD j 0) fun j => (rows.getD j []).getD i 0) = fun i => lin k (fun j => xs.getD j 0) (fun j => (rows.getD j []).getD i 0) + z * r.getD i 0 := by
        funext i
        rw [lin_succ, ez, er]
      refine ⟨_, rfl, rfl, _, rfl, ifD (fun e => ?_) fun e => ?_⟩
      · have ha3 := s3 _ _ har
        refine ⟨_, rfl, _, rfl, false, true, S, a, _, _, rfl, SqL.of hS2, SqT.of ha3, fun D2 hD2 => ZM.lc_zipM (K := K) (by rw [vrow_len, vrow_len, List.length_map, List.length_range, lrr]) (fun i H' => Same H3 H' ∧ H' D2 = some (.lst (vrow (((List.range xs.length).map fun i => lin k (fun j => xs.getD j 0) (fun j => (rows.getD j []).getD i 0) + z * r.getD i 0).take i)))) ⟨same_new hD2, by rw [upd_same]; rfl⟩ (fun i H' _ ⟨s', _⟩ => ⟨SqL.of (s' _ _ hS2), SqT.of (s' _ _ ha3)⟩) ?_ ?_⟩
        · rintro i u v T2 H4 hu hv hT2 ⟨s4, hD4⟩
          obtain ⟨u', hu', rfl⟩ := vrow_at hu
          obtain ⟨v', hv', rfl⟩ := vrow_at hv
          have sT2 := same_new (o := HO.tup [V.int u', .int v']) hT2
          have il : i < xs.length := by have := lt_at hu'; rw [List.length_map, List.length_range] at this; exact this
          refine ⟨T2, _, rfl, SqT.of upd_same, rfl, _, _, rfl, _, _, rfl, rfl, rfl, ?_⟩
          have zb := b6 z (List.mem_of_getElem? hz)
          refine ⟨_, rfl, _, rfl, _, rfl, _, _, rfl, rfl, .inl ⟨by omega, by omega⟩, ?_⟩
          refine ⟨_, _, rfl, rfl, _, sT2 _ _ hD4, szl (by rw [vrow_len, List.length_take, List.length_map, List.length_range]; omega), fun c o e => ?_, ?_⟩
          · rw [upd_ne (ne_of_none e hD2)]
            exact sT2 _ _ (s4 _ _ e)
          · have e1 : u' = lin k (fun j => xs.getD j 0) fun j => (rows.getD j []).getD i 0 := by
              rw [rows_at il] at hu'
              exact (Option.some.inj hu').symm
            have e2 : r.getD i 0 = v' := by rw [List.getD_eq_getElem?_getD, hv']; rfl
            have e3 : ((List.range xs.length).map fun i => lin k (fun j => xs.getD j 0) (fun j => (rows.getD j []).getD i 0) + z * r.getD i 0)[i]? = some (u' + z * v') := by rw [rows_at il, e1, e2]
            rw [upd_same, take_succ e3, vrow, vrow, List.map_append]; rfl
        · rintro H4 ⟨s4, hD4⟩
          rw [List.take_of_length_le (by simp [vrow_len])] at hD4
          refine gn ⟨D2, _, _, rfl, s3.trans s4, ?_⟩
          rw [nx]
          exact hD4
      · have z0 : z = 0 := by
          have : (!decide (V.int z = V.int 0)) = false := e
          simpa using this
        refine ⟨S, _, _, rfl, s3, ?_⟩
        rw [nx, z0]
        simp only [Int.zero_mul, Int.add_zero]
        exact hS2
    · rintro σ H2 ⟨S, v4, v5, rfl, s2, hS⟩
      rw [lrw, lr] at hS
      refine ⟨_, rfl, S, rfl, ⟨_, SqL.of hS⟩, fun D2 hD2 => lc_list (K := K) (a := S) (fun i H' => Same H2 H' ∧ H' D2 = some (.lst (vrow ((moR m rows xs).take i)))) ⟨same_new hD2, by rw [upd_same]; rfl⟩ (fun i H' _ ⟨s', _⟩ => SqL.of (s' _ _ hS)) ?_ ?_⟩
      · rintro i x H3 hx ⟨s3, hD3⟩
        obtain ⟨y, hy, rfl⟩ := vrow_at hx
        have il : i < xs.length := by have := lt_at hy; rw [List.length_map, List.length_range] at this; exact this
        refine ⟨rfl, _, rfl, _, rfl, m, y, rfl, m0, _, hD3, szl (by rw [vrow_len, List.length_take, moR, List.length_map, List.length_range]; omega), fun c o e => ?_, ?_⟩
        · rw [upd_ne (ne_of_none e hD2)]
          exact s3 _ _ e
        · have e1 : y = mo xs.length xs (fun j => rows.getD j []) i := by
            rw [rows_at il] at hy
            exact (Option.some.inj hy).symm
          have e3 : (moR m rows xs)[i]? = some (cby m y) := by rw [moR, rows_at il, e1]
          rw [upd_same, take_succ e3, vrow, vrow, List.map_append]; rfl
      · rintro H3 ⟨s3, hD3⟩
        rw [List.take_of_length_le (by simp [vrow_len, moR])] at hD3
        exact ⟨D2, _, rfl, .inl ⟨SqL.of hD3, fun l hl => q l _ ((s2.trans s3).trans (same_new hl)) upd_same⟩⟩
end
end K1
namespace K1
open PySem PySem.Spec PyProof.Rows L2
theorem bd_set {xs : List Int} {i : Nat} {v : Int} (h : Bd6 xs) (hv : -1000000 ≤ v ∧ v ≤ 1000000) : Bd6 (xs.set i v) := fun x hx => by
  rcases List.mem_or_eq_of_mem_set hx with e | e
  · exact h x e
  · rw [e]; exact hv
theorem bd_metC {m : Int} {n : Nat} {ts : Prs} {xs : List Int} (m0 : 0 < m) (m6 : m ≤ 1000000) (h : Bd6 xs) (t : Nat) : Bd6 (metC m n ts xs t) := by
  cases hp : ts[t]? with
  | none => unfold metC; rw [hp]; exact h
  | some p =>
    rw [metC_at hp]
    have hv : -1000000 ≤ metV m n xs p t ∧ metV m n xs p t ≤ 1000000 := by
      unfold metV cby
      rw [if_neg (by omega)]
      generalize xs.getD p.1 0 + xs.getD p.2 0 - xs.getD (n + t) 0 = y
      have := Int.emod_nonneg y (show m ≠ 0 by omega)
      have := Int.emod_lt_of_pos y m0
      omega
    exact bd_set (bd_set (bd_set h hv) hv) hv
theorem bd_runC {m : Int} {n : Nat} {ts : Prs} (m0 : 0 < m) (m6 : m ≤ 1000000) : ∀ (o : List Nat) {xs : List Int}, Bd6 xs → Bd6 (runC m n ts xs o)
  | [], _, h => h
  | t :: o, _, h => bd_runC m0 m6 o (bd_metC m0 m6 h t)
theorem bd_dlt (N x : Nat) : Bd6 (dlt N x) := fun y hy => by
  obtain ⟨i, _, rfl⟩ := List.mem_map.mp hy
  split <;> omega
theorem bd_red {m : Int} (m0 : 0 < m) (m6 : m ≤ 1000000) (xs : List Int) : Bd6 (red m xs) := fun y hy => by
  obtain ⟨i, _, rfl⟩ := List.mem_map.mp hy
  have := Int.emod_nonneg i (show m ≠ 0 by omega)
  have := Int.emod_lt_of_pos i m0
  omega
theorem rep_two (k : Nat) (tu : List Nat) : rep k tu ++ rep k tu = rep (2 * k) tu := by rw [← rep_add]; congr 1; omega
section
variable {P : Program} {w : World} {K : PySem.W.Frag} {mg : Str → Option Value} {base : Heap}
abbrev nCP : List Str := ["web", "counts", "order", "rounds", "modulus", "images", "numbers", "place", "count", "image"]
theorem scCP : FnScope nCP ["web", "counts", "order", "rounds", "modulus"] (defScope sCountsByPowers) := ⟨rfl, rfl, rfl, by decide +kernel, rfl, by decide +kernel, by decide +kernel⟩
theorem ok_cp {f fB fO fC fM W : Addr} {fd fdB fdO fdC fdM : FuncData} (D : Df K mg "counts_by_powers" sCountsByPowers ["web", "counts", "order", "rounds", "modulus"] f fd) (DB : Df K mg "counts_behind" sCountsBehind ["web", "counts", "meetings", "modulus"] fB fdB) (DO : Df K mg "one_at" sOneAt ["web", "place"] fO fdO) (DC : Df K mg "counted_by" sCBy ["modulus", "number"] fC fdC) (DM : Df K mg "made_of" sMadeOf ["images", "numbers", "modulus"] fM fdM) (B : Bt mg)
    (GB : FnOk P w K mg base CX0 2 fB fdB ["web", "counts", "meetings", "modulus"] (spCB W)) (GO : FnOk P w K mg base CX0 1 fO fdO ["web", "place"] (spOneAt W)) (GC : FnOk P w K mg base CX0 1 fC fdC ["modulus", "number"] spCBy) (GM : FnOk P w K mg base CX0 2 fM fdM ["images", "numbers", "modulus"] spMO) : FnOk P w K mg base CX0 3 f fd ["web", "counts", "order", "rounds", "modulus"] (spCP W) := by
  refine D.F.ok scCP (fun vs H Q E h => ?_) (fun cdv A outer s H vs Q E hr h => ?_)
  · obtain ⟨w, c, p, k, m, n, ts, cs, tu, rfl, _⟩ := h
    rfl
  · obtain ⟨w, c, p, k, m, n, ts, cs, tu, rfl, hw, hW, hc, hl, hp, hlt, m0, m6, q⟩ := h
    have r1 := hr.mono (show 1 ≤ 2 by decide)
    refine ⟨_, pss_cons (ps_set (i := 5) scCP.nd rfl (.inr rfl) (pe_lc (own := [("place", 7)]) (g := gName 7) (tt := tYes) rfl scCP.nd (pi_range1 (by rfl) B.range (pa_cons (pe_callB call_len_seq (by rfl) B.len PySem.boot_len (pa_cons (pv 1) pa_nil)) pa_nil)) (blkOk_by (N := nCP) (sc := defScope sCountsByPowers) (by decide +kernel)) (fun _ _ _ _ _ => pg_name (i := 7) scCP.nd rfl (.inl rfl)) (fun _ _ _ _ _ => pts_nil)
          (fun _ _ _ _ _ => pc DB GB hr pass0 (pa_cons (pv 0) (pa_cons (pc DO GO r1 pass0 (pa_cons (pv 0) (pa_cons (pv 7) pa_nil))) (pa_cons (pv 2) (pa_cons (pv 4) pa_nil)))))))
      (pss_cons (ps_set (i := 6) scCP.nd rfl (.inl rfl) (pe_callTy call_tuple_of (by rfl) B.tuple PyProof.Rows.boot_tuple (pa_cons (pe_lc (own := [("count", 8)]) (g := gName 8) (tt := tYes) rfl scCP.nd (pi_tup (pv 1)) (blkOk_by (N := nCP) (sc := defScope sCountsByPowers) (by decide +kernel)) (fun _ _ _ _ _ => pg_name (i := 8) scCP.nd rfl (.inl rfl)) (fun _ _ _ _ _ => pts_nil)
          (fun _ _ _ _ _ => pc DC GC r1 pass0 (pa_cons (pv 4) (pa_cons (pv 8) pa_nil)))) pa_nil)))
      (pss_cons (ps_while PassesOwn.never (pt_cmpR op_gt (pv 3) pe_int (nomark _))
        (pss_cons (ps_if (pt_cmpR op_eq (pe_op op_mod (pv 3) pe_int) pe_int (nomark _)) (pss_one (ps_set (i := 6) scCP.nd rfl (.inl rfl) (pc DM GM hr pass0 (pa_cons (pv 5) (pa_cons (pv 6) (pa_cons (pv 4) pa_nil)))))) pss_nil)
        (pss_cons (ps_set (i := 5) scCP.nd rfl (.inr rfl) (pe_lc (own := [("image", 9)]) (g := gName 9) (tt := tYes) rfl scCP.nd (pi_list (pv 5)) (blkOk_by (N := nCP) (sc := defScope sCountsByPowers) (by decide +kernel)) (fun _ _ _ _ _ => pg_name (i := 9) scCP.nd rfl (.inl rfl)) (fun _ _ _ _ _ => pts_nil)
            (fun _ _ _ _ _ => pc DM GM hr pass0 (pa_cons (pv 5) (pa_cons (pv 9) (pa_cons (pv 4) pa_nil))))))
        (pss_one (ps_aug (i := 3) scCP.nd rfl (.inl rfl) pe_int iop_fdiv)))))
      (pss_one (ps_ret (pv 6))))), ?_⟩
    have n12 := hW.n12
    have t20 := hW.t20
    have mne : m ≠ 0 := by omega
    obtain ⟨N, eN⟩ : ∃ N : Nat, N = n + ts.length := ⟨_, rfl⟩
    have lv : (vrow cs).length = N := by rw [vrow_len, hl, eN]
    rw [← eN] at hl
    -- the images
    refine ⟨_, rfl, c, _, rfl, .inr (SqT.of hc), ((vrow cs).length : Int), rfl, by omega, by omega, fun D0 hD0 => lc_range (fun j H' => ∃ as : List Addr, Same H H' ∧ H' D0 = some (.lst (as.map V.ref)) ∧ RwsA H' as ((List.range j).map fun x => runC m n ts (dlt N x) tu)) ⟨[], same_new hD0, upd_same, ⟨rfl, fun i a r e => by cases e⟩⟩ ?_ ?_⟩
    · rintro j H1 hj ⟨as, s1, hD, ra⟩
      have jl : j < N := by omega
      have la : as.length = j := by rw [ra.1]; simp
      refine ⟨rfl, _, rfl, _, rfl, _, rfl, w, n, ts, j, congrArg (fun z => [V.ref w, V.int z]) (Int.zero_add _), hw.same s1, hW, fun o H2 s2 ho => ?_⟩
      rw [← eN] at ho
      have s12 := s1.trans s2
      refine ⟨_, rfl, _, rfl, w, o, p, m, n, ts, dlt N j, tu, rfl, hw.same s12, hW, ho, by rw [dlt_len, eN], s12 _ _ hp, hlt, by omega, fun r H3 s3 hr' => ?_⟩
      have s13 := s12.trans s3
      refine ⟨as.map V.ref, (s2.trans s3) _ _ hD, szl (by rw [List.length_map]; omega), as ++ [r], fun c' o' e => ?_, by rw [upd_same, List.map_append]; rfl, ?_⟩
      · rw [upd_ne (ne_of_none e hD0)]
        exact s13 _ _ e
      · rw [List.range_succ, List.map_append]
        refine (RwsA.snoc (ra.same (s2.trans s3)) hr').kp fun a xs e => ?_
        rw [upd_ne (ne_of e ((s2.trans s3) _ _ hD) (by intro z; cases z))]
        exact e
    rintro H1 ⟨as, s1, hD, ra⟩
    rw [Int.toNat_natCast, lv] at ra
    refine gn ?_
    dsimp only [List.set]
    -- the numbers
    have hc1 := s1 _ _ hc
    refine ⟨_, rfl, c, rfl, ⟨_, SqT.of hc1⟩, fun D1 hD1 => lc_tup (K := K) (a := c) (xs := vrow cs) (fun j H' => Same H1 H' ∧ H' D1 = some (.lst (vrow ((red m cs).take j)))) ⟨same_new hD1, by rw [upd_same]; rfl⟩ (fun j H' _ ⟨s', _⟩ => SqT.of (s' _ _ hc1)) ?_ ?_⟩
    · rintro j x H2 hx ⟨s2, hE⟩
      obtain ⟨y, hy, rfl⟩ := vrow_at hx
      have jl := lt_at hy
      refine ⟨rfl, _, rfl, _, rfl, m, y, rfl, by omega, _, hE, szl (by rw [vrow_len, List.length_take, red_len]; omega), fun c' o' e => ?_, ?_⟩
      · rw [upd_ne (ne_of_none e hD1)]
        exact s2 _ _ e
      · have e3 : (red m cs)[j]? = some (cby m y) := by
          unfold red cby
          rw [List.getElem?_map, hy, if_neg mne]; rfl
        rw [upd_same, take_succ e3, vrow, vrow, List.map_append]; rfl
    rintro H2 ⟨s2, hE⟩
    rw [List.take_of_length_le (by rw [vrow_len, red_len]; exact Nat.le_refl _)] at hE
    refine ⟨D1, _, rfl, .inl ⟨SqL.of hE, fun nu hnu => ?_⟩⟩
    have s3 := same_new (o := HO.tup (vrow (red m cs))) hnu
    have hn3 : (upd H2 nu (.tup (vrow (red m cs)))) nu = some (.tup (vrow (red m cs))) := upd_same
    generalize upd H2 nu (.tup (vrow (red m cs))) = H3 at s3 hn3 ⊢
    refine gn ?_
    dsimp only [List.set]
    have bb : ∀ x, Bd6 (runC m n ts (dlt N x) tu) := fun x => bd_runC m0 m6 tu (bd_dlt N x)
    refine while_D (fun σ H' => ∃ (im nu : Addr) (as : List Addr) (rows : Rws) (d e l : Nat), σ = [some (.ref w), some (.ref c), some (.ref p), some (.int (l : Int)), some (.int m), some (.ref im), some (.ref nu), none, none, none] ∧ Same H H' ∧ H' im = some (.lst (as.map V.ref)) ∧ RwsA H' as rows ∧ rows.length = N ∧ (∀ r ∈ rows, r.length = N ∧ Bd6 r) ∧ (∀ j, j < N → Cg m (rows.getD j []) (runC 0 n ts (dlt N j) (rep (2 ^ e) tu))) ∧ H' nu = some (.tup (vrow (red m (runC 0 n ts cs (rep d tu))))) ∧ d + l * 2 ^ e = k)
      (fun σ _ => match σ[3]? with | some (some (V.int i)) => i.toNat | _ => 0) ⟨D0, nu, as, _, 0, 0, k, rfl, (s1.trans s2).trans s3, (s2.trans s3) _ _ hD, ra.same (s2.trans s3), by simp, fun r hr' => ?_, fun j hj => ?_, hn3, by simp⟩ ?_
    · obtain ⟨x, _, rfl⟩ := List.mem_map.mp hr'
      exact ⟨by rw [runC_len, dlt_len], bb x⟩
    · rw [List.getD_eq_getElem?_getD, rows_at hj]
      show Cg m (runC m n ts (dlt N j) tu) (runC 0 n ts (dlt N j) (rep 1 tu))
      rw [rep_one]
      exact runC_cg hW (.inr rfl) mne tu (by rw [dlt_len, eN]) Cg.rfl'
    rintro σ H4 ⟨im, nu, as, rows, d, e, l, rfl, s4, hi4, ra4, lr, lrs, hcg, hn4, hk⟩
    refine ⟨_, rfl, _, _, rfl, rfl, _, rfl, ?_⟩
    by_cases l0 : l = 0
    · rw [decide_eq_false (by omega)]
      subst l0
      refine iteF ⟨_, rfl, q nu H4 s4 ?_⟩
      rw [Nat.zero_mul, Nat.add_zero] at hk
      rw [← hk]
      exact hn4
    rw [decide_eq_true (by omega)]
    refine iteT (whT ?_)
    dsimp only
    refine seqG (fun σ H' => ∃ (nu : Addr) (d : Nat), σ = [some (.ref w), some (.ref c), some (.ref p), some (.int (l : Int)), some (.int m), some (.ref im), some (.ref nu), none, none, none] ∧ Same H4 H' ∧ H' nu = some (.tup (vrow (red m (runC 0 n ts cs (rep d tu))))) ∧ d + (l / 2) * 2 ^ (e + 1) = k) ?_ (fun go => ?_)
    rotate_left
    · refine ⟨_, rfl, _, _, rfl, rfl, (by decide : (0 : Int) < 2), rfl, _, rfl, ifD (fun e1 => ?_) fun e1 => ?_⟩
      · have l2 : l % 2 = 1 := by
          have z : V.int ((l : Int) % 2) = V.int 1 := of_decide_eq_true e1
          injection z with z
          omega
        have lx : (red m (runC 0 n ts cs (rep d tu))).length = N := by rw [red_len, runC_len, hl]
        refine ⟨_, rfl, _, rfl, _, rfl, im, nu, m, as, rows, _, rfl, hi4, ra4, hn4, by rw [lx]; exact lr, fun r hr' => by rw [lx]; exact (lrs r hr').1, by omega, by omega, bd_red m0 m6 _, fun r H5 s5 hr' => gn (go _ _ ⟨r, d + 2 ^ e, rfl, s5, ?_, ?_⟩)⟩
        · rw [moR_red hW mne (by rw [lx, eN]) red_cg (fun j hj => by rw [← eN] at hj ⊢; exact hcg j hj), ← runC_app, ← rep_add] at hr'
          exact hr'
        · rw [← hk, Nat.pow_succ]
          have : l * 2 ^ e = (2 * (l / 2) + 1) * 2 ^ e := by congr 1; omega
          rw [this, Nat.add_mul, Nat.one_mul, Nat.mul_comm 2 (l / 2), Nat.mul_assoc, Nat.mul_comm 2 (2 ^ e)]
          omega
      · have l2 : l % 2 = 0 := by
          have z : ¬ (V.int ((l : Int) % 2) = V.int 1) := of_decide_eq_false e1
          have : ¬ ((l : Int) % 2 = 1) := fun y => z (by rw [y])
          omega
        refine nxP (go _ _ ⟨nu, d, rfl, Same.refl _, hn4, ?_⟩)
        rw [← hk, Nat.pow_succ]
        have : l * 2 ^ e = (2 * (l / 2)) * 2 ^ e := by congr 1; omega
        rw [this, Nat.mul_comm 2 (l / 2), Nat.mul_assoc, Nat.mul_comm 2 (2 ^ e)]
    rintro σ H5 ⟨nu', d', rfl, s5, hn5, hk'⟩
    have hi5 := s5 _ _ hi4
    have ra5 := ra4.same s5
    refine ⟨_, rfl, im, rfl, ⟨_, SqL.of hi5⟩, fun D2 hD2 => lc_list (K := K) (a := im) (xs := as.map V.ref) (fun j H' => ∃ bs : List Addr, Same H5 H' ∧ H' D2 = some (.lst (bs.map V.ref)) ∧ RwsA H' bs ((List.range j).map fun x => moR m rows (rows.getD x []))) ⟨[], same_new hD2, upd_same, ⟨rfl, fun i a r e => by cases e⟩⟩ (fun j H' _ ⟨_, s', _⟩ => SqL.of (s' _ _ hi5)) ?_ ?_⟩
    · rintro j x H6 hx ⟨bs, s6, hD6, rb⟩
      obtain ⟨a, ha, rfl⟩ := at_map hx
      obtain ⟨r, hr'⟩ := ex_at (l := rows) (i := j) (by rw [← ra5.1]; exact lt_at ha)
      have har := ra5.2 j a r ha hr'
      have er : rows.getD j [] = r := by rw [List.getD_eq_getElem?_getD, hr']; rfl
      obtain ⟨lrr, br⟩ := lrs r (List.mem_of_getElem? hr')
      have lb : bs.length = j := by rw [rb.1]; simp
      have jl := lt_at hr'
      refine ⟨rfl, _, rfl, _, rfl, _, rfl, im, a, m, as, rows, r, rfl, s6 _ _ hi5, ra5.same s6, s6 _ _ har, by rw [lrr]; exact lr, fun r' h' => by rw [lrr]; exact (lrs r' h').1, by omega, by omega, br, fun y H7 s7 hy => ?_⟩
      refine ⟨bs.map V.ref, s7 _ _ hD6, szl (by rw [List.length_map]; omega), bs ++ [y], fun c' o' e => ?_, by rw [upd_same, List.map_append]; rfl, ?_⟩
      · rw [upd_ne (ne_of_none e hD2)]
        exact s7 _ _ (s6 _ _ e)
      · rw [List.range_succ, List.map_append]
        refine (RwsA.snoc (rb.same s7) (by show H7 y = some (.tup (vrow (moR m rows (rows.getD j [])))); rw [er]; exact hy)).kp fun a' xs e => ?_
        rw [upd_ne (ne_of e (s7 _ _ hD6) (by intro z; cases z))]
        exact e
    rintro H6 ⟨bs, s6, hD6, rb⟩
    rw [rws_len ra5, lr] at rb
    refine gn ?_
    dsimp only [List.set]
    have nr : ∀ j, j < N → moR m rows (rows.getD j []) = red m (runC 0 n ts (dlt N j) (rep (2 ^ (e + 1)) tu)) := fun j hj => by
      have lj : (rows.getD j []).length = N := by
        obtain ⟨r, hr'⟩ := ex_at (l := rows) (i := j) (by omega)
        rw [List.getD_eq_getElem?_getD, hr']
        exact (lrs r (List.mem_of_getElem? hr')).1
      rw [moR_red hW mne (by rw [lj, eN]) (hcg j hj) (fun i hi => by rw [← eN] at hi ⊢; exact hcg i hi), ← runC_app, rep_two, Nat.pow_succ, Nat.mul_comm]
    refine ⟨_, rfl, _, _, rfl, rfl, ⟨by decide, by decide⟩, ⟨D2, nu', bs, _, d', e + 1, l / 2, ?_, s4.trans (s5.trans s6), hD6, rb, by simp, fun r hr' => ?_, fun j hj => ?_, s6 _ _ hn5, hk'⟩, ?_⟩
    · rw [Int.natCast_ediv]; rfl
    · obtain ⟨x, hx, rfl⟩ := List.mem_map.mp hr'
      rw [nr x (List.mem_range.mp hx)]
      exact ⟨by rw [red_len, runC_len, dlt_len], bd_red m0 m6 _⟩
    · rw [List.getD_eq_getElem?_getD, rows_at hj]
      show Cg m (moR m rows (rows.getD j [])) _
      rw [nr j hj]
      exact red_cg
    · show ((l : Int) / 2).toNat < (l : Int).toNat
      omega
end
end K1
namespace K1
open PySem PySem.Spec PyProof.Rows L2
def FirstAt (p : Nat → Prop) (k : Nat) : Prop := p k ∧ ∀ j, j < k → ¬ p j
theorem FirstAt.uniq {p : Nat → Prop} {a b : Nat} (h : FirstAt p a) (g : FirstAt p b) : a = b := by
  rcases Nat.lt_trichotomy a b with c | c | c
  · exact absurd h.1 (g.2 a c)
  · exact c
  · exact absurd g.1 (h.2 b c)
def heardF (ts : Prs) (f : Nat → Bool) (t : Nat) : Nat → Bool := match ts[t]? with
  | some p => fun x => if x = p.1 ∨ x = p.2 then f p.1 || f p.2 else f x
  | none => f
theorem heardF_some {ts : Prs} {f : Nat → Bool} {t x : Nat} {p : Nat × Nat} (hp : ts[t]? = some p) : heardF ts f t x = if x = p.1 ∨ x = p.2 then f p.1 || f p.2 else f x := by unfold heardF; rw [hp]
theorem heardF_none {ts : Prs} {f : Nat → Bool} {t : Nat} (hp : ts[t]? = none) : heardF ts f t = f := by unfold heardF; rw [hp]
def hear (ts : Prs) (h : Nat) (o : List Nat) : Nat → Bool := o.foldl (heardF ts) fun x => decide (x = h)
theorem hear_snoc (ts : Prs) (h : Nat) (o : List Nat) (t : Nat) : hear ts h (o ++ [t]) = heardF ts (hear ts h o) t := by unfold hear; rw [List.foldl_append]; rfl
theorem heardF_mono {ts : Prs} {f : Nat → Bool} {t x : Nat} (h : f x = true) : heardF ts f t x = true := by
  cases hp : ts[t]? with
  | none => rw [heardF_none hp]; exact h
  | some p =>
    rw [heardF_some hp]
    split
    · rename_i c
      rcases c with c | c <;> rw [← c, h]
      · rfl
      · exact Bool.or_true _
    · exact h
theorem foldF_mono {ts : Prs} {x : Nat} : ∀ (o : List Nat) {f : Nat → Bool}, f x = true → (o.foldl (heardF ts) f) x = true
  | [], _, h => h
  | t :: o, _, h => foldF_mono o (heardF_mono h)
theorem hear_app (ts : Prs) (h : Nat) (o q : List Nat) : hear ts h (o ++ q) = q.foldl (heardF ts) (hear ts h o) := by unfold hear; rw [List.foldl_append]
theorem below_bad {h n : Nat} (hn : h < n) (hb : belowB (.int (h : Int)) (n : Int) = false) : False := by
  have : (decide (0 ≤ (h : Int)) && decide ((h : Int) < (n : Int))) = false := hb
  rw [decide_eq_true (by omega), decide_eq_true (by omega)] at this
  cases this
abbrev psR : List Str := ["web", "house", "order", "rounds", "modulus"]
structure DfR (K : PySem.W.Frag) (mg : Str → Option Value) (f : Addr) (fd : FuncData) : Prop where
  F : FunD K "round_counts" "round_counts" (defArgs sRoundCounts) (defBody sRoundCounts) (defScope sRoundCounts) [] [("modulus", .int 0)] f fd
  g : mg "round_counts" = some (.ref f)
theorem DfR.b {K : PySem.W.Frag} {mg : Str → Option Value} {f : Addr} {fd : FuncData} (D : DfR K mg f fd) : ∃ ds, Vals [.int 0] ds ∧ Binds K fd psR ds :=
  D.F.binds0 4 (by simp) rfl fun D' doc pm an cdv ct us ks h1 h2 => match us, ks, h1, h2 with | [_, _, _, _], [_], _, _ => ⟨_, _, _, _, _, _, rfl, rfl, rfl⟩
theorem DfR.k1 {K : PySem.W.Frag} {mg : Str → Option Value} {f : Addr} {fd : FuncData} (D : DfR K mg f fd) : KBn K fd psR 4 ["modulus"] (fun us ws => us ++ ws) (fun us ws => us ++ ws) := by
  obtain ⟨oc, od, dV, kV, doc, pm, an, cdv, ct, osl, rfl, lk, hcd, hD, hK⟩ := D.F.ex
  rcases hD with ⟨_, rfl⟩ | ⟨e, _⟩
  · refine ⟨fun s us ws _ h0 h1 => .of_eq ?_, fun r q => r.append q⟩
    match us, ws, h0, h1 with
    | [_, _, _, _], [_], _, _ => rfl
  · exact absurd rfl e
theorem DfR.k5 {K : PySem.W.Frag} {mg : Str → Option Value} {f : Addr} {fd : FuncData} (D : DfR K mg f fd) : KBn K fd psR 0 ["modulus", "rounds", "order", "house", "web"] gM gMV := by
  obtain ⟨oc, od, dV, kV, doc, pm, an, cdv, ct, osl, rfl, lk, hcd, hD, hK⟩ := D.F.ex
  rcases hD with ⟨_, rfl⟩ | ⟨e, _⟩
  · refine ⟨fun s us ws _ h0 h1 => .of_eq ?_, fun r q => r.append q.reverse⟩
    match us, ws, h0, h1 with
    | [], [_, _, _, _, _], _, _ => rfl
  · exact absurd rfl e
/-- what round_counts tells -/
def told (m : Int) (n : Nat) (ts : Prs) (h k : Nat) (tu : List Nat) : List Int := if m = 0 then runC 0 n ts (dlt (n + ts.length) h) (rep k tu) else red m (runC 0 n ts (dlt (n + ts.length) h) (rep k tu))
theorem told_len (m : Int) (n : Nat) (ts : Prs) (h k : Nat) (tu : List Nat) : (told m n ts h k tu).length = n + ts.length := by
  unfold told
  split
  · rw [runC_len, dlt_len]
  · rw [red_len, runC_len, dlt_len]
def BadM (L : Nat) (o : Option (List V)) (i : Int) : Prop := (seqB o 0 10000 = false ∧ i = -1) ∨ ∃ (xs : List V) (j : Nat), o = some xs ∧ seqB o 0 10000 = true ∧ fnb xs (L : Int) = .int (j : Nat) ∧ i = (j : Nat)
def spRC (K : PySem.W.Frag) (W CH CB CR CG : Addr) : Sp := fun vs H Q E => ∃ (w : Addr) (vh vo vr vm : V) (oh oo or_ om : Option (List V)) (n : Nat) (ts : Prs), vs = [.ref w, vh, vo, vr, vm] ∧ WebAt W H w n ts ∧ Wv n ts ∧ KV K H vh oh ∧ Rw K H vo oo ∧ KV K H vr or_ ∧ KV K H vm om ∧
  ((belowB vh (n : Int) = false ∧ Rz CH "house" vh H E) ∨ ∃ h : Nat, vh = .int (h : Int) ∧ h < n ∧ ((∃ i, BadM ts.length oo i ∧ Rz CB "at" (.int i) H E) ∨ ∃ tu, oo = some (vn tu) ∧ tu.length ≤ 10000 ∧ (∀ t ∈ tu, t < ts.length) ∧
    ((belowB vr 1000000000000000001 = false ∧ Rz CR "at" vr H E) ∨ ∃ k : Nat, vr = .int (k : Int) ∧ k < 1000000000000000001 ∧ ((belowB vm 1000001 = false ∧ Rz CR "at" vm H E) ∨ ∃ m : Nat, vm = .int (m : Int) ∧ m < 1000001 ∧
      ((m = 0 ∧ 400 < k ∧ Rz CG "most" (.int 400) H E) ∨ ((m = 0 → k ≤ 400) ∧ ∀ r a b H', Same H H' → H' r = some (.tup [.ref a, .ref b]) → H' a = some (.tup (vrow ((told m n ts h k tu).take n))) → H' b = some (.tup (vrow ((told m n ts h k tu).drop n))) → Q (.ref r) H'))))))
section
variable {P : Program} {w : World} {K : PySem.W.Frag} {mg : Str → Option Value} {base : Heap}
abbrev nRC : List Str := ["web", "house", "order", "rounds", "modulus", "ties", "counts", "_"]
theorem scRC : FnScope nRC psR (defScope sRoundCounts) := ⟨rfl, rfl, rfl, by decide +kernel, rfl, by decide +kernel, by decide +kernel⟩
theorem ok_rc {f fN fK fL fO fP fB fQ W CH CB CR CG iR iG : Addr} {fd fdN fdK fdL fdO fdP fdB fdQ : FuncData} {bR bG : List Value} {qR qG : Str} (D : DfR K mg f fd) (DN : Df K mg "need_house" sNeedH ["web", "house"] fN fdN) (DK : Df K mg "check_meetings" sCheckMeetings ["web", "value"] fK fdK) (DL : Df K mg "is_below" sBelow ["value", "limit"] fL fdL) (DO : Df K mg "one_at" sOneAt ["web", "place"] fO fdO)
    (DP : Df K mg "parted" sParted ["web", "counts"] fP fdP) (DB : Df K mg "counts_behind" sCountsBehind ["web", "counts", "meetings", "modulus"] fB fdB) (DQ : Df K mg "counts_by_powers" sCountsByPowers ["web", "counts", "order", "rounds", "modulus"] fQ fdQ) (B : Bt mg) (c : Cm mg) (T : WcT K mg W) (TR : LAt.Txt K mg "Refused" qR bR CR iR) (TG : LMost.Txt K mg "TooGreat" qG bG CG iG)
    (GN : FnOk P w K mg base (L2.CX P w) 3 fN fdN ["web", "house"] (spNeedH K W CH)) (GK : FnOk P w K mg base (L2.CX P w) 4 fK fdK ["web", "value"] (spCM K W CB)) (GL : FnOk P w K mg base CX0 2 fL fdL ["value", "limit"] (spBelow K)) (GO : FnOk P w K mg base CX0 1 fO fdO ["web", "place"] (spOneAt W)) (GP : FnOk P w K mg base CX0 1 fP fdP ["web", "counts"] (spParted W))
    (GB : FnOk P w K mg base CX0 2 fB fdB ["web", "counts", "meetings", "modulus"] (spCB W)) (GQ : FnOk P w K mg base CX0 3 fQ fdQ ["web", "counts", "order", "rounds", "modulus"] (spCP W)) : FnOk P w K mg base (L2.CX P w) 5 f fd psR (spRC K W CH CB CR CG) := by
  obtain ⟨t1, hc1⟩ := c.mn
  obtain ⟨t2, hc2⟩ := c.mo
  obtain ⟨t3, hc3⟩ := c.mr
  refine D.F.ok scRC (fun vs H Q E h => ?_) (fun cdv A outer s H vs Q E hr h => ?_)
  · obtain ⟨w, vh, vo, vr, vm, oh, oo, or_, om, n, ts, rfl, _⟩ := h
    rfl
  · obtain ⟨w, vh, vo, vr, vm, oh, oo, or_, om, n, ts, rfl, hw, hW, kh, ko, kr, km, q⟩ := h
    have r1 := hr.mono (show 1 ≤ 4 by decide)
    have r2 := hr.mono (show 2 ≤ 4 by decide)
    have r3 := hr.mono (show 3 ≤ 4 by decide)
    refine ⟨_, pss_cons (ps_expr (pc DN GN r3 (pass1 (takes_of rfl rfl rfl rfl)) (pa_cons (pv 0) (pa_cons (pv 1) pa_nil))))
      (pss_cons (ps_set (i := 5) scRC.nd rfl (.inl rfl) (pc DK GK hr (pass1 (takes_of rfl rfl rfl rfl)) (pa_cons (pv 0) (pa_cons (pv 2) pa_nil))))
      (pss_cons (ps_if (pt_not (pt_val (pc DL GL r2 pass0 (pa_cons (pv 3) (pa_cons (pe_op op_add (pe_glob (v := .int 1000000000000000000) (by rfl) hc1 ⟨_, rfl⟩) pe_int) pa_nil))))) (pss_one (ps_raise_LAt rfl TR hr (takes_of rfl rfl rfl rfl) (pa_cons (pv 3) pa_nil))) pss_nil)
      (pss_cons (ps_if (pt_not (pt_val (pc DL GL r2 pass0 (pa_cons (pv 4) (pa_cons (pe_op op_add (pe_glob (v := .int 1000000) (by rfl) hc2 ⟨_, rfl⟩) pe_int) pa_nil))))) (pss_one (ps_raise_LAt rfl TR hr (takes_of rfl rfl rfl rfl) (pa_cons (pv 4) pa_nil))) pss_nil)
      (pss_cons (ps_set (i := 6) scRC.nd rfl (.inl rfl) (pc DO GO r1 pass0 (pa_cons (pv 0) (pa_cons (pv 1) pa_nil))))
      (pss_cons (ps_if (pt_cmpR op_gt (pv 4) pe_int (nomark _)) (pss_one (ps_ret (pc DP GP r1 pass0 (pa_cons (pv 0) (pa_cons (pc DQ GQ r3 pass0 (pa_cons (pv 0) (pa_cons (pv 6) (pa_cons (pv 5) (pa_cons (pv 3) (pa_cons (pv 4) pa_nil)))))) pa_nil))))) pss_nil)
      (pss_cons (ps_if (pt_cmpR op_gt (pv 3) (pe_glob (v := .int 400) (by rfl) hc3 ⟨_, rfl⟩) (nomark _)) (pss_one (ps_raise_LMost rfl TG hr (takes_of rfl rfl rfl rfl) (pa_cons (pe_glob (v := .int 400) (by rfl) hc3 ⟨_, rfl⟩) pa_nil))) pss_nil)
      (pss_cons (ps_for (passes_of rfl) rfl (pi_range1 (by rfl) B.range (pa_cons (pv 3) pa_nil)) (pg_name (i := 7) scRC.nd rfl (.inl rfl)) (pss_one (ps_set (i := 6) scRC.nd rfl (.inl rfl) (pc DB GB r2 pass0 (pa_cons (pv 0) (pa_cons (pv 6) (pa_cons (pv 5) (pa_cons pe_int pa_nil))))))))
      (pss_one (ps_ret (pc DP GP r1 pass0 (pa_cons (pv 0) (pa_cons (pv 6) pa_nil)))))))))))), ?_⟩
    refine ⟨_, rfl, _, rfl, w, vh, oh, n, ts, rfl, hw, kh, fun hb => ?_, fun hb => ?_⟩
    rotate_left
    · rcases q with ⟨_, q⟩ | ⟨h, rfl, hn, _⟩
      · exact q
      · exact (below_bad hn hb).elim
    obtain ⟨h, rfl, hn⟩ := below_nat hb
    rcases q with ⟨z, _⟩ | ⟨h', eh, hn', q⟩
    · rw [hb] at z; cases z
    injection eh with eh
    obtain rfl : h = h' := by omega
    refine ⟨_, rfl, _, rfl, w, vo, oo, n, ts, rfl, hw, hW, ko, ?_⟩
    rcases q with ⟨i, ⟨e, rfl⟩ | ⟨xs, j, eo, e, ef, rfl⟩, r⟩ | ⟨tu, eo, lt, hlt, q⟩
    · exact .inl ⟨e, r⟩
    · exact .inr (.inl ⟨xs, j, eo, e, ef, r⟩)
    refine .inr (.inr ⟨tu, eo, lt, hlt, fun p H1 s1 hp => ?_⟩)
    refine gn ?_
    dsimp only [List.set]
    have hw1 := hw.same s1
    refine ⟨_, rfl, _, _, rfl, rfl, vr, or_, _, rfl, kr.same s1, _, rfl, ifD (fun e => ?_) fun e => ?_⟩
    · replace e : belowB vr 1000000000000000001 = false := by simpa using e
      rcases q with ⟨_, r⟩ | ⟨k, rfl, hk, _⟩
      · exact ⟨_, rfl, _, rfl, fun d hd => r d _ (s1.trans (same_new hd)) (s1.free hd) upd_same⟩
      · exact (below_bad (n := 1000000000000000001) hk e).elim
    replace e : belowB vr ((1000000000000000001 : Nat) : Int) = true := by simpa using e
    refine nxP ?_
    obtain ⟨k, rfl, hk⟩ := below_nat e
    rcases q with ⟨z, _⟩ | ⟨k', ek, hk', q⟩
    · rw [show ((1000000000000000001 : Nat) : Int) = 1000000000000000001 from rfl, z] at e; cases e
    injection ek with ek
    obtain rfl : k = k' := by omega
    clear e ek
    refine ⟨_, rfl, _, _, rfl, rfl, vm, om, _, rfl, km.same s1, _, rfl, ifD (fun e => ?_) fun e => ?_⟩
    · replace e : belowB vm 1000001 = false := by simpa using e
      rcases q with ⟨_, r⟩ | ⟨m, rfl, hm, _⟩
      · exact ⟨_, rfl, _, rfl, fun d hd => r d _ (s1.trans (same_new hd)) (s1.free hd) upd_same⟩
      · exact (below_bad (n := 1000001) hm e).elim
    replace e : belowB vm ((1000001 : Nat) : Int) = true := by simpa using e
    refine nxP ?_
    obtain ⟨m, rfl, hm⟩ := below_nat e
    rcases q with ⟨z, _⟩ | ⟨m', em, hm', q⟩
    · rw [show ((1000001 : Nat) : Int) = 1000001 from rfl, z] at e; cases e
    injection em with em
    obtain rfl : m = m' := by omega
    clear e em
    refine ⟨_, rfl, _, rfl, w, n, ts, h, rfl, hw1, hW, fun o H2 s2 ho => ?_⟩
    refine gn ?_
    dsimp only [List.set]
    have s12 := s1.trans s2
    have hw2 := hw.same s12
    have hp2 := s2 _ _ hp
    have ll := dlt_len (n + ts.length) h
    refine ⟨_, rfl, _, _, rfl, rfl, _, rfl, ?_⟩
    by_cases m0 : m = 0
    · subst m0
      rw [decide_eq_false (by decide)]
      refine iteF (nxP ?_)
      refine ⟨_, rfl, _, _, rfl, rfl, _, rfl, ifD (fun e => ?_) fun e => ?_⟩
      · have k4 : 400 < k := by have := of_decide_eq_true e; omega
        rcases q with ⟨_, _, r⟩ | ⟨z, _⟩
        · exact ⟨_, rfl, fun d hd => r d _ (s12.trans (same_new hd)) (s12.free hd) upd_same⟩
        · have := z rfl; omega
      · have k4 : ¬ 400 < k := by have := of_decide_eq_false e; omega
        rcases q with ⟨_, z, _⟩ | ⟨_, q⟩
        · exact absurd z k4
        refine nxP ⟨_, rfl, (k : Int), rfl, by omega, by omega, for_range (fun i σ H' => ∃ (a : Addr) (v7 : Option V), σ = [some (.ref w), some (.int (h : Int)), some vo, some (.int (k : Int)), some (.int ((0 : Nat) : Int)), some (.ref p), some (.ref a), v7] ∧ Same H H' ∧ H' a = some (.tup (vrow (runC 0 n ts (dlt (n + ts.length) h) (rep i tu)))) ∧ H' p = some (.tup (vn tu))) ⟨o, none, rfl, s12, ho, hp2⟩ ?_ ?_⟩
        · rintro i σ H3 hi ⟨a, v7, rfl, s3, ha, hp3⟩
          refine ⟨_, rfl, _, rfl, _, rfl, w, a, p, 0, n, ts, _, tu, rfl, hw.same s3, hW, ha, by rw [runC_len, ll], hp3, hlt, Int.le_refl _, fun r H4 s4 hr' => gn ⟨r, _, rfl, s3.trans s4, ?_, s4 _ _ hp3⟩⟩
          rw [← runC_app, show rep i tu ++ tu = rep (i + 1) tu by rw [rep_add, rep_one]] at hr'
          exact hr'
        · rintro σ H3 ⟨a, v7, rfl, s3, ha, hp3⟩
          rw [Int.toNat_natCast] at ha
          refine ⟨_, rfl, _, rfl, w, a, n, ts, _, rfl, hw.same s3, ha, by rw [runC_len, ll]; omega, fun r a b H4 s4 hr' ha' hb' => q r a b H4 (s3.trans s4) hr' ha' hb'⟩
    · rw [decide_eq_true (by omega)]
      refine iteT ?_
      rcases q with ⟨z, _⟩ | ⟨_, q⟩
      · exact absurd z m0
      refine ⟨_, rfl, _, rfl, _, rfl, _, rfl, _, rfl, _, rfl, w, o, p, k, (m : Int), n, ts, _, tu, rfl, hw2, hW, ho, ll, hp2, hlt, by omega, by omega, fun r H3 s3 hr' => ?_⟩
      have ee : told (m : Int) n ts h k tu = red (m : Int) (runC 0 n ts (dlt (n + ts.length) h) (rep k tu)) := by unfold told; rw [if_neg (by omega)]
      rw [ee] at q
      exact ⟨w, r, n, ts, _, rfl, hw2.same s3, hr', by rw [red_len, runC_len, ll]; omega, fun r a b H4 s4 hr' ha' hb' => q r a b H4 ((s12.trans s3).trans s4) hr' ha' hb'⟩
end
end K1
namespace K1
open PySem PySem.Spec PyProof.Rows L2
theorem nodup_leN {n : Nat} : ∀ {L : List Nat}, L.Nodup → (∀ x ∈ L, x < n) → L.length ≤ n := by
  induction n with
  | zero =>
    intro L _ h
    cases L with
    | nil => exact Nat.le_refl _
    | cons a r => exact absurd (h a List.mem_cons_self) (Nat.not_lt_zero _)
  | succ n ih =>
    intro L nd h
    have h1 := ih (L := L.filter fun x => decide (x ≠ n)) (nd.sublist List.filter_sublist) fun x hx => by
      have h2 := List.mem_filter.mp hx
      have h3 : x ≠ n := of_decide_eq_true h2.2
      have h4 := h x h2.1
      omega
    have h2 : L.length ≤ (L.filter fun x => decide (x ≠ n)).length + 1 := by
      clear h h1
      induction L with
      | nil => exact Nat.zero_le _
      | cons a r ihr =>
        have nr := (List.nodup_cons.mp nd).2
        have na := (List.nodup_cons.mp nd).1
        rw [List.filter_cons]
        by_cases c : a = n
        · subst c
          have : r.filter (fun x => decide (x ≠ a)) = r := List.filter_eq_self.mpr fun x hx => decide_eq_true fun z => na (z ▸ hx)
          rw [if_neg (by simp), this]
          exact Nat.le_refl _
        · rw [if_pos (decide_eq_true c), List.length_cons, List.length_cons]
          have := ihr nr
          omega
    omega
/-! ### who is heard, and since when -/
structure HdD (kvs : List (Key × V)) (n : Nat) (F : Nat → Option Nat) : Prop where
  ks : ∃ xs : List Nat, kvs.map (·.1) = xs.map (fun (x : Nat) => (Sum.inl (x : Int) : Key)) ∧ xs.Nodup ∧ ∀ x ∈ xs, x < n
  vl : ∀ x : Nat, valV kvs (Sum.inl (x : Int)) = (F x).map fun r => V.int (r : Int)
theorem HdD.len {kvs : List (Key × V)} {n : Nat} {F : Nat → Option Nat} (h : HdD kvs n F) : kvs.length ≤ n := by
  obtain ⟨xs, e, nd, lt⟩ := h.ks
  have := congrArg List.length e
  rw [List.length_map, List.length_map] at this
  rw [this]
  exact nodup_leN nd lt
def sdF (F : Nat → Option Nat) (x r : Nat) : Nat → Option Nat := fun y => if y = x then some ((F x).getD r) else F y
theorem HdD.put {kvs : List (Key × V)} {n : Nat} {F : Nat → Option Nat} (h : HdD kvs n F) {x : Nat} (r : Nat) (hx : x < n) (hn : F x = none) : HdD (putK kvs (Sum.inl (x : Int)) (.int (r : Int))) n (sdF F x r) ∧ (putK kvs (Sum.inl (x : Int)) (.int (r : Int))).length = kvs.length + 1 := by
  have hv : valV kvs (Sum.inl (x : Int)) = none := by rw [h.vl, hn]; rfl
  obtain ⟨xs, e, nd, lt⟩ := h.ks
  have e2 := putK_new (.int (r : Int)) hv
  refine ⟨⟨⟨xs ++ [x], by rw [e2, List.map_append, List.map_append, e]; rfl, ?_, fun y hy => ?_⟩, fun y => ?_⟩, by rw [e2, List.length_append]; rfl⟩
  · rw [List.nodup_append]
    refine ⟨nd, by simp, fun a ha b hb => ?_⟩
    rw [List.mem_singleton.mp hb]
    intro z
    rw [z] at ha
    refine valV_not hv ?_
    rw [e]
    exact List.mem_map.mpr ⟨x, ha, rfl⟩
  · rcases List.mem_append.mp hy with q | q
    · exact lt y q
    · rw [List.mem_singleton.mp q]; exact hx
  · rw [valV_put]
    unfold sdF
    by_cases c : y = x
    · rw [if_pos c, if_pos (by rw [c]), hn]; rfl
    · rw [if_neg c, if_neg (fun z => c (by
        injection z with z
        omega)), h.vl]
theorem sdF_same {F : Nat → Option Nat} {x r q : Nat} (h : F x = some q) : sdF F x r = F := by
  funext y
  unfold sdF
  by_cases c : y = x
  · rw [if_pos c, h, c, h]; rfl
  · rw [if_neg c]
theorem sdF_some {F : Nat → Option Nat} {x r y : Nat} : (sdF F x r y).isSome = true ↔ y = x ∨ (F y).isSome = true := by
  unfold sdF
  by_cases c : y = x
  · rw [if_pos c]; exact ⟨fun _ => .inl c, fun _ => rfl⟩
  · rw [if_neg c]; exact ⟨.inr, fun z => z.resolve_left c⟩
theorem sdF_val {F : Nat → Option Nat} {x r y q : Nat} (h : sdF F x r y = some q) : F y = some q ∨ (y = x ∧ F x = none ∧ q = r) := by
  unfold sdF at h
  by_cases c : y = x
  · rw [if_pos c] at h
    cases e : F x with
    | none => rw [e] at h; exact .inr ⟨c, rfl, (Option.some.inj h).symm⟩
    | some z => rw [e] at h; rw [c, e]; exact .inl h
  · rw [if_neg c] at h; exact .inl h
/-- how the search stands in round k + 1 behind the meetings o of it -/
structure HrS (ts : Prs) (h : Nat) (tu : List Nat) (n k : Nat) (o : List Nat) (F : Nat → Option Nat) : Prop where
  so : ∀ x, (F x).isSome = true ↔ hear ts h (rep k tu ++ o) x = true
  fi : ∀ x r, F x = some r → FirstAt (fun j => hear ts h (rep j tu) x = true) r ∧ r ≤ n
theorem hear_mono {ts : Prs} {h x : Nat} {a b : List Nat} (e : hear ts h a x = true) : hear ts h (a ++ b) x = true := by
  rw [hear_app]; exact foldF_mono b e
theorem hear_rep {ts : Prs} {h x i j : Nat} {tu : List Nat} (le : i ≤ j) (e : hear ts h (rep i tu) x = true) : hear ts h (rep j tu) x = true := by
  have : rep j tu = rep i tu ++ rep (j - i) tu := by rw [← rep_add]; congr 1; omega
  rw [this]
  exact hear_mono e
theorem HrS.put {ts : Prs} {h : Nat} {tu o : List Nat} {n k : Nat} {F : Nat → Option Nat} (S : HrS ts h tu n k o F) {t : Nat} {p : Nat × Nat} (hp : ts[t]? = some p) (hy : (F p.1).isSome = true ∨ (F p.2).isSome = true) (hpre : ∃ q, tu = o ++ [t] ++ q) (hk : k + 1 ≤ n) : HrS ts h tu n k (o ++ [t]) (sdF (sdF F p.1 (k + 1)) p.2 (k + 1)) := by
  have hh : ∀ x, hear ts h (rep k tu ++ (o ++ [t])) x = true ↔ x = p.1 ∨ x = p.2 ∨ hear ts h (rep k tu ++ o) x = true := fun x => by
    rw [← List.append_assoc, hear_snoc, heardF_some hp]
    have : (hear ts h (rep k tu ++ o) p.1 || hear ts h (rep k tu ++ o) p.2) = true := by
      rw [Bool.or_eq_true, ← S.so, ← S.so]; exact hy
    rw [this]
    split
    · rename_i c
      exact ⟨fun _ => by omega, fun _ => rfl⟩
    · rename_i c
      exact ⟨fun z => .inr (.inr z), fun z => z.elim (fun y => absurd (.inl y) c) fun z => z.elim (fun y => absurd (.inr y) c) id⟩
  have new : ∀ x, F x = none → (x = p.1 ∨ x = p.2) → FirstAt (fun j => hear ts h (rep j tu) x = true) (k + 1) ∧ k + 1 ≤ n := fun x hx hc => by
    obtain ⟨q, hq⟩ := hpre
    refine ⟨⟨?_, fun j hj e => ?_⟩, hk⟩
    · show hear ts h (rep (k + 1) tu) x = true
      have : rep (k + 1) tu = (rep k tu ++ (o ++ [t])) ++ q := by
        rw [rep_add, rep_one]
        conv => lhs; rw [hq]
        rw [← hq, List.append_assoc, List.append_assoc]
        congr 1
        rw [hq]
        simp only [List.append_assoc]
      rw [this]
      exact hear_mono ((hh x).mpr (by rcases hc with c | c; exact .inl c; exact .inr (.inl c)))
    · have := (S.so x).mpr (hear_mono (hear_rep (j := k) (by omega) e))
      rw [hx] at this
      cases this
  refine ⟨fun x => ?_, fun x r e => ?_⟩
  · rw [sdF_some, sdF_some, hh, S.so]
    exact ⟨fun z => z.elim (fun a => .inr (.inl a)) fun z => z.elim .inl fun a => .inr (.inr a), fun z => z.elim (fun a => .inr (.inl a)) fun z => z.elim .inl fun a => .inr (.inr a)⟩
  · rcases sdF_val e with e | ⟨e1, e2, rfl⟩
    · rcases sdF_val e with e | ⟨e1, e2, rfl⟩
      · exact S.fi x r e
      · rw [e1]; exact new _ e2 (.inl rfl)
    · have f0 : F p.2 = none := by
        cases e : F p.2 with
        | none => rfl
        | some q =>
          have := (sdF_some (F := F) (x := p.1) (r := k + 1) (y := p.2)).mpr (.inr (by rw [e]; rfl))
          rw [e2] at this
          cases this
      rw [e1]; exact new _ f0 (.inr rfl)
theorem HrS.stay {ts : Prs} {h : Nat} {tu o : List Nat} {n k : Nat} {F : Nat → Option Nat} (S : HrS ts h tu n k o F) {t : Nat} {p : Nat × Nat} (hp : ts[t]? = some p) (h1 : ¬ (F p.1).isSome = true) (h2 : ¬ (F p.2).isSome = true) : HrS ts h tu n k (o ++ [t]) F := by
  refine ⟨fun x => ?_, S.fi⟩
  rw [← List.append_assoc, hear_snoc, heardF_some hp]
  rw [S.so] at h1 h2
  have e1 : hear ts h (rep k tu ++ o) p.1 = false := by simpa using h1
  have e2 : hear ts h (rep k tu ++ o) p.2 = false := by simpa using h2
  rw [e1, e2, S.so]
  split
  · rename_i c
    rcases c with c | c <;> rw [c]
    · rw [e1]; simp
    · rw [e2]; simp
  · exact Iff.rfl
theorem HrS.next {ts : Prs} {h : Nat} {tu : List Nat} {n k : Nat} {F : Nat → Option Nat} (S : HrS ts h tu n k tu F) : HrS ts h tu n (k + 1) [] F := ⟨fun x => by rw [S.so, rep_add, rep_one, List.append_nil], S.fi⟩
/-- a round that adds none is the last one that could -/
theorem HrS.done {ts : Prs} {h : Nat} {tu : List Nat} {n k : Nat} {F : Nat → Option Nat} (a : HrS ts h tu n k [] F) (b : HrS ts h tu n (k + 1) [] F) (x : Nat) (hx : F x = none) (j : Nat) : ¬ hear ts h (rep j tu) x = true := fun e => by
  have ext : hear ts h (rep k tu) = hear ts h (rep (k + 1) tu) := by
    funext y
    have h1 := a.so y
    have h2 := b.so y
    rw [List.append_nil] at h1 h2
    rw [Bool.eq_iff_iff, ← h1, ← h2]
  have st : ∀ i, hear ts h (rep (k + i) tu) = hear ts h (rep k tu) := fun i => by
    induction i with
    | zero => rfl
    | succ i ih =>
      have : rep (k + (i + 1)) tu = rep (k + i) tu ++ tu := by rw [show k + (i + 1) = k + i + 1 by omega, rep_add, rep_one]
      rw [this, hear_app, ih, ← hear_app, show rep k tu ++ tu = rep (k + 1) tu by rw [rep_add, rep_one], ext]
  have : hear ts h (rep k tu) x = true := by
    rcases Nat.lt_or_ge j k with c | c
    · exact hear_rep (by omega) e
    · have := st (j - k)
      rw [show k + (j - k) = j by omega] at this
      rw [← this]; exact e
  have := (a.so x).mpr (by rw [List.append_nil]; exact this)
  rw [hx] at this
  cases this
def spHR (K : PySem.W.Frag) (W CH CB : Addr) : Sp := fun vs H Q E => ∃ (w : Addr) (vh vo : V) (oh oo : Option (List V)) (n : Nat) (ts : Prs), vs = [.ref w, vh, vo] ∧ WebAt W H w n ts ∧ Wv n ts ∧ KV K H vh oh ∧ Rw K H vo oo ∧
  ((belowB vh (n : Int) = false ∧ Rz CH "house" vh H E) ∨ ∃ h : Nat, vh = .int (h : Int) ∧ h < n ∧ ((∃ i, BadM ts.length oo i ∧ Rz CB "at" (.int i) H E) ∨ ∃ tu, oo = some (vn tu) ∧ tu.length ≤ 10000 ∧ (∀ t ∈ tu, t < ts.length) ∧
    ∀ (p : Addr) (F : Nat → Option Nat) H', Same H H' → H' p = some (.tup ((List.range n).map fun x => (F x).elim V.non fun r => V.int (r : Int))) → (∀ x r, F x = some r → FirstAt (fun j => hear ts h (rep j tu) x = true) r ∧ r ≤ n) → (∀ x, F x = none → ∀ j, ¬ hear ts h (rep j tu) x = true) → Q (.ref p) H'))
end K1
namespace K1
open PySem PySem.Spec PyProof.Rows L2
section
variable {P : Program} {w : World} {K : PySem.W.Frag} {mg : Str → Option Value} {base : Heap}
abbrev nHR : List Str := ["web", "house", "order", "ties", "heard", "rounds", "many", "tie", "one", "other"]
theorem scHR : FnScope nHR ["web", "house", "order"] (defScope sHeardRounds) := ⟨rfl, rfl, rfl, by decide +kernel, rfl, by decide +kernel, by decide +kernel⟩
theorem ok_hr {f fN fK W CH CB : Addr} {fd fdN fdK : FuncData} (D : Df K mg "heard_rounds" sHeardRounds ["web", "house", "order"] f fd) (DN : Df K mg "need_house" sNeedH ["web", "house"] fN fdN) (DK : Df K mg "check_meetings" sCheckMeetings ["web", "value"] fK fdK) (B : Bt mg) (T : WcT K mg W)
    (GN : FnOk P w K mg base (L2.CX P w) 3 fN fdN ["web", "house"] (spNeedH K W CH)) (GK : FnOk P w K mg base (L2.CX P w) 4 fK fdK ["web", "value"] (spCM K W CB)) : FnOk P w K mg base (L2.CX P w) 5 f fd ["web", "house", "order"] (spHR K W CH CB) := by
  refine D.F.okX scHR (fun vs H Q E h => ?_) (fun cdv A outer s H vs Q E hr h => ?_)
  · obtain ⟨w, vh, vo, oh, oo, n, ts, rfl, _⟩ := h
    rfl
  · obtain ⟨w, vh, vo, oh, oo, n, ts, rfl, hw, hW, kh, ko, q⟩ := h
    have r3 := hr.mono (show 3 ≤ 4 by decide)
    have hu : (A.deeper (envOfC "heard_rounds" (defScope sHeardRounds) s.heap.objs.size f cdv)).units + 1 < cLine := by have := hr.units; omega
    refine ⟨_, pss_cons (ps_expr (pc DN GN r3 (pass1 (takes_of rfl rfl rfl rfl)) (pa_cons (pv 0) (pa_cons (pv 1) pa_nil))))
      (pss_cons (ps_set (i := 3) scHR.nd rfl (.inl rfl) (pc DK GK hr (pass1 (takes_of rfl rfl rfl rfl)) (pa_cons (pv 0) (pa_cons (pv 2) pa_nil))))
      (pss_cons (ps_set (i := 4) scHR.nd rfl (.inr rfl) (pe_disp (pps_cons (pv 1) pe_int pps_nil) (by rfl) (by rfl) (fun z => by cases z) (by decide)))
      (pss_cons (ps_set (i := 5) scHR.nd rfl (.inl rfl) pe_int)
      (pss_cons (ps_set (i := 6) scHR.nd rfl (.inl rfl) pe_int)
      (pss_cons (ps_while (passes_of rfl) (pt_cmpR op_gt (pe_callB call_lenD (by rfl) B.len PySem.boot_len (pa_cons (pv 4) pa_nil)) (pv 6) (nomark _))
        (pss_cons (ps_set (i := 6) scHR.nd rfl (.inl rfl) (pe_callB call_lenD (by rfl) B.len PySem.boot_len (pa_cons (pv 4) pa_nil)))
        (pss_cons (ps_aug (i := 5) scHR.nd rfl (.inl rfl) pe_int ip_add)
        (pss_one (ps_for (passes_of rfl) rfl (pi_tup (pv 3)) (pg_name (i := 7) scHR.nd rfl (.inl rfl))
          (pss_cons (ps_asg (pe_ix ix_tup (pe_fld (pv 0) rfl) (pv 7) (fun _ _ => rfl)) (pg_tup rfl (pgs_cons (pg_name (i := 8) scHR.nd rfl (.inl rfl)) (pgs_cons (pg_name (i := 9) scHR.nd rfl (.inl rfl)) pgs_nil))))
          (pss_one (ps_if (PW.pt (pw_or (pt_cmp (pc_din hu (pv 8) (pv 4))) (pw_or1 (pt_cmp (pc_din hu (pv 9) (pv 4))))))
            (pss_cons (ps_expr (pe_dsetd (pv 4) (pv 8) (pv 5) ⟨by rfl, by rfl, by rfl, by rfl⟩)) (pss_one (ps_expr (pe_dsetd (pv 4) (pv 9) (pv 5) ⟨by rfl, by rfl, by rfl, by rfl⟩)))) pss_nil))))))))
      (pss_one (ps_ret (pe_callTy call_tuple_of (by rfl) B.tuple PyProof.Rows.boot_tuple (pa_cons (pe_lc (own := [("one", 8)]) (g := gName 8) (tt := tYes) rfl scHR.nd (pi_range1 (by rfl) B.range (pa_cons (pe_fld (pv 0) rfl) pa_nil)) (blkOk_by (N := nHR) (sc := defScope sHeardRounds) (by decide +kernel)) (fun _ _ _ _ _ => pg_name (i := 8) scHR.nd rfl (.inl rfl)) (fun _ _ _ _ _ => pts_nil)
          (fun _ _ _ _ _ => pe_dget1 hu (pv 4) (pv 8) ⟨by rfl, by rfl, by rfl, by rfl⟩)) pa_nil))))))))), ?_⟩
    refine ⟨_, rfl, _, rfl, w, vh, oh, n, ts, rfl, hw, kh, fun hb => ?_, fun hb => ?_⟩
    rotate_left
    · rcases q with ⟨_, q⟩ | ⟨h, rfl, hn, _⟩
      · exact q
      · exact (below_bad hn hb).elim
    obtain ⟨h, rfl, hn⟩ := below_nat hb
    rcases q with ⟨z, _⟩ | ⟨h', eh, hn', q⟩
    · rw [hb] at z; cases z
    injection eh with eh
    obtain rfl : h = h' := by omega
    refine ⟨_, rfl, _, rfl, w, vo, oo, n, ts, rfl, hw, hW, ko, ?_⟩
    rcases q with ⟨i, ⟨e, rfl⟩ | ⟨xs, j, eo, e, ef, rfl⟩, r⟩ | ⟨tu, eo, lt, hlt, q⟩
    · exact .inl ⟨e, r⟩
    · exact .inr (.inl ⟨xs, j, eo, e, ef, r⟩)
    refine .inr (.inr ⟨tu, eo, lt, hlt, fun p H1 s1 hp => ?_⟩)
    have n12 := hW.n12
    refine gn ?_
    dsimp only [List.set]
    intro d hd
    have s2 := same_new (o := HO.dK []) hd
    refine ⟨_, rfl, upd_same, [((Sum.inl (h : Int) : Key), V.int 0)], rfl, (by show 1 ≤ 15; decide), ?_⟩
    have s2' : Same H1 (upd (upd H1 d (.dK [])) d (.dK (mergeK [] [((Sum.inl (h : Int) : Key), V.int 0)]))) := fun c o e => by
      rw [upd_ne (ne_of_none e hd)]
      exact s2 _ _ e
    have hd2 : (upd (upd H1 d (.dK [])) d (.dK (mergeK [] [((Sum.inl (h : Int) : Key), V.int 0)]))) d = some (.dK [((Sum.inl (h : Int) : Key), V.int 0)]) := upd_same
    generalize upd (upd H1 d (.dK [])) d (.dK (mergeK [] [((Sum.inl (h : Int) : Key), V.int 0)])) = H2 at s2' hd2 ⊢
    refine gn ?_
    dsimp only [List.set]
    refine gn ?_
    dsimp only [List.set]
    refine gn ?_
    dsimp only [List.set]
    have fd : H d = none := s1.free hd
    have st0 : ∀ {H' : Hp}, (∀ c o, H2 c = some o → c ≠ d → H' c = some o) → Same H H' := fun k c o e => k c o (s2' _ _ (s1 _ _ e)) (ne_of_none e fd)
    have hp2 := s2' _ _ hp
    have pd : p ≠ d := ne_of_none hp hd
    refine while_D (fun σ H' => ∃ (k m : Nat) (v7 v8 v9 : Option V) (kvs : List (Key × V)) (F : Nat → Option Nat), σ = [some (.ref w), some (.int (h : Int)), some vo, some (.ref p), some (.ref d), some (.int (k : Int)), some (.int (m : Int)), v7, v8, v9] ∧ (∀ c o, H2 c = some o → c ≠ d → H' c = some o) ∧ H' d = some (.dK kvs) ∧ HdD kvs n F ∧ HrS ts h tu n k [] F ∧ m ≤ kvs.length ∧ (m < kvs.length → k + 1 ≤ kvs.length) ∧ (m = kvs.length → ∃ k', k = k' + 1 ∧ HrS ts h tu n k' [] F))
      (fun σ _ => match σ[6]? with | some (some (V.int i)) => n + 1 - i.toNat | _ => 0) ⟨0, 0, none, none, none, _, fun y => if y = h then some 0 else none, rfl, fun c o e _ => e, hd2, ⟨⟨[h], rfl, by simp, fun x hx => by rw [List.mem_singleton.mp hx]; exact hn⟩, fun x => ?_⟩, ⟨fun x => ?_, fun x r e => ?_⟩, Nat.zero_le _, fun _ => Nat.le_refl 1, fun z => by cases z⟩ ?_
    · by_cases c : x = h
      · rw [valV_pos (by rw [c]), if_pos c]; rfl
      · rw [valV_neg (fun z => c (by injection z with z; omega)), if_neg c]; rfl
    · show (if x = h then some 0 else none).isSome = true ↔ decide (x = h) = true
      by_cases c : x = h
      · rw [if_pos c, decide_eq_true c]; exact ⟨fun _ => rfl, fun _ => rfl⟩
      · rw [if_neg c, decide_eq_false c]; exact Iff.rfl
    · by_cases c : x = h
      · rw [if_pos c] at e
        obtain rfl := Option.some.inj e
        exact ⟨⟨by show decide (x = h) = true; exact decide_eq_true c, fun j hj => absurd hj (Nat.not_lt_zero _)⟩, Nat.zero_le _⟩
      · rw [if_neg c] at e; cases e
    rintro σ H3 ⟨k, m, v7, v8, v9, kvs, F, rfl, st3, hd3, hD, hS, ml, mlt, meq⟩
    have kl := hD.len
    refine ⟨_, rfl, d, kvs, rfl, hd3, _, rfl, _, _, rfl, rfl, _, rfl, ?_⟩
    by_cases lm : m < kvs.length
    rotate_left
    · rw [decide_eq_false (by omega)]
      obtain ⟨k', rfl, hS'⟩ := meq (by omega)
      have never : ∀ x, F x = none → ∀ j, ¬ hear ts h (rep j tu) x = true := fun x hx j => hS'.done hS x hx j
      obtain ⟨dxw, tw, w1, tas, w2, w3⟩ := id (hw.same (st0 st3))
      refine iteF ⟨_, rfl, w, W, dxw, _, _, rfl, w1, T.cl, T.nH, wf_h _ _, (n : Int), rfl, by omega, by omega, fun D1 hD1 => lc_range (fun j H' => Same H3 H' ∧ H' D1 = some (.lst ((List.range j).map fun x => (F x).elim V.non fun r => V.int (r : Int)))) ⟨same_new hD1, upd_same⟩ ?_ ?_⟩
      · rintro j H4 hj ⟨s4, hE⟩
        have hd4 := s4 _ _ hd3
        refine ⟨rfl, _, rfl, d, rfl, .inl ⟨kvs, .inl hd4⟩, _, rfl, _, DGet.k (k := Sum.inl (0 + (j : Int))) hd4, _, hE, szl (by rw [List.length_map, List.length_range]; omega), fun c o e => ?_, ?_⟩
        · rw [upd_ne (ne_of_none e hD1)]
          exact s4 _ _ e
        · have ev : (valV kvs (Sum.inl (0 + (j : Int)))).getD V.non = (F j).elim V.non fun r => V.int (r : Int) := by
            rw [Int.zero_add, hD.vl]
            cases F j <;> rfl
          rw [upd_same, ev, List.range_succ, List.map_append]; rfl
      · rintro H4 ⟨s4, hE⟩
        rw [Int.toNat_natCast] at hE
        exact ⟨D1, _, rfl, .inl ⟨SqL.of hE, fun l hl => q l F _ ((st0 st3).trans (s4.trans (same_new hl))) upd_same hS.fi never⟩⟩
    rw [decide_eq_true (by omega)]
    refine iteT (whT ?_)
    have k1 := mlt lm
    refine ⟨_, rfl, d, kvs, rfl, hd3, ?_⟩
    refine gn ?_
    dsimp only [List.set]
    refine ⟨_, rfl, _, _, rfl, rfl, ?_⟩
    dsimp only [List.set]
    refine ⟨_, rfl, p, rfl, ⟨_, SqT.of (st3 _ _ hp2 pd)⟩, for_tup (K := K) (a := p) (xs := vn tu) (fun i σ H' => ∃ (v7 v8 v9 : Option V) (kv2 : List (Key × V)) (F2 : Nat → Option Nat), σ = [some (.ref w), some (.int (h : Int)), some vo, some (.ref p), some (.ref d), some (.int ((k : Int) + 1)), some (.int (kvs.length : Int)), v7, v8, v9] ∧ (∀ c o, H2 c = some o → c ≠ d → H' c = some o) ∧ H' d = some (.dK kv2) ∧ HdD kv2 n F2 ∧ HrS ts h tu n k (tu.take i) F2 ∧ kvs.length ≤ kv2.length ∧ (kv2.length = kvs.length → F2 = F))
      ⟨_, _, _, kvs, F, rfl, st3, hd3, hD, hS, Nat.le_refl _, fun _ => rfl⟩ (fun i σ H' _ ⟨_, _, _, _, _, _, k', _⟩ => SqT.of (k' _ _ hp2 pd)) ?_ ?_⟩
    · rintro i x σ H4 hx ⟨v7, v8, v9, kv2, F2, rfl, st4, hd4, hD4, hS4, l4, e4⟩
      obtain ⟨t, ht, rfl⟩ := at_vn hx
      have tl := hlt t (List.mem_of_getElem? ht)
      obtain ⟨pr, hpr⟩ := ex_at tl
      obtain ⟨p1, p2, p3⟩ := hW.at_ hpr
      obtain ⟨dxw, tw, w1, tas, w2, w3⟩ := id (hw.same (st0 st4))
      obtain ⟨pa, hpa0, hpa⟩ := w3.get hpr
      have hpa' : H4 pa = some (.tup [.int (pr.1 : Int), .int (pr.2 : Int)]) := hpa
      have ll4 := hD4.len
      refine ⟨_, rfl, w, W, dxw, _, _, rfl, w1, T.cl, T.nT, wf_t _ _, _, rfl, tw, _, (t : Int), .ref pa, rfl, rfl, SqT.of w2, at_i (map_at hpa0), pa, _, rfl, SqT.of hpa', rfl, _, _, rfl, _, _, rfl, rfl, ?_⟩
      have vis : ∀ x : Nat, (valV kv2 (Sum.inl (x : Int))).isSome = (F2 x).isSome := fun x => by rw [hD4.vl]; cases F2 x <;> rfl
      have tk : tu.take (i + 1) = tu.take i ++ [t] := take_succ ht
      have yes : ((F2 pr.1).isSome = true ∨ (F2 pr.2).isSome = true) → tSeq (tDrop (tDSetd (tVar 4) (tVar 8) (tVar 5))) (tDrop (tDSetd (tVar 4) (tVar 9) (tVar 5))) { nx := fun σ H' => ∃ (v7 v8 v9 : Option V) (kv2 : List (Key × V)) (F2 : Nat → Option Nat), σ = [some (.ref w), some (.int (h : Int)), some vo, some (.ref p), some (.ref d), some (.int ((k : Int) + 1)), some (.int (kvs.length : Int)), v7, v8, v9] ∧ (∀ c o, H2 c = some o → c ≠ d → H' c = some o) ∧ H' d = some (.dK kv2) ∧ HdD kv2 n F2 ∧ HrS ts h tu n k (tu.take (i + 1)) F2 ∧ kvs.length ≤ kv2.length ∧ (kv2.length = kvs.length → F2 = F), rt := Q } [some (.ref w), some (.int (h : Int)), some vo, some (.ref p), some (.ref d), some (.int ((k : Int) + 1)), some (.int (kvs.length : Int)), some (.int (t : Int)), some (.int (pr.1 : Int)), some (.int (pr.2 : Int))] H4 := fun hy => by
        refine seqG (fun σ H' => ∃ kv3 : List (Key × V), σ = [some (.ref w), some (.int (h : Int)), some vo, some (.ref p), some (.ref d), some (.int ((k : Int) + 1)), some (.int (kvs.length : Int)), some (.int (t : Int)), some (.int (pr.1 : Int)), some (.int (pr.2 : Int))] ∧ (∀ c o, H2 c = some o → c ≠ d → H' c = some o) ∧ H' d = some (.dK kv3) ∧ HdD kv3 n (sdF F2 pr.1 (k + 1)) ∧ kv2.length ≤ kv3.length ∧ (kv3.length = kv2.length → sdF F2 pr.1 (k + 1) = F2)) ?_ (fun go => ?_)
        rotate_left
        · refine ⟨_, rfl, d, rfl, .inl ⟨kv2, .inl hd4⟩, _, rfl, _, rfl, kv2, Sum.inl (pr.1 : Int), hd4, rfl, szl (by omega), fun v hv => ?_, fun hv => ?_⟩
          · rw [hD4.vl] at hv
            cases e : F2 pr.1 with
            | none => rw [e] at hv; cases hv
            | some r =>
              have es := sdF_same (r := k + 1) e
              exact go _ _ ⟨kv2, rfl, st4, hd4, by rw [es]; exact hD4, Nat.le_refl _, fun _ => es⟩
          · have f0 : F2 pr.1 = none := by
              cases e : F2 pr.1 with
              | none => rfl
              | some r => rw [hD4.vl, e] at hv; cases hv
            obtain ⟨hP, lP⟩ := hD4.put (k + 1) p1 f0
            have ek : V.int ((k : Int) + 1) = V.int ((k + 1 : Nat) : Int) := rfl
            refine go _ _ ⟨_, rfl, fun c o e nc => by rw [upd_ne nc]; exact st4 _ _ e nc, upd_same, hP, Nat.le_trans (Nat.le_succ _) (Nat.le_of_eq lP.symm), fun z => absurd (lP.symm.trans z) (by omega)⟩
        rintro σ H5 ⟨kv3, rfl, st5, hd5, hD5, l5, e5⟩
        have ll5 := hD5.len
        have S5 := hS4.put hpr hy ⟨tu.drop (i + 1), by rw [← tk, List.take_append_drop]⟩ (by omega)
        rw [← tk] at S5
        refine ⟨_, rfl, d, rfl, .inl ⟨kv3, .inl hd5⟩, _, rfl, _, rfl, kv3, Sum.inl (pr.2 : Int), hd5, rfl, szl (by omega), fun v hv => ?_, fun hv => ?_⟩
        · rw [hD5.vl] at hv
          cases e : sdF F2 pr.1 (k + 1) pr.2 with
          | none => rw [e] at hv; cases hv
          | some r =>
            have es := sdF_same (r := k + 1) e
            rw [es] at S5
            exact ⟨_, _, _, kv3, _, rfl, st5, hd5, hD5, S5, by omega, fun z => (e5 (by omega)).trans (e4 (by omega))⟩
        · have f0 : sdF F2 pr.1 (k + 1) pr.2 = none := by
            cases e : sdF F2 pr.1 (k + 1) pr.2 with
            | none => rfl
            | some r => rw [hD5.vl, e] at hv; cases hv
          obtain ⟨hP, lP⟩ := hD5.put (k + 1) p2 f0
          exact ⟨_, _, _, _, _, rfl, fun c o e nc => by rw [upd_ne nc]; exact st5 _ _ e nc, upd_same, hP, S5, Nat.le_trans (show kvs.length ≤ kv3.length + 1 by omega) (Nat.le_of_eq lP.symm), fun z => absurd (lP.symm.trans z) (by omega)⟩
      refine ⟨_, rfl, _, rfl, d, _, rfl, DGet.k (k := Sum.inl (pr.1 : Int)) hd4, _, rfl, ?_⟩
      rw [vis]
      by_cases c1 : (F2 pr.1).isSome = true
      · rw [c1]
        exact iteT (yes (.inl c1))
      · rw [Bool.not_eq_true] at c1
        rw [c1]
        refine iteF ⟨_, rfl, _, rfl, d, _, rfl, DGet.k (k := Sum.inl (pr.2 : Int)) hd4, _, rfl, ?_⟩
        rw [vis]
        by_cases c2 : (F2 pr.2).isSome = true
        · rw [c2]
          exact iteT (yes (.inr c2))
        · rw [Bool.not_eq_true] at c2
          rw [c2]
          refine iteF ⟨_, _, _, kv2, F2, rfl, st4, hd4, hD4, ?_, l4, e4⟩
          rw [tk]
          exact hS4.stay hpr (by rw [c1]; decide) (by rw [c2]; decide)
    · rintro σ H4 ⟨v7, v8, v9, kv2, F2, rfl, st4, hd4, hD4, hS4, l4, e4⟩
      rw [vn_len, List.take_of_length_le (Nat.le_refl _)] at hS4
      have ll4 := hD4.len
      refine ⟨⟨k + 1, kvs.length, v7, v8, v9, kv2, F2, rfl, st4, hd4, hD4, hS4.next, l4, fun z => by omega, fun z => ⟨k, rfl, by rw [e4 z.symm]; exact hS⟩⟩, ?_⟩
      show n + 1 - ((kvs.length : Nat) : Int).toNat < n + 1 - ((m : Nat) : Int).toNat
      omega
end
end K1
namespace K1
open PySem PySem.Spec PyProof.Rows L2
theorem takes_len {X : Cx} {W : WX} (tk : Takes X W) : Takes X (fun cls d σ H => σ.length = X.N.length → W cls d σ H) := fun u s' ⟨a, B, sI, pins', σ', H', cls, d, e, J, nb, up, sky, na, os, ag, w⟩ =>
  tk u s' ⟨a, B, sI, pins', σ', H', cls, d, e, J, nb, up, sky, na, os, ag, w J.len⟩
/-- isinstance(e, N) in a suite, the exception's dict with any fields -/
def rIsF (K : PySem.W.Frag) (C : Addr) (cls : Value) (d : Option Addr) (a : Addr) : List V → Hp → VK → Prop := fun xs H Q => ∃ (dd N : Addr) (fs : List (Str × V)) (b : Bool), cls = .ref C ∧ d = some dd ∧ xs = [.ref a, .ref N] ∧ H dd = some (.xd fs) ∧ PySem.W.kitOne K (.ref C) (.ref N) = some b ∧ Q (.bl b) H
theorem call_isF {X : Cx} {a C : Addr} {cls : Value} {d : Option Addr} {oe : Obj} {pn : List (Addr × Obj)} (T : ExcK X.K C) (hz : Zc cls d oe) (hf : ∃ vs, oe.data = .fields vs) : CallR (X.suite a ((a, oe) :: pn)) (.builtin "isinstance") (rIsF X.K C cls d a) := by
  intro pins s σ H xs us Q I r h
  obtain ⟨dd, N, fs, b, rfl, rfl, rfl, hx, e, q⟩ := h
  obtain ⟨u1, u2, rfl, r1, r2⟩ := vals2 r
  cases r1
  cases r2
  obtain ⟨hget, _⟩ := I.pin (a, oe) (List.mem_append.mpr (.inl List.mem_cons_self))
  obtain ⟨vs, hd⟩ := hf
  have hx' : ObjOk X.prog X.w H s.heap dd (.xd fs) := I.hok dd _ hx
  obtain ⟨mA, hns, hr⟩ := hx'
  obtain ⟨od, ho, hl⟩ := lookIn_ns hns
  have J : PySem.W.InstAt s.heap a oe C (some od) := ⟨hget, hz.1, by unfold PySem.W.notCls; rw [hd] <;> rfl, by rw [hz.2]; exact ho⟩
  exact PySem.W.kia_one (PySem.W.kitx_exc T.cl T.ga T.gt T.sb T.ca T.sp T.tk T.mo) I.kIn J e (fun z => nomatch z) fun tk => ⟨.bl b, H, I.kept (t' := tk) fun _ _ z => z, rfl, q⟩
/-- isinstance(e, N), N a class of the language -/
def rIsT (K : PySem.W.Frag) (C : Addr) (n : String) (cls : Value) (d : Option Addr) (a : Addr) : List V → Hp → VK → Prop := fun xs H Q => ∃ (dd : Addr) (fs : List (Str × V)) (b : Bool), cls = .ref C ∧ d = some dd ∧ xs = [.ref a, .ty n] ∧ H dd = some (.xd fs) ∧ PySem.W.kitOne K (.ref C) (.type n) = some b ∧ Q (.bl b) H
theorem call_isT {X : Cx} {a C : Addr} {n : String} {cls : Value} {d : Option Addr} {oe : Obj} {pn : List (Addr × Obj)} (T : ExcK X.K C) (hz : Zc cls d oe) (hf : ∃ vs, oe.data = .fields vs) : CallR (X.suite a ((a, oe) :: pn)) (.builtin "isinstance") (rIsT X.K C n cls d a) := by
  intro pins s σ H xs us Q I r h
  obtain ⟨dd, fs, b, rfl, rfl, rfl, hx, e, q⟩ := h
  obtain ⟨u1, u2, rfl, r1, r2⟩ := vals2 r
  cases r1
  cases r2
  obtain ⟨hget, _⟩ := I.pin (a, oe) (List.mem_append.mpr (.inl List.mem_cons_self))
  obtain ⟨vs, hd⟩ := hf
  have hx' : ObjOk X.prog X.w H s.heap dd (.xd fs) := I.hok dd _ hx
  obtain ⟨mA, hns, hr⟩ := hx'
  obtain ⟨od, ho, hl⟩ := lookIn_ns hns
  have J : PySem.W.InstAt s.heap a oe C (some od) := ⟨hget, hz.1, by unfold PySem.W.notCls; rw [hd] <;> rfl, by rw [hz.2]; exact ho⟩
  exact PySem.W.kia_one (PySem.W.kitx_exc T.cl T.ga T.gt T.sb T.ca T.sp T.tk T.mo) I.kIn J e (fun z => nomatch z) fun tk => ⟨.bl b, H, I.kept (t' := tk) fun _ _ z => z, rfl, q⟩
structure Exm (K : PySem.W.Frag) (CH CB CR CG N : Addr) : Prop where
  hh : PySem.W.exmOne K (.ref CH) (.ref CH) = some true
  bh : PySem.W.exmOne K (.ref CB) (.ref CH) = some false
  bb : PySem.W.exmOne K (.ref CB) (.ref CB) = some true
  rh : PySem.W.exmOne K (.ref CR) (.ref CH) = some false
  rb : PySem.W.exmOne K (.ref CR) (.ref CB) = some false
  rr : PySem.W.exmOne K (.ref CR) (.ref CR) = some true
  gh : PySem.W.exmOne K (.ref CG) (.ref CH) = some false
  gb : PySem.W.exmOne K (.ref CG) (.ref CB) = some false
  gr : PySem.W.exmOne K (.ref CG) (.ref CR) = some false
  gg : PySem.W.exmOne K (.ref CG) (.ref CG) = some true
  ib : PySem.W.kitOne K (.ref CB) (.ref N) = some true
  ir : PySem.W.kitOne K (.ref CR) (.ref N) = some true
  ig : PySem.W.kitOne K (.ref CG) (.ref N) = some true
  xh : ExcK K CH
  xb : ExcK K CB
  xr : ExcK K CR
  xg : ExcK K CG
/-- x is the text that repr gives for v -/
def RS (v : V) (x : Str) : Prop := ∀ (H : Hp) (Q : VK), Q (.str x) H → rReprS [v] H Q
/-- as much, for a tuple of numbers too -/
def RSo (K : PySem.W.Frag) (H0 : Hp) (v : V) (x : Str) : Prop := ∀ (H : Hp) (Q : VK), Same H0 H → Q (.str x) H → rReprS [v] H Q ∨ rRepr K [v] H Q
section
theorem call_or2 {X : Cx} {c : Value} {r q : List V → Hp → VK → Prop} (a : CallR X c r) (b : CallR X c q) : CallR X c (fun xs H Q => r xs H Q ∨ q xs H Q) := fun pins s σ H xs us Q I rv h => h.elim (a pins s σ H xs us Q I rv) (b pins s σ H xs us Q I rv)
theorem pe_or2 {X : Cx} {e : Expr} {t u : TE} (a : PE X e t) (b : PE X e u) : PE X e (fun σ H Q => t σ H Q ∨ u σ H Q) := ⟨fun pins s σ H Q I h => h.elim (a.run pins s σ H Q I) (b.run pins s σ H Q I)⟩
theorem op_or2 {X : Cx} {f : Value → Value → Sem Value} {r q : R2} (a : OpR X f r) (b : OpR X f q) : OpR X f (fun x y H Q => r x y H Q ∨ q x y H Q) := fun pins s σ H x y v u Q I rx ry h => h.elim (a pins s σ H x y v u Q I rx ry) (b pins s σ H x y v u Q I rx ry)
end
def HE (K : PySem.W.Frag) (CH CB CR CG : Addr) (Q : VK) : XK := fun cls d H => ∃ dd : Addr, d = some dd ∧
  ((cls = .ref CH ∧ ∃ v, H dd = some (.xd [("house", v)]) ∧ ∃ x, RSo K H v x ∧ ∀ p H', Same H H' → H' p = some (.tup [.str "house", .str x]) → Q (.ref p) H') ∨
   (cls = .ref CB ∧ ∃ v, H dd = some (.xd [("at", v)]) ∧ ∀ p H', Same H H' → H' p = some (.tup [.str "steps", v, .bl true]) → Q (.ref p) H') ∨
   (cls = .ref CR ∧ ∃ v, H dd = some (.xd [("at", v)]) ∧ ∃ x, RSo K H v x ∧ ∀ p H', Same H H' → H' p = some (.tup [.str "refused", .str x, .bl true]) → Q (.ref p) H') ∨
   (cls = .ref CG ∧ ∃ v, H dd = some (.xd [("most", v)]) ∧ ∀ p H', Same H H' → H' p = some (.tup [.str "great", v, .bl true]) → Q (.ref p) H'))
def TTh (K : PySem.W.Frag) (CH CB CR CG : Addr) : (XK → Hp → VK → Prop) → Hp → VK → Prop := fun tl H Q => tl (HE K CH CB CR CG Q) H fun v H' => 2 ≤ sizeLine ∧ ∀ p, H' p = none → Q (.ref p) (upd H' p (.tup [.str "told", v]))
theorem scHe : FnScope ["_law_ask", "e"] ["_law_ask"] (defScope sLHeard) := ⟨rfl, rfl, rfl, by decide +kernel, rfl, by decide +kernel, by decide +kernel⟩
theorem call_reprZ {Z : Cx} {a : Addr} {pn : List (Addr × Obj)} (hgd : Z.A.guards = some []) (hu : Z.A.units + 64 < cLine) : CallR (Z.suite a pn) (.builtin "repr") (rRepr Z.K) := call_repr (X := Z.suite a pn) hgd hu
theorem heard_gives {X : Cx} {CH CB CR CG N i1 i2 i3 i4 g : Addr} {k : Nat} {b1 b2 b3 b4 : List Value} {q1 q2 q3 q4 : Str} {cdg : Value} {q : Str} (B : Bt X.mg) (T1 : LHouse.Txt X.K X.mg "NoHouse" q1 b1 CH i1) (T2 : LAt.Txt X.K X.mg "BadSteps" q2 b2 CB i2)
    (T3 : LAt.Txt X.K X.mg "Refused" q3 b3 CR i3) (T4 : LMost.Txt X.K X.mg "TooGreat" q4 b4 CG i4) (hN : X.mg "NetError" = some (.ref N)) (ex : Exm X.K CH CB CR CG N) (hgd : X.A.guards = some []) (hr : Room (k + 2) X.A) :
    LamX.GivesTo X ["_law_ask", "e"] "_law_heard" (defScope sLHeard) g cdg (defBody sLHeard) "_law_ask" q (TTh X.K CH CB CR CG) := by
  intro f c' s H Q tl act hc h
  have hu := (hr.deeper (envOfC "_law_heard" (defScope sLHeard) s.heap.objs.size g cdg)).units
  generalize hZ : (cxOf C8.CX0 X.prog X.w X.K X.mg X.base ["_law_ask", "e"] "_law_heard" (defScope sLHeard) g cdg X.A X.stack s H C8.E0) = Z at act ⊢
  subst hZ
  refine ⟨_, pss_one (ps_try_all (n := "e") (i := 1) (tb := fun W D σ H => ∃ Ech : XK, (∀ cls d (σ' : L2.St) H', σ'.length = 2 → Ech cls d H' → W cls d σ' H') ∧ σ[0]? = some (some (.ref f)) ∧ H c' = some (LamX.CodeO c' q) ∧ tl Ech H fun v H1 => 2 ≤ sizeLine ∧ ∀ p, H1 p = none → D.rt (.ref p) (upd H1 p (.tup [.str "told", v])))
      rfl rfl scHe.nd rfl rfl LamX.takes0 (fun W pn xe tk _ => ?_)
      (.cons (c := .ref CH) ⟨rfl, by decide, .inl T1.gC⟩ (fun a oe cls d pn hz hf => pss_one (ps_ret (pe_tup (pa_cons pe_str (pa_cons (pe_callB (call_or2 call_reprS (call_reprZ (Z := cxOf C8.CX0 X.prog X.w X.K X.mg X.base ["_law_ask", "e"] "_law_heard" (defScope sLHeard) g cdg X.A X.stack s H C8.E0) hgd hu)) rfl B.repr (by decide +kernel) (pa_cons (pe_by_LHouse T1 hz hf (pv 1)) pa_nil)) pa_nil)))))
      (.cons (c := .ref CB) ⟨rfl, by decide, .inl T2.gC⟩ (fun a oe cls d pn hz hf => pss_one (ps_ret (pe_tup (pa_cons pe_str (pa_cons (pe_by_LAt T2 hz hf (pv 1)) (pa_cons (pe_callB (call_isF ex.xb hz hf) rfl B.isinstance (by decide +kernel) (pa_cons (pv 1) (pa_cons (pe_glob (v := .ref N) rfl hN rfl) pa_nil))) pa_nil))))))
      (.cons (c := .ref CR) ⟨rfl, by decide, .inl T3.gC⟩ (fun a oe cls d pn hz hf => pss_one (ps_ret (pe_tup (pa_cons pe_str (pa_cons (pe_callB (call_or2 call_reprS (call_reprZ (Z := cxOf C8.CX0 X.prog X.w X.K X.mg X.base ["_law_ask", "e"] "_law_heard" (defScope sLHeard) g cdg X.A X.stack s H C8.E0) hgd hu)) rfl B.repr (by decide +kernel) (pa_cons (pe_by_LAt T3 hz hf (pv 1)) pa_nil)) (pa_cons (pe_callB (call_isF ex.xr hz hf) rfl B.isinstance (by decide +kernel) (pa_cons (pv 1) (pa_cons (pe_glob (v := .ref N) rfl hN rfl) pa_nil))) pa_nil))))))
      (.cons (c := .ref CG) ⟨rfl, by decide, .inl T4.gC⟩ (fun a oe cls d pn hz hf => pss_one (ps_ret (pe_tup (pa_cons pe_str (pa_cons (pe_by_LMost T4 hz hf (pv 1)) (pa_cons (pe_callB (call_isF ex.xg hz hf) rfl B.isinstance (by decide +kernel) (pa_cons (pv 1) (pa_cons (pe_glob (v := .ref N) rfl hN rfl) pa_nil))) pa_nil)))))) .nil))))), ?_⟩
  · refine ⟨fun pins s' σ H' D I h' => ?_⟩
    obtain ⟨Ech, hW, h1, h2, h3⟩ := h'
    have hp := fun p1 p2 => act (fun cls d σ H => σ.length = 2 → W cls d σ H) pn xe Ech p1 p2 (takes_len tk) (fun cls d σ' H' e hl => hW cls d σ' H' hl e)
    exact (pss_one (ps_ret (pe_tup (pa_cons pe_str (pa_cons (hp _ _) pa_nil))))).run pins s' σ H' D I ⟨h1, h2, h3⟩
  · refine ⟨HE X.K CH CB CR CG Q, fun cls d σ' H' hl he => ?_, rfl, hc, h⟩
    obtain ⟨dd, rfl, k⟩ := he
    obtain ⟨v0, v1, rfl⟩ : ∃ v0 v1, σ' = [v0, v1] := by
      match σ', hl with
      | [v0, v1], _ => exact ⟨v0, v1, rfl⟩
    rcases k with ⟨rfl, v, hx, x, rs, k⟩ | ⟨rfl, v, hx, k⟩ | ⟨rfl, v, hx, x, rs, k⟩ | ⟨rfl, v, hx, k⟩
    · refine ⟨true, ex.hh, fun _ a na => ?_, fun z => (by cases z)⟩
      refine ⟨_, rfl, rfl, rfl, dd, v, rfl, hx, ?_⟩
      unfold tNil
      dsimp only
      exact rs _ _ (Same.refl _) ⟨(by show 2 ≤ sizeLine; decide), fun p hp => k p _ (same_new hp) upd_same⟩
    · refine ⟨false, ex.bh, fun z => (by cases z), fun _ => ⟨true, ex.bb, fun _ a na => ?_, fun z => (by cases z)⟩⟩
      exact ⟨_, rfl, rfl, rfl, dd, v, rfl, hx, _, rfl, dd, N, _, true, rfl, rfl, rfl, hx, ex.ib, (by show 3 ≤ sizeLine; decide), fun p hp => k p _ (same_new hp) upd_same⟩
    · refine ⟨false, ex.rh, fun z => (by cases z), fun _ => ⟨false, ex.rb, fun z => (by cases z), fun _ => ⟨true, ex.rr, fun _ a na => ?_, fun z => (by cases z)⟩⟩⟩
      refine ⟨_, rfl, rfl, rfl, dd, v, rfl, hx, ?_⟩
      unfold tNil
      dsimp only
      exact rs _ _ (Same.refl _) ⟨_, rfl, dd, N, _, true, rfl, rfl, rfl, hx, ex.ir, (by show 3 ≤ sizeLine; decide), fun p hp => k p _ (same_new hp) upd_same⟩
    · refine ⟨false, ex.gh, fun z => (by cases z), fun _ => ⟨false, ex.gb, fun z => (by cases z), fun _ => ⟨false, ex.gr, fun z => (by cases z), fun _ => ⟨true, ex.gg, fun _ a na => ?_, fun z => (by cases z)⟩⟩⟩⟩
      exact ⟨_, rfl, rfl, rfl, dd, v, rfl, hx, _, rfl, dd, N, _, true, rfl, rfl, rfl, hx, ex.ig, (by show 3 ≤ sizeLine; decide), fun p hp => k p _ (same_new hp) upd_same⟩
structure FunC (K : PySem.W.Frag) (x qual : Str) (st : Stmt) (f : Addr) (fd : FuncData) (cdv : Value) : Prop where
  ex : ∃ (oc : Value) (od : Option Addr) (kV doc pm : Value) (an : Option Addr) (ct : Value) (osl : Array (Option Value)),
    fd = PySem.W.fnOf x qual (defArgs st) (defBody st) (defScope st) .none kV doc pm an cdv ct ∧ K.lookup f = some ⟨oc, od, .func fd, osl⟩ ∧ PySem.W.codeIn K cdv qual = true
  kp : PySem.W.keepIn K (.ref f) = true
theorem FunC.fun {K : PySem.W.Frag} {x qual : Str} {st : Stmt} {f : Addr} {fd : FuncData} {cdv : Value} (F : FunC K x qual st f fd cdv) : Fun K x qual st f fd := by
  obtain ⟨⟨oc, od, kV, doc, pm, an, ct, osl, h1, h2, h3⟩, kp⟩ := F
  exact ⟨⟨oc, od, kV, doc, pm, an, cdv, ct, osl, h1, h2, h3⟩, kp⟩
section
variable {P : Program} {w : World} {K : PySem.W.Frag} {mg : Str → Option Value} {base : Heap}
theorem FunC.ok {x qual : Str} {st : Stmt} {f : Addr} {fd : FuncData} {cdv : Value} {N ps : List Str} {k : Nat} {sp : Sp} (F : FunC K x qual st f fd cdv) (S : FnScope N ps (defScope st)) (len : ∀ vs H Q E, sp vs H Q E → vs.length = ps.length)
    (hbody : ∀ (A : Around) (outer : List Env) (s : Shared) (H : Hp) (vs : List V) (Q : VK) (E : XK), Room k (A.deeper (envOfC qual (defScope st) s.heap.objs.size f cdv)) → sp vs H Q E →
      ∃ t, PSs (cxOf CX0 P w K mg base N qual (defScope st) f cdv A outer s H E).nox (defBody st) t ∧ t { nx := fun _ H' => Q .non H', rt := Q } (start N vs) H) : FnOk P w K mg base CX0 (k + 1) f fd ps sp := by
  obtain ⟨oc, od, kV, doc, pm, an, ct, osl, rfl, lk, hcd⟩ := F.ex
  refine fn_of lk hcd S len fun A outer s H vs Q E hr hsp => ?_
  obtain ⟨t, h, q⟩ := hbody A outer s H vs Q E hr hsp
  exact ⟨t, h.nox, q⟩
theorem FunC.okG {x qual : Str} {st : Stmt} {f : Addr} {fd : FuncData} {cdv : Value} {N ps : List Str} {k : Nat} {sp : Sp} (F : FunC K x qual st f fd cdv) (S : FnScope N ps (defScope st)) (len : ∀ vs H Q E, sp vs H Q E → vs.length = ps.length)
    (hbody : ∀ (A : Around) (outer : List Env) (s : Shared) (H : Hp) (vs : List V) (Q : VK) (E : XK), Room k (A.deeper (envOfC qual (defScope st) s.heap.objs.size f cdv)) → (A.deeper (envOfC qual (defScope st) s.heap.objs.size f cdv)).guards = some [] → sp vs H Q E →
      ∃ t, PSs (cxOf CX0 P w K mg base N qual (defScope st) f cdv A outer s H E).nox (defBody st) t ∧ t { nx := fun _ H' => Q .non H', rt := Q } (start N vs) H) : FnG P w K mg base (k + 1) f fd ps sp := by
  obtain ⟨oc, od, kV, doc, pm, an, ct, osl, rfl, lk, hcd⟩ := F.ex
  refine ⟨len, fun A outer s H args us vs Q E hr hgd e0 hb r hsp => ?_⟩
  refine LamX.run_ofS lk hcd S hr e0 hb r (len _ _ _ _ hsp) fun hr' => ?_
  obtain ⟨t, h, q⟩ := hbody A outer s H vs Q E hr' hgd hsp
  exact ⟨t, h.nox, q⟩
end
structure Hd (K : PySem.W.Frag) (mg : Str → Option Value) (base : Heap) (CH CB CR CG : Addr) : Prop where
  B : Bt mg
  df : ∃ g fd, Df K mg "_law_heard" sLHeard ["_law_ask"] g fd
  t1 : ∃ q b i, LHouse.Txt K mg "NoHouse" q b CH i
  t2 : ∃ q b i, LAt.Txt K mg "BadSteps" q b CB i
  t3 : ∃ q b i, LAt.Txt K mg "Refused" q b CR i
  t4 : ∃ q b i, LMost.Txt K mg "TooGreat" q b CG i
  ex : ∃ N, mg "NetError" = some (.ref N) ∧ Exm K CH CB CR CG N
theorem pHeard {X : Cx} {c P CH CB CR CG : Addr} {k : Nat} {qn : Str} {T : List (Addr × Str)} {params : Arguments} {body : Expr} {scope : Scope} {t : XK → TE} {p lpos pos : Pos} (hd : Hd X.K X.mg X.base CH CB CR CG) (TB : LamX.TabB X.base X.mg c P) (hgd : X.A.guards = some []) (hr : Room (k + 2) X.A) (hcode : X.env.code = .ref c)
    (hq : X.env.qual ++ "<lambda>" = qn) (hm : (P, qn) ∈ T) (hun : ∀ p ∈ T, p.1 = P → p.2 = qn) (hg : Gl X "_law_heard") (L : LamX.LamS X.env.scope scope) (hdef : defaultsOf params X.env = ([], []))
    (hbind : ∀ (q : Str) (cl : List (Str × Addr)) (pm cv ctv : Value), bindArgs (PySem.W.kla_fn "<lambda>" q params body scope cl pm cv ctv) ⟨[], []⟩ = pure [])
    (hbody : ∀ (A : Around) (outer : List Env) (s : Shared) (H : Hp) (E : XK) (f c' : Addr), Room k (A.deeper (LamX.lamEnv X scope s.heap.objs.size f c')) → PE (LamX.lamCx X A outer s H E scope f c') body (t E)) :
    PE X (.Call (.Name "_law_heard" p) [.Lambda params body scope lpos] [] pos) (LamX.tLam T (TTh X.K CH CB CR CG) t) := by
  obtain ⟨g, fd, D⟩ := hd.df
  obtain ⟨q1, b1, i1, T1⟩ := hd.t1
  obtain ⟨q2, b2, i2, T2⟩ := hd.t2
  obtain ⟨q3, b3, i3, T3⟩ := hd.t3
  obtain ⟨q4, b4, i4, T4⟩ := hd.t4
  obtain ⟨N, hN, ex⟩ := hd.ex
  have hb := D.b
  obtain ⟨oc, od, kV, doc, pm, an, cdv, ct, osl, rfl, lk, hcd⟩ := D.F.ex
  exact LamX.pe_lamcall (a := "_law_ask") hg D.g D.F.kp lk hcd hb scHe rfl (.inl rfl) (heard_gives hd.B T1 T2 T3 T4 hN ex hgd hr) TB hcode (by rw [hq]; exact hm) (fun p hp e => by rw [hq]; exact hun p hp e) hr L hdef hbind hbody
/-! ### what stays behind a step of the law: all but the source, the things at xs, and the tables of code -/
theorem BoxO.ext {b : Addr} {H1 H2 : Hp} (h : BoxO H1 b) (e : LamX.ExtN H1 H2) : BoxO H2 b := let ⟨x, y, u, q⟩ := h; ⟨x, y, u, e _ _ q (fun ps z => by cases z)⟩
theorem BoxO.nn {b p : Addr} {H : Hp} (h : BoxO H b) (hp : H p = none) : p ≠ b := (Bx.refl h).ne hp
theorem tabs_bx {b : Addr} {T : List (Addr × Str)} {H1 H2 : Hp} (t : LamX.Tabs T H1) (hb : BoxO H1 b) (x : Bx b H1 H2) : LamX.Tabs T H2 := fun p hp => by
  obtain ⟨ps, h1, h2, h3⟩ := t p hp
  refine ⟨ps, x.2 _ _ h1 (hb.ne h1 fun xs => by intro z; cases z), h2, fun pos cv hc => ?_⟩
  obtain ⟨c, e1, e2⟩ := h3 pos cv hc
  exact ⟨c, e1, x.2 _ _ e2 (hb.ne e2 fun xs => by intro z; unfold LamX.CodeO at z; cases z)⟩
structure Lw (b : Addr) (T : List (Addr × Str)) (xs : List Addr) (H H' : Hp) : Prop where
  bx : BoxO H' b
  tb : LamX.Tabs T H'
  ks : Ks (b :: xs) H H'
section
variable {b : Addr} {T : List (Addr × Str)} {xs : List Addr} {H H1 H2 : Hp}
theorem Lw.refl (hb : BoxO H b) (t : LamX.Tabs T H) : Lw b T xs H H := ⟨hb, t, Ks.refl⟩
theorem Lw.trans (a : Lw b T xs H H1) (c : Lw b T xs H1 H2) : Lw b T xs H H2 := ⟨c.bx, c.tb, a.ks.trans c.ks⟩
theorem Lw.same (a : Lw b T xs H H1) (s : Same H1 H2) : Lw b T xs H H2 := ⟨a.bx.same s, a.tb.ext s, a.ks.same s⟩
theorem Lw.new {p : Addr} {o : HO} (a : Lw b T xs H H1) (hp : H1 p = none) : Lw b T xs H (upd H1 p o) := a.same (same_new hp)
theorem ks_bx (x : Bx b H1 H2) : Ks (b :: xs) H1 H2 := fun c o e n _ => x.2 c o e fun z => n (by rw [z]; exact List.mem_cons_self)
theorem Lw.box (a : Lw b T xs H H1) (x : Bx b H1 H2) : Lw b T xs H H2 := ⟨x.1, tabs_bx a.tb a.bx x, a.ks.trans (ks_bx x)⟩
theorem Lw.ext (a : Lw b T xs H H1) (e : LamX.ExtN H1 H2) (t : LamX.Tabs T H2) : Lw b T xs H H2 := ⟨a.bx.ext e, t, a.ks.trans fun c o q _ n => e _ _ q n⟩
theorem Lw.nn {p : Addr} (a : Lw b T xs H H1) (hp : H1 p = none) : p ≠ b := a.bx.nn hp
end
/-! ### texts -/
theorem strOk_iff {x : Str} : PyData.strOk x = true ↔ ∀ c ∈ x.cps.toList, c < 0x110000 := by
  unfold PyData.strOk
  rw [← Array.all_toList, List.all_eq_true]
  exact ⟨fun h c hc => of_decide_eq_true (h c hc), fun h c hc => decide_eq_true (h c hc)⟩
theorem ok_int (i : Int) : PyData.strOk (PyData.int i).shown = true := strOk_iff.mpr fun c hc => by
  by_cases z : c ≠ 45 ∧ (c < 48 ∨ 57 < c)
  · exact absurd hc (shown_int_free' z i)
  · omega
theorem ok_shAll : ∀ ds : List PyData, (∀ d ∈ ds, PyData.strOk d.shown = true) → ∀ t ∈ PyData.shownAll ds, PyData.strOk t = true
  | [], _, t, ht => by
    unfold PyData.shownAll at ht
    cases ht
  | d :: r, h, t, ht => by
    unfold PyData.shownAll at ht
    rcases List.mem_cons.mp ht with e | e
    · rw [e]; exact h d List.mem_cons_self
    · exact ok_shAll r (fun x hx => h x (List.mem_cons_of_mem _ hx)) t e
theorem ok_list {ds : List PyData} (h : ∀ d ∈ ds, PyData.strOk d.shown = true) : PyData.strOk (PyData.list ds).shown = true := strOk_iff.mpr fun c hc => by
  rw [PyData.shown_list, mem_cps_append, mem_cps_append, mem_join] at hc
  rcases hc with (hc | (⟨t, ht, hc⟩ | ⟨_, hc⟩)) | hc
  · exact strOk_iff.mp (by decide +kernel : PyData.strOk "[" = true) c hc
  · exact strOk_iff.mp (ok_shAll ds h t ht) c hc
  · exact strOk_iff.mp (by decide +kernel : PyData.strOk ", " = true) c hc
  · exact strOk_iff.mp (by decide +kernel : PyData.strOk "]" = true) c hc
/-- a value with the text that repr gives for it, as long as all but xs stands -/
structure Vl (K : PySem.W.Frag) (xs : List Addr) (H : Hp) (v : V) (o : Option (List V)) (x : Str) : Prop where
  ok : PyData.strOk x = true
  sh : ∀ H' Q, Ks xs H H' → Q (.str x) H' → rReprS [v] H' Q ∨ rRepr K [v] H' Q
  rd : ∀ H', Ks xs H H' → Rw K H' v o
theorem Vl.ks {K : PySem.W.Frag} {xs : List Addr} {H H1 : Hp} {v : V} {o : Option (List V)} {x : Str} (h : Vl K xs H v o x) (k : Ks xs H H1) : Vl K xs H1 v o x := ⟨h.ok, fun H' Q k2 q => h.sh H' Q (k.trans k2) q, fun H' k2 => h.rd H' (k.trans k2)⟩
theorem Vl.rso {K : PySem.W.Frag} {xs : List Addr} {H : Hp} {v : V} {o : Option (List V)} {x : Str} (h : Vl K xs H v o x) : RSo K H v x := fun H' Q s q => h.sh H' Q (fun c o e _ _ => s _ _ e) q
theorem log64 {i : Int} (h : i.natAbs < 2 ^ 64) : i.natAbs.log2 < 1920 := by
  by_cases z : i.natAbs = 0
  · rw [z]; decide
  · have : i.natAbs.log2 < 64 := (Nat.log2_lt z).mpr h
    omega
/-- an item of a list -/
structure Im (K : PySem.W.Frag) (xs : List Addr) (H : Hp) (v : V) (d : PyData) : Prop where
  ok : PyData.strOk d.shown = true
  pl : Pl d 1 200
  rd : ∀ H', Ks xs H H' → Dp K H' v d ∧ ∃ o, KV K H' v o
inductive Ims (K : PySem.W.Frag) (xs : List Addr) (H : Hp) : List V → List PyData → Prop
  | nil : Ims K xs H [] []
  | cons {v : V} {d : PyData} {vs : List V} {ds : List PyData} (a : Im K xs H v d) (r : Ims K xs H vs ds) : Ims K xs H (v :: vs) (d :: ds)
section
variable {K : PySem.W.Frag} {xs : List Addr} {H : Hp}
theorem rw0 {H' : Hp} {v : V} (h : KV K H' v none) : Rw K H' v none := ⟨h, fun ys e => by cases e⟩
theorem vl_int {i : Int} (h : i.natAbs < 2 ^ 64) : Vl K xs H (.int i) none (toString i) := ⟨ok_int i, fun H' Q _ q => .inl ⟨_, rfl, .inr (.inr (.inl ⟨i, rfl, log64 h, q⟩))⟩, fun H' _ => rw0 (.int i)⟩
theorem vl_non : Vl K xs H .non none "None" := ⟨by decide +kernel, fun H' Q _ q => .inl ⟨_, rfl, .inl ⟨rfl, q⟩⟩, fun H' _ => rw0 .non⟩
theorem vl_true : Vl K xs H (.bl true) none "True" := ⟨by decide +kernel, fun H' Q _ q => .inl ⟨_, rfl, .inr (.inl ⟨true, rfl, q⟩)⟩, fun H' _ => rw0 (.bl true)⟩
theorem vl_str {s : Str} (h1 : PyData.strOk (reprText s) = true) (h2 : (reprText s).length ≤ sizeLine) : Vl K xs H (.str s) none (reprText s) := ⟨h1, fun H' Q _ q => .inl ⟨_, rfl, .inr (.inr (.inr ⟨s, rfl, h2, q⟩))⟩, fun H' _ => rw0 (.str s)⟩
theorem im_int {i : Int} (h : i.natAbs < 10 ^ 19) : Im K xs H (.int i) (.int i) := ⟨ok_int i, (Pl.int h).mono (by decide) (by decide), fun H' _ => ⟨.int i, none, .int i⟩⟩
theorem im_non : Im K xs H .non .none := ⟨by decide +kernel, pl_non.mono (by decide) (by decide), fun H' _ => ⟨.non, none, .non⟩⟩
theorem im_true : Im K xs H (.bl true) (.bool true) := ⟨by decide +kernel, (Pl.bl true).mono (by decide) (by decide), fun H' _ => ⟨.bl true, none, .bl true⟩⟩
theorem im_str {s : Str} (h0 : PyData.strOk (PyData.str s).shown = true) (h1 : PyData.strOk s = true) (h2 : s.cps.size ≤ 100) (h3 : (s.cps.toList.all fun c => decide (c < 16 ^ 8)) = true) : Im K xs H (.str s) (.str s) := ⟨h0, (pl_str h1 h2 h3).mono (by decide) (by decide), fun H' _ => ⟨.str s, none, .str s⟩⟩
theorem im_one {p : Addr} (hp : H p = some (.lst [.int 1])) (n : p ∉ xs) : Im K xs H (.ref p) (.list [.int 1]) :=
  ⟨by decide +kernel, (Pl.list (PlA.cons (Pl.int (i := 1) (by decide)) PlA.nil)).mono (by decide) (by decide), fun H' k => ⟨.lst (SqL.of (k.lst hp n)) (.cons (.int 1) .nil), _, .lst (k.lst hp n)⟩⟩
theorem ims_ints : ∀ t : List Int, (∀ i ∈ t, i.natAbs < 10 ^ 19) → Ims K xs H (vrow t) (dI t)
  | [], _ => .nil
  | i :: r, h => .cons (im_int (h i List.mem_cons_self)) (ims_ints r fun j hj => h j (List.mem_cons_of_mem _ hj))
theorem Ims.app {vs ws : List V} {ds es : List PyData} (a : Ims K xs H vs ds) (b : Ims K xs H ws es) : Ims K xs H (vs ++ ws) (ds ++ es) := by
  induction a with
  | nil => exact b
  | cons x _ ih => exact .cons x ih
theorem Ims.ok {vs : List V} {ds : List PyData} (a : Ims K xs H vs ds) : ∀ d ∈ ds, PyData.strOk d.shown = true := by
  induction a with
  | nil => intro d h; cases h
  | cons x _ ih =>
    intro d h
    rcases List.mem_cons.mp h with e | e
    · rw [e]; exact x.ok
    · exact ih d e
theorem Ims.pl {vs : List V} {ds : List PyData} (a : Ims K xs H vs ds) : PlA ds 1 (vs.length * 201) := by
  induction a with
  | nil => exact PlA.nil.mono (by decide) (by decide)
  | cons x _ ih => exact (PlA.cons x.pl ih).mono (by decide) (by simp only [List.length_cons]; omega)
theorem Ims.rd {vs : List V} {ds : List PyData} (a : Ims K xs H vs ds) {H' : Hp} (k : Ks xs H H') : DpAll K H' vs ds ∧ Kinds K H' vs := by
  induction a with
  | nil => exact ⟨.nil, fun x hx => by cases hx⟩
  | cons x _ ih =>
    obtain ⟨h1, h2⟩ := x.rd H' k
    refine ⟨.cons h1 ih.1, fun y hy => ?_⟩
    rcases List.mem_cons.mp hy with e | e
    · rw [e]; exact h2
    · exact ih.2 y e
theorem vl_lst {p : Addr} {vs : List V} {ds : List PyData} (hp : H p = some (.lst vs)) (n : p ∉ xs) (a : Ims K xs H vs ds) (hl : vs.length ≤ 400) : Vl K xs H (.ref p) (some vs) (PyData.list ds).shown := by
  refine ⟨ok_list a.ok, fun H' Q k q => .inr (reprP (.lst (SqL.of (k.lst hp n)) (a.rd k).1) (Pl.list a.pl) (by decide) (by omega) q), fun H' k => ⟨.lst (k.lst hp n), fun ys e => ?_⟩⟩
  obtain rfl := Option.some.inj e
  exact (a.rd k).2
/-- what is no number below n -/
def oddH (n : Int) : List V := [.int n, .int (-1), .non, .bl true, .str "0"]
theorem oddH_vl {n : Int} {v : V} (h0 : 0 ≤ n) (h1 : n ≤ 1000) (h : v ∈ oddH n) : belowB v n = false ∧ ∃ x, Vl K xs H v none x := by
  simp only [oddH, List.mem_cons, List.mem_nil_iff, or_false] at h
  rcases h with rfl | rfl | rfl | rfl | rfl
  · refine ⟨?_, _, vl_int (by omega)⟩
    show (decide (0 ≤ n) && decide (n < n)) = false
    rw [decide_eq_false (Int.lt_irrefl _), Bool.and_false]
  · exact ⟨rfl, _, vl_int (by decide)⟩
  · exact ⟨rfl, _, vl_non⟩
  · exact ⟨rfl, _, vl_true⟩
  · exact ⟨rfl, _, vl_str (by decide +kernel) (by decide +kernel)⟩
end
/-! ### what the ear tells, compared -/
theorem ear {K : PySem.W.Frag} {Q : VK} {p p2 : Addr} {H : Hp} {vs : List V} {ds : List PyData} (h1 : H p = some (.tup vs)) (h2 : H p2 = some (.tup vs)) (hd : DpAll K H vs ds) (lay : PyData.canLay0 (.tuple ds) = true) (sh : SeqAt.shaped (.tuple ds) = true) (q : Q (.bl false) H) : rNeD K (.ref p) (.ref p2) H Q :=
  ⟨_, _, .tup (SqT.of h1) hd, .tup (SqT.of h2) hd, sh, sh, qbl (by rw [SeqAt.eqv_refl _ lay]; rfl) q⟩
theorem layS {y x : Str} {b : Bool} (hy : PyData.strOk y = true) (hx : PyData.strOk x = true) : PyData.canLay0 (.tuple [.str y, .str x, .bool b]) = true := by simp only [PyData.canLay0, PyData.canLayAll0, Bool.and_self, hx, hy]
theorem shS {y x : Str} {b : Bool} (hy : PyData.strOk y = true) (hx : PyData.strOk x = true) : SeqAt.shaped (.tuple [.str y, .str x, .bool b]) = true := by
  unfold SeqAt.shaped
  rw [layS hy hx]
  simp only [PyData.depth, PyData.depthAll]
  exact (by decide : (true && decide (max 0 (max 0 (max 0 0)) + 1 ≤ 64)) = true)
theorem earS {K : PySem.W.Frag} {Q : VK} {p p2 : Addr} {H : Hp} {y x : Str} {b : Bool} (hy : PyData.strOk y = true) (hx : PyData.strOk x = true) (h1 : H p = some (.tup [.str y, .str x, .bl b])) (h2 : H p2 = some (.tup [.str y, .str x, .bl b])) (q : Q (.bl false) H) : rNeD K (.ref p) (.ref p2) H Q :=
  ear h1 h2 (.cons (.str y) (.cons (.str x) (.cons (.bl b) .nil))) (layS hy hx) (shS hy hx) q
theorem earE {K : PySem.W.Frag} {Q : VK} {p p2 : Addr} {H : Hp} {y x : Str} {b : Bool} (hy : PyData.strOk y = true) (hx : PyData.strOk x = true) (h1 : H p = some (.tup [.str y, .str x, .bl b])) (h2 : H p2 = some (.tup [.str y, .str x, .bl b])) (q : Q (.bl true) H) : rEqD K (.ref p) (.ref p2) H Q :=
  have hd : DpAll K H [V.str y, .str x, .bl b] [.str y, .str x, .bool b] := .cons (.str y) (.cons (.str x) (.cons (.bl b) .nil))
  ⟨_, _, .tup (SqT.of h1) hd, .tup (SqT.of h2) hd, shS hy hx, shS hy hx, qbl (by rw [SeqAt.eqv_refl _ (layS hy hx)]) q⟩
theorem Vl.same {K : PySem.W.Frag} {xs : List Addr} {H H1 : Hp} {v : V} {o : Option (List V)} {x : Str} (h : Vl K xs H v o x) (s : Same H H1) : Vl K xs H1 v o x := h.ks fun c o e _ _ => s _ _ e
section
variable {P : Program} {w : World} {K : PySem.W.Frag} {mg : Str → Option Value} {base : Heap}
theorem okG {x qual : Str} {st : Stmt} {f : Addr} {fd : FuncData} {N ps : List Str} {k : Nat} {sp : Sp} (F : Fun K x qual st f fd) (S : FnScope N ps (defScope st)) (len : ∀ vs H Q E, sp vs H Q E → vs.length = ps.length)
    (hbody : ∀ (cdv : Value) (A : Around) (outer : List Env) (s : Shared) (H : Hp) (vs : List V) (Q : VK) (E : XK), Room k (A.deeper (envOfC qual (defScope st) s.heap.objs.size f cdv)) → (A.deeper (envOfC qual (defScope st) s.heap.objs.size f cdv)).guards = some [] → sp vs H Q E →
      ∃ t, PSs (cxOf CX0 P w K mg base N qual (defScope st) f cdv A outer s H E).nox (defBody st) t ∧ t { nx := fun _ H' => Q .non H', rt := Q } (start N vs) H) : FnG P w K mg base (k + 1) f fd ps sp := by
  obtain ⟨oc, od, kV, doc, pm, an, cdv, ct, osl, rfl, lk, hcd⟩ := F.ex
  refine ⟨len, fun A outer s H args us vs Q E hr hgd e0 hb r hsp => ?_⟩
  refine LamX.run_ofS lk hcd S hr e0 hb r (len _ _ _ _ hsp) fun hr' => ?_
  obtain ⟨t, h, q⟩ := hbody cdv A outer s H vs Q E hr' hgd hsp
  exact ⟨t, h.nox, q⟩
end
end K1
namespace K1
open PySem PySem.Spec PyProof.Rows L2
theorem lc_enumL {K : PySem.W.Frag} {a : Addr} {xs : List V} {g : TG} {tt : TT} {te : TE} {vs : List Nat} {σ : L2.St} {H1 : Hp} {D : Addr} {Qd : Hp → Prop} (Pv : Nat → Hp → Prop) (h0 : Pv 0 (upd H1 D (.lst []))) (hl : ∀ i H, i ≤ xs.length → Pv i H → SqL K H a xs)
    (hs : ∀ i x T H, xs[i]? = some x → H T = none → Pv i H → g (.ref T) (wipe σ vs) (upd H T (.tup [.int (i : Nat), x])) fun σ2 H2 => wipe σ2 vs = wipe σ vs ∧ tt σ2 H2 fun b H3 =>
      if b = true then te σ2 H3 fun y H4 => ∃ acc, H4 D = some (.lst acc) ∧ acc.length < sizeLine ∧ Pv (i + 1) (upd H4 D (.lst (acc ++ [y]))) else Pv (i + 1) H3) (hd : ∀ H, Pv xs.length H → Qd H) :
    ∃ W : Nat → Nat → Hp → Prop, (∃ m, W 0 m (upd H1 D (.lst []))) ∧ ∀ i m H, W i m H →
      ((Ite K a).stop i H ∧ Qd H) ∨ ((Ite K a).go i H ∧ ∃ Nx : Hp → Prop, (∀ H', Nx H' → ∃ m', m' < m ∧ W (i + 1) m' H') ∧ ∀ x H', (Ite K a).yld i H x H' → g x (wipe σ vs) H' fun σ2 H2 => wipe σ2 vs = wipe σ vs ∧ tt σ2 H2 fun b H3 =>
        if b = true then te σ2 H3 fun y H4 => ∃ acc, H4 D = some (.lst acc) ∧ acc.length < sizeLine ∧ Nx (upd H4 D (.lst (acc ++ [y]))) else Nx H3) := by
  refine ⟨fun i m H => m = xs.length - i ∧ i ≤ xs.length ∧ Pv i H, ⟨xs.length, by simp, Nat.zero_le _, h0⟩, ?_⟩
  rintro i m H ⟨rfl, hi, p⟩
  have q := hl i H hi p
  by_cases hlt : i < xs.length
  · refine .inr ⟨⟨xs, xs[i], q, by simp [hlt]⟩, Pv (i + 1), fun H' p' => ⟨xs.length - (i + 1), by omega, rfl, hlt, p'⟩, fun x H' y => ?_⟩
    obtain ⟨T, x', e1, e2, e3, e4⟩ := y
    subst e1 e3
    exact hs i x' T H (e4 xs q) e2 p
  · have e : i = xs.length := by omega
    subst e
    exact .inl ⟨⟨xs, q, Nat.le_refl _⟩, hd H p⟩
theorem PrsA.snoc {H : Hp} {as : List Addr} {ts : Prs} {a : Addr} {t : Nat × Nat} (h : PrsA H as ts) (ha : H a = some (.tup (pV t))) : PrsA H (as ++ [a]) (ts ++ [t]) := by
  refine ⟨by rw [List.length_append, List.length_append, h.1]; rfl, fun i b u e1 e2 => ?_⟩
  by_cases hi : i < as.length
  · rw [List.getElem?_append_left hi] at e1
    rw [List.getElem?_append_left (by rw [← h.1]; exact hi)] at e2
    exact h.2 i b u e1 e2
  · rw [List.getElem?_append_right (by omega)] at e1
    rw [List.getElem?_append_right (by rw [← h.1]; omega), ← h.1] at e2
    cases z : i - as.length with
    | zero =>
      rw [z] at e1 e2
      obtain rfl : a = b := Option.some.inj e1
      obtain rfl : t = u := Option.some.inj e2
      exact ha
    | succ n => rw [z] at e1; cases e1
theorem PrsA.kp {H H' : Hp} {as : List Addr} {ts : Prs} (h : PrsA H as ts) (k : ∀ a xs, H a = some (.tup xs) → H' a = some (.tup xs)) : PrsA H' as ts := ⟨h.1, fun i a t e1 e2 => k _ _ (h.2 i a t e1 e2)⟩
theorem TiesT.kp {H H' : Hp} {ta : Addr} {ts : Prs} (h : TiesT H ta ts) (k : ∀ a xs, H a = some (.tup xs) → H' a = some (.tup xs)) : TiesT H' ta ts := let ⟨as, h1, h2⟩ := h; ⟨as, k _ _ h1, h2.kp k⟩
theorem WebAt.kp {W w : Addr} {H H' : Hp} {n : Nat} {ts : Prs} (h : WebAt W H w n ts) (k : ∀ a xs, H a = some (.tup xs) → H' a = some (.tup xs)) (k2 : ∀ dx fs, H w = some (.ins W dx fs) → H' w = some (.ins W dx fs)) : WebAt W H' w n ts := let ⟨dx, ta, h1, h2⟩ := h; ⟨dx, ta, k2 _ _ h1, h2.kp k⟩
theorem other_house {n a y : Nat} (ha : a < n) (hy : y + 1 < n) : (a + 1 + y) % n < n ∧ (a + 1 + y) % n ≠ a := by
  refine ⟨Nat.mod_lt _ (by omega), ?_⟩
  rcases Nat.lt_or_ge (a + 1 + y) n with c | c
  · rw [Nat.mod_eq_of_lt c]; omega
  · rw [Nat.mod_eq_sub_mod c, Nat.mod_eq_of_lt (by omega)]; omega
def TiesL (H : Hp) (l : Addr) (ts : Prs) : Prop := ∃ as : List Addr, H l = some (.lst (as.map V.ref)) ∧ PrsA H as ts
def RwsL (H : Hp) (as : List Addr) (rs : Rws) : Prop := as.length = rs.length ∧ ∀ (i : Nat) a r, as[i]? = some a → rs[i]? = some r → H a = some (.lst (vrow r))
theorem RwsL.get {H : Hp} {as : List Addr} {rs : Rws} (h : RwsL H as rs) {i : Nat} {r : List Int} (e : rs[i]? = some r) : ∃ a, as[i]? = some a ∧ H a = some (.lst (vrow r)) := by
  obtain ⟨a, ha⟩ := ex_at (l := as) (i := i) (by rw [h.1]; exact lt_at e)
  exact ⟨a, ha, h.2 i a r ha e⟩
theorem RwsL.snoc {H H' : Hp} {as : List Addr} {rs : Rws} {a : Addr} {r : List Int} (h : RwsL H as rs) (k : ∀ c xs, c ∈ as → H c = some (.lst xs) → H' c = some (.lst xs)) (ha : H' a = some (.lst (vrow r))) : RwsL H' (as ++ [a]) (rs ++ [r]) := by
  refine ⟨by rw [List.length_append, List.length_append, h.1]; rfl, fun i c t e1 e2 => ?_⟩
  have l := h.1
  rcases snoc_at e1 with e1 | ⟨i1, rfl⟩
  · rcases snoc_at e2 with e2 | ⟨i2, rfl⟩
    · exact k _ _ (List.mem_of_getElem? e1) (h.2 i c t e1 e2)
    · have := lt_at e1
      omega
  · rcases snoc_at e2 with e2 | ⟨i2, rfl⟩
    · have := lt_at e2
      omega
    · exact ha
theorem at_last {xs : List V} {x : V} (h : xs[xs.length - 1]? = some x) : atI xs (-1) = some x := by
  have l := lt_at h
  unfold atI ixN
  rw [if_neg (by omega), if_pos (by omega)]
  show xs[((xs.length : Int) + -1).toNat]? = some x
  rw [show ((xs.length : Int) + -1).toNat = xs.length - 1 by omega]
  exact h
theorem metL_eq {n : Nat} {ts : Prs} {cs : List Int} {t : Nat} {p : Nat × Nat} (hW : Wv n ts) (hl : cs.length = n + ts.length) (hp : ts[t]? = some p) : metC 0 n ts cs t = (List.range cs.length).map fun i => if i ∈ [p.1, p.2, n + t] then cs.getD p.1 0 + cs.getD p.2 0 - cs.getD (n + t) 0 else cs.getD i 0 := by
  refine getD_ext (by rw [metC_len, List.length_map, List.length_range]) fun i hi => ?_
  rw [metC_len] at hi
  rw [map_getD, if_pos hi, metC_getD hW hl hp]
  have e : metV 0 n cs p t = cs.getD p.1 0 + cs.getD p.2 0 - cs.getD (n + t) 0 := by unfold metV cby; rw [if_pos rfl]
  rw [e]
  by_cases c : i = p.1 ∨ i = p.2 ∨ i = n + t
  · rw [if_pos c, if_pos (by simpa using c)]
  · rw [if_neg c, if_neg (by simpa using c)]
theorem dlt_app {n L h : Nat} (hn : h < n) : dlt (n + L) h = dlt n h ++ (List.range L).map fun _ => (0 : Int) := by
  refine getD_ext (by rw [dlt_len, List.length_append, dlt_len, List.length_map, List.length_range]) fun i hi => ?_
  rw [dlt_len] at hi
  rw [dlt_getD, if_pos hi, List.getD_eq_getElem?_getD, List.getElem?_append, dlt_len]
  by_cases c : i < n
  · rw [if_pos c, dlt, rows_at c]; rfl
  · rw [if_neg c, rows_at (by omega), if_neg (by omega)]; rfl
def spTies : Sp := fun vs H Q _ => ∃ (b : Addr) (n k : Nat), vs = [.ref b, .int (n : Int), .int (k : Int)] ∧ BoxO H b ∧ 2 ≤ n ∧ n ≤ 12 ∧ k ≤ 20 ∧ ∀ l ts H', Bx b H H' → H l = none → TiesL H' l ts → Wv n ts → ts.length ≤ k → Q (.ref l) H'
def spMetL : Sp := fun vs H Q _ => ∃ (tl cl ml : Addr) (n : Nat) (ts : Prs) (cs : List Int) (o : List Nat), vs = [.ref tl, .int (n : Int), .ref cl, .ref ml] ∧ TiesL H tl ts ∧ Wv n ts ∧ H cl = some (.lst (vrow cs)) ∧ cs.length = n + ts.length ∧ H ml = some (.lst (vn o)) ∧ (∀ t ∈ o, t < ts.length) ∧ ∀ r H', Same H H' → (r = cl ∨ H r = none) → H' r = some (.lst (vrow (runC 0 n ts cs o))) → Q (.ref r) H'
def spBegun : Sp := fun vs H Q _ => ∃ (tl : Addr) (n h : Nat) (ts : Prs), vs = [.ref tl, .int (n : Int), .int (h : Int)] ∧ TiesL H tl ts ∧ n ≤ 12 ∧ ts.length ≤ 20 ∧ h < n ∧ ∀ r H', Same H H' → H r = none → H' r = some (.lst (vrow (dlt (n + ts.length) h))) → Q (.ref r) H'
def spSplit : Sp := fun vs H Q _ => ∃ (c : Addr) (n : Nat) (cs : List Int), vs = [.int (n : Int), .ref c] ∧ H c = some (.lst (vrow cs)) ∧ n ≤ cs.length ∧ ∀ r a b H', Same H H' → H' r = some (.tup [.ref a, .ref b]) → H' a = some (.tup (vrow (cs.take n))) → H' b = some (.tup (vrow (cs.drop n))) → Q (.ref r) H'
section
variable {P : Program} {w : World} {K : PySem.W.Frag} {mg : Str → Option Value} {base : Heap}
abbrev nTs : List Str := ["_law_box_here", "_law_houses", "_law_most", "_law_found", "_law_turn", "_law_one"]
theorem scTs : FnScope nTs ["_law_box_here", "_law_houses", "_law_most"] (defScope sLTies) := ⟨rfl, rfl, rfl, by decide +kernel, rfl, by decide +kernel, by decide +kernel⟩
theorem ok_ties {f fT : Addr} {fd fdT : FuncData} (D : Df K mg "_law_ties" sLTies ["_law_box_here", "_law_houses", "_law_most"] f fd) (DT : Df K mg "_law_take" sLTake ["_law_box_here", "_law_many"] fT fdT) (B : Bt mg) (GT : FnOk P w K mg base CX0 1 fT fdT ["_law_box_here", "_law_many"] spTake) : FnOk P w K mg base CX0 2 f fd ["_law_box_here", "_law_houses", "_law_most"] spTies := by
  refine D.F.ok scTs (fun vs H Q E h => ?_) (fun cdv A outer s H vs Q E hr h => ?_)
  · obtain ⟨b, n, k, rfl, _⟩ := h
    rfl
  · obtain ⟨b, n, k, rfl, hb, n2, n12, k20, q⟩ := h
    refine ⟨_, pss_cons (ps_set (i := 3) scTs.nd rfl (.inl rfl) (pe_lst pa_nil))
      (pss_cons (ps_for PassesOwn.never rfl (pi_range1 (by rfl) B.range (pa_cons (pc DT GT hr pass0 (pa_cons (pv 0) (pa_cons (pe_op op_add (pv 2) pe_int) pa_nil))) pa_nil)) (pg_name (i := 4) scTs.nd rfl (.inl rfl))
        (pss_cons (ps_set (i := 5) scTs.nd rfl (.inl rfl) (pc DT GT hr pass0 (pa_cons (pv 0) (pa_cons (pv 1) pa_nil))))
        (pss_one (ps_expr (pe_bm PySem.F.plainAttrs_list PySem.F.slot_list_append PySem.F.type_list_append mt_append (pv 3) (pa_cons (pe_tup (pa_cons (pv 5) (pa_cons (pe_op op_mod (pe_callTy call_int1 (by rfl) B.int PyProof.Rows.boot_int (pa_cons (pe_op op_add (pe_op op_add (pv 5) pe_int) (pc DT GT hr pass0 (pa_cons (pv 0) (pa_cons (pe_op op_sub (pv 1) pe_int) pa_nil)))) pa_nil)) (pv 1)) pa_nil))) pa_nil))))))
      (pss_one (ps_ret (pv 3)))), ?_⟩
    refine ⟨(by show 0 ≤ sizeLine; decide), fun l hl => ?_⟩
    have nl : l ≠ b := (Bx.refl hb).ne hl
    have bx0 := (Bx.refl hb).new (o := HO.lst []) hl
    have hl0 : (upd H l (.lst [])) l = some (.lst []) := upd_same
    generalize upd H l (.lst []) = H1 at bx0 hl0 ⊢
    refine gn ?_
    dsimp only [List.set]
    refine ⟨_, rfl, _, rfl, _, _, rfl, rfl, b, _, rfl, bx0.1, by omega, by omega, fun many H2 m0 m1 bx1 => ?_⟩
    obtain ⟨M, rfl⟩ : ∃ M : Nat, many = (M : Int) := ⟨many.toNat, by omega⟩
    have bx2 := bx0.trans bx1
    have hl2 := bx1.2 _ _ hl0 nl
    refine ⟨(M : Int), rfl, by omega, by omega, for_range (fun j σ H' => ∃ (as : List Addr) (ts : Prs) (v4 v5 : Option V), σ = [some (.ref b), some (.int (n : Int)), some (.int (k : Int)), some (.ref l), v4, v5] ∧ Bx b H H' ∧ H' l = some (.lst (as.map V.ref)) ∧ PrsA H' as ts ∧ (∀ p ∈ ts, p.1 < n ∧ p.2 < n ∧ p.1 ≠ p.2) ∧ ts.length = j) ⟨[], [], none, none, rfl, bx2, hl2, ⟨rfl, fun i a t e => by cases e⟩, fun p hp => (by cases hp), rfl⟩ ?_ ?_⟩
    · rintro j σ H3 hj ⟨as, ts, v4, v5, rfl, bx3, hl3, pa, pr, lt⟩
      refine ⟨_, rfl, _, rfl, b, n, rfl, bx3.1, by omega, by omega, fun x H4 x0 x1 bx4 => ?_⟩
      obtain ⟨c, rfl⟩ : ∃ c : Nat, x = (c : Int) := ⟨x.toNat, by omega⟩
      refine gn ?_
      dsimp only [List.set]
      have bx5 := bx3.trans bx4
      have hl4 := bx4.2 _ _ hl3 nl
      refine ⟨_, rfl, .inl ⟨rfl, _, SqL.of hl4⟩, _, rfl, _, rfl, _, _, rfl, rfl, _, rfl, _, rfl, _, _, rfl, rfl, b, _, rfl, bx5.1, by omega, by omega, fun y H5 y0 y1 bx6 => ⟨_, _, rfl, rfl, .inl ⟨_, rfl, _, rfl, _, _, rfl, rfl, by omega, ?_⟩⟩⟩
      obtain ⟨e, rfl⟩ : ∃ e : Nat, y = (e : Int) := ⟨y.toNat, by omega⟩
      have bx7 := bx5.trans bx6
      have hl5 := bx6.2 _ _ hl4 nl
      obtain ⟨on, one⟩ := other_house (n := n) (a := c) (y := e) (by omega) (by omega)
      have eo : ((c : Int) + 1 + (e : Int)) % (n : Int) = (((c + 1 + e) % n : Nat) : Int) := by rw [Int.natCast_emod]; rfl
      refine ⟨(by show 2 ≤ sizeLine; decide), fun T hT => ?_⟩
      have sT := same_new (o := HO.tup [V.int (c : Int), .int (((c : Int) + 1 + (e : Int)) % (n : Int))]) hT
      have la := pa.1
      refine ⟨l, _, _, rfl, rfl, sT _ _ hl5, szl (by rw [List.length_map]; omega), as ++ [T], ts ++ [(c, (c + 1 + e) % n)], _, _, rfl, ?_, by rw [upd_same, List.map_append]; rfl, ?_, fun p hp => ?_, by rw [List.length_append, lt]; rfl⟩
      · exact (bx7.same sT).put hl nl
      · have pa5 : PrsA H5 as ts := (pa.kp fun a xs h => bx4.tup bx3.1 h).kp fun a xs h => bx6.tup bx5.1 h
        refine ((pa5.same sT).snoc (a := T) (t := (c, (c + 1 + e) % n)) (by rw [upd_same]; unfold pV; dsimp only; rw [eo])).kp fun a xs h => ?_
        rw [upd_ne (ne_of h (sT _ _ hl5) (by intro z; cases z))]
        exact h
      · rcases List.mem_append.mp hp with h | h
        · exact pr p h
        · rw [List.mem_singleton.mp h]; exact ⟨by show c < n; omega, on, one.symm⟩
    · rintro σ H3 ⟨as, ts, v4, v5, rfl, bx3, hl3, pa, pr, lt⟩
      have : ts.length ≤ k := by omega
      exact ⟨_, rfl, q l ts H3 bx3 hl ⟨as, hl3, pa⟩ ⟨by omega, n12, by omega, pr⟩ this⟩
abbrev nMt : List Str := ["_law_ties_here", "_law_houses", "_law_counts", "_law_meetings", "_law_tie", "_law_one", "_law_other", "_law_both", "_law_at", "_law_count"]
theorem scMt : FnScope nMt ["_law_ties_here", "_law_houses", "_law_counts", "_law_meetings"] (defScope sLMet) := ⟨rfl, rfl, rfl, by decide +kernel, rfl, by decide +kernel, by decide +kernel⟩
theorem ok_metL {f : Addr} {fd : FuncData} (D : Df K mg "_law_met" sLMet ["_law_ties_here", "_law_houses", "_law_counts", "_law_meetings"] f fd) (B : Bt mg) : FnOk P w K mg base CX0 1 f fd ["_law_ties_here", "_law_houses", "_law_counts", "_law_meetings"] spMetL := by
  refine D.F.ok scMt (fun vs H Q E h => ?_) (fun cdv A outer s H vs Q E hr h => ?_)
  · obtain ⟨tl, cl, ml, n, ts, cs, o, rfl, _⟩ := h
    rfl
  · obtain ⟨tl, cl, ml, n, ts, cs, o, rfl, ⟨tas, ht, hA⟩, hW, hc, hl, hm, hlt, q⟩ := h
    refine ⟨_, pss_cons (ps_for PassesOwn.never rfl (pi_list (pv 3)) (pg_name (i := 4) scMt.nd rfl (.inr rfl))
        (pss_cons (ps_asg (pe_ix ix_list (pv 0) (pv 4) (fun _ _ => rfl)) (pg_tup rfl (pgs_cons (pg_name (i := 5) scMt.nd rfl (.inr rfl)) (pgs_cons (pg_name (i := 6) scMt.nd rfl (.inr rfl)) pgs_nil))))
        (pss_cons (ps_set (i := 7) scMt.nd rfl (.inr rfl) (pe_op op_sub (pe_op op_add (pe_ix ix_list (pv 2) (pv 5) (fun _ _ => rfl)) (pe_ix ix_list (pv 2) (pv 6) (fun _ _ => rfl))) (pe_ix ix_list (pv 2) (pe_op op_add (pv 1) (pv 4)) (fun _ _ => rfl))))
        (pss_one (ps_setLc (i := 2) (own := [("_law_at", 8), ("_law_count", 9)]) (g := gTup K 2 (gCons (gName 8) (gCons (gName 9) gNil))) (tt := tYes) rfl scMt.nd rfl rfl (sw_true rfl rfl rfl rfl) (pi_enumA (by rfl) B.enumerate (pa_cons (pv 2) pa_nil)) (blkOk_by (N := nMt) (sc := defScope sLMet) (by decide +kernel))
          (fun _ _ _ _ _ => pg_tup rfl (pgs_cons (pg_name (i := 8) scMt.nd rfl (.inl rfl)) (pgs_cons (pg_name (i := 9) scMt.nd rfl (.inl rfl)) pgs_nil))) (fun _ _ _ _ _ => pts_nil)
          (fun _ _ _ _ _ => pe_ifExp (pt_cmpR (opInK (K := K) rfl) (pv 8) (pe_tup (pa_cons (pv 5) (pa_cons (pv 6) (pa_cons (pe_op op_add (pv 1) (pv 4)) pa_nil)))) rfl) (pv 7) (pv 9)))))))
      (pss_one (ps_ret (pv 2))), ?_⟩
    have n12 := hW.n12
    have t20 := hW.t20
    refine ⟨_, rfl, ml, rfl, ⟨_, SqL.of hm⟩, for_list (K := K) (a := ml) (xs := vn o) (fun i σ H' => ∃ (c : Addr) (v4 v5 v6 v7 : Option V), σ = [some (.ref tl), some (.int (n : Int)), some (.ref c), some (.ref ml), v4, v5, v6, v7, none, none] ∧ Same H H' ∧ (c = cl ∨ H c = none) ∧ H' c = some (.lst (vrow (runC 0 n ts cs (o.take i))))) ⟨cl, none, none, none, none, rfl, Same.refl _, .inl rfl, hc⟩ (fun i σ H' _ ⟨_, _, _, _, _, _, s', _⟩ => SqL.of (s' _ _ hm)) ?_ ?_⟩
    · rintro i x σ H1 hx ⟨c, v4, v5, v6, v7, rfl, s1, _, hD⟩
      obtain ⟨t, hto, rfl⟩ := at_vn hx
      have tl' := hlt t (List.mem_of_getElem? hto)
      obtain ⟨pr, hpr⟩ := ex_at tl'
      obtain ⟨p1, p2, p3⟩ := hW.at_ hpr
      obtain ⟨pa, hpa0, hpa⟩ := (hA.same s1).get hpr
      have hpa' : H1 pa = some (.tup [.int (pr.1 : Int), .int (pr.2 : Int)]) := hpa
      have lr : (runC 0 n ts cs (o.take i)).length = n + ts.length := by rw [runC_len, hl]
      have hrun : runC 0 n ts cs (o.take (i + 1)) = metC 0 n ts (runC 0 n ts cs (o.take i)) t := by rw [take_succ hto, runC_snoc]
      generalize runC 0 n ts cs (o.take i) = xs at hD lr hrun ⊢
      have em := metL_eq hW lr hpr
      have et : (n : Int) + (t : Int) = ((n + t : Nat) : Int) := by omega
      refine ⟨_, rfl, _, rfl, tl, _, (t : Int), .ref pa, rfl, rfl, SqL.of (s1 _ _ ht), at_i (map_at hpa0), pa, _, rfl, SqT.of hpa', rfl, _, _, rfl, _, _, rfl, rfl, ?_⟩
      refine ⟨_, rfl, _, rfl, c, _, (pr.1 : Int), .int (xs.getD pr.1 0), rfl, rfl, SqL.of hD, at_i (vrow_get (by omega)), _, rfl, _, rfl, c, _, (pr.2 : Int), .int (xs.getD pr.2 0), rfl, rfl, SqL.of hD, at_i (vrow_get (by omega)), _, _, rfl, rfl, _, rfl, _, rfl, _, rfl, _, _, rfl, rfl, ?_⟩
      refine ⟨c, _, (n : Int) + (t : Int), .int (xs.getD (n + t) 0), rfl, rfl, SqL.of hD, (by rw [et]; exact at_i (vrow_get (by omega))), _, _, rfl, rfl, ?_⟩
      refine gn ?_
      dsimp only [List.set]
      generalize xs.getD pr.1 0 + xs.getD pr.2 0 - xs.getD (n + t) 0 = y at em ⊢
      refine ⟨_, rfl, c, rfl, .inl ⟨_, SqL.of hD, fun D1 hD1 => lc_enumL (K := K) (a := c) (xs := vrow xs) (fun j H' => Same H1 H' ∧ H' D1 = some (.lst (vrow (((List.range xs.length).map fun i => if i ∈ [pr.1, pr.2, n + t] then y else xs.getD i 0).take j)))) ⟨same_new hD1, by rw [upd_same]; rfl⟩ (fun j H' _ ⟨s', _⟩ => SqL.of (s' _ _ hD)) ?_ ?_⟩⟩
      · rintro j x' T H2 hx' hT ⟨s2, hE⟩
        obtain ⟨z, hz, rfl⟩ := vrow_at hx'
        have jl := lt_at hz
        have sT := same_new (o := HO.tup [V.int (j : Nat), .int z]) hT
        refine ⟨T, _, rfl, SqT.of upd_same, rfl, _, _, rfl, _, _, rfl, rfl, rfl, ?_⟩
        refine ⟨_, rfl, _, rfl, _, rfl, _, rfl, _, rfl, _, _, rfl, rfl, (by show 3 ≤ sizeLine; decide), fun T2 hT2 => ?_⟩
        have sT2 := same_new (o := HO.tup (vn [pr.1, pr.2, n + t])) hT2
        refine ⟨T2, vn [pr.1, pr.2, n + t], rfl, .inr (SqT.of upd_same), rfl, flat_vn _, _, rfl, ?_⟩
        simp only [Bool.false_eq_true, if_false]
        have ej : ((List.range xs.length).map fun i => if i ∈ [pr.1, pr.2, n + t] then y else xs.getD i 0)[j]? = some (if j ∈ [pr.1, pr.2, n + t] then y else xs.getD j 0) := rows_at jl
        have ez : xs.getD j 0 = z := by rw [List.getD_eq_getElem?_getD, hz]; rfl
        have fin : ∀ v : V, v = .int (if j ∈ [pr.1, pr.2, n + t] then y else xs.getD j 0) → ∃ acc, (upd (upd H2 T (.tup [V.int (j : Nat), .int z])) T2 (.tup (vn [pr.1, pr.2, n + t]))) D1 = some (.lst acc) ∧ acc.length < sizeLine ∧ Same H1 (upd (upd (upd H2 T (.tup [V.int (j : Nat), .int z])) T2 (.tup (vn [pr.1, pr.2, n + t]))) D1 (.lst (acc ++ [v]))) ∧ (upd (upd (upd H2 T (.tup [V.int (j : Nat), .int z])) T2 (.tup (vn [pr.1, pr.2, n + t]))) D1 (.lst (acc ++ [v]))) D1 = some (.lst (vrow (((List.range xs.length).map fun i => if i ∈ [pr.1, pr.2, n + t] then y else xs.getD i 0).take (j + 1)))) := fun v ev => by
          refine ⟨_, (sT.trans sT2) _ _ hE, szl (by rw [vrow_len, List.length_take, List.length_map, List.length_range]; omega), fun c' o' e' => ?_, ?_⟩
          · rw [upd_ne (ne_of_none e' hD1)]
            exact (sT.trans sT2) _ _ (s2 _ _ e')
          · rw [upd_same, take_succ ej, ev, vrow, vrow, List.map_append]; rfl
        have ein : inV (V.int (j : Int)) (vn [pr.1, pr.2, n + t]) = decide (j ∈ [pr.1, pr.2, n + t]) := inV_vn j _
        rw [show inV (V.int ((j : Nat) : Int)) (vn [pr.1, pr.2, n + t]) = decide (j ∈ [pr.1, pr.2, n + t]) from ein]
        by_cases cj : j ∈ [pr.1, pr.2, n + t]
        · rw [decide_eq_true cj]
          exact iteT ⟨_, rfl, fin _ (by rw [if_pos cj])⟩
        · rw [decide_eq_false cj]
          exact iteF ⟨_, rfl, fin _ (by rw [if_neg cj, ez])⟩
      · rintro H2 ⟨s2, hE⟩
        rw [List.take_of_length_le (by simp [vrow_len])] at hE
        refine gn ⟨D1, _, _, _, _, rfl, s1.trans s2, .inr (s1.free hD1), ?_⟩
        rw [hrun, em]
        exact hE
    · rintro σ H1 ⟨c, v4, v5, v6, v7, rfl, s1, fr, hD⟩
      rw [vn_len, List.take_of_length_le (Nat.le_refl _)] at hD
      exact ⟨_, rfl, q c H1 s1 fr hD⟩
end
end K1
namespace K1
open PySem PySem.Spec PyProof.Rows L2
/-- the law's rows: behind 0, 1, .. rounds -/
def trl (m : Int) (n : Nat) (ts : Prs) (h : Nat) (tu : List Nat) (j : Nat) : List Int := if m = 0 ∨ j = 0 then runC 0 n ts (dlt (n + ts.length) h) (rep j tu) else red m (runC 0 n ts (dlt (n + ts.length) h) (rep j tu))
theorem trl_len (m : Int) (n : Nat) (ts : Prs) (h : Nat) (tu : List Nat) (j : Nat) : (trl m n ts h tu j).length = n + ts.length := by
  unfold trl
  split
  · rw [runC_len, dlt_len]
  · rw [red_len, runC_len, dlt_len]
theorem trl_next {m : Int} {n : Nat} {ts : Prs} {h : Nat} {tu : List Nat} (hW : Wv n ts) (j : Nat) : trl m n ts h tu (j + 1) = if m = 0 then runC 0 n ts (trl m n ts h tu j) tu else red m (runC 0 n ts (trl m n ts h tu j) tu) := by
  have e : runC 0 n ts (dlt (n + ts.length) h) (rep (j + 1) tu) = runC 0 n ts (runC 0 n ts (dlt (n + ts.length) h) (rep j tu)) tu := by rw [rep_add, rep_one, runC_app]
  by_cases m0 : m = 0
  · rw [if_pos m0]
    unfold trl
    rw [if_pos (.inl m0), if_pos (.inl m0), e]
  · rw [if_neg m0]
    unfold trl
    rw [if_neg (by omega), e]
    by_cases j0 : j = 0
    · rw [if_pos (.inr j0)]
    · rw [if_neg (by omega)]
      exact (cg_red (runC_cg hW (.inl rfl) m0 tu (by rw [red_len, runC_len, dlt_len]) red_cg)).symm
theorem trl_red {m : Int} {n : Nat} {ts : Prs} {h : Nat} {tu : List Nat} (m0 : m ≠ 0) (j : Nat) : red m (trl m n ts h tu j) = red m (runC 0 n ts (dlt (n + ts.length) h) (rep j tu)) := by
  unfold trl
  split
  · rfl
  · exact cg_red red_cg
/-- rows that came round -/
theorem trl_round {m : Int} {n : Nat} {ts : Prs} {h : Nat} {tu : List Nat} (hW : Wv n ts) {i j : Nat} (lt : i < j) (e : trl m n ts h tu i = trl m n ts h tu j) (k : Nat) (hk : i ≤ k) : trl m n ts h tu k = trl m n ts h tu (i + (k - i) % (j - i)) := by
  have sh : ∀ s, trl m n ts h tu (i + s) = trl m n ts h tu (j + s) := fun s => by
    induction s with
    | zero => exact e
    | succ s ih =>
      rw [show i + (s + 1) = i + s + 1 by omega, show j + (s + 1) = j + s + 1 by omega, trl_next hW, trl_next hW, ih]
  have key : ∀ q r, trl m n ts h tu (i + (r + (j - i) * q)) = trl m n ts h tu (i + r) := fun q => by
    induction q with
    | zero => intro r; rw [Nat.mul_zero, Nat.add_zero]
    | succ q ih =>
      intro r
      have : i + (r + (j - i) * (q + 1)) = j + (r + (j - i) * q) := by rw [Nat.mul_succ]; omega
      rw [this, ← sh, ih]
  have := key ((k - i) / (j - i)) ((k - i) % (j - i))
  rw [show i + ((k - i) % (j - i) + (j - i) * ((k - i) / (j - i))) = k by rw [Nat.mod_add_div]; omega] at this
  exact this
theorem ne_rows {H : Hp} {a l : Addr} {r : List Int} {as : List Addr} (ha : H a = some (.lst (vrow r))) (hl : H l = some (.lst (as.map V.ref))) (hr : r ≠ []) : a ≠ l := fun z => by
  rw [z, hl] at ha
  have e : as.map V.ref = vrow r := by
    injection ha with ha
    injection ha
  cases r with
  | nil => exact hr rfl
  | cons x r =>
    cases as with
    | nil => cases e
    | cons y as =>
      injection e with e _
      cases e
theorem set_end (xs : List V) (a b : V) : (xs ++ [a]).set xs.length b = xs ++ [b] := by
  rw [List.set_append, if_neg (Nat.lt_irrefl _), Nat.sub_self]; rfl
theorem ixN_last {n : Nat} (h : 0 < n) : ixN n (-1) = some (n - 1) := by
  unfold ixN
  rw [if_neg (by omega), if_pos (by omega)]
  congr 1
  omega
def spTrail : Sp := fun vs H Q _ => ∃ (tl ol : Addr) (n h k : Nat) (m : Int) (ts : Prs) (tu : List Nat), vs = [.ref tl, .int (n : Int), .int (h : Int), .ref ol, .int (k : Int), .int m] ∧ TiesL H tl ts ∧ Wv n ts ∧ h < n ∧ H ol = some (.lst (vn tu)) ∧ (∀ t ∈ tu, t < ts.length) ∧ k ≤ 1000 ∧ 0 ≤ m ∧
  ∀ l as H', Same H H' → H l = none → H' l = some (.lst (as.map V.ref)) → RwsL H' as ((List.range (k + 1)).map (trl m n ts h tu)) → (∀ a ∈ as, H a = none) → Q (.ref l) H'
section
variable {P : Program} {w : World} {K : PySem.W.Frag} {mg : Str → Option Value} {base : Heap}
abbrev nBg : List Str := ["_law_ties_here", "_law_houses", "_law_house", "_law_at"]
theorem scBg : FnScope nBg ["_law_ties_here", "_law_houses", "_law_house"] (defScope sLBegun) := ⟨rfl, rfl, rfl, by decide +kernel, rfl, by decide +kernel, by decide +kernel⟩
theorem ok_begun {f : Addr} {fd : FuncData} (D : Df K mg "_law_begun" sLBegun ["_law_ties_here", "_law_houses", "_law_house"] f fd) (B : Bt mg) : FnOk P w K mg base CX0 1 f fd ["_law_ties_here", "_law_houses", "_law_house"] spBegun := by
  refine D.F.ok scBg (fun vs H Q E h => ?_) (fun cdv A outer s H vs Q E hr h => ?_)
  · obtain ⟨tl, n, h, ts, rfl, _⟩ := h
    rfl
  · obtain ⟨tl, n, h, ts, rfl, ⟨tas, ht, hA⟩, n12, t20, hn, q⟩ := h
    refine ⟨_, pss_one (ps_ret (pe_op op_cat (pe_lc (own := [("_law_at", 3)]) (g := gName 3) (tt := tYes) rfl scBg.nd (pi_range1 (by rfl) B.range (pa_cons (pv 1) pa_nil)) (blkOk_by (N := nBg) (sc := defScope sLBegun) (by decide +kernel)) (fun _ _ _ _ _ => pg_name (i := 3) scBg.nd rfl (.inl rfl)) (fun _ _ _ _ _ => pts_nil)
          (fun _ _ _ _ _ => pe_ifExp (pt_cmpR op_eq (pv 3) (pv 2) (nomark _)) pe_int pe_int)) (pe_op op_rep (pe_lst (pa_cons pe_int pa_nil)) (pe_callB call_len_seq (by rfl) B.len PySem.boot_len (pa_cons (pv 0) pa_nil))))), ?_⟩
    have el : (tas.map V.ref).length = ts.length := by rw [List.length_map, hA.1]
    refine ⟨_, rfl, (n : Int), rfl, by omega, by omega, fun D0 hD0 => lc_range (fun j H' => Same H H' ∧ H' D0 = some (.lst (vrow ((dlt n h).take j)))) ⟨same_new hD0, by rw [upd_same]; rfl⟩ ?_ ?_⟩
    · rintro j H1 hj ⟨s1, hD⟩
      have jl : j < n := by omega
      have e : (dlt n h)[j]? = some (if j = h then 1 else 0) := rows_at jl
      have fin : ∀ v : V, v = .int (if j = h then 1 else 0) → ∃ acc, H1 D0 = some (.lst acc) ∧ acc.length < sizeLine ∧ Same H (upd H1 D0 (.lst (acc ++ [v]))) ∧ (upd H1 D0 (.lst (acc ++ [v]))) D0 = some (.lst (vrow ((dlt n h).take (j + 1)))) := fun v ev => by
        refine ⟨_, hD, szl (by rw [vrow_len, List.length_take, dlt_len]; omega), fun c o eo => ?_, ?_⟩
        · rw [upd_ne (ne_of_none eo hD0)]
          exact s1 _ _ eo
        · rw [upd_same, take_succ e, ev, vrow, vrow, List.map_append]; rfl
      refine ⟨rfl, _, rfl, _, rfl, rfl, _, rfl, ifD (fun c => fin _ ?_) fun c => fin _ ?_⟩
      · have z : V.int (0 + (j : Int)) = V.int (h : Int) := of_decide_eq_true c
        injection z with z
        rw [if_pos (by omega)]
      · have z : ¬ (V.int (0 + (j : Int)) = V.int (h : Int)) := of_decide_eq_false c
        rw [if_neg fun y => z (by rw [y, Int.zero_add])]
    · rintro H1 ⟨s1, hD⟩
      rw [List.take_of_length_le (by rw [dlt_len]; omega)] at hD
      refine ⟨(by show 1 ≤ sizeLine; decide), fun l1 hl1 => ⟨_, rfl, tl, _, rfl, .inl (SqL.of (same_new hl1 _ _ (s1 _ _ ht))), l1, _, _, rfl, rfl, upd_same, by omega, by omega, sz (by rw [Int.toNat_natCast]; simp only [List.length_cons, List.length_nil]; omega), fun l2 hl2 => ?_⟩⟩
      have s2 := (same_new (o := HO.lst [V.int 0]) hl1).trans (same_new (o := HO.lst (List.replicate ((tas.map V.ref).length : Int).toNat [V.int 0]).flatten) hl2)
      refine ⟨D0, l2, _, _, rfl, rfl, s2 _ _ hD, upd_same, sz (by rw [vrow_len, dlt_len, Int.toNat_natCast, rep0, vrow_len, List.length_map, List.length_range]; omega), fun r hr' => ?_⟩
      have s3 := s2.trans (same_new (o := HO.lst (vrow (dlt n h) ++ (List.replicate ((tas.map V.ref).length : Int).toNat [V.int 0]).flatten)) hr')
      refine q r _ (s1.trans s3) ((s1.trans s2).free hr') ?_
      rw [upd_same, Int.toNat_natCast, rep0, el, dlt_app hn, vrow, vrow, vrow, List.map_append]
theorem scSp : FnScope ["_law_houses", "_law_counts"] ["_law_houses", "_law_counts"] (defScope sLSplit) := ⟨rfl, rfl, rfl, by decide +kernel, rfl, by decide +kernel, by decide +kernel⟩
theorem ok_split {f : Addr} {fd : FuncData} (D : Df K mg "_law_split" sLSplit ["_law_houses", "_law_counts"] f fd) (B : Bt mg) : FnOk P w K mg base CX0 1 f fd ["_law_houses", "_law_counts"] spSplit := by
  refine D.F.ok scSp (fun vs H Q E h => ?_) (fun cdv A outer s H vs Q E hr h => ?_)
  · obtain ⟨c, n, cs, rfl, _⟩ := h
    rfl
  · obtain ⟨c, n, cs, rfl, hc, hn, q⟩ := h
    refine ⟨_, pss_one (ps_ret (pe_tup (pa_cons (pe_callTy call_tuple_of (by rfl) B.tuple PyProof.Rows.boot_tuple (pa_cons (pe_slice sl_list (pv 1) po_none (po_some (pv 0))) pa_nil)) (pa_cons (pe_callTy call_tuple_of (by rfl) B.tuple PyProof.Rows.boot_tuple (pa_cons (pe_slice sl_list (pv 1) (po_some (pv 0)) po_none) pa_nil)) pa_nil)))), ?_⟩
    refine ⟨_, rfl, noP ⟨_, rfl, _, rfl, c, _, rfl, SqL.of hc, fun u1 hu1 => ?_⟩⟩
    rw [cut_to (by rw [vrow_len]; exact hn), vrow_take]
    have s1 := same_new (o := HO.lst (vrow (cs.take n))) hu1
    refine ⟨u1, _, rfl, .inl ⟨SqL.of upd_same, fun a ha => ?_⟩⟩
    have s2 := s1.trans (same_new (o := HO.tup (vrow (cs.take n))) ha)
    have ha' : (upd (upd H u1 (.lst (vrow (cs.take n)))) a (.tup (vrow (cs.take n)))) a = some (.tup (vrow (cs.take n))) := upd_same
    generalize upd (upd H u1 (.lst (vrow (cs.take n)))) a (.tup (vrow (cs.take n))) = H1 at s2 ha' ⊢
    refine ⟨_, rfl, _, rfl, _, rfl, noP ⟨c, _, rfl, SqL.of (s2 _ _ hc), fun u2 hu2 => ?_⟩⟩
    rw [cut_from (by rw [vrow_len]; exact hn), vrow_drop]
    have s3 := same_new (o := HO.lst (vrow (cs.drop n))) hu2
    refine ⟨u2, _, rfl, .inl ⟨SqL.of upd_same, fun b hb => ?_⟩⟩
    have s4 := s3.trans (same_new (o := HO.tup (vrow (cs.drop n))) hb)
    exact ⟨(by show 2 ≤ sizeLine; decide), fun r hr' => q r a b _ ((s2.trans s4).trans (same_new hr')) upd_same (same_new hr' _ _ (s4 _ _ ha')) (same_new hr' _ _ upd_same)⟩
abbrev nTr : List Str := ["_law_ties_here", "_law_houses", "_law_house", "_law_order", "_law_rounds", "_law_modulus", "_law_found", "_law_turn", "_law_count"]
abbrev psT : List Str := ["_law_ties_here", "_law_houses", "_law_house", "_law_order", "_law_rounds", "_law_modulus"]
theorem scTr : FnScope nTr psT (defScope sLTrail) := ⟨rfl, rfl, rfl, by decide +kernel, rfl, by decide +kernel, by decide +kernel⟩
theorem ok_trail {f fB fM : Addr} {fd fdB fdM : FuncData} (D : Df K mg "_law_trail" sLTrail psT f fd) (DB : Df K mg "_law_begun" sLBegun ["_law_ties_here", "_law_houses", "_law_house"] fB fdB) (DM : Df K mg "_law_met" sLMet ["_law_ties_here", "_law_houses", "_law_counts", "_law_meetings"] fM fdM) (B : Bt mg)
    (GB : FnOk P w K mg base CX0 1 fB fdB ["_law_ties_here", "_law_houses", "_law_house"] spBegun) (GM : FnOk P w K mg base CX0 1 fM fdM ["_law_ties_here", "_law_houses", "_law_counts", "_law_meetings"] spMetL) : FnOk P w K mg base CX0 2 f fd psT spTrail := by
  refine D.F.ok scTr (fun vs H Q E h => ?_) (fun cdv A outer s H vs Q E hr h => ?_)
  · obtain ⟨tl, ol, n, h, k, m, ts, tu, rfl, _⟩ := h
    rfl
  · obtain ⟨tl, ol, n, h, k, m, ts, tu, rfl, hT, hW, hn, ho, hlt, hk, m0, q⟩ := h
    refine ⟨_, pss_cons (ps_set (i := 6) scTr.nd rfl (.inl rfl) (pe_lst (pa_cons (pc DB GB hr pass0 (pa_cons (pv 0) (pa_cons (pv 1) (pa_cons (pv 2) pa_nil)))) pa_nil)))
      (pss_cons (ps_for PassesOwn.never rfl (pi_range1 (by rfl) B.range (pa_cons (pv 4) pa_nil)) (pg_name (i := 7) scTr.nd rfl (.inl rfl))
        (pss_cons (ps_expr (pe_bm PySem.F.plainAttrs_list PySem.F.slot_list_append PySem.F.type_list_append mt_append (pv 6) (pa_cons (pc DM GM hr pass0 (pa_cons (pv 0) (pa_cons (pv 1) (pa_cons (pe_ix ix_list (pv 6) (pe_un un_neg pe_int) (fun _ _ => rfl)) (pa_cons (pv 3) pa_nil))))) pa_nil)))
        (pss_one (ps_if (pt_cmpR op_gt (pv 5) pe_int (nomark _)) (pss_one (ps_asg (pe_lc (own := [("_law_count", 8)]) (g := gName 8) (tt := tYes) rfl scTr.nd (pi_list (pe_ix ix_list (pv 6) (pe_un un_neg pe_int) (fun _ _ => rfl))) (blkOk_by (N := nTr) (sc := defScope sLTrail) (by decide +kernel)) (fun _ _ _ _ _ => pg_name (i := 8) scTr.nd rfl (.inl rfl)) (fun _ _ _ _ _ => pts_nil)
            (fun _ _ _ _ _ => pe_op op_mod (pe_callTy call_int1 (by rfl) B.int PyProof.Rows.boot_int (pa_cons (pv 8) pa_nil)) (pv 5))) (pg_sub (pv 6) (pe_un un_neg pe_int) set_list))) pss_nil))))
      (pss_one (ps_ret (pv 6)))), ?_⟩
    have n1 := hW.n1
    obtain ⟨tas, ht, hA⟩ := id hT
    refine ⟨_, rfl, _, rfl, _, rfl, tl, n, h, ts, rfl, hT, hW.n12, hW.t20, hn, fun r H1 s1 hr0 hr' => ⟨(by show 1 ≤ sizeLine; decide), fun l hl => ?_⟩⟩
    have s2 := s1.trans (same_new (o := HO.lst [V.ref r]) hl)
    have fl : H l = none := s1.free hl
    have hr2 := same_new (o := HO.lst [V.ref r]) hl _ _ hr'
    have hl2 : (upd H1 l (.lst [V.ref r])) l = some (.lst [V.ref r]) := upd_same
    generalize upd H1 l (.lst [V.ref r]) = H2 at s2 hr2 hl2 ⊢
    refine gn ?_
    dsimp only [List.set]
    have nz : ∀ j, trl m n ts h tu j ≠ [] := fun j z => by have := trl_len m n ts h tu j; rw [z] at this; simp at this; omega
    have nz0 : ∀ {cs : List Int} {o : List Nat}, cs.length = n + ts.length → runC 0 n ts cs o ≠ [] := fun {cs o} e z => by have := runC_len 0 n ts o cs; rw [z, e] at this; simp at this; omega
    refine ⟨_, rfl, (k : Int), rfl, by omega, by omega, for_range (fun i σ H' => ∃ (as : List Addr) (v7 : Option V), σ = [some (.ref tl), some (.int (n : Int)), some (.int (h : Int)), some (.ref ol), some (.int (k : Int)), some (.int m), some (.ref l), v7, none] ∧ Same H H' ∧ H' l = some (.lst (as.map V.ref)) ∧ RwsL H' as ((List.range (i + 1)).map (trl m n ts h tu)) ∧ ∀ a ∈ as, H a = none) ⟨[r], none, rfl, s2, hl2, ⟨rfl, fun i a t e1 e2 => ?_⟩, fun a ha => by rw [List.mem_singleton.mp ha]; exact hr0⟩ ?_ ?_⟩
    · have : i = 0 := by have := lt_at e1; simp at this; omega
      subst this
      obtain rfl := Option.some.inj e1
      obtain rfl := Option.some.inj e2
      show H2 r = some (.lst (vrow (trl m n ts h tu 0)))
      unfold trl
      rw [if_pos (.inr rfl)]
      exact hr2
    · rintro i σ H3 hi ⟨as, v7, rfl, s3, hl3, R3, fr3⟩
      have la : as.length = i + 1 := by rw [R3.1]; simp
      obtain ⟨a, ea, ha⟩ := R3.get (i := i) (r := trl m n ts h tu i) (by rw [rows_at (by omega)])
      have lrow := trl_len m n ts h tu i
      refine ⟨_, rfl, .inl ⟨rfl, _, SqL.of hl3⟩, _, rfl, _, rfl, _, rfl, _, rfl, l, _, -1, .ref a, rfl, rfl, SqL.of hl3, at_last (by rw [List.length_map, la, Nat.add_sub_cancel, List.getElem?_map, ea]; rfl), _, rfl, tl, a, ol, n, ts, _, tu, rfl, ⟨tas, s3 _ _ ht, hA.same s3⟩, hW, ha, lrow, s3 _ _ ho, hlt, fun r H4 s4 frr hr' => ?_⟩
      have fr4 : H r = none := by
        rcases frr with z | z
        · rw [z]; exact fr3 a (List.mem_of_getElem? ea)
        · exact s3.free z
      have hl4 := s4 _ _ hl3
      have nx := trl_next (m := m) (h := h) (tu := tu) hW i
      have nzr : runC 0 n ts (trl m n ts h tu i) tu ≠ [] := nz0 lrow
      have rl : r ≠ l := ne_rows hr' hl4 nzr
      refine ⟨l, _, _, rfl, rfl, hl4, szl (by rw [List.length_map]; omega), ?_⟩
      have keep : ∀ c xs, c ∈ as → H3 c = some (.lst xs) → (upd H4 l (.lst (as.map V.ref ++ [.ref r]))) c = some (.lst xs) := fun c xs hc e => by
        obtain ⟨j, hj⟩ := List.getElem?_of_mem hc
        have jl := lt_at hj
        have hcj := R3.2 j c _ hj (by rw [rows_at (by omega)])
        rw [upd_ne (ne_rows hcj hl3 (nz j))]
        exact s4 _ _ e
      have st : Same H (upd H4 l (.lst (as.map V.ref ++ [.ref r]))) := fun c o e => by
        rw [upd_ne (ne_of_none e fl)]
        exact s4 _ _ (s3 _ _ e)
      have hr5 : (upd H4 l (.lst (as.map V.ref ++ [.ref r]))) r = some (.lst (vrow (runC 0 n ts (trl m n ts h tu i) tu))) := by rw [upd_ne rl]; exact hr'
      have hl5 : (upd H4 l (.lst (as.map V.ref ++ [.ref r]))) l = some (.lst (as.map V.ref ++ [.ref r])) := upd_same
      generalize upd H4 l (.lst (as.map V.ref ++ [.ref r])) = H5 at keep st hr5 hl5 ⊢
      refine ⟨_, rfl, _, _, rfl, rfl, _, rfl, ?_⟩
      by_cases mz : m = 0
      · rw [decide_eq_false (by omega)]
        refine iteF ⟨as ++ [r], _, rfl, st, by rw [List.map_append]; exact hl5, ?_, fun c hc => by
          rcases List.mem_append.mp hc with z | z
          · exact fr3 c z
          · rw [List.mem_singleton.mp z]; exact fr4⟩
        rw [List.range_succ, List.map_append]
        refine R3.snoc keep ?_
        show H5 r = some (.lst (vrow (trl m n ts h tu (i + 1))))
        rw [nx, if_pos mz]
        exact hr5
      · rw [decide_eq_true (by omega)]
        refine iteT ?_
        have hlast : (as.map V.ref ++ [V.ref r])[(as.map V.ref ++ [V.ref r]).length - 1]? = some (.ref r) := by
          rw [List.length_append, List.length_map]
          simp only [List.length_cons, List.length_nil, Nat.add_sub_cancel]
          rw [List.getElem?_append_right (by rw [List.length_map]; exact Nat.le_refl _), List.length_map, Nat.sub_self]; rfl
        refine ⟨_, rfl, _, rfl, l, _, -1, .ref r, rfl, rfl, SqL.of hl5, at_last hlast, r, rfl, ⟨_, SqL.of hr5⟩, fun D1 hD1 => lc_list (K := K) (a := r) (xs := vrow (runC 0 n ts (trl m n ts h tu i) tu)) (fun j H' => Same H5 H' ∧ H' D1 = some (.lst (vrow ((red m (runC 0 n ts (trl m n ts h tu i) tu)).take j)))) ⟨same_new hD1, by rw [upd_same]; rfl⟩ (fun j H' _ ⟨s', _⟩ => SqL.of (s' _ _ hr5)) ?_ ?_⟩
        · rintro j x H6 hx ⟨s6, hE⟩
          obtain ⟨y, hy, rfl⟩ := vrow_at hx
          have jl := lt_at hy
          rw [runC_len, lrow] at jl
          have t20 := hW.t20
          have n12 := hW.n12
          refine ⟨rfl, _, rfl, .inl ⟨_, rfl, _, rfl, _, _, rfl, rfl, by omega, _, hE, szl (by rw [vrow_len, List.length_take, red_len, runC_len]; omega), fun c o e => ?_, ?_⟩⟩
          · rw [upd_ne (ne_of_none e hD1)]
            exact s6 _ _ e
          · have e3 : (red m (runC 0 n ts (trl m n ts h tu i) tu))[j]? = some (y % m) := by unfold red; rw [List.getElem?_map, hy]; rfl
            rw [upd_same, take_succ e3, vrow, vrow, List.map_append]; rfl
        · rintro H6 ⟨s6, hE⟩
          rw [List.take_of_length_le (by simp [vrow_len, red_len])] at hE
          have hl6 := s6 _ _ hl5
          refine ⟨_, rfl, _, rfl, l, _, -1, as.length, rfl, rfl, hl6, (by rw [List.length_append, List.length_map]; exact ixN_last (Nat.succ_pos _)), ?_⟩
          have es : (as.map V.ref ++ [V.ref r]).set as.length (.ref D1) = as.map V.ref ++ [.ref D1] := by
            have := set_end (as.map V.ref) (.ref r) (.ref D1)
            rw [List.length_map] at this
            exact this
          rw [es]
          have nD : D1 ≠ l := fun z => by rw [z, hl5] at hD1; cases hD1
          refine ⟨as ++ [D1], _, rfl, fun c o e => ?_, by rw [upd_same, List.map_append]; rfl, ?_, fun c hc => by
            rcases List.mem_append.mp hc with z | z
            · exact fr3 c z
            · rw [List.mem_singleton.mp z]; exact st.free hD1⟩
          · rw [upd_ne (ne_of_none e fl)]
            exact s6 _ _ (st _ _ e)
          · rw [List.range_succ, List.map_append]
            refine R3.snoc (fun c xs hc e => ?_) ?_
            · obtain ⟨j, hj⟩ := List.getElem?_of_mem hc
              have jl := lt_at hj
              have hcj := R3.2 j c _ hj (by rw [rows_at (by omega)])
              rw [upd_ne (ne_rows hcj hl3 (nz j))]
              exact s6 _ _ (keep _ _ hc e)
            · show (upd H6 l (.lst (as.map V.ref ++ [.ref D1]))) D1 = some (.lst (vrow (trl m n ts h tu (i + 1))))
              rw [upd_ne nD, nx, if_neg mz]
              exact hE
    · rintro σ H3 ⟨as, v7, rfl, s3, hl3, R3, fr3⟩
      rw [Int.toNat_natCast] at R3
      exact ⟨_, rfl, q l as H3 s3 fl hl3 R3 fr3⟩
end
end K1
namespace K1
open PySem PySem.Spec PyProof.Rows L2
def kK (x : List Int) : List Key := x.map fun i => Sum.inl i
theorem kK_v (x : List Int) : (kK x).map kV = vrow x := by unfold kK vrow; rw [List.map_map]; rfl
theorem kK_inj {x y : List Int} (h : kK x = kK y) : x = y := (List.map_inj_right (fun a b e => by injection e)).mp h
def spFar : Sp := fun vs H Q _ => ∃ (tl ol : Addr) (n h k : Nat) (m : Int) (ts : Prs) (tu : List Nat), vs = [.ref tl, .int (n : Int), .int (h : Int), .ref ol, .int (k : Int), .int m] ∧ TiesL H tl ts ∧ Wv n ts ∧ h < n ∧ H ol = some (.lst (vn tu)) ∧ (∀ t ∈ tu, t < ts.length) ∧ 0 < m ∧
  (∀ H', Same H H' → Q .non H') ∧ ∀ a xs H', Same H H' → H' a = some (.lst (vrow xs)) → xs.length = n + ts.length → red m xs = red m (runC 0 n ts (dlt (n + ts.length) h) (rep k tu)) → Q (.ref a) H'
section
variable {P : Program} {w : World} {K : PySem.W.Frag} {mg : Str → Option Value} {base : Heap}
abbrev nFa : List Str := ["_law_ties_here", "_law_houses", "_law_house", "_law_order", "_law_rounds", "_law_modulus", "_law_trail_here", "_law_met_here", "_law_at", "_law_key", "_law_index", "_law_period"]
theorem scFa : FnScope nFa psT (defScope sLFar) := ⟨rfl, rfl, rfl, by decide +kernel, rfl, by decide +kernel, by decide +kernel⟩
theorem ok_far {f fT : Addr} {fd fdT : FuncData} (D : Df K mg "_law_far" sLFar psT f fd) (DT : Df K mg "_law_trail" sLTrail psT fT fdT) (B : Bt mg) (GT : FnOk P w K mg base CX0 2 fT fdT psT spTrail) : FnOk P w K mg base CX0 3 f fd psT spFar := by
  refine D.F.ok scFa (fun vs H Q E h => ?_) (fun cdv A outer s H vs Q E hr h => ?_)
  · obtain ⟨tl, ol, n, h, k, m, ts, tu, rfl, _⟩ := h
    rfl
  · obtain ⟨tl, ol, n, h, k, m, ts, tu, rfl, hT, hW, hn, ho, hlt, m0, q1, q2⟩ := h
    have hu : (A.deeper (envOfC "_law_far" (defScope sLFar) s.heap.objs.size f cdv)).units + 1 < cLine := by have := hr.units; omega
    refine ⟨_, pss_cons (ps_par (i := 6) (j := 7) rfl scFa.nd rfl rfl (by decide) rfl rfl (pa_cons (pc DT GT hr pass0 (pa_cons (pv 0) (pa_cons (pv 1) (pa_cons (pv 2) (pa_cons (pv 3) (pa_cons pe_int (pa_cons (pv 5) pa_nil))))))) (pa_cons pe_dnewT pa_nil)) rfl)
      (pss_cons (ps_for PassesOwn.never rfl (pi_range1 (by rfl) B.range (pa_cons pe_int pa_nil)) (pg_name (i := 8) scFa.nd rfl (.inl rfl))
        (pss_cons (ps_set (i := 9) scFa.nd rfl (.inl rfl) (pe_callTy call_tuple_of (by rfl) B.tuple PyProof.Rows.boot_tuple (pa_cons (pe_ix ix_list (pv 6) (pv 8) (fun _ _ => rfl)) pa_nil)))
        (pss_cons (ps_if (pt_cmp (pc_din hu (pv 9) (pv 7)))
            (pss_cons (ps_par (i := 10) (j := 11) rfl scFa.nd rfl rfl (by decide) rfl rfl (pa_cons (pe_dget hu (pv 7) (pv 9) (fun _ _ => rfl)) (pa_cons (pe_op op_sub (pv 8) (pe_dget hu (pv 7) (pv 9) (fun _ _ => rfl))) pa_nil)) rfl)
            (pss_one (ps_ret (pe_ix ix_list (pv 6) (pe_ifExp (pt_cmpR op_lt (pv 4) (pv 10) (nomark _)) (pv 4) (pe_op op_add (pv 10) (pe_op op_mod (pe_callTy call_int1 (by rfl) B.int PyProof.Rows.boot_int (pa_cons (pe_op op_sub (pv 4) (pv 10)) pa_nil)) (pv 11)))) (fun _ _ => rfl))))) pss_nil)
        (pss_one (ps_dput hu (pv 7) (pv 9) (pv 8) rfl)))))
      (pss_one (ps_ret pe_non))), ?_⟩
    refine ⟨_, rfl, _, rfl, _, rfl, _, rfl, _, rfl, tl, ol, n, h, 600, m, ts, tu, rfl, hT, hW, hn, ho, hlt, by decide, by omega, fun l as H1 s1 fl hl RL _ => fun d hd => ⟨_, _, rfl, ?_⟩⟩
    have s2 := same_new (o := HO.dT []) hd
    have hd2 : (upd H1 d (.dT [])) d = some (.dT []) := upd_same
    have fd : H d = none := s1.free hd
    have nld : l ≠ d := ne_of_none hl hd
    have hl2 := s2 _ _ hl
    have rows : ∀ j, j < 600 → ∃ a, as[j]? = some a ∧ H1 a = some (.lst (vrow (trl m n ts h tu j))) := fun j hj => RL.get (by rw [rows_at (by omega)])
    generalize upd H1 d (.dT []) = H2 at s2 hd2 hl2 ⊢
    dsimp only [List.set]
    refine ⟨600, rfl, by decide, by decide, for_range (fun i σ H' => ∃ (v8 v9 : Option V) (kvs : List (List Key × V)), σ = [some (.ref tl), some (.int (n : Int)), some (.int (h : Int)), some (.ref ol), some (.int (k : Int)), some (.int m), some (.ref l), some (.ref d), v8, v9, none, none] ∧ (∀ c o, H2 c = some o → c ≠ d → H' c = some o) ∧ H' d = some (.dT kvs) ∧ kvs.length ≤ i ∧ ∀ x v, valV kvs (kK x) = some v → ∃ j : Nat, j < i ∧ trl m n ts h tu j = x ∧ v = .int (j : Int)) ⟨none, none, [], rfl, fun c o e _ => e, hd2, Nat.le_refl _, fun x v e => by cases e⟩ ?_ ?_⟩
    · rintro i σ H3 hi ⟨v8, v9, kvs, rfl, st, hd3, lk, hv⟩
      have i6 : i < 600 := by omega
      obtain ⟨a, ea, ha⟩ := rows i i6
      have up : ∀ c o, H1 c = some o → H3 c = some o := fun c o e => st c o (s2 _ _ e) (ne_of_none e hd)
      have hl3 := up _ _ hl
      have ha3 := up _ _ ha
      refine ⟨_, rfl, _, rfl, l, _, 0 + (i : Int), .ref a, rfl, rfl, SqL.of hl3, at_of (j := i) (by omega) (map_at ea), a, _, rfl, .inl ⟨SqL.of ha3, fun p hp => ?_⟩⟩
      have sp := same_new (o := HO.tup (vrow (trl m n ts h tu i))) hp
      have hp4 : (upd H3 p (.tup (vrow (trl m n ts h tu i)))) p = some (.tup (vrow (trl m n ts h tu i))) := upd_same
      have st4 : ∀ c o, H2 c = some o → c ≠ d → (upd H3 p (.tup (vrow (trl m n ts h tu i)))) c = some o := fun c o e nc => sp _ _ (st c o e nc)
      have hd4 := sp _ _ hd3
      have up4 : ∀ c o, H1 c = some o → (upd H3 p (.tup (vrow (trl m n ts h tu i)))) c = some o := fun c o e => sp _ _ (up c o e)
      generalize upd H3 p (.tup (vrow (trl m n ts h tu i))) = H4 at hp4 st4 hd4 up4 ⊢
      refine gn ?_
      dsimp only [List.set]
      have hk4 : H4 p = some (.tup ((kK (trl m n ts h tu i)).map kV)) := by rw [kK_v]; exact hp4
      refine ⟨_, rfl, _, rfl, d, _, rfl, DGet.t (k := kK (trl m n ts h tu i)) hd4 hk4, _, rfl, ?_⟩
      cases ev : valV kvs (kK (trl m n ts h tu i)) with
      | none =>
        refine iteF (nxP ?_)
        refine ⟨_, rfl, _, rfl, _, rfl, d, _, rfl, DPut.t hd4 hk4 (szl (by omega)), ?_⟩
        refine ⟨_, _, _, rfl, fun c o e nc => by rw [upd_ne nc]; exact st4 c o e nc, upd_same, ?_, fun x v e => ?_⟩
        · rw [putK_new _ ev, List.length_append]
          simp only [List.length_cons, List.length_nil]
          omega
        · rw [valV_put] at e
          by_cases c : kK x = kK (trl m n ts h tu i)
          · rw [if_pos c] at e
            refine ⟨i, Nat.lt_succ_self i, (kK_inj c).symm, ?_⟩
            rw [← Option.some.inj e, Int.zero_add]
          · rw [if_neg c] at e
            obtain ⟨j, hj, e1, e2⟩ := hv x v e
            exact ⟨j, by omega, e1, e2⟩
      | some v =>
        obtain ⟨j, hj, e1, rfl⟩ := hv _ _ ev
        have hg : DGet H4 d (.ref p) (some (V.int (j : Int))) := by
          rw [← ev]
          exact DGet.t hd4 hk4
        refine iteT ?_
        refine ⟨_, rfl, _, rfl, d, _, rfl, hg, _, rfl, _, rfl, _, rfl, d, _, rfl, hg, _, _, rfl, rfl, _, _, rfl, ?_⟩
        dsimp only [List.set]
        have sH4 : Same H H4 := fun c o e => up4 _ _ (s1 _ _ e)
        have fin : ∀ idx : Nat, idx < 600 → red m (trl m n ts h tu idx) = red m (trl m n ts h tu k) → ∃ a', as[idx]? = some a' ∧ Q (.ref a') H4 := fun idx hx e => by
          obtain ⟨a', ea', ha'⟩ := rows idx hx
          exact ⟨a', ea', q2 a' _ H4 sH4 (up4 _ _ ha') (trl_len _ _ _ _ _ _) (by rw [e]; exact trl_red (by omega) k)⟩
        have hl4 := up4 _ _ hl
        refine ⟨_, rfl, _, rfl, _, rfl, _, _, rfl, rfl, _, rfl, ifD (fun c => ?_) fun c => ?_⟩
        · have kj : k < j := by have := of_decide_eq_true c; omega
          obtain ⟨a', ea', hq⟩ := fin k (by omega) rfl
          exact ⟨_, rfl, l, _, (k : Int), .ref a', rfl, rfl, SqL.of hl4, at_i (map_at ea'), hq⟩
        · have kj : j ≤ k := by have := of_decide_eq_false c; omega
          have ml : (k - j) % (i - j) < i - j := Nat.mod_lt _ (by omega)
          obtain ⟨a', ea', hq⟩ := fin (j + (k - j) % (i - j)) (by omega) (by rw [← trl_round hW hj e1 k kj])
          have ee : (j : Int) + ((k : Int) - (j : Int)) % (0 + (i : Int) - (j : Int)) = ((j + (k - j) % (i - j) : Nat) : Int) := by
            rw [show (k : Int) - (j : Int) = ((k - j : Nat) : Int) by omega, show 0 + (i : Int) - (j : Int) = ((i - j : Nat) : Int) by omega, ← Int.natCast_emod]; rfl
          refine ⟨_, rfl, _, rfl, _, rfl, _, _, rfl, rfl, .inl ⟨_, rfl, _, rfl, _, _, rfl, rfl, by omega, _, _, rfl, rfl, l, _, _, .ref a', rfl, rfl, SqL.of hl4, ?_, hq⟩⟩
          rw [ee]
          exact at_i (map_at ea')
    · rintro σ H3 ⟨v8, v9, kvs, rfl, st, hd3, lk, hv⟩
      exact q1 H3 fun c o e => st c o (s2 _ _ (s1 _ _ e)) (ne_of_none e fd)
end
end K1
namespace K1
open PySem PySem.Spec PyProof.Rows L2
theorem Lw.webK {W b w : Addr} {T : List (Addr × Str)} {H H' : Hp} {n : Nat} {ts : Prs} (hb : BoxO H b) (l : Lw b T [] H H') (h : WebAt W H w n ts) : WebAt W H' w n ts :=
  h.kp (fun a xs e => l.ks.tup e (by rw [List.mem_singleton]; exact hb.ne e fun xs => by intro z; cases z)) fun dx fs e => l.ks.ins e (by rw [List.mem_singleton]; exact hb.ne e fun xs => by intro z; cases z)
theorem Lw.lstK {b a : Addr} {T : List (Addr × Str)} {H H' : Hp} {xs : List V} (l : Lw b T [] H H') (h : H a = some (.lst xs)) (n : a ≠ b) : H' a = some (.lst xs) := l.ks.lst h (by rw [List.mem_singleton]; exact n)
section
variable {K : PySem.W.Frag} {CH CB CR CG : Addr} {Q : VK} {H : Hp} {v : V} {o : Option (List V)} {x : Str} {xs : List Addr}
theorem heH (vl : Vl K xs H v o x) (k : ∀ p H', Same H H' → H' p = some (.tup [.str "house", .str x]) → Q (.ref p) H') : Rz CH "house" v H (HE K CH CB CR CG Q) := fun d H' sm hd hx => ⟨d, rfl, .inl ⟨rfl, v, hx, x, (vl.same sm).rso, fun p H'' s2 hp => k p H'' (sm.trans s2) hp⟩⟩
theorem heR (vl : Vl K xs H v o x) (k : ∀ p H', Same H H' → H' p = some (.tup [.str "refused", .str x, .bl true]) → Q (.ref p) H') : Rz CR "at" v H (HE K CH CB CR CG Q) := fun d H' sm hd hx => ⟨d, rfl, .inr (.inr (.inl ⟨rfl, v, hx, x, (vl.same sm).rso, fun p H'' s2 hp => k p H'' (sm.trans s2) hp⟩))⟩
theorem heB (k : ∀ p H', Same H H' → H' p = some (.tup [.str "steps", v, .bl true]) → Q (.ref p) H') : Rz CB "at" v H (HE K CH CB CR CG Q) := fun d H' sm hd hx => ⟨d, rfl, .inr (.inl ⟨rfl, v, hx, fun p H'' s2 hp => k p H'' (sm.trans s2) hp⟩)⟩
theorem heG (k : ∀ p H', Same H H' → H' p = some (.tup [.str "great", v, .bl true]) → Q (.ref p) H') : Rz CG "most" v H (HE K CH CB CR CG Q) := fun d H' sm hd hx => ⟨d, rfl, .inr (.inr (.inr ⟨rfl, v, hx, fun p H'' s2 hp => k p H'' (sm.trans s2) hp⟩))⟩
theorem st_h : PyData.strOk ("house" : Str) = true := by decide +kernel
theorem st_r : PyData.strOk ("refused" : Str) = true := by decide +kernel
theorem st_s : PyData.strOk ("steps" : Str) = true := by decide +kernel
theorem st_g : PyData.strOk ("great" : Str) = true := by decide +kernel
theorem earH {p p2 : Addr} {y x : Str} (hy : PyData.strOk y = true) (hx : PyData.strOk x = true) (h1 : H p = some (.tup [.str y, .str x])) (h2 : H p2 = some (.tup [.str y, .str x])) (q : Q (.bl false) H) : rNeD K (.ref p) (.ref p2) H Q := by
  have lay : PyData.canLay0 (.tuple [.str y, .str x]) = true := by simp only [PyData.canLay0, PyData.canLayAll0, Bool.and_self, hx, hy]
  have sh : SeqAt.shaped (.tuple [.str y, .str x]) = true := by
    unfold SeqAt.shaped
    rw [lay]
    simp only [PyData.depth, PyData.depthAll]
    exact (by decide : (true && decide (max 0 (max 0 0) + 1 ≤ 64)) = true)
  exact ear h1 h2 (.cons (.str y) (.cons (.str x) .nil)) lay sh q
theorem earI {p p2 : Addr} {y : Str} {i : Int} {b : Bool} (hy : PyData.strOk y = true) (h1 : H p = some (.tup [.str y, .int i, .bl b])) (h2 : H p2 = some (.tup [.str y, .int i, .bl b])) (q : Q (.bl false) H) : rNeD K (.ref p) (.ref p2) H Q := by
  have lay : PyData.canLay0 (.tuple [.str y, .int i, .bool b]) = true := by simp only [PyData.canLay0, PyData.canLayAll0, Bool.and_self, hy]
  have sh : SeqAt.shaped (.tuple [.str y, .int i, .bool b]) = true := by
    unfold SeqAt.shaped
    rw [lay]
    simp only [PyData.depth, PyData.depthAll]
    exact (by decide : (true && decide (max 0 (max 0 (max 0 0)) + 1 ≤ 64)) = true)
  exact ear h1 h2 (.cons (.str y) (.cons (.int i) (.cons (.bl b) .nil))) lay sh q
def oddA (n : Int) : List V := [.int n, .int (0 - 1), .bl true, .non, .str "0"]
theorem oddA_vl {n : Int} (h0 : 0 ≤ n) (h1 : n ≤ 1000) (h : v ∈ oddA n) : belowB v n = false ∧ ∃ x, Vl K xs H v none x := by
  simp only [oddA, List.mem_cons, List.mem_nil_iff, or_false] at h
  rcases h with rfl | rfl | rfl | rfl | rfl
  · refine ⟨?_, _, vl_int (by omega)⟩
    show (decide (0 ≤ n) && decide (n < n)) = false
    rw [decide_eq_false (Int.lt_irrefl _), Bool.and_false]
  · exact ⟨by show (decide ((0 : Int) ≤ 0 - 1) && decide ((0 : Int) - 1 < n)) = false; rw [decide_eq_false (by decide)]; rfl, _, vl_int (by decide)⟩
  · exact ⟨rfl, _, vl_true⟩
  · exact ⟨rfl, _, vl_non⟩
  · exact ⟨rfl, _, vl_str (by decide +kernel) (by decide +kernel)⟩
theorem vl_false : Vl K xs H (.bl false) none "False" := ⟨by decide +kernel, fun H' Q _ q => .inl ⟨_, rfl, .inr (.inl ⟨false, rfl, q⟩)⟩, fun H' _ => rw0 (.bl false)⟩
def oddR : List V := [.int (0 - 1), .int (10 ^ (18 : Int).toNat + 1), .non, .bl true, .str "1"]
theorem oddR_vl (h : v ∈ oddR) : belowB v 1000000000000000001 = false ∧ ∃ x, Vl K xs H v none x := by
  simp only [oddR, List.mem_cons, List.mem_nil_iff, or_false] at h
  rcases h with rfl | rfl | rfl | rfl | rfl
  · exact ⟨by decide +kernel, _, vl_int (by decide)⟩
  · exact ⟨by decide +kernel, _, vl_int (by decide +kernel)⟩
  · exact ⟨rfl, _, vl_non⟩
  · exact ⟨rfl, _, vl_true⟩
  · exact ⟨rfl, _, vl_str (by decide +kernel) (by decide +kernel)⟩
def oddM : List V := [.int (0 - 1), .int (10 ^ (6 : Int).toNat + 1), .non, .bl false, .str "1"]
theorem oddM_vl (h : v ∈ oddM) : belowB v 1000001 = false ∧ ∃ x, Vl K xs H v none x := by
  simp only [oddM, List.mem_cons, List.mem_nil_iff, or_false] at h
  rcases h with rfl | rfl | rfl | rfl | rfl
  · exact ⟨by decide +kernel, _, vl_int (by decide)⟩
  · exact ⟨by decide +kernel, _, vl_int (by decide +kernel)⟩
  · exact ⟨rfl, _, vl_non⟩
  · exact ⟨rfl, _, vl_false⟩
  · exact ⟨rfl, _, vl_str (by decide +kernel) (by decide +kernel)⟩
end
theorem nn2 {σ : L2.St} {H : Hp} {Q : List V → Hp → Prop} (h : Q [.non, .non] H) : tCons (tC .non) (tCons (tC .non) tNil) σ H Q := h
theorem nn1 {σ : L2.St} {H : Hp} {Q : List V → Hp → Prop} (h : Q [.non] H) : tCons (tC .non) tNil σ H Q := h
theorem cn3 {i : Int} {σ : L2.St} {H : Hp} {Q : List V → Hp → Prop} (h : Q [.int i, .non, .non] H) : tCons (tC (.int i)) (tCons (tC .non) (tCons (tC .non) tNil)) σ H Q := h
theorem c1 {i : Int} {σ : L2.St} {H : Hp} {Q : List V → Hp → Prop} (h : Q [.int i] H) : tCons (tC (.int i)) tNil σ H Q := h
abbrev qRf : Str := "_law_refused_right.<locals>.<lambda>"
def spRef (W : Addr) (T : List (Addr × Str)) : Sp := fun vs H Q _ => ∃ (b w tl : Addr) (n : Nat) (ts : Prs), vs = [.ref b, .ref w, .int (n : Int), .ref tl] ∧ BoxO H b ∧ LamX.Tabs T H ∧ WebAt W H w n ts ∧ Wv n ts ∧ TiesL H tl ts ∧ tl ≠ b ∧ ∀ H', Lw b T [] H H' → Q (.bl true) H'
section
variable {P : Program} {w : World} {K : PySem.W.Frag} {mg : Str → Option Value} {base : Heap}
abbrev nRf : List Str := ["_law_box_here", "_law_web", "_law_houses", "_law_ties_here", "_law_bad", "_law_none", "_law_odd"]
theorem scRf : FnScope nRf ["_law_box_here", "_law_web", "_law_houses", "_law_ties_here"] (defScope sLRefusedRight) := ⟨rfl, rfl, rfl, by decide +kernel, rfl, by decide +kernel, by decide +kernel⟩
theorem ok_ref {f fK fH fR W CH CB CR CG c_ Pt : Addr} {fd fdK fdH fdR : FuncData} {T : List (Addr × Str)} (F : FunC K "_law_refused_right" "_law_refused_right" sLRefusedRight f fd (.ref c_)) (TB : LamX.TabB base mg c_ Pt) (hmT : (Pt, qRf) ∈ T) (hun : ∀ p ∈ T, p.1 = Pt → p.2 = qRf) (B : Bt mg) (hd : Hd K mg base CH CB CR CG)
    (DK : Df K mg "_law_pick" sLPick ["_law_box_here", "_law_some"] fK fdK) (GK : FnOk P w K mg base CX0 2 fK fdK ["_law_box_here", "_law_some"] spPick) (DH : Df K mg "heard_rounds" sHeardRounds ["web", "house", "order"] fH fdH) (GH : FnOk P w K mg base (L2.CX P w) 5 fH fdH ["web", "house", "order"] (spHR K W CH CB))
    (DR : DfR K mg fR fdR) (GR : FnOk P w K mg base (L2.CX P w) 5 fR fdR psR (spRC K W CH CB CR CG)) : FnG P w K mg base 8 f fd ["_law_box_here", "_law_web", "_law_houses", "_law_ties_here"] (spRef W T) := by
  obtain ⟨ds, vR, bR⟩ := DR.b
  refine F.okG scRf (fun vs H Q E h => ?_) (fun A outer s H vs Q E hr hgd h => ?_)
  · obtain ⟨b, w, tl, n, ts, rfl, _⟩ := h
    rfl
  · obtain ⟨b, w, tl, n, ts, rfl, hb, hT, hw, hW, ⟨tas, ht, hA⟩, ntl, q⟩ := h
    have hu : (A.deeper (envOfC "_law_refused_right" (defScope sLRefusedRight) s.heap.objs.size f (.ref c_))).units + 64 < cLine := hr.units
    have r2 := hr.mono (show 2 ≤ 7 by decide)
    refine ⟨_, pss_cons (ps_set (i := 6) scRf.nd rfl (.inr rfl) (pc DK GK r2 pass0 (pa_cons (pv 0) (pa_cons (pe_lst (pa_cons (pv 2) (pa_cons (pe_op op_sub pe_int pe_int) (pa_cons pe_bl (pa_cons pe_non (pa_cons pe_str pa_nil)))))) pa_nil))))
      (pss_cons (ps_if (pt_cmpR (neD (K := K) rfl hu) (pHeard (k := 5) (qn := qRf) (T := T) hd TB hgd hr rfl rfl hmT hun rfl (LamX.lamS_by (by rfl)) rfl (fun _ _ _ _ _ => rfl)
          (fun A outer s H E f c' hr2 => pc DH GH hr2 (pass1 (E := E) (takes_of rfl rfl rfl rfl)) (pa_cons (pv 1) (pa_cons (pv 6) (pa_cons pe_non pa_nil)))))
        (pe_tup (pa_cons pe_str (pa_cons (pe_callB (call_or2 call_reprS (call_repr hgd hu)) (by rfl) B.repr (by decide +kernel) (pa_cons (pv 6) pa_nil)) pa_nil))) (nomark _)) (pss_one (ps_ret pe_bl)) pss_nil)
      (pss_cons (ps_if (pt_cmpR (neD (K := K) rfl hu) (pHeard (k := 5) (qn := qRf) (T := T) hd TB hgd hr rfl rfl hmT hun rfl (LamX.lamS_by (by rfl)) rfl (fun _ _ _ _ _ => rfl)
          (fun A outer s H E f c' hr2 => pe_call GR hr2 (by rfl) DR.g DR.F.kp bR vR (pass1 (E := E) (takes_of rfl rfl rfl rfl)) (pa_cons (pv 1) (pa_cons (pv 6) (pa_cons pe_non (pa_cons pe_non pa_nil))))))
        (pe_tup (pa_cons pe_str (pa_cons (pe_callB (call_or2 call_reprS (call_repr hgd hu)) (by rfl) B.repr (by decide +kernel) (pa_cons (pv 6) pa_nil)) pa_nil))) (nomark _)) (pss_one (ps_ret pe_bl)) pss_nil)
      (pss_cons (ps_if (pt_cmpR (neD (K := K) rfl hu) (pHeard (k := 5) (qn := qRf) (T := T) hd TB hgd hr rfl rfl hmT hun rfl (LamX.lamS_by (by rfl)) rfl (fun _ _ _ _ _ => rfl)
          (fun A outer s H E f c' hr2 => pc DH GH hr2 (pass1 (E := E) (takes_of rfl rfl rfl rfl)) (pa_cons (pv 1) (pa_cons pe_int (pa_cons (pe_lst (pa_cons (pe_callB (clen (K := K) rfl) (by rfl) B.len PySem.boot_len (pa_cons (pv 3) pa_nil)) pa_nil)) pa_nil)))))
        (pe_tup (pa_cons pe_str (pa_cons pe_int (pa_cons pe_bl pa_nil)))) (nomark _)) (pss_one (ps_ret pe_bl)) pss_nil)
      (pss_cons (ps_if (pt_cmpR (neD (K := K) rfl hu) (pHeard (k := 5) (qn := qRf) (T := T) hd TB hgd hr rfl rfl hmT hun rfl (LamX.lamS_by (by rfl)) rfl (fun _ _ _ _ _ => rfl)
          (fun A outer s H E f c' hr2 => pe_call GR hr2 (by rfl) DR.g DR.F.kp bR vR (pass1 (E := E) (takes_of rfl rfl rfl rfl)) (pa_cons (pv 1) (pa_cons pe_int (pa_cons pe_non (pa_cons pe_non pa_nil))))))
        (pe_tup (pa_cons pe_str (pa_cons (pe_op op_sub pe_int pe_int) (pa_cons pe_bl pa_nil)))) (nomark _)) (pss_one (ps_ret pe_bl)) pss_nil)
      (pss_cons (ps_set (i := 4) scRf.nd rfl (.inr rfl) (pc DK GK r2 pass0 (pa_cons (pv 0) (pa_cons (pe_lst (pa_cons (pe_op op_sub pe_int pe_int) (pa_cons (pe_op op_add (pe_op op_pow pe_int pe_int) pe_int) (pa_cons pe_non (pa_cons pe_bl (pa_cons pe_str pa_nil)))))) pa_nil))))
      (pss_cons (ps_set (i := 5) scRf.nd rfl (.inr rfl) (pc DK GK r2 pass0 (pa_cons (pv 0) (pa_cons (pe_lst (pa_cons (pe_op op_sub pe_int pe_int) (pa_cons (pe_op op_add (pe_op op_pow pe_int pe_int) pe_int) (pa_cons pe_non (pa_cons pe_bl (pa_cons pe_str pa_nil)))))) pa_nil))))
      (pss_cons (ps_if (pt_cmpR (neD (K := K) rfl hu) (pHeard (k := 5) (qn := qRf) (T := T) hd TB hgd hr rfl rfl hmT hun rfl (LamX.lamS_by (by rfl)) rfl (fun _ _ _ _ _ => rfl)
          (fun A outer s H E f c' hr2 => pe_callN GR hr2 (by rfl) DR.g DR.F.kp DR.k1 (pass1 (E := E) (takes_of rfl rfl rfl rfl)) (pa_cons (pv 1) (pa_cons pe_int (pa_cons (pe_tup pa_nil) (pa_cons (pv 4) pa_nil)))) (pk_cons (pv 5) pk_nil)))
        (pe_tup (pa_cons pe_str (pa_cons (pe_callB (call_or2 call_reprS (call_repr hgd hu)) (by rfl) B.repr (by decide +kernel) (pa_cons (pv 4) pa_nil)) (pa_cons pe_bl pa_nil)))) (nomark _)) (pss_one (ps_ret pe_bl)) pss_nil)
      (pss_cons (ps_if (pt_cmpR (neD (K := K) rfl hu) (pHeard (k := 5) (qn := qRf) (T := T) hd TB hgd hr rfl rfl hmT hun rfl (LamX.lamS_by (by rfl)) rfl (fun _ _ _ _ _ => rfl)
          (fun A outer s H E f c' hr2 => pe_callN GR hr2 (by rfl) DR.g DR.F.kp DR.k1 (pass1 (E := E) (takes_of rfl rfl rfl rfl)) (pa_cons (pv 1) (pa_cons pe_int (pa_cons (pe_tup pa_nil) (pa_cons (pe_op op_pow pe_int pe_int) pa_nil)))) (pk_cons (pv 5) pk_nil)))
        (pe_tup (pa_cons pe_str (pa_cons (pe_callB (call_or2 call_reprS (call_repr hgd hu)) (by rfl) B.repr (by decide +kernel) (pa_cons (pv 5) pa_nil)) (pa_cons pe_bl pa_nil)))) (nomark _)) (pss_one (ps_ret pe_bl)) pss_nil)
      (pss_cons (ps_if (pt_cmpR (neD (K := K) rfl hu) (pHeard (k := 5) (qn := qRf) (T := T) hd TB hgd hr rfl rfl hmT hun rfl (LamX.lamS_by (by rfl)) rfl (fun _ _ _ _ _ => rfl)
          (fun A outer s H E f c' hr2 => pe_call GR hr2 (by rfl) DR.g DR.F.kp bR vR (pass1 (E := E) (takes_of rfl rfl rfl rfl)) (pa_cons (pv 1) (pa_cons pe_int (pa_cons (pe_tup pa_nil) (pa_cons pe_int pa_nil))))))
        (pe_tup (pa_cons pe_str (pa_cons pe_int (pa_cons pe_bl pa_nil)))) (nomark _)) (pss_one (ps_ret pe_bl)) pss_nil)
      (pss_one (ps_ret (pe_cmpR op_eq (pe_ix ix_tup (pHeard (k := 5) (qn := qRf) (T := T) hd TB hgd hr rfl rfl hmT hun rfl (LamX.lamS_by (by rfl)) rfl (fun _ _ _ _ _ => rfl)
          (fun A outer s H E f c' hr2 => pe_callN GR hr2 (by rfl) DR.g DR.F.kp DR.k1 (pass1 (E := E) (takes_of rfl rfl rfl rfl)) (pa_cons (pv 1) (pa_cons pe_int (pa_cons (pe_tup pa_nil) (pa_cons pe_int pa_nil)))) (pk_cons pe_int pk_nil))) pe_int (fun _ _ => rfl)) pe_str (nomark _))))))))))))), ?_⟩
    have n1 := hW.n1
    have n12 := hW.n12
    have L0 : Lw b T [] H H := Lw.refl hb hT
    have el : (tas.map V.ref).length = ts.length := by rw [List.length_map, hA.1]
    refine ⟨_, rfl, _, rfl, _, _, rfl, rfl, (by show 5 ≤ sizeLine; decide), fun l0 hl0 => ?_⟩
    refine nilP ⟨b, l0, oddA (n : Int), rfl, (L0.new hl0).bx, upd_same, L0.nn hl0, by show 1 ≤ 5; decide, by show 5 ≤ 1000; decide, fun i0 v0 J0 hv0 bx0 => ?_⟩
    have Lp0 := (L0.new (o := HO.lst (oddA (n : Int))) hl0).box bx0
    obtain ⟨bd0, x0, vl0⟩ := oddA_vl (K := K) (xs := [b]) (H := J0) (by omega) (by omega) (List.mem_of_getElem? hv0)
    refine gn ?_
    dsimp only [List.set]
    refine ⟨Lp0.tb, fun G1 eN1 tb1 => ?_⟩
    have La1 := Lp0.ext eN1 tb1
    have kx1 : Ks [b] _ G1 := fun c o e _ n => eN1 _ _ e n
    have va1 := vl0.ks kx1
    have wa1 := La1.webK hb hw
    refine ⟨_, rfl, _, rfl, nn1 ⟨w, v0, .non, none, none, n, ts, rfl, wa1, hW, (va1.rd _ Ks.refl).kv, rw0 .non, .inl ⟨bd0, heH va1 fun p1 E1 z1 hp1 => ?_⟩⟩⟩
    refine ⟨_, rfl, nilP (va1.sh _ _ (fun c o e _ _ => z1 _ _ e) ⟨(by show 2 ≤ sizeLine; decide), fun q1 hq1 => earH st_h va1.ok ((same_new hq1) _ _ hp1) upd_same ⟨_, rfl, iteF (nxP ?_)⟩⟩)⟩
    have Lb1 := (La1.same z1).new (o := HO.tup [.str "house", .str x0]) hq1
    have vb1 := va1.same (z1.trans (same_new (o := HO.tup [.str "house", .str x0]) hq1))
    generalize upd E1 q1 (.tup [.str "house", .str x0]) = F1 at Lb1 vb1 ⊢
    refine ⟨Lb1.tb, fun G2 eN2 tb2 => ?_⟩
    have La2 := Lb1.ext eN2 tb2
    have kx2 : Ks [b] _ G2 := fun c o e _ n => eN2 _ _ e n
    have va2 := vb1.ks kx2
    have wa2 := La2.webK hb hw
    refine ⟨_, rfl, _, rfl, nn2 ⟨w, v0, .non, .non, .int 0, none, none, none, none, n, ts, rfl, wa2, hW, (va2.rd _ Ks.refl).kv, rw0 .non, .non, .int 0, .inl ⟨bd0, heH va2 fun p2 E2 z2 hp2 => ?_⟩⟩⟩
    refine ⟨_, rfl, nilP (va2.sh _ _ (fun c o e _ _ => z2 _ _ e) ⟨(by show 2 ≤ sizeLine; decide), fun q2 hq2 => earH st_h va2.ok ((same_new hq2) _ _ hp2) upd_same ⟨_, rfl, iteF (nxP ?_)⟩⟩)⟩
    have Lb2 := (La2.same z2).new (o := HO.tup [.str "house", .str x0]) hq2
    have vb2 := va2.same (z2.trans (same_new (o := HO.tup [.str "house", .str x0]) hq2))
    generalize upd E2 q2 (.tup [.str "house", .str x0]) = F2 at Lb2 vb2 ⊢
    -- a tie that is none
    refine ⟨Lb2.tb, fun G3 eN3 tb3 => ?_⟩
    have La3 := Lb2.ext eN3 tb3
    have ht3 := La3.lstK ht ntl
    refine ⟨_, rfl, _, rfl, tl, _, rfl, .inl (SqL.of ht3), (by show 1 ≤ sizeLine; decide), fun y3 hy3 => ?_⟩
    rw [el]
    have Lc3 := La3.new (o := HO.lst [V.int ((ts.length : Nat) : Int)]) hy3
    have hy3' : (upd G3 y3 (.lst [V.int ((ts.length : Nat) : Int)])) y3 = some (.lst [V.int ((ts.length : Nat) : Int)]) := upd_same
    have fb : fnb [V.int ((ts.length : Nat) : Int)] (ts.length : Int) = .int ((0 : Nat) : Int) := fnb_at (i := 0) (x := V.int ((ts.length : Nat) : Int)) rfl (by
      show (decide (0 ≤ (ts.length : Int)) && decide ((ts.length : Int) < (ts.length : Int))) = false
      rw [decide_eq_false (Int.lt_irrefl _), Bool.and_false]) fun j y hj => absurd hj (Nat.not_lt_zero _)
    refine ⟨w, .int ((0 : Nat) : Int), .ref y3, none, some [V.int ((ts.length : Nat) : Int)], n, ts, rfl, Lc3.webK hb hw, hW, .int _, ⟨.lst hy3', fun ys e y hy => ?_⟩, .inr ⟨0, rfl, n1, .inl ⟨((0 : Nat) : Int), .inr ⟨_, 0, rfl, rfl, fb, rfl⟩, heB fun p3 E3 z3 hp3 => ?_⟩⟩⟩
    · obtain rfl := Option.some.inj e
      rw [List.mem_singleton.mp hy]
      exact ⟨_, .int _⟩
    refine ⟨(by show 3 ≤ sizeLine; decide), fun q3 hq3 => earI st_s ((same_new hq3) _ _ hp3) upd_same ⟨_, rfl, iteF (nxP ?_)⟩⟩
    have Lb3 := (Lc3.same z3).new (o := HO.tup [.str "steps", .int 0, .bl true]) hq3
    generalize upd E3 q3 (.tup [.str "steps", .int 0, .bl true]) = F3 at Lb3 ⊢
    -- no order
    refine ⟨Lb3.tb, fun G4 eN4 tb4 => ?_⟩
    have La4 := Lb3.ext eN4 tb4
    refine ⟨_, rfl, cn3 ⟨w, .int ((0 : Nat) : Int), .non, .non, .int 0, none, none, none, none, n, ts, rfl, La4.webK hb hw, hW, .int _, rw0 .non, .non, .int 0, .inr ⟨0, rfl, n1, .inl ⟨-1, .inl ⟨rfl, rfl⟩, heB fun p4 E4 z4 hp4 => ?_⟩⟩⟩⟩
    refine ⟨_, _, rfl, rfl, (by show 3 ≤ sizeLine; decide), fun q4 hq4 => earI (i := -1) st_s ((same_new hq4) _ _ hp4) upd_same ⟨_, rfl, iteF (nxP ?_)⟩⟩
    have Lb4 := (La4.same z4).new (o := HO.tup [.str "steps", .int (0 - 1), .bl true]) hq4
    generalize upd E4 q4 (.tup [.str "steps", .int (0 - 1), .bl true]) = F4 at Lb4 ⊢
    -- no number of rounds, no modulus
    refine ⟨_, rfl, _, _, rfl, rfl, _, _, rfl, rfl, ⟨by decide, by decide, by decide⟩, _, _, rfl, rfl, (by show 5 ≤ sizeLine; decide), fun l5 hl5 => ?_⟩
    refine nilP ⟨b, l5, oddR, rfl, (Lb4.new hl5).bx, upd_same, Lb4.nn hl5, by show 1 ≤ 5; decide, by show 5 ≤ 1000; decide, fun i5 v5 J5 hv5 bx5 => ?_⟩
    have Lp5 := (Lb4.new (o := HO.lst oddR) hl5).box bx5
    obtain ⟨bd5, x5, vl5⟩ := oddR_vl (K := K) (xs := [b]) (H := J5) (List.mem_of_getElem? hv5)
    refine gn ?_
    dsimp only [List.set]
    refine ⟨_, rfl, _, _, rfl, rfl, _, _, rfl, rfl, ⟨by decide, by decide, by decide⟩, _, _, rfl, rfl, (by show 5 ≤ sizeLine; decide), fun l6 hl6 => ?_⟩
    refine nilP ⟨b, l6, oddM, rfl, (Lp5.new hl6).bx, upd_same, Lp5.nn hl6, by show 1 ≤ 5; decide, by show 5 ≤ 1000; decide, fun i6 v6 J6 hv6 bx6 => ?_⟩
    have Lp6 := (Lp5.new (o := HO.lst oddM) hl6).box bx6
    have vp5 := (vl5.same (same_new (o := HO.lst oddM) hl6)).ks (ks_bx bx6)
    obtain ⟨bd6, x6, vl6⟩ := oddM_vl (K := K) (xs := [b]) (H := J6) (List.mem_of_getElem? hv6)
    refine gn ?_
    dsimp only [List.set]
    have tup0 : ∀ {H' : Hp} {e : Addr}, H' e = some (.tup []) → Rw K H' (.ref e) (some (vn [])) := fun h => rw_vnT (tu := []) h
    refine ⟨Lp6.tb, fun G7 eN7 tb7 => ?_⟩
    have La7 := Lp6.ext eN7 tb7
    have kx7 : Ks [b] _ G7 := fun c o e _ n => eN7 _ _ e n
    refine ⟨_, rfl, (by show 0 ≤ sizeLine; decide), fun e7 he7 => ?_⟩
    have Lc7 := La7.new (o := HO.tup []) he7
    have he7' : (upd G7 e7 (.tup [])) e7 = some (.tup []) := upd_same
    have vc7 := (vp5.ks kx7).same (same_new (o := HO.tup []) he7)
    have vd7 := (vl6.ks kx7).same (same_new (o := HO.tup []) he7)
    generalize upd G7 e7 (.tup []) = H7 at Lc7 he7' vc7 vd7 ⊢
    refine ⟨_, rfl, nilP ⟨_, rfl, nilP ⟨rfl, rfl, w, .int ((0 : Nat) : Int), .ref e7, v5, v6, none, some (vn []), none, none, n, ts, rfl, Lc7.webK hb hw, hW, .int _, tup0 he7', (vc7.rd _ Ks.refl).kv, (vd7.rd _ Ks.refl).kv, .inr ⟨0, rfl, n1, .inr ⟨[], rfl, by decide, fun t h => (by cases h), .inl ⟨bd5, heR vc7 fun p7 E7 z7 hp7 => ?_⟩⟩⟩⟩⟩⟩
    refine ⟨_, rfl, nilP ((vc7.same z7).sh _ _ Ks.refl ⟨(by show 3 ≤ sizeLine; decide), fun q7 hq7 => earS st_r vc7.ok ((same_new hq7) _ _ hp7) upd_same ⟨_, rfl, iteF (nxP ?_)⟩⟩)⟩
    have Lb7 := (Lc7.same z7).new (o := HO.tup [.str "refused", .str x5, .bl true]) hq7
    have vb7 := vd7.same (z7.trans (same_new (o := HO.tup [.str "refused", .str x5, .bl true]) hq7))
    generalize upd E7 q7 (.tup [.str "refused", .str x5, .bl true]) = F7 at Lb7 vb7 ⊢
    refine ⟨Lb7.tb, fun G8 eN8 tb8 => ?_⟩
    have La8 := Lb7.ext eN8 tb8
    have kx8 : Ks [b] _ G8 := fun c o e _ n => eN8 _ _ e n
    refine ⟨_, rfl, (by show 0 ≤ sizeLine; decide), fun e8 he8 => ?_⟩
    have Lc8 := La8.new (o := HO.tup []) he8
    have he8' : (upd G8 e8 (.tup [])) e8 = some (.tup []) := upd_same
    have vd8 := (vb7.ks kx8).same (same_new (o := HO.tup []) he8)
    generalize upd G8 e8 (.tup []) = H8 at Lc8 he8' vd8 ⊢
    refine ⟨_, _, rfl, rfl, ⟨by decide, by decide, by decide⟩, nilP ⟨_, rfl, nilP ⟨rfl, rfl, w, .int ((0 : Nat) : Int), .ref e8, .int ((10 ^ 18 : Nat) : Int), v6, none, some (vn []), none, none, n, ts, rfl, Lc8.webK hb hw, hW, .int _, tup0 he8', .int _, (vd8.rd _ Ks.refl).kv, .inr ⟨0, rfl, n1, .inr ⟨[], rfl, by decide, fun t h => (by cases h), .inr ⟨10 ^ 18, rfl, by decide, .inl ⟨bd6, heR vd8 fun p8 E8 z8 hp8 => ?_⟩⟩⟩⟩⟩⟩⟩
    refine ⟨_, rfl, nilP ((vd8.same z8).sh _ _ Ks.refl ⟨(by show 3 ≤ sizeLine; decide), fun q8 hq8 => earS st_r vd8.ok ((same_new hq8) _ _ hp8) upd_same ⟨_, rfl, iteF (nxP ?_)⟩⟩)⟩
    have Lb8 := (Lc8.same z8).new (o := HO.tup [.str "refused", .str x6, .bl true]) hq8
    generalize upd E8 q8 (.tup [.str "refused", .str x6, .bl true]) = F8 at Lb8 ⊢
    -- too many rounds
    refine ⟨Lb8.tb, fun G9 eN9 tb9 => ?_⟩
    have La9 := Lb8.ext eN9 tb9
    refine ⟨_, rfl, (by show 0 ≤ sizeLine; decide), fun e9 he9 => ?_⟩
    have Lc9 := La9.new (o := HO.tup []) he9
    have he9' : (upd G9 e9 (.tup [])) e9 = some (.tup []) := upd_same
    generalize upd G9 e9 (.tup []) = H9 at Lc9 he9' ⊢
    refine ⟨w, .int ((0 : Nat) : Int), .ref e9, .int ((401 : Nat) : Int), .int ((0 : Nat) : Int), none, some (vn []), none, none, n, ts, rfl, Lc9.webK hb hw, hW, .int _, tup0 he9', .int _, .int _, .inr ⟨0, rfl, n1, .inr ⟨[], rfl, by decide, fun t h => (by cases h), .inr ⟨401, rfl, by decide, .inr ⟨0, rfl, by decide, .inl ⟨rfl, by decide, heG fun p9 E9 z9 hp9 => ?_⟩⟩⟩⟩⟩⟩
    refine ⟨(by show 3 ≤ sizeLine; decide), fun q9 hq9 => earI st_g ((same_new hq9) _ _ hp9) upd_same ⟨_, rfl, iteF (nxP ?_)⟩⟩
    have Lb9 := (Lc9.same z9).new (o := HO.tup [.str "great", .int 400, .bl true]) hq9
    generalize upd E9 q9 (.tup [.str "great", .int 400, .bl true]) = F9 at Lb9 ⊢
    -- by a modulus they are told
    refine ⟨Lb9.tb, fun GA eNA tbA => ?_⟩
    have LaA := Lb9.ext eNA tbA
    refine ⟨_, rfl, (by show 0 ≤ sizeLine; decide), fun eA heA => ?_⟩
    have LcA := LaA.new (o := HO.tup []) heA
    have heA' : (upd GA eA (.tup [])) eA = some (.tup []) := upd_same
    generalize upd GA eA (.tup []) = HA at LcA heA' ⊢
    refine c1 (c1 ⟨rfl, rfl, w, .int ((0 : Nat) : Int), .ref eA, .int ((401 : Nat) : Int), .int ((1 : Nat) : Int), none, some (vn []), none, none, n, ts, rfl, LcA.webK hb hw, hW, .int _, tup0 heA', .int _, .int _, .inr ⟨0, rfl, n1, .inr ⟨[], rfl, by decide, fun t h => (by cases h), .inr ⟨401, rfl, by decide, .inr ⟨1, rfl, by decide, .inr ⟨fun z => absurd z (by decide), fun r a b' H' s' hr' _ _ => ?_⟩⟩⟩⟩⟩⟩)
    refine ⟨(by show 2 ≤ sizeLine; decide), fun p hp => ?_⟩
    refine ⟨p, _, 0, .str "told", rfl, rfl, SqT.of upd_same, atI_nat (j := 0) rfl, eqVV rfl (q _ ((LcA.same s').new hp))⟩
end
end K1
namespace K1
open PySem PySem.Spec PyProof.Rows L2
structure PB (d : PyData) (n w : Nat) : Prop where
  lay : d.canLay0 = true
  sh : d.showable = true
  nd : d.hasDict = false
  dp : d.depth ≤ n
  wt : d.weight ≤ w
  sr : d.leavesShort 220 = true
structure PBA (ds : List PyData) (n w : Nat) : Prop where
  lay : PyData.canLayAll0 ds = true
  sh : PyData.showableAll ds = true
  nd : PyData.hasDictAll ds = false
  dp : PyData.depthAll ds ≤ n
  wt : PyData.weightAll ds ≤ w
  sr : PyData.leavesShortAll 220 ds = true
theorem log665 {i : Int} (h : i.natAbs < 10 ^ 200) : i.natAbs.log2 < 665 := by
  by_cases z : i.natAbs = 0
  · rw [z]; decide
  · exact (Nat.log2_lt z).mpr (Nat.lt_of_lt_of_le h (by decide))
theorem PB.int {i : Int} (h : i.natAbs < 10 ^ 200) : PB (.int i) 0 665 := by
  have h3 := log665 h
  refine ⟨by simp only [PyData.canLay0], ?_, by simp only [PyData.hasDict], by simp only [PyData.depth]; omega, ?_, ?_⟩
  · simp only [PyData.showable, decide_eq_true_eq]; omega
  · simp only [PyData.weight]
    split <;> omega
  · have e := int_text_length_le10 (a := i) (k := 200) (by decide) h
    simp only [PyData.leavesShort, decide_eq_true_eq, PyData.shown]
    exact decide_eq_true (Nat.le_trans (Nat.le_trans (Nat.le_of_eq (PySem.ofString_length _)) e) (by decide))
theorem PBA.nil : PBA [] 0 0 := ⟨by simp only [PyData.canLayAll0], by simp only [PyData.showableAll], by simp only [PyData.hasDictAll], by simp only [PyData.depthAll]; omega, by simp only [PyData.weightAll]; omega, by simp only [PyData.leavesShortAll]⟩
theorem PBA.cons {d : PyData} {ds : List PyData} {n m u v : Nat} (a : PB d n u) (b : PBA ds m v) : PBA (d :: ds) (max n m) (u + 1 + v) := by
  refine ⟨by simp only [PyData.canLayAll0, a.lay, b.lay, Bool.and_self], by simp only [PyData.showableAll, a.sh, b.sh, Bool.and_self], by simp only [PyData.hasDictAll, a.nd, b.nd, Bool.or_self], ?_, ?_, by simp only [PyData.leavesShortAll, a.sr, b.sr, Bool.and_self]⟩
  · have h1 := a.dp; have h2 := b.dp
    simp only [PyData.depthAll]; omega
  · have h1 := a.wt; have h2 := b.wt
    simp only [PyData.weightAll]; omega
theorem PB.tuple {ds : List PyData} {n w : Nat} (a : PBA ds n w) : PB (.tuple ds) (n + 1) w := by
  refine ⟨by simp only [PyData.canLay0, a.lay], by simp only [PyData.showable, a.sh], by simp only [PyData.hasDict, a.nd], ?_, ?_, by simp only [PyData.leavesShort, a.sr]⟩
  · have h1 := a.dp
    simp only [PyData.depth]; omega
  · have h1 := a.wt
    simp only [PyData.weight]; omega
theorem PB.mono {d : PyData} {n w m v : Nat} (a : PB d n w) (h1 : n ≤ m) (h2 : w ≤ v) : PB d m v := ⟨a.lay, a.sh, a.nd, Nat.le_trans a.dp h1, Nat.le_trans a.wt h2, a.sr⟩
theorem PBA.mono {d : List PyData} {n w m v : Nat} (a : PBA d n w) (h1 : n ≤ m) (h2 : w ≤ v) : PBA d m v := ⟨a.lay, a.sh, a.nd, Nat.le_trans a.dp h1, Nat.le_trans a.wt h2, a.sr⟩
theorem PB.short {d : PyData} {n w : Nat} (a : PB d n w) (h : w ≤ 70000) : d.shown.length ≤ sizeLine := by
  have h1 := PyData.shown_le 220 (by decide) d a.sr
  have h2 := a.wt
  rw [sizeLine_eq]
  omega
theorem pba_ints : ∀ t : List Int, (∀ i ∈ t, i.natAbs < 10 ^ 200) → PBA (dI t) 0 (t.length * 666)
  | [], _ => PBA.nil
  | i :: r, h => (PBA.cons (PB.int (h i List.mem_cons_self)) (pba_ints r fun j hj => h j (List.mem_cons_of_mem _ hj))).mono (by omega) (by show 665 + 1 + r.length * 666 ≤ (r.length + 1) * 666; omega)
theorem reprB {K : PySem.W.Frag} {p : Addr} {d : PyData} {n w : Nat} {H : Hp} {Q : VK} (hd : Dp K H (.ref p) d) (pl : PB d n w) (hn : n ≤ 40) (hw : w ≤ 70000) (q : Q (.str d.shown) H) : rRepr K [.ref p] H Q := ⟨p, d, rfl, hd, pl.sh, pl.nd, Nat.le_trans pl.dp hn, pl.short hw, q⟩
theorem sqL_ks {K : PySem.W.Frag} {H H1 : Hp} {a : Addr} {xs : List V} (h : SqL K H a xs) (k : Ks [] H H1) : SqL K H1 a xs := by
  rcases h with (h | ⟨ob, h⟩) | h
  · exact .inl (.inl (k _ _ h (by simp) fun ps z => by cases z))
  · exact .inl (.inr ⟨ob, k _ _ h (by simp) fun ps z => by cases z⟩)
  · exact .inr h
theorem pb_two {a b : List Int} (ha : ∀ i ∈ a, i.natAbs < 10 ^ 200) (hb : ∀ i ∈ b, i.natAbs < 10 ^ 200) (la : a.length ≤ 20) (lb : b.length ≤ 20) : PB (.tuple [.tuple (dI a), .tuple (dI b)]) 2 50000 :=
  (PB.tuple (PBA.cons (PB.tuple (pba_ints a ha)) (PBA.cons (PB.tuple (pba_ints b hb)) PBA.nil))).mono (by decide) (by omega)
theorem dp_two {K : PySem.W.Frag} {H : Hp} {p x y : Addr} {a b : List Int} (h : H p = some (.tup [.ref x, .ref y])) (hx : H x = some (.tup (vrow a))) (hy : H y = some (.tup (vrow b))) : Dp K H (.ref p) (.tuple [.tuple (dI a), .tuple (dI b)]) := .tup (SqT.of h) (.cons (dp_tup hx) (.cons (dp_tup hy) .nil))
theorem dp_prs {K : PySem.W.Frag} {H : Hp} : ∀ {as : List Addr} {ts : Prs}, PrsA H as ts → DpAll K H (as.map V.ref) (ts.map fun p => .tuple [.int (p.1 : Int), .int (p.2 : Int)])
  | [], [], _ => .nil
  | a :: as, t :: ts, h => .cons (.tup (SqT.of (h.2 0 a t rfl rfl)) (.cons (.int _) (.cons (.int _) .nil))) (dp_prs ⟨Nat.succ.inj h.1, fun i b u e1 e2 => h.2 (i + 1) b u e1 e2⟩)
  | [], _ :: _, h => nomatch h.1
  | _ :: _, [], h => nomatch h.1
theorem pla_prs {n : Nat} : ∀ ts : Prs, (∀ p ∈ ts, p.1 < 1000 ∧ p.2 < 1000) → PlA (ts.map fun p => PyData.tuple [.int (p.1 : Int), .int (p.2 : Int)]) 1 (ts.length * 131)
  | [], _ => PlA.nil.mono (by decide) (by decide)
  | t :: r, h => by
    have := h t List.mem_cons_self
    refine (PlA.cons (Pl.tuple (PlA.cons (Pl.int (i := (t.1 : Int)) (by omega)) (PlA.cons (Pl.int (i := (t.2 : Int)) (by omega)) PlA.nil))) (pla_prs (n := n) r fun u hu => h u (List.mem_cons_of_mem _ hu))).mono (by omega) ?_
    show (64 + 1 + (64 + 1 + 0)) + 1 + r.length * 131 ≤ (r.length + 1) * 131
    omega
theorem Lw.ks0 {b : Addr} {T : List (Addr × Str)} {H0 H H' : Hp} (l : Lw b T [] H H') (s : Same H0 H) (h0 : H0 b = none) : Ks [] H0 H' := fun c o e _ n => l.ks c o (s _ _ e) (by rw [List.mem_singleton]; exact ne_of_none e h0) n
section
variable {X : Cx} {k : Nat} {f C : Addr} {fd : FuncData} {ps ks : List Str} {sp : Sp} {x m : Str} {st : Stmt} {p pos apos : Pos} {o e : Expr} {es : List Expr} {t : TA}
theorem pe_callG (D : Df X.K X.mg x st ps f fd) (G : FnG X.prog X.w X.K X.mg X.base k f fd ps sp) (hr : Room k X.A) (hgd : X.A.guards = some []) (ha : PA X (e :: es) t) (hg : Gl X x := by rfl)
    (hdb : (x == ("__debug__" : Str)) = false := by decide) (he : starEach (e :: es) X.env = (false, eval e X.env) :: starEach es X.env := by rfl) (hpl : (backTo pos (starEach es X.env)).any (·.1) = false := by rfl) :
    PE X (.Call (.Name x p) (e :: es) [] pos) (fun σ H Q => t σ H fun vs H1 => sp vs H1 Q fun _ _ _ => False) := by
  refine ⟨fun pins s σ H Q I h => ?_⟩
  refine wpAny_Call_Name_kw (ld_glob I hg D.g ?_ hdb)
  refine PySem.W.callWith_K (h₀ := X.base) I.ok.mod.kin D.F.kp (thn (ha.run pos pins s σ H _ I h) fun us s1 ⟨vs, H1, I1, r, q⟩ => ⟨I1.kIn, ?_⟩) he hpl
  have hl : us.length = ps.length := by rw [← r.length]; exact G.len _ _ _ _ q
  refine wpAny_call (codeAny_mono (G.run X.A X.stack s1 H1 ⟨us, []⟩ us vs Q (fun _ _ _ => False) hr hgd I1.env0 (by
    have z := D.b s1 us I1.kIn (by rw [List.append_nil]; exact hl)
    rw [List.append_nil] at z
    exact z) r q) fun r s' hq => ?_)
  cases r with
  | error e => exact (show False from hq).elim
  | ok fl =>
    cases fl with
    | ret u => exact I1.after hq
    | next => exact False.elim hq
    | brk => exact False.elim hq
    | cont => exact False.elim hq
end
theorem PB.shaped {d : PyData} {n w : Nat} (h : PB d n w) (hn : n ≤ 40) : SeqAt.shaped d = true := by
  unfold SeqAt.shaped
  rw [h.lay, decide_eq_true (by have := h.dp; omega)]; rfl
theorem neDB {K : PySem.W.Frag} {x y : V} {d : PyData} {n w : Nat} {H : Hp} {Q : VK} (h1 : Dp K H x d) (h2 : Dp K H y d) (pl : PB d n w) (hn : n ≤ 40) (q : Q (.bl false) H) : rNeD K x y H Q := ⟨d, d, h1, h2, pl.shaped hn, pl.shaped hn, qbl (by rw [SeqAt.eqv_refl _ pl.lay]; rfl) q⟩
/-! ### counts are told as long as they are asked for -/
def BdN (B : Nat) (xs : List Int) : Prop := ∀ i, (xs.getD i 0).natAbs ≤ B
theorem bdN_met {n : Nat} {ts : Prs} (hW : Wv n ts) {B : Nat} {xs : List Int} (hl : xs.length = n + ts.length) (h : BdN B xs) (t : Nat) : BdN (3 * B) (metC 0 n ts xs t) := fun i => by
  cases hp : ts[t]? with
  | none =>
    have : metC 0 n ts xs t = xs := by unfold metC; rw [hp]
    rw [this]
    have := h i
    omega
  | some p =>
    rw [metC_getD hW hl hp]
    split
    · unfold metV cby
      rw [if_pos rfl]
      have h1 := h p.1
      have h2 := h p.2
      have h3 := h (n + t)
      omega
    · have := h i
      omega
theorem bdN_run {n : Nat} {ts : Prs} (hW : Wv n ts) : ∀ (o : List Nat) {B : Nat} {xs : List Int}, xs.length = n + ts.length → BdN B xs → BdN (3 ^ o.length * B) (runC 0 n ts xs o)
  | [], B, xs, _, h => by
    show BdN (1 * B) xs
    rw [Nat.one_mul]; exact h
  | t :: o, B, xs, hl, h => by
    have := bdN_run hW o (by rw [metC_len]; exact hl) (bdN_met hW hl h t)
    rw [List.length_cons, Nat.pow_succ, Nat.mul_assoc]
    exact this
theorem rep_len (k : Nat) (tu : List Nat) : (rep k tu).length = k * tu.length := by
  induction k with
  | zero => simp [rep]
  | succ k ih => rw [rep_add, rep_one, List.length_append, ih, Nat.succ_mul]
theorem small_run {n : Nat} {ts : Prs} (hW : Wv n ts) {h k : Nat} {tu : List Nat} (hk : k ≤ 25) (ht : tu.length ≤ 6) : ∀ x ∈ runC 0 n ts (dlt (n + ts.length) h) (rep k tu), x.natAbs < 10 ^ 200 := fun x hx => by
  obtain ⟨i, hi⟩ := List.getElem?_of_mem hx
  have h0 : BdN 1 (dlt (n + ts.length) h) := fun i => by
    rw [dlt_getD]
    split
    · split <;> decide
    · decide
  have := bdN_run hW (rep k tu) (dlt_len _ _) h0 i
  rw [List.getD_eq_getElem?_getD, hi] at this
  have l : (rep k tu).length ≤ 150 := by rw [rep_len]; exact Nat.mul_le_mul hk ht
  have : x.natAbs ≤ 3 ^ (rep k tu).length * 1 := this
  exact Nat.lt_of_le_of_lt this (Nat.lt_of_le_of_lt (by rw [Nat.mul_one]; exact Nat.pow_le_pow_right (by decide) l) (by decide +kernel : 3 ^ 150 < 10 ^ 200))
theorem small_red {m : Int} (m0 : 0 < m) (m7 : m ≤ 7) (xs : List Int) : ∀ x ∈ red m xs, x.natAbs < 10 ^ 200 := fun x hx => by
  obtain ⟨y, _, rfl⟩ := List.mem_map.mp hx
  have := Int.emod_nonneg y (show m ≠ 0 by omega)
  have := Int.emod_lt_of_pos y m0
  exact Nat.lt_of_le_of_lt (show (y % m).natAbs ≤ 7 by omega) (by decide +kernel)
/-! ### a house has heard once it counts the deed -/
structure Mn (n : Nat) (ts : Prs) (cs : List Int) : Prop where
  ln : cs.length = n + ts.length
  nn : ∀ i, 0 ≤ cs.getD i 0
  le : ∀ (t : Nat) (p : Nat × Nat), ts[t]? = some p → cs.getD (n + t) 0 ≤ cs.getD p.1 0 ∧ cs.getD (n + t) 0 ≤ cs.getD p.2 0
theorem Mn.met {n : Nat} {ts : Prs} {cs : List Int} (hW : Wv n ts) (S : Mn n ts cs) {f : Nat → Bool} (hf : ∀ x, x < n → (0 < cs.getD x 0 ↔ f x = true)) (t : Nat) : Mn n ts (metC 0 n ts cs t) ∧ ∀ x, x < n → (0 < (metC 0 n ts cs t).getD x 0 ↔ heardF ts f t x = true) := by
  cases hp : ts[t]? with
  | none =>
    have e : metC 0 n ts cs t = cs := by unfold metC; rw [hp]
    rw [e, heardF_none hp]
    exact ⟨S, hf⟩
  | some p =>
    obtain ⟨p1, p2, _⟩ := hW.at_ hp
    have tl := lt_at hp
    have gd := metC_getD (m := 0) hW S.ln hp
    obtain ⟨l1, l2⟩ := S.le t p hp
    have n1 := S.nn p.1
    have n2 := S.nn p.2
    have n3 := S.nn (n + t)
    have ev : metV 0 n cs p t = cs.getD p.1 0 + cs.getD p.2 0 - cs.getD (n + t) 0 := by unfold metV cby; rw [if_pos rfl]
    rw [ev] at gd
    have grow : ∀ x, x < n → cs.getD x 0 ≤ (metC 0 n ts cs t).getD x 0 := fun x hx => by
      rw [gd]
      split
      · rename_i c
        rcases c with c | c | c
        · rw [c]; omega
        · rw [c]; omega
        · omega
      · exact Int.le_refl _
    refine ⟨⟨by rw [metC_len]; exact S.ln, fun i => ?_, fun u q hq => ?_⟩, fun x hx => ?_⟩
    · rw [gd]
      split
      · omega
      · exact S.nn i
    · obtain ⟨q1, q2, _⟩ := hW.at_ hq
      by_cases c : u = t
      · subst c
        obtain rfl := lookup_same hp hq
        rw [gd (n + u), gd p.1, gd p.2, if_pos (.inr (.inr rfl)), if_pos (.inl rfl), if_pos (.inr (.inl rfl))]
        exact ⟨Int.le_refl _, Int.le_refl _⟩
      · rw [gd (n + u), if_neg (by omega)]
        obtain ⟨s1, s2⟩ := S.le u q hq
        exact ⟨Int.le_trans s1 (grow _ q1), Int.le_trans s2 (grow _ q2)⟩
    · rw [gd, heardF_some hp]
      by_cases c : x = p.1 ∨ x = p.2
      · rw [if_pos (by omega), if_pos c, Bool.or_eq_true, ← hf p.1 p1, ← hf p.2 p2]
        omega
      · rw [if_neg (by omega), if_neg c]
        exact hf x hx
theorem mn_run {n : Nat} {ts : Prs} (hW : Wv n ts) : ∀ (o : List Nat) {cs : List Int} {f : Nat → Bool}, Mn n ts cs → (∀ x, x < n → (0 < cs.getD x 0 ↔ f x = true)) → ∀ x, x < n → (0 < (runC 0 n ts cs o).getD x 0 ↔ (o.foldl (heardF ts) f) x = true)
  | [], _, _, _, hf => hf
  | t :: o, _, _, S, hf => mn_run hW o (S.met hW hf t).1 (S.met hW hf t).2
theorem pos_hear {n : Nat} {ts : Prs} (hW : Wv n ts) {h : Nat} (hn : h < n) (o : List Nat) {x : Nat} (hx : x < n) : 0 < (runC 0 n ts (dlt (n + ts.length) h) o).getD x 0 ↔ hear ts h o x = true := by
  refine mn_run hW o ⟨dlt_len _ _, fun i => ?_, fun t p hp => ?_⟩ (fun y hy => ?_) x hx
  · rw [dlt_getD]
    split
    · split <;> decide
    · decide
  · rw [dlt_getD, if_pos (by have := lt_at hp; omega), if_neg (by omega)]
    refine ⟨?_, ?_⟩ <;> (rw [dlt_getD]; split <;> first | (split <;> decide) | decide)
  · rw [dlt_getD, if_pos (by omega)]
    by_cases c : y = h
    · rw [if_pos c, decide_eq_true c]; exact ⟨fun _ => rfl, fun _ => by decide⟩
    · rw [if_neg c, decide_eq_false c]; exact ⟨fun z => absurd z (by decide), fun z => by cases z⟩
/-- the law's due: the first of the rounds behind which a house counts the deed -/
def fst26 (ts : Prs) (h : Nat) (tu : List Nat) (x : Nat) : List Nat := (List.range 26).filter fun j => hear ts h (rep j tu) x
theorem fst_some {ts : Prs} {h : Nat} {tu : List Nat} {x r : Nat} (hf : FirstAt (fun j => hear ts h (rep j tu) x = true) r) (hr : r < 26) : (fst26 ts h tu x)[0]? = some r := by
  have hm : r ∈ fst26 ts h tu x := List.mem_filter.mpr ⟨List.mem_range.mpr hr, hf.1⟩
  have hp : (fst26 ts h tu x).Pairwise (· < ·) := List.pairwise_lt_range.filter _
  cases e : fst26 ts h tu x with
  | nil => rw [e] at hm; cases hm
  | cons a l =>
    rw [e] at hm hp
    have ha : a ∈ fst26 ts h tu x := by rw [e]; exact List.mem_cons_self
    rcases List.mem_cons.mp hm with c | c
    · rw [c]; rfl
    · exact absurd (List.mem_filter.mp ha).2 (hf.2 a ((List.pairwise_cons.mp hp).1 r c))
theorem fst_none {ts : Prs} {h : Nat} {tu : List Nat} {x : Nat} (hf : ∀ j, ¬ hear ts h (rep j tu) x = true) : fst26 ts h tu x = [] := List.filter_eq_nil_iff.mpr fun j _ => hf j
def oV (o : Option Nat) : V := o.elim V.non fun r => V.int (r : Int)
def oD (o : Option Nat) : PyData := o.elim PyData.none fun r => PyData.int (r : Int)
theorem dp_outs {K : PySem.W.Frag} {H : Hp} (F : Nat → Option Nat) : ∀ xs : List Nat, DpAll K H (xs.map fun x => oV (F x)) (xs.map fun x => oD (F x))
  | [] => .nil
  | x :: r => by
    refine .cons ?_ (dp_outs F r)
    show Dp K H (oV (F x)) (oD (F x))
    cases F x with
    | none => exact .non
    | some q => exact .int _
theorem pla_outs (F : Nat → Option Nat) : ∀ xs : List Nat, (∀ x ∈ xs, ∀ r, F x = some r → r ≤ 100) → PlA (xs.map fun x => oD (F x)) 0 (xs.length * 201)
  | [], _ => PlA.nil.mono (by decide) (by decide)
  | x :: r, h => by
    have h2 := pla_outs F r fun y hy => h y (List.mem_cons_of_mem _ hy)
    have h1 : Pl (oD (F x)) 0 200 := by
      cases e : F x with
      | none => exact pl_non.mono (by decide) (by decide)
      | some q =>
        have := h x List.mem_cons_self q e
        exact (Pl.int (i := (q : Int)) (by omega)).mono (by decide) (by decide)
    exact (PlA.cons h1 h2).mono (by decide) (by simp only [List.length_cons]; omega)
end K1
namespace K1
open PySem PySem.Spec PyProof.Rows L2
section
variable {X : Cx} {k : Nat} {f C : Addr} {fd : FuncData} {ps ks : List Str} {sp : Sp} {x m : Str} {st : Stmt} {p pos apos : Pos} {o : Expr} {kws : List Keyword} {tk : TA} {ta : TE}
theorem pe_callWD {CX : CXT} {E : XK} {g : List Value → List Value → List Value} {gV : List V → List V → List V} (hm : X.mg x = some (.ref f)) (hk : PySem.W.keepIn X.K (.ref f) = true) (G : FnOk X.prog X.w X.K X.mg X.base CX k f fd ps sp) (hr : Room k X.A) (hb : KBn X.K fd ps 0 ks g gV) (hx : Passes CX X E) (hkw : PK X kws tk) (hg : Gl X x := by rfl)
    (hall : (backToKw pos (keywordEach kws X.env)).all (·.1.isSome) = true := by rfl) (hks : (backToKw pos (keywordEach kws X.env)).filterMap (·.1) = ks := by rfl) (hdb : (x == ("__debug__" : Str)) = false := by decide)
    (hpl : ((backTo pos (starEach [] X.env)).any (·.1) || (backToKw pos (keywordEach kws X.env)).any (·.1.isNone)) = false := by rfl) :
    PE X (.Call (.Name x p) [] kws pos) (fun σ H Q => tk σ H fun zs H1 => zs.length = ks.length ∧ sp (gV [] zs) H1 Q E) := by
  refine ⟨fun pins s σ H Q I h => ?_⟩
  refine wpAny_Call_Name_kw (ld_glob I hg hm ?_ hdb)
  refine PySem.W.callWith_KW0 (h₀ := X.base) I.ok.mod.kin hk hall ?_ hpl
  refine thn (hkw.run pos pins s σ H _ I h) fun ws s2 ⟨zs, H2, I2, rz, l2, q2⟩ => ⟨I2.kIn, ?_⟩
  rw [hks]
  exact run_fnN (us := []) (vs := []) G hr hb hx I2 .nil rz rfl l2 q2
end
theorem tCq {v : V} {σ : L2.St} {H : Hp} {Q : VK} (h : Q v H) : tC v σ H Q := h
theorem ef_yes {p : Nat → Bool} {q : Nat} (h : p q = true) : (List.range (q + 1)).filter p = (List.range q).filter p ++ [q] := by
  rw [List.range_succ, List.filter_append]; simp [h]
theorem ef_no {p : Nat → Bool} {q : Nat} (h : p q = false) : (List.range (q + 1)).filter p = (List.range q).filter p := by
  rw [List.range_succ, List.filter_append]; simp [h]
theorem lv_row {H : Hp} {a : Addr} {l : List Nat} (h : H a = some (.lst (vn l))) : H a = some (.lst (vrow (l.map fun (x : Nat) => (x : Int)))) := by rw [← vn_row]; exact h
theorem eqv_cons (r : Int) (l : List PyData) : PyData.eqv (.list (.int r :: l)) (.list []) = false := rfl
theorem mkSame {G : Hp} {c dx : Addr} {o1 o2 : HO} (hc : G c = none) (hd : G dx = none) (ne : dx ≠ c) : Same G (upd (upd G dx o1) c o2) := (same_new hd).trans (same_new (by rw [upd_ne ne.symm]; exact hc))
theorem Lw.tupK {b a : Addr} {T : List (Addr × Str)} {H H' : Hp} {xs : List V} (hb : BoxO H b) (l : Lw b T [] H H') (h : H a = some (.tup xs)) : H' a = some (.tup xs) := l.ks.tup h (by rw [List.mem_singleton]; exact hb.ne h fun xs => by intro z; cases z)
theorem Lw.tiesL {b tl : Addr} {T : List (Addr × Str)} {H H' : Hp} {ts : Prs} (hb : BoxO H b) (l : Lw b T [] H H') (h : TiesL H tl ts) (n : tl ≠ b) : TiesL H' tl ts := let ⟨as, h1, h2⟩ := h; ⟨as, l.lstK h1 n, h2.kp fun a xs e => l.tupK hb e⟩
theorem c2 {i j : Int} {σ : L2.St} {H : Hp} {Q : List V → Hp → Prop} (h : Q [.int i, .int j] H) : tCons (tC (.int i)) (tCons (tC (.int j)) tNil) σ H Q := h
theorem TiesL.dp {K : PySem.W.Frag} {H : Hp} {l : Addr} {ts : Prs} (h : TiesL H l ts) : Dp K H (.ref l) (.list (ts.map fun p => .tuple [.int (p.1 : Int), .int (p.2 : Int)])) := let ⟨as, h1, h2⟩ := h; .lst (SqL.of h1) (dp_prs h2)
theorem pl_ties {n : Nat} {ts : Prs} (hW : Wv n ts) : Pl (.list (ts.map fun p => PyData.tuple [.int (p.1 : Int), .int (p.2 : Int)])) 2 100000 := (Pl.list (pla_prs (n := n) ts fun p hp => by have := hW.pr p hp; have := hW.n12; omega)).mono (by decide) (by have := hW.t20; omega)
theorem kb_hr {K : PySem.W.Frag} {f : Addr} {fd : FuncData} (F : Fun K "heard_rounds" "heard_rounds" sHeardRounds f fd) : KBn K fd ["web", "house", "order"] 0 ["order", "house", "web"] gM gMV := by
  obtain ⟨oc, od, kV, doc, pm, an, cdv, ct, osl, rfl, lk, hcd⟩ := F.ex
  refine ⟨fun s us ws _ h0 h1 => .of_eq ?_, fun r q => r.append q.reverse⟩
  match us, ws, h0, h1 with
  | [], [_, _, _], _, _ => rfl
structure Dn (P : Program) (w : World) (K : PySem.W.Frag) (mg : Str → Option Value) (base : Heap) (W CH CB CR CG : Addr) (T : List (Addr × Str)) : Prop where
  B : Bt mg
  TW : WcT K mg W
  box : ∃ f fd, Df K mg "_law_box" sLBox ["_law_script", "_law_k"] f fd ∧ FnOk P w K mg base CX0 1 f fd ["_law_script", "_law_k"] (spBox K)
  take : ∃ f fd, Df K mg "_law_take" sLTake ["_law_box_here", "_law_many"] f fd ∧ FnOk P w K mg base CX0 1 f fd ["_law_box_here", "_law_many"] spTake
  pick : ∃ f fd, Df K mg "_law_pick" sLPick ["_law_box_here", "_law_some"] f fd ∧ FnOk P w K mg base CX0 2 f fd ["_law_box_here", "_law_some"] spPick
  ties : ∃ f fd, Df K mg "_law_ties" sLTies ["_law_box_here", "_law_houses", "_law_most"] f fd ∧ FnOk P w K mg base CX0 2 f fd ["_law_box_here", "_law_houses", "_law_most"] spTies
  trail : ∃ f fd, Df K mg "_law_trail" sLTrail psT f fd ∧ FnOk P w K mg base CX0 2 f fd psT spTrail
  split : ∃ f fd, Df K mg "_law_split" sLSplit ["_law_houses", "_law_counts"] f fd ∧ FnOk P w K mg base CX0 1 f fd ["_law_houses", "_law_counts"] spSplit
  far : ∃ f fd, Df K mg "_law_far" sLFar psT f fd ∧ FnOk P w K mg base CX0 3 f fd psT spFar
  winit : ∃ f fd, Mk K W f ∧ Binds K fd ["self", "houses", "ties"] [] ∧ FnOk P w K mg base (L2.CX P w) 6 f fd ["self", "houses", "ties"] (spWInit W)
  rc : ∃ f fd, DfR K mg f fd ∧ FnOk P w K mg base (L2.CX P w) 5 f fd psR (spRC K W CH CB CR CG)
  hr : ∃ f fd, Df K mg "heard_rounds" sHeardRounds ["web", "house", "order"] f fd ∧ FnOk P w K mg base (L2.CX P w) 5 f fd ["web", "house", "order"] (spHR K W CH CB)
  ref : ∃ f fd, Df K mg "_law_refused_right" sLRefusedRight ["_law_box_here", "_law_web", "_law_houses", "_law_ties_here"] f fd ∧ FnG P w K mg base 8 f fd ["_law_box_here", "_law_web", "_law_houses", "_law_ties_here"] (spRef W T)
abbrev nLa : List Str := ["_law_script", "_law_k", "_law_box_here", "_law_houses", "_law_ties_here", "_law_order", "_law_house", "_law_web", "_law_rounds", "_law_trail_here", "_law_due", "_law_modulus", "_law_far_here", "_law_came", "_law_there", "_law_first", "_law_turn", "_law_count", "_law_at"]
theorem scLa : FnScope nLa ["_law_script"] (defScope sLaw) := ⟨rfl, rfl, rfl, by decide +kernel, rfl, by decide +kernel, by decide +kernel⟩
def spLaw (K : PySem.W.Frag) (T : List (Addr × Str)) : Sp := fun vs H Q _ => ∃ (a : Addr) (ns : List Int), vs = [.ref a] ∧ SqL K H a (ns.map V.int) ∧ ns.length ≤ 63 ∧ LamX.Tabs T H ∧ ∀ H', Q (.bl true) H'
section
variable {P : Program} {w : World} {K : PySem.W.Frag} {mg : Str → Option Value} {base : Heap}
theorem ok_law {f W CH CB CR CG : Addr} {fd : FuncData} {T : List (Addr × Str)} (F : Fun K "law" "law" sLaw f fd) (dn : Dn P w K mg base W CH CB CR CG T) : FnG P w K mg base 9 f fd ["_law_script"] (spLaw K T) := by
  have B := dn.B
  have TW := dn.TW
  obtain ⟨_, _, DB, GB⟩ := dn.box
  obtain ⟨_, _, DT, GT⟩ := dn.take
  obtain ⟨_, _, DK, GK⟩ := dn.pick
  obtain ⟨_, _, DI, GI⟩ := dn.ties
  obtain ⟨_, _, DY, GY⟩ := dn.trail
  obtain ⟨_, _, DS, GS⟩ := dn.split
  obtain ⟨_, _, DF, GF⟩ := dn.far
  obtain ⟨_, _, MW, BW, GW⟩ := dn.winit
  obtain ⟨_, _, DR, GR⟩ := dn.rc
  obtain ⟨_, _, DH, GH⟩ := dn.hr
  obtain ⟨_, _, DX, GX⟩ := dn.ref
  obtain ⟨ds, vR, bR⟩ := DR.b
  refine okG F scLa (fun vs H Q E h => ?_) (fun cdv A outer s H vs Q E hr hgd h => ?_)
  · obtain ⟨a, ns, rfl, _⟩ := h
    rfl
  · obtain ⟨a, ns, rfl, hS, hn, hT, q⟩ := h
    have hu : (A.deeper (envOfC "law" (defScope sLaw) s.heap.objs.size f cdv)).units + 64 < cLine := hr.units
    have r1 := hr.mono (show 1 ≤ 8 by decide)
    have r2 := hr.mono (show 2 ≤ 8 by decide)
    have r3 := hr.mono (show 3 ≤ 8 by decide)
    have r5 := hr.mono (show 5 ≤ 8 by decide)
    have r7 := hr.mono (show 7 ≤ 8 by decide)
    refine ⟨_, pss_cons (ps_for PassesOwn.never rfl (pi_range1 (by rfl) B.range (pa_cons pe_int pa_nil)) (pg_name (i := 1) scLa.nd rfl (.inl rfl))
        (pss_cons (ps_set (i := 2) scLa.nd rfl (.inr rfl) (pc DB GB r1 pass0 (pa_cons (pv 0) (pa_cons (pv 1) pa_nil))))
        (pss_cons (ps_set (i := 3) scLa.nd rfl (.inl rfl) (pe_op op_add pe_int (pc DT GT r1 pass0 (pa_cons (pv 2) (pa_cons pe_int pa_nil)))))
        (pss_cons (ps_set (i := 4) scLa.nd rfl (.inr rfl) (pc DI GI r2 pass0 (pa_cons (pv 2) (pa_cons (pv 3) (pa_cons pe_int pa_nil)))))
        (pss_cons (ps_set (i := 5) scLa.nd rfl (.inl rfl) (pe_ifExp (pt_cmpR (neD (K := K) rfl hu) (pv 4) (pe_lst pa_nil) (nomark _))
            (pe_lc (own := [("_law_turn", 16)]) (g := gName 16) (tt := tYes) rfl scLa.nd (pi_range1 (by rfl) B.range (pa_cons (pc DT GT r1 pass0 (pa_cons (pv 2) (pa_cons pe_int pa_nil))) pa_nil)) (blkOk_by (N := nLa) (sc := defScope sLaw) (by decide +kernel)) (fun _ _ _ _ _ => pg_name (i := 16) scLa.nd rfl (.inl rfl)) (fun _ _ _ _ _ => pts_nil)
              (fun _ _ _ _ _ => pc DT GT r1 pass0 (pa_cons (pv 2) (pa_cons (pe_callB (clen (K := K) rfl) (by rfl) B.len PySem.boot_len (pa_cons (pv 4) pa_nil)) pa_nil)))) (pe_lst pa_nil)))
        (pss_cons (ps_par3 (i := 6) (j := 7) (l := 8) rfl scLa.nd rfl rfl rfl (by decide) (by decide) (by decide) rfl rfl rfl (pa_cons (pc DT GT r1 pass0 (pa_cons (pv 2) (pa_cons (pv 3) pa_nil))) (pa_cons (pe_make MW GW r7 rfl TW.g BW .nil passF (pa_cons (pv 3) (pa_cons (pv 4) pa_nil))) (pa_cons (pc DT GT r1 pass0 (pa_cons (pv 2) (pa_cons pe_int pa_nil))) pa_nil))) rfl)
        (pss_cons (ps_set (i := 9) scLa.nd rfl (.inr rfl) (pc DY GY r2 pass0 (pa_cons (pv 4) (pa_cons (pv 3) (pa_cons (pv 6) (pa_cons (pv 5) (pa_cons pe_int (pa_cons pe_int pa_nil))))))))
        (pss_cons (ps_set (i := 10) scLa.nd rfl (.inl rfl) (pc DS GS r1 pass0 (pa_cons (pv 3) (pa_cons (pe_ix ix_list (pv 9) (pv 8) (fun _ _ => rfl)) pa_nil))))
        (pss_cons (ps_if (pt_cmpR op_ne (pe_callB (call_repr hgd hu) (by rfl) B.repr (by decide +kernel) (pa_cons (pe_call GR r5 (by rfl) DR.g DR.F.kp bR vR passF (pa_cons (pv 7) (pa_cons (pv 6) (pa_cons (pv 5) (pa_cons (pv 8) pa_nil))))) pa_nil)) (pe_callB (call_repr hgd hu) (by rfl) B.repr (by decide +kernel) (pa_cons (pv 10) pa_nil)) (nomark _)) (pss_one (ps_ret pe_bl)) pss_nil)
        (pss_cons (ps_if (pt_cmpR (neD (K := K) rfl hu) (pe_callWD DR.g DR.F.kp GR r5 DR.k5 passF (pk_cons pe_int (pk_cons (pv 8) (pk_cons (pe_callTy call_tuple_of (by rfl) B.tuple PyProof.Rows.boot_tuple (pa_cons (pv 5) pa_nil)) (pk_cons (pv 6) (pk_cons (pv 7) pk_nil)))))) (pv 10) (nomark _)) (pss_one (ps_ret pe_bl)) pss_nil)
        (pss_cons (ps_set (i := 11) scLa.nd rfl (.inr rfl) (pe_op op_add pe_int (pc DT GT r1 pass0 (pa_cons (pv 2) (pa_cons pe_int pa_nil)))))
        (pss_cons (ps_set (i := 10) scLa.nd rfl (.inl rfl) (pc DS GS r1 pass0 (pa_cons (pv 3) (pa_cons (pe_lc (own := [("_law_count", 17)]) (g := gName 17) (tt := tYes) rfl scLa.nd (pi_list (pe_ix ix_list (pv 9) (pv 8) (fun _ _ => rfl))) (blkOk_by (N := nLa) (sc := defScope sLaw) (by decide +kernel)) (fun _ _ _ _ _ => pg_name (i := 17) scLa.nd rfl (.inl rfl)) (fun _ _ _ _ _ => pts_nil)
            (fun _ _ _ _ _ => pe_op op_mod (pe_callTy call_int1 (by rfl) B.int PyProof.Rows.boot_int (pa_cons (pv 17) pa_nil)) (pv 11))) pa_nil))))
        (pss_cons (ps_if (pt_cmpR op_ne (pe_callB (call_repr hgd hu) (by rfl) B.repr (by decide +kernel) (pa_cons (pe_callN GR r5 (by rfl) DR.g DR.F.kp DR.k1 passF (pa_cons (pv 7) (pa_cons (pv 6) (pa_cons (pv 5) (pa_cons (pv 8) pa_nil)))) (pk_cons (pv 11) pk_nil)) pa_nil)) (pe_callB (call_repr hgd hu) (by rfl) B.repr (by decide +kernel) (pa_cons (pv 10) pa_nil)) (nomark _)) (pss_one (ps_ret pe_bl)) pss_nil)
        (pss_cons (ps_set (i := 12) scLa.nd rfl (.inl rfl) (pc DK GK r2 pass0 (pa_cons (pv 2) (pa_cons (pe_lst (pa_cons pe_int (pa_cons (pe_op op_pow pe_int pe_int) (pa_cons (pe_op op_add (pe_op op_pow pe_int pe_int) (pc DT GT r1 pass0 (pa_cons (pv 2) (pa_cons pe_int pa_nil)))) (pa_cons (pe_op op_add (pe_op op_pow pe_int pe_int) pe_int) pa_nil))))) pa_nil))))
        (pss_cons (ps_set (i := 13) scLa.nd rfl (.inl rfl) (pc DF GF r3 pass0 (pa_cons (pv 4) (pa_cons (pv 3) (pa_cons (pv 6) (pa_cons (pv 5) (pa_cons (pv 12) (pa_cons (pv 11) pa_nil))))))))
        (pss_cons (ps_set (i := 10) scLa.nd rfl (.inl rfl) (pe_ifExp (pt_cmp (pc_notN (pv 13))) (pc DS GS r1 pass0 (pa_cons (pv 3) (pa_cons (pe_lc (own := [("_law_count", 17)]) (g := gName 17) (tt := tYes) rfl scLa.nd (pi_list (pv 13)) (blkOk_by (N := nLa) (sc := defScope sLaw) (by decide +kernel)) (fun _ _ _ _ _ => pg_name (i := 17) scLa.nd rfl (.inl rfl)) (fun _ _ _ _ _ => pts_nil)
            (fun _ _ _ _ _ => pe_op op_mod (pe_callTy call_int1 (by rfl) B.int PyProof.Rows.boot_int (pa_cons (pv 17) pa_nil)) (pv 11))) pa_nil))) pe_non))
        (pss_cons (ps_if (PW.pt (pw_and (pt_cmp (pc_notN (pv 10))) (pw_and1 (pt_cmpR op_ne (pe_callB (call_repr hgd hu) (by rfl) B.repr (by decide +kernel) (pa_cons (pe_callN GR r5 (by rfl) DR.g DR.F.kp DR.k1 passF (pa_cons (pv 7) (pa_cons (pv 6) (pa_cons (pv 5) (pa_cons (pv 12) pa_nil)))) (pk_cons (pv 11) pk_nil)) pa_nil)) (pe_callB (call_repr hgd hu) (by rfl) B.repr (by decide +kernel) (pa_cons (pv 10) pa_nil)) (nomark _))))) (pss_one (ps_ret pe_bl)) pss_nil)
        (pss_cons (ps_set (i := 10) scLa.nd rfl (.inl rfl) (pe_lst pa_nil))
        (pss_cons (ps_for PassesOwn.never rfl (pi_range1 (by rfl) B.range (pa_cons (pv 3) pa_nil)) (pg_name (i := 14) scLa.nd rfl (.inr rfl))
          (pss_cons (ps_setLc (i := 15) (own := [("_law_at", 18)]) (g := gName 18) rfl scLa.nd rfl rfl (sw_true rfl rfl rfl rfl) (pi_range1 (by rfl) B.range (pa_cons (pe_callB call_len_seq (by rfl) B.len PySem.boot_len (pa_cons (pv 9) pa_nil)) pa_nil)) (blkOk_by (N := nLa) (sc := defScope sLaw) (by decide +kernel)) (fun _ _ _ _ _ => pg_name (i := 18) scLa.nd rfl (.inl rfl))
              (fun _ _ _ _ _ => pts_one (pt_cmpR op_gt (pe_ix (ixLK (K := K) rfl) (pe_ix (ixLK (K := K) rfl) (pv 9) (pv 18) (fun _ _ => rfl)) (pv 14) (fun _ _ => rfl)) pe_int (nomark _))) (fun _ _ _ _ _ => pv 18))
          (pss_one (ps_expr (pe_bm PySem.F.plainAttrs_list PySem.F.slot_list_append PySem.F.type_list_append mt_append (pv 10) (pa_cons (pe_ifExp (pt_cmpR (neD (K := K) rfl hu) (pv 15) (pe_lst pa_nil) (nomark _)) (pe_ix ix_list (pv 15) pe_int (fun _ _ => rfl)) pe_non) pa_nil))))))
        (pss_cons (ps_if (PW.pt (pw_or (pt_cmpR op_ne (pe_callB (call_repr hgd hu) (by rfl) B.repr (by decide +kernel) (pa_cons (pc DH GH r5 passF (pa_cons (pv 7) (pa_cons (pv 6) (pa_cons (pv 5) pa_nil)))) pa_nil)) (pe_callB (call_repr hgd hu) (by rfl) B.repr (by decide +kernel) (pa_cons (pe_callTy call_tuple_of (by rfl) B.tuple PyProof.Rows.boot_tuple (pa_cons (pv 10) pa_nil)) pa_nil)) (nomark _))
            (pw_or1 (pt_cmpR (neD (K := K) rfl hu) (pe_callW DH GH r5 (kb_hr DH.F) passF (pk_cons (pe_callTy call_tuple_of (by rfl) B.tuple PyProof.Rows.boot_tuple (pa_cons (pv 5) pa_nil)) (pk_cons (pv 6) (pk_cons (pv 7) pk_nil)))) (pe_callTy call_tuple_of (by rfl) B.tuple PyProof.Rows.boot_tuple (pa_cons (pv 10) pa_nil)) (nomark _))))) (pss_one (ps_ret pe_bl)) pss_nil)
        (pss_one (ps_if (pt_not (pt_val (pe_callG DX GX hr hgd (pa_cons (pv 2) (pa_cons (pv 7) (pa_cons (pv 3) (pa_cons (pv 4) pa_nil))))))) (pss_one (ps_ret pe_bl)) pss_nil))))))))))))))))))))))
      (pss_one (ps_ret pe_bl)), ?_⟩
    refine ⟨2, rfl, by decide, by decide, for_range (fun i σ H' => ∃ (v1 v2 v3 v4 v5 v6 v7 v8 v9 v10 v11 v12 v13 v14 v15 : Option V), σ = [some (.ref a), v1, v2, v3, v4, v5, v6, v7, v8, v9, v10, v11, v12, v13, v14, v15, none, none, none] ∧ SqL K H' a (ns.map V.int) ∧ LamX.Tabs T H')
      ⟨none, none, none, none, none, none, none, none, none, none, none, none, none, none, none, rfl, hS, hT⟩ ?_ ?_⟩
    rotate_left
    · rintro σ H1 ⟨v1, v2, v3, v4, v5, v6, v7, v8, v9, v10, v11, v12, v13, v14, v15, rfl, _⟩
      exact q _
    rintro i σ Ha hi ⟨v1, v2, v3, v4, v5, v6, v7, v8, v9, v10, v11, v12, v13, v14, v15, rfl, hSa, hTa⟩
    refine ⟨_, rfl, _, rfl, a, ns, 0 + (i : Int), rfl, hSa, hn, by omega, by omega, fun b H1 s1 hb0 hb1 => ?_⟩
    refine gn ?_
    dsimp only [List.set]
    have L1 : Lw b T [] H1 H1 := Lw.refl hb1 (hTa.ext s1)
    -- houses and ties
    refine ⟨_, rfl, b, 4, rfl, hb1, by decide, by decide, fun x H2 x0 x1 bx2 => ⟨_, _, rfl, rfl, ?_⟩⟩
    obtain ⟨n, en, n2, n5⟩ : ∃ n : Nat, 2 + x = (n : Int) ∧ 2 ≤ n ∧ n ≤ 5 := ⟨(2 + x).toNat, by omega, by omega, by omega⟩
    have L2' := L1.box bx2
    refine gn ?_
    dsimp only [List.set]
    rw [en]
    refine ⟨_, rfl, _, rfl, b, n, 5, rfl, L2'.bx, n2, by omega, by decide, fun tl ts H3 bx3 ftl htl hW lts => ?_⟩
    have L3 := L2'.box bx3
    have ntl : tl ≠ b := L2'.nn ftl
    have hb3 := L3.bx
    refine gn ?_
    dsimp only [List.set]
    -- the order
    refine seqG (fun σ H' => ∃ (ol : Addr) (tu : List Nat), σ = [some (.ref a), some (.int (0 + (i : Int))), some (.ref b), some (.int (n : Int)), some (.ref tl), some (.ref ol), v6, v7, v8, v9, v10, v11, v12, v13, v14, v15, none, none, none] ∧ Lw b T [] H3 H' ∧ H' ol = some (.lst (vn tu)) ∧ ol ≠ b ∧ tu.length ≤ 6 ∧ ∀ t ∈ tu, t < ts.length) ?_ (fun go => ?_)
    rotate_left
    · refine ⟨_, rfl, (by show 0 ≤ sizeLine; decide), fun e0 he0 => ?_⟩
      have s4 := same_new (o := HO.lst []) he0
      have K4 : Lw b T [] H3 (upd H3 e0 (.lst [])) := (Lw.refl hb3 L3.tb).same s4
      have he4 : (upd H3 e0 (.lst [])) e0 = some (.lst []) := upd_same
      generalize upd H3 e0 (.lst []) = H4 at s4 K4 he4 ⊢
      have ht4 := K4.tiesL hb3 htl ntl
      refine ⟨_, .list [], ht4.dp, .lst (SqL.of he4) .nil, (pl_ties hW).shaped (by decide), by decide +kernel, _, rfl, ?_⟩
      cases eq : PyData.eqv (.list (ts.map fun p => PyData.tuple [.int (p.1 : Int), .int (p.2 : Int)])) (.list []) with
      | true => exact iteF ⟨(by show 0 ≤ sizeLine; decide), fun ol hol => gn (go _ _ ⟨ol, [], rfl, K4.new hol, upd_same, K4.nn hol, Nat.zero_le _, fun t h => (by cases h)⟩)⟩
      | false =>
        have L0 : 0 < ts.length := by
          cases ts with
          | nil =>
            have : PyData.eqv (.list ((([] : Prs)).map fun p => PyData.tuple [.int (p.1 : Int), .int (p.2 : Int)])) (.list []) = true := SeqAt.eqv_refl _ (by decide +kernel)
            rw [this] at eq
            cases eq
          | cons _ _ => simp
        obtain ⟨tas4, h41, h42⟩ := id ht4
        have el : (tas4.map V.ref).length = ts.length := by rw [List.length_map, h42.1]
        refine iteT ⟨_, rfl, b, 7, rfl, K4.bx, by decide, by decide, fun y H5 y0 y1 bx5 => ?_⟩
        obtain ⟨M, rfl⟩ : ∃ M : Nat, y = (M : Int) := ⟨y.toNat, by omega⟩
        have K5 := K4.box bx5
        have h51 := bx5.2 _ _ h41 ntl
        refine ⟨(M : Int), rfl, by omega, by omega, fun D0 hD0 => lc_range (fun j H' => ∃ tu : List Nat, tu.length = j ∧ Bx b H5 H' ∧ H' D0 = some (.lst (vn tu)) ∧ ∀ t ∈ tu, t < ts.length) ⟨[], rfl, (Bx.refl K5.bx).new hD0, upd_same, fun t h => (by cases h)⟩ ?_ ?_⟩
        · rintro j H6 hj ⟨tu, lj, bx6, hD, lt⟩
          have nD := (Bx.refl K5.bx).ne hD0
          refine ⟨rfl, _, rfl, _, rfl, tl, _, rfl, .inl (SqL.of (bx6.2 _ _ h51 ntl)), b, _, rfl, bx6.1, by omega, by omega, fun z H7 z0 z1 bx7 => ?_⟩
          obtain ⟨t, rfl⟩ : ∃ t : Nat, z = (t : Int) := ⟨z.toNat, by omega⟩
          refine ⟨_, bx7.2 _ _ hD nD, szl (by rw [vn_len]; omega), tu ++ [t], (by rw [List.length_append, lj]; rfl), (bx6.trans bx7).put hD0 nD, (by rw [upd_same, vn, vn, List.map_append]; rfl), fun u hu => ?_⟩
          rcases List.mem_append.mp hu with c | c
          · exact lt u c
          · rw [List.mem_singleton.mp c]; omega
        · rintro H6 ⟨tu, lj, bx6, hD, lt⟩
          exact gn (go _ _ ⟨D0, tu, rfl, K5.box bx6, hD, K5.nn hD0, by omega, lt⟩)
    rintro σ H4 ⟨ol, tu, rfl, K4, hol, nol, ltu, hlt⟩
    have hW12 := hW.n12
    -- a house, the web, rounds
    refine ⟨_, rfl, _, rfl, b, n, rfl, K4.bx, by omega, by omega, fun x H5 x0 x1 bx5 => ?_⟩
    obtain ⟨h, rfl⟩ : ∃ h : Nat, x = (h : Int) := ⟨x.toNat, by omega⟩
    have hn' : h < n := by omega
    have K5 := K4.box bx5
    have hol5 := bx5.2 _ _ hol nol
    obtain ⟨tas, ht5, hA5⟩ := K5.tiesL hb3 htl ntl
    refine ⟨_, rfl, _, rfl, fun w dxw hw0 hdx0 new => ?_⟩
    have smw := mkSame (o1 := HO.own w) (o2 := HO.ins W dxw []) hw0 hdx0 new
    refine ⟨w, dxw, n, tl, tas, ts, rfl, upd_same, .inl (smw _ _ ht5), hA5.same smw, hW, fun H6 k6 hWeb => ⟨rfl, ?_⟩⟩
    have s6 : Same H5 H6 := fun c o e => k6 c o (smw c o e) (ne_of_none e hw0)
    have K6 := K5.same s6
    have hol6 := s6 _ _ hol5
    clear k6 smw hw0 hdx0
    refine ⟨_, rfl, b, 25, rfl, K6.bx, by decide, by decide, fun y H7 y0 y1 bx7 => ⟨_, _, _, rfl, ?_⟩⟩
    obtain ⟨k, rfl⟩ : ∃ k : Nat, y = (k : Int) := ⟨y.toNat, by omega⟩
    have K7 := K6.box bx7
    have hol7 := bx7.2 _ _ hol6 nol
    have web7 : WebAt W H7 w n ts := hWeb.kp (fun a xs e => bx7.tup K6.bx e) fun dx fs e => bx7.2 _ _ e (K6.bx.ne e fun xs => by intro z; cases z)
    have tie7 := K7.tiesL hb3 htl ntl
    dsimp only [List.set]
    -- the trail
    refine ⟨_, rfl, _, rfl, _, rfl, _, rfl, c2 ⟨tl, ol, n, h, 25, 0, ts, tu, rfl, tie7, hW, hn', hol7, hlt, by decide, by decide, fun tr as H8 s8 ftr htr RL fr => ?_⟩⟩
    have K8 := (L3.trans K7).same s8
    have hb8 := K8.bx
    have tb8 := K8.tb
    have ntr : tr ≠ b := K7.nn ftr
    have nas : ∀ c ∈ as, c ≠ b := fun c hc => K7.nn (fr c hc)
    have web8 := web7.same s8
    have tie8 : TiesL H8 tl ts := ⟨_, s8 _ _ tie7.choose_spec.1, tie7.choose_spec.2.same s8⟩
    have hol8 := s8 _ _ hol7
    have rows : ∀ j, j < 26 → ∃ c, as[j]? = some c ∧ H8 c = some (.lst (vrow (trl 0 n ts h tu j))) := fun j hj => RL.get (by rw [rows_at (by omega)])
    have lastr : as.length = 26 := by rw [RL.1]; simp
    clear hWeb web7 tie7 hol7 K7 K6 K5 bx7 bx5 hol6 hol5 ht5 hA5 ftr s8 RL fr
    refine gn ?_
    dsimp only [List.set]
    -- the counts of so many rounds
    have row : ∀ j, j < 26 → ∃ c, (as.map V.ref)[j]? = some (.ref c) ∧ H8 c = some (.lst (vrow (trl 0 n ts h tu j))) := fun j hj => let ⟨c, e1, e2⟩ := rows j hj; ⟨c, map_at e1, e2⟩
    obtain ⟨ck, eck, hck⟩ := row k (by omega)
    have nck : ck ≠ b := fun e => by
      obtain ⟨c, e1, e2⟩ := rows k (by omega)
      have : (as.map V.ref)[k]? = some (.ref c) := map_at e1
      rw [eck] at this
      injection this with this
      injection this with this
      rw [← e, this] at nas
      exact nas c (List.mem_of_getElem? e1) rfl
    have e0 : trl 0 n ts h tu k = told 0 n ts h k tu := by unfold trl told; rw [if_pos (.inl rfl), if_pos rfl]
    have M8 : Lw b T [] H8 H8 := Lw.refl hb8 tb8
    refine ⟨_, rfl, _, rfl, _, rfl, tr, _, _, _, rfl, rfl, SqL.of htr, at_i eck, ck, n, _, rfl, hck, (by rw [trl_len]; omega), fun dr da db H9 s9 hdr hda hdb => ?_⟩
    rw [e0] at hda hdb
    have M9 := M8.same s9
    refine gn ?_
    dsimp only [List.set]
    have web9 := web8.same s9
    have hol9 := s9 _ _ hol8
    have sm0 := small_run (h := h) hW (k := k) (tu := tu) (by omega) ltu
    have t0 : told ((0 : Nat) : Int) n ts h k tu = runC 0 n ts (dlt (n + ts.length) h) (rep k tu) := by unfold told; rw [if_pos (show ((0 : Nat) : Int) = 0 from rfl)]
    have len0 : (told ((0 : Nat) : Int) n ts h k tu).length = n + ts.length := told_len _ _ _ _ _ _
    have sm1 : ∀ x ∈ told ((0 : Nat) : Int) n ts h k tu, x.natAbs < 10 ^ 200 := by rw [t0]; exact sm0
    have pb0 : PB (.tuple [.tuple (dI ((told ((0 : Nat) : Int) n ts h k tu).take n)), .tuple (dI ((told ((0 : Nat) : Int) n ts h k tu).drop n))]) 2 50000 := pb_two (fun x hx => sm1 x (List.mem_of_mem_take hx)) (fun x hx => sm1 x (List.mem_of_mem_drop hx)) (by rw [List.length_take]; omega) (by rw [List.length_drop]; omega)
    refine ⟨_, rfl, _, rfl, _, rfl, _, rfl, w, .int (h : Int), .ref ol, .int (k : Int), .int ((0 : Nat) : Int), none, some (vn tu), none, none, n, ts, rfl, web9, hW, .int _, rw_vnL hol9, .int _, .int _, .inr ⟨h, rfl, hn', .inr ⟨tu, rfl, by omega, hlt, .inr ⟨k, rfl, by omega, .inr ⟨0, rfl, by omega, .inr ⟨fun _ => by omega, fun r1' a1 a2 HA sA hA hA1 hA2 => ?_⟩⟩⟩⟩⟩⟩
    refine nilP (reprB (dp_two hA hA1 hA2) pb0 (by decide) (by decide) ?_)
    refine ⟨_, rfl, nilP ?_⟩
    refine reprB (dp_two (sA _ _ hdr) (sA _ _ hda) (sA _ _ hdb)) pb0 (by decide) (by decide) ?_
    refine neV rfl ⟨_, rfl, iteF (nxP ?_)⟩
    have M10 := M9.same sA
    have web10 := web9.same sA
    have hol10 := sA _ _ hol9
    have hdr10 := sA _ _ hdr
    have hda10 := sA _ _ hda
    have hdb10 := sA _ _ hdb
    clear hA hA1 hA2
    refine ⟨_, rfl, _, rfl, ol, _, rfl, .inl ⟨SqL.of hol10, fun ot hot => ?_⟩⟩
    have s11 := same_new (o := HO.tup (vn tu)) hot
    have hot11 : (upd HA ot (.tup (vn tu))) ot = some (.tup (vn tu)) := upd_same
    have M11 := M10.same s11
    generalize upd HA ot (.tup (vn tu)) = HB at s11 hot11 M11 ⊢
    refine ⟨_, rfl, _, rfl, rfl, w, .int (h : Int), .ref ot, .int (k : Int), .int ((0 : Nat) : Int), none, some (vn tu), none, none, n, ts, rfl, web10.same s11, hW, .int _, rw_vnT hot11, .int _, .int _, .inr ⟨h, rfl, hn', .inr ⟨tu, rfl, by omega, hlt, .inr ⟨k, rfl, by omega, .inr ⟨0, rfl, by omega, .inr ⟨fun _ => by omega, fun r1' a1 a2 HC sC hC hC1 hC2 => ?_⟩⟩⟩⟩⟩⟩
    have s12 := s11.trans sC
    refine ⟨_, rfl, neDB (dp_two hC hC1 hC2) (dp_two (s12 _ _ hdr10) (s12 _ _ hda10) (s12 _ _ hdb10)) pb0 (by decide) ⟨_, rfl, iteF (nxP ?_)⟩⟩
    have M12 := M11.same sC
    have web12 := web10.same s12
    have hol12 := s12 _ _ hol10
    have htr12 := sC _ _ (s11 _ _ (sA _ _ (s9 _ _ htr)))
    have s812 := (s9.trans sA).trans s12
    clear hC hC1 hC2 hot11 hot hdr10 hda10 hdb10 web10 hol10 hdr hda hdb web9 hol9
    -- counted by a modulus
    refine ⟨_, rfl, b, 7, rfl, M12.bx, by decide, by decide, fun y HD y0 y1 bxD => ⟨_, _, rfl, rfl, ?_⟩⟩
    obtain ⟨m, em, m1, m7⟩ : ∃ m : Nat, 1 + y = (m : Int) ∧ 1 ≤ m ∧ m ≤ 7 := ⟨(1 + y).toNat, by omega, by omega, by omega⟩
    have M13 := M12.box bxD
    refine gn ?_
    dsimp only [List.set]
    rw [em]
    have hckR : H8 ck = some (.lst (vrow (runC 0 n ts (dlt (n + ts.length) h) (rep k tu)))) := by rw [hck, e0]; rw [show told 0 n ts h k tu = runC 0 n ts (dlt (n + ts.length) h) (rep k tu) from t0]
    have lR : (runC 0 n ts (dlt (n + ts.length) h) (rep k tu)).length = n + ts.length := by rw [runC_len, dlt_len]
    have tm : told (m : Int) n ts h k tu = red m (runC 0 n ts (dlt (n + ts.length) h) (rep k tu)) := by unfold told; rw [if_neg (by omega)]
    have hckD := bxD.2 _ _ (s812 _ _ hckR) nck
    have htrD := bxD.2 _ _ htr12 ntr
    have t20 := hW.t20
    refine ⟨_, rfl, _, rfl, _, rfl, tr, _, _, _, rfl, rfl, SqL.of htrD, at_i eck, ck, rfl, ⟨_, SqL.of hckD⟩, fun D1 hD1 => lc_list (K := K) (a := ck) (xs := vrow (runC 0 n ts (dlt (n + ts.length) h) (rep k tu))) (fun j H' => Same HD H' ∧ H' D1 = some (.lst (vrow ((red m (runC 0 n ts (dlt (n + ts.length) h) (rep k tu))).take j)))) ⟨same_new hD1, by rw [upd_same]; rfl⟩ (fun j H' _ ⟨s', _⟩ => SqL.of (s' _ _ hckD)) ?_ ?_⟩
    · rintro j x H6 hx ⟨s6, hE⟩
      obtain ⟨y, hy, rfl⟩ := vrow_at hx
      have jl := lt_at hy
      rw [lR] at jl
      refine ⟨rfl, _, rfl, .inl ⟨_, rfl, _, rfl, _, _, rfl, rfl, by omega, _, hE, szl (by rw [vrow_len, List.length_take, red_len, lR]; omega), fun c o e => ?_, ?_⟩⟩
      · rw [upd_ne (ne_of_none e hD1)]
        exact s6 _ _ e
      · have e3 : (red m (runC 0 n ts (dlt (n + ts.length) h) (rep k tu)))[j]? = some (y % m) := by unfold red; rw [List.getElem?_map, hy]; rfl
        rw [upd_same, take_succ e3, vrow, vrow, List.map_append]; rfl
    rintro HE ⟨sE, hE⟩
    rw [List.take_of_length_le (by simp [vrow_len, red_len])] at hE
    refine nilP ⟨D1, n, _, rfl, hE, (by rw [red_len, lR]; omega), fun dr da db HF sF hdr hda hdb => ?_⟩
    have M14 := (M13.same sE).same sF
    rw [← tm] at hda hdb
    refine gn ?_
    dsimp only [List.set]
    have hbm : ∀ k' : Nat, ∀ x ∈ told (m : Int) n ts h k' tu, x.natAbs < 10 ^ 200 := fun k' => by
      have e : told (m : Int) n ts h k' tu = red m (runC 0 n ts (dlt (n + ts.length) h) (rep k' tu)) := by unfold told; rw [if_neg (by omega)]
      rw [e]; exact small_red (by omega) (by omega) _
    have pbm : ∀ k' : Nat, PB (.tuple [.tuple (dI ((told (m : Int) n ts h k' tu).take n)), .tuple (dI ((told (m : Int) n ts h k' tu).drop n))]) 2 50000 := fun k' => pb_two (fun x hx => hbm k' x (List.mem_of_mem_take hx)) (fun x hx => hbm k' x (List.mem_of_mem_drop hx)) (by rw [List.length_take]; omega) (by rw [List.length_drop, told_len]; omega)
    refine ⟨_, rfl, _, rfl, _, rfl, _, rfl, _, rfl, rfl, rfl, w, .int (h : Int), .ref ol, .int (k : Int), .int (m : Int), none, some (vn tu), none, none, n, ts, rfl, M14.webK hb8 web8, hW, .int _, rw_vnL (M14.lstK hol8 nol), .int _, .int _, .inr ⟨h, rfl, hn', .inr ⟨tu, rfl, by omega, hlt, .inr ⟨k, rfl, by omega, .inr ⟨m, rfl, by omega, .inr ⟨fun _ => by omega, fun r1' a1 a2 HA sA hA hA1 hA2 => ?_⟩⟩⟩⟩⟩⟩
    refine nilP (reprB (dp_two hA hA1 hA2) (pbm k) (by decide) (by decide) ?_)
    refine ⟨_, rfl, nilP ?_⟩
    refine reprB (dp_two (sA _ _ hdr) (sA _ _ hda) (sA _ _ hdb)) (pbm k) (by decide) (by decide) ?_
    refine neV rfl ⟨_, rfl, iteF (nxP ?_)⟩
    have M15 := M14.same sA
    clear hA hA1 hA2 hdr hda hdb hE
    -- far rounds
    refine ⟨_, rfl, _, _, rfl, rfl, ⟨by decide, by decide, by decide⟩, _, _, rfl, rfl, ⟨by decide, by decide, by decide⟩, _, rfl, b, 1000, rfl, M15.bx, by decide, by decide, fun z HG z0 z1 bxG => ⟨_, _, rfl, rfl, _, _, rfl, rfl, ⟨by decide, by decide, by decide⟩, _, _, rfl, rfl, (by show 4 ≤ sizeLine; decide), fun lf hlf => ?_⟩⟩
    have M16 := (M15.box bxG).new (o := HO.lst [.int 401, .int (10 ^ 18), .int (10 ^ 9 + z), .int (10 ^ 17 + 3)]) hlf
    refine nilP ⟨b, lf, [.int 401, .int (10 ^ 18), .int (10 ^ 9 + z), .int (10 ^ 17 + 3)], rfl, M16.bx, upd_same, (M15.box bxG).nn hlf, by show 1 ≤ 4; decide, by show 4 ≤ 1000; decide, fun i5 v5 HI hv5 bx5 => ?_⟩
    obtain ⟨F, rfl, hF⟩ : ∃ F : Nat, v5 = .int (F : Int) ∧ F ≤ 10 ^ 18 := by
      have := List.mem_of_getElem? hv5
      simp only [List.mem_cons, List.not_mem_nil, or_false] at this
      rcases this with rfl | rfl | rfl | rfl
      · exact ⟨401, rfl, by decide⟩
      · exact ⟨10 ^ 18, rfl, by decide⟩
      · exact ⟨(10 ^ 9 + z).toNat, by rw [Int.toNat_of_nonneg (by omega)], by omega⟩
      · exact ⟨10 ^ 17 + 3, rfl, by decide⟩
    have M17 := M16.box bx5
    refine gn ?_
    dsimp only [List.set]
    refine seqG (fun σ H' => ∃ (v13 : V), σ = [some (.ref a), some (.int (0 + (i : Int))), some (.ref b), some (.int (n : Int)), some (.ref tl), some (.ref ol), some (.int (h : Int)), some (.ref w), some (.int (k : Int)), some (.ref tr), some (.ref dr), some (.int (m : Int)), some (.int (F : Int)), some v13, v14, v15, none, none, none] ∧ Lw b T [] H8 H' ∧ (v13 = .non ∨ ∃ xa xs, v13 = .ref xa ∧ H' xa = some (.lst (vrow xs)) ∧ xs.length = n + ts.length ∧ red m xs = told m n ts h F tu)) ?_ (fun go => ?_)
    rotate_left
    · refine ⟨_, rfl, _, rfl, _, rfl, _, rfl, _, rfl, _, rfl, tl, ol, n, h, F, m, ts, tu, rfl, M17.tiesL hb8 tie8 ntl, hW, hn', M17.lstK hol8 nol, hlt, by omega, fun HJ sJ => gn (go _ _ ⟨_, rfl, M17.same sJ, .inl rfl⟩), fun xa xs HJ sJ hxa lx rx => gn (go _ _ ⟨_, rfl, M17.same sJ, .inr ⟨xa, xs, rfl, hxa, lx, by rw [rx]; unfold told; rw [if_neg (by omega)]⟩⟩)⟩
    rintro σ HJ ⟨v13, rfl, M18, h13⟩
    refine seqG (fun σ H' => ∃ (v10 v13 : V), σ = [some (.ref a), some (.int (0 + (i : Int))), some (.ref b), some (.int (n : Int)), some (.ref tl), some (.ref ol), some (.int (h : Int)), some (.ref w), some (.int (k : Int)), some (.ref tr), some v10, some (.int (m : Int)), some (.int (F : Int)), some v13, v14, v15, none, none, none] ∧ Lw b T [] H8 H' ∧ (v10 = .non ∨ ∃ d x y, v10 = .ref d ∧ H' d = some (.tup [.ref x, .ref y]) ∧ H' x = some (.tup (vrow ((told m n ts h F tu).take n))) ∧ H' y = some (.tup (vrow ((told m n ts h F tu).drop n))))) ?_ (fun go => ?_)
    rotate_left
    · rcases h13 with rfl | ⟨xa, xs, rfl, hxa, lx, rx⟩
      · refine ⟨_, rfl, _, rfl, iteF (tCq ?_)⟩
        refine gn ?_
        exact go _ _ ⟨_, _, rfl, M18, .inl rfl⟩
      · refine ⟨_, rfl, _, rfl, iteT ⟨_, rfl, _, rfl, xa, rfl, ⟨_, SqL.of hxa⟩, fun D1 hD1 => lc_list (K := K) (a := xa) (xs := vrow xs) (fun j H' => Same HJ H' ∧ H' D1 = some (.lst (vrow ((red m xs).take j)))) ⟨same_new hD1, by rw [upd_same]; rfl⟩ (fun j H' _ ⟨s', _⟩ => SqL.of (s' _ _ hxa)) ?_ ?_⟩⟩
        · rintro j x H6 hx ⟨s6, hE⟩
          obtain ⟨y, hy, rfl⟩ := vrow_at hx
          have jl := lt_at hy
          rw [lx] at jl
          refine ⟨rfl, _, rfl, .inl ⟨_, rfl, _, rfl, _, _, rfl, rfl, by omega, _, hE, szl (by rw [vrow_len, List.length_take, red_len, lx]; omega), fun c o e => ?_, ?_⟩⟩
          · rw [upd_ne (ne_of_none e hD1)]
            exact s6 _ _ e
          · have e3 : (red m xs)[j]? = some (y % m) := by unfold red; rw [List.getElem?_map, hy]; rfl
            rw [upd_same, take_succ e3, vrow, vrow, List.map_append]; rfl
        · rintro H6 ⟨s6, hE⟩
          rw [List.take_of_length_le (by simp [vrow_len, red_len]), rx] at hE
          exact nilP ⟨D1, n, _, rfl, hE, (by rw [told_len]; omega), fun d x y H7 s7 h1 h2 h3 => gn (go _ _ ⟨_, _, rfl, (M18.same s6).same s7, .inr ⟨d, x, y, rfl, h1, h2, h3⟩⟩)⟩
    rintro σ HK ⟨v10, v13', rfl, M19, h10⟩
    refine seqG (fun σ H' => ∃ (v10 v13 : V), σ = [some (.ref a), some (.int (0 + (i : Int))), some (.ref b), some (.int (n : Int)), some (.ref tl), some (.ref ol), some (.int (h : Int)), some (.ref w), some (.int (k : Int)), some (.ref tr), some v10, some (.int (m : Int)), some (.int (F : Int)), some v13, v14, v15, none, none, none] ∧ Lw b T [] H8 H') ?_ (fun go => ?_)
    rotate_left
    · rcases h10 with rfl | ⟨d, x, y, rfl, hd, hx, hy⟩
      · exact ⟨_, rfl, _, rfl, iteF (iteF (nxP (go _ _ ⟨_, _, rfl, M19⟩)))⟩
      · refine ⟨_, rfl, _, rfl, iteT ?_⟩
        refine ⟨_, rfl, _, rfl, _, rfl, _, rfl, _, rfl, rfl, rfl, w, .int (h : Int), .ref ol, .int (F : Int), .int (m : Int), none, some (vn tu), none, none, n, ts, rfl, M19.webK hb8 web8, hW, .int _, rw_vnL (M19.lstK hol8 nol), .int _, .int _, .inr ⟨h, rfl, hn', .inr ⟨tu, rfl, by omega, hlt, .inr ⟨F, rfl, by omega, .inr ⟨m, rfl, by omega, .inr ⟨fun _ => by omega, fun r1' a1 a2 HL sL hL hL1 hL2 => ?_⟩⟩⟩⟩⟩⟩
        refine nilP (reprB (dp_two hL hL1 hL2) (pbm F) (by decide) (by decide) ?_)
        refine ⟨_, rfl, nilP ?_⟩
        refine reprB (dp_two (sL _ _ hd) (sL _ _ hx) (sL _ _ hy)) (pbm F) (by decide) (by decide) ?_
        exact neV rfl ⟨_, rfl, iteF (nxP (go _ _ ⟨_, _, rfl, M19.same sL⟩))⟩
    rintro σ HL ⟨v10', v13'', rfl, M20⟩
    -- who hears
    refine ⟨(by show 0 ≤ sizeLine; decide), fun du hdu => ?_⟩
    have M21 := M20.new (o := HO.lst []) hdu
    have hdu' : (upd HL du (.lst [])) du = some (.lst []) := upd_same
    have ndu : du ≠ b := M20.nn hdu
    have sM := same_new (o := HO.lst []) hdu
    generalize upd HL du (.lst []) = HM at M21 hdu' sM ⊢
    refine gn ?_
    dsimp only [List.set]
    refine ⟨_, rfl, _, rfl, by omega, by omega, for_range (fun i' σ H' => ∃ v14 v15 : Option V, σ = [some (.ref a), some (.int (0 + (i : Int))), some (.ref b), some (.int (n : Int)), some (.ref tl), some (.ref ol), some (.int (h : Int)), some (.ref w), some (.int (k : Int)), some (.ref tr), some (.ref du), some (.int (m : Int)), some (.int (F : Int)), some v13'', v14, v15, none, none, none] ∧ Same HL H' ∧ H' du = some (.lst ((List.range i').map fun x => oV ((fst26 ts h tu x)[0]?)))) ⟨_, _, rfl, sM, hdu'⟩ ?_ ?_⟩
    · rintro j σ HN hj ⟨v14, v15, rfl, sN, hduN⟩
      have M22 := M20.same sN
      have hj' : j < n := by omega
      have htrN := M22.lstK htr ntr
      have el : ((as.map V.ref).length : Int) = 26 := by rw [List.length_map, lastr]; rfl
      refine gn ?_
      dsimp only [List.set]
      refine ⟨_, rfl, tr, _, rfl, .inl (SqL.of htrN), ((as.map V.ref).length : Int), rfl, by omega, by omega, fun D1 hD1 => lc_range (fun q H' => Same HN H' ∧ H' D1 = some (.lst (vn (((List.range q).filter fun r => hear ts h (rep r tu) j))))) ⟨same_new hD1, by rw [upd_same]; rfl⟩ ?_ ?_⟩
      · rintro q Ho hq ⟨s6, hE⟩
        have hq' : q < 26 := by omega
        obtain ⟨cq, ecq, hcq⟩ := row q hq'
        have ncq : cq ≠ b := fun e => by
          obtain ⟨c, e1, e2⟩ := rows q hq'
          have : (as.map V.ref)[q]? = some (.ref c) := map_at e1
          rw [ecq] at this
          injection this with this
          injection this with this
          rw [← e, this] at nas
          exact nas c (List.mem_of_getElem? e1) rfl
        have ly : j < (trl 0 n ts h tu q).length := by rw [trl_len]; omega
        have gy : (vrow (trl 0 n ts h tu q))[j]? = some (.int ((trl 0 n ts h tu q).getD j 0)) := by
          rw [List.getD_eq_getElem?_getD, vrow, List.getElem?_map, List.getElem?_eq_getElem ly]; rfl
        have ph := pos_hear hW hn' (rep q tu) hj'
        have et : trl 0 n ts h tu q = runC 0 n ts (dlt (n + ts.length) h) (rep q tu) := by unfold trl; rw [if_pos (.inl rfl)]
        rw [← et] at ph
        refine ⟨rfl, ?_⟩
        refine ⟨_, rfl, _, rfl, tr, _, _, .ref cq, rfl, rfl, SqL.of (s6 _ _ htrN), (by rw [Int.zero_add]; exact at_i ecq), _, rfl, cq, _, _, .int ((trl 0 n ts h tu q).getD j 0), rfl, rfl, SqL.of (s6 _ _ (M22.lstK hcq ncq)), (by rw [Int.zero_add]; exact at_i gy), ?_⟩
        refine ⟨_, _, rfl, rfl, _, rfl, ifD (fun c => ?_) fun c => ?_⟩
        · have hv : hear ts h (rep q tu) j = true := ph.mp (of_decide_eq_true c)
          refine ⟨_, rfl, _, hE, szl (by rw [vn_len]; exact Nat.lt_of_le_of_lt (List.length_filter_le _ _) (by rw [List.length_range]; omega)), fun c' o e => ?_, ?_⟩
          · rw [upd_ne (ne_of_none e hD1)]
            exact s6 _ _ e
          · rw [upd_same, ef_yes (p := fun r => hear ts h (rep r tu) j) hv, vn, vn, List.map_append, Int.zero_add]; rfl
        · have hv : hear ts h (rep q tu) j = false := by
            cases e : hear ts h (rep q tu) j with
            | false => rfl
            | true => exact absurd (ph.mpr e) (of_decide_eq_false c)
          refine ⟨s6, ?_⟩
          rw [ef_no (p := fun r => hear ts h (rep r tu) j) hv]
          exact hE
      · rintro Ho ⟨s6, hE⟩
        have hE' : Ho D1 = some (.lst (vn (fst26 ts h tu j))) := by
          have e26 : (((as.map V.ref).length : Int)).toNat = 26 := by omega
          rw [e26] at hE
          exact hE
        have l26 : (fst26 ts h tu j).length ≤ 26 := Nat.le_trans (List.length_filter_le _ _) (by rw [List.length_range]; exact Nat.le_refl _)
        refine gn ?_
        dsimp only [List.set]
        have duO := s6 _ _ hduN
        have fin : ∀ H7, Same Ho H7 → ∃ xs, H7 du = some (.lst xs) ∧ xs.length < sizeLine ∧ xs = (List.range j).map (fun x => oV ((fst26 ts h tu x)[0]?)) ∧ Same HL (upd H7 du (.lst (xs ++ [oV ((fst26 ts h tu j)[0]?)]))) ∧ (upd H7 du (.lst (xs ++ [oV ((fst26 ts h tu j)[0]?)]))) du = some (.lst ((List.range (j + 1)).map fun x => oV ((fst26 ts h tu x)[0]?))) := fun H7 s7 => by
          refine ⟨_, s7 _ _ duO, szl (by rw [List.length_map, List.length_range]; omega), rfl, fun c' o e => ?_, ?_⟩
          · rw [upd_ne (ne_of_none e hdu)]
            exact s7 _ _ (s6 _ _ (sN _ _ e))
          · rw [upd_same, List.range_succ, List.map_append]; rfl
        refine ⟨_, rfl, .inl ⟨rfl, _, SqL.of duO⟩, _, rfl, (by show 0 ≤ sizeLine; decide), fun e0 he0 => ?_⟩
        have s7 := same_new (o := HO.lst []) he0
        have he7 : (upd Ho e0 (.lst [])) e0 = some (.lst []) := upd_same
        generalize upd Ho e0 (.lst []) = H7 at s7 he7 ⊢
        refine ⟨_, .list [], dp_lst (lv_row (s7 _ _ hE')), .lst (SqL.of he7) .nil, ((Pl.list (pla_ints _ (fun x hx => by obtain ⟨r, hr, rfl⟩ := List.mem_map.mp hx; have := List.mem_range.mp (List.mem_filter.mp hr).1; omega))).mono (m := 1) (v := 100000) (by decide) (by rw [List.length_map]; omega)).shaped (by decide), by decide +kernel, _, rfl, ?_⟩
        obtain ⟨xs, f1, f2, f3, f4, f5⟩ := fin H7 s7
        cases eq : PyData.eqv (.list (dI ((fst26 ts h tu j).map fun (x : Nat) => (x : Int)))) (.list []) with
        | true =>
          have ef : fst26 ts h tu j = [] := by
            cases ef : fst26 ts h tu j with
            | nil => rfl
            | cons r l => rw [ef] at eq; exact absurd (eq.symm.trans (eqv_cons (r : Int) (dI (l.map fun (x : Nat) => (x : Int))))) (by decide)
          rw [ef] at f4 f5
          refine iteF (tCq ?_)
          exact ⟨du, xs, _, rfl, rfl, f1, f2, _, _, rfl, f4, f5⟩
        | false =>
          obtain ⟨r, l, ef⟩ : ∃ r l, fst26 ts h tu j = r :: l := by
            cases ef : fst26 ts h tu j with
            | nil =>
              rw [ef] at eq
              have : PyData.eqv (.list (dI (([] : List Nat).map fun (x : Nat) => (x : Int)))) (.list []) = true := SeqAt.eqv_refl _ (by decide +kernel)
              rw [this] at eq
              cases eq
            | cons r l => exact ⟨r, l, rfl⟩
          rw [ef] at f4 f5
          have h7D : H7 D1 = some (.lst (vn (r :: l))) := by rw [← ef]; exact s7 _ _ hE'
          refine iteT ?_
          refine ⟨_, rfl, D1, _, 0, .int (r : Int), rfl, rfl, SqL.of h7D, at_i (i := 0) (xs := vn (r :: l)) rfl, ?_⟩
          exact ⟨du, xs, _, rfl, rfl, f1, f2, _, _, rfl, f4, f5⟩
    rintro σ HN ⟨v14, v15, rfl, sN, hduN⟩
    have M22 := M20.same sN
    rw [Int.toNat_natCast] at hduN
    have outs : ∀ (F : Nat → Option Nat), (∀ x r, F x = some r → FirstAt (fun j => hear ts h (rep j tu) x = true) r ∧ r ≤ n) → (∀ x, F x = none → ∀ j, ¬ hear ts h (rep j tu) x = true) → ∀ x, (fst26 ts h tu x)[0]? = F x := fun F h1 h2 x => by
      cases e : F x with
      | none => rw [fst_none (h2 x e)]; rfl
      | some r =>
        obtain ⟨g1, g2⟩ := h1 x r e
        exact fst_some g1 (by omega)
    have pls : Pl (.tuple ((List.range n).map fun x => oD ((fst26 ts h tu x)[0]?))) 1 100000 := (Pl.tuple (pla_outs (fun x => (fst26 ts h tu x)[0]?) (List.range n) fun x hx r hr => by
      have := List.mem_range.mp (List.mem_filter.mp (List.mem_of_getElem? hr)).1
      omega)).mono (by decide) (by rw [List.length_range]; omega)
    refine ⟨_, rfl, _, rfl, _, rfl, w, .int (h : Int), .ref ol, none, some (vn tu), n, ts, rfl, M22.webK hb8 web8, hW, .int _, rw_vnL (M22.lstK hol8 nol), .inr ⟨h, rfl, hn', .inr ⟨tu, rfl, by omega, hlt, fun p F HP sP hp F1 F2 => ?_⟩⟩⟩
    obtain rfl : F = fun x => (fst26 ts h tu x)[0]? := funext fun x => (outs F F1 F2 x).symm
    have M23 := M22.same sP
    refine nilP (reprP (.tup (SqT.of hp) (dp_outs (fun x => (fst26 ts h tu x)[0]?) (List.range n))) pls (by decide) (by decide) ?_)
    refine ⟨_, rfl, du, _, rfl, .inl ⟨SqL.of (sP _ _ hduN), fun dt hdt => ?_⟩⟩
    have sQ := same_new (o := HO.tup ((List.range n).map fun x => oV ((fst26 ts h tu x)[0]?))) hdt
    have hdt' : (upd HP dt (.tup ((List.range n).map fun x => oV ((fst26 ts h tu x)[0]?)))) dt = some (.tup ((List.range n).map fun x => oV ((fst26 ts h tu x)[0]?))) := upd_same
    generalize upd HP dt (.tup ((List.range n).map fun x => oV ((fst26 ts h tu x)[0]?))) = HQ at sQ hdt' ⊢
    have M24 := M23.same sQ
    refine nilP (reprP (.tup (SqT.of hdt') (dp_outs (fun x => (fst26 ts h tu x)[0]?) (List.range n))) pls (by decide) (by decide) ?_)
    refine neV rfl ⟨_, rfl, iteF ?_⟩
    -- the same, by names
    refine ⟨_, rfl, ol, _, rfl, .inl ⟨SqL.of (M24.lstK hol8 nol), fun ot hot => ?_⟩⟩
    have sR := same_new (o := HO.tup (vn tu)) hot
    have hot' : (upd HQ ot (.tup (vn tu))) ot = some (.tup (vn tu)) := upd_same
    generalize upd HQ ot (.tup (vn tu)) = HR at sR hot' ⊢
    have M25 := M24.same sR
    refine ⟨_, rfl, _, rfl, rfl, w, .int (h : Int), .ref ot, none, some (vn tu), n, ts, rfl, M25.webK hb8 web8, hW, .int _, rw_vnT hot', .inr ⟨h, rfl, hn', .inr ⟨tu, rfl, by omega, hlt, fun p F HS sS hp2 G1 G2 => ?_⟩⟩⟩
    obtain rfl : F = fun x => (fst26 ts h tu x)[0]? := funext fun x => (outs F G1 G2 x).symm
    have M26 := M25.same sS
    refine ⟨_, rfl, du, _, rfl, .inl ⟨SqL.of (sS _ _ (sR _ _ (sQ _ _ (sP _ _ hduN)))), fun du2 hdu2 => ?_⟩⟩
    have sT := same_new (o := HO.tup ((List.range n).map fun x => oV ((fst26 ts h tu x)[0]?))) hdu2
    have hdu2' : (upd HS du2 (.tup ((List.range n).map fun x => oV ((fst26 ts h tu x)[0]?)))) du2 = some (.tup ((List.range n).map fun x => oV ((fst26 ts h tu x)[0]?))) := upd_same
    generalize upd HS du2 (.tup ((List.range n).map fun x => oV ((fst26 ts h tu x)[0]?))) = HT at sT hdu2' ⊢
    have M27 := M26.same sT
    refine neDP (.tup (SqT.of (sT _ _ hp2)) (dp_outs (fun x => (fst26 ts h tu x)[0]?) (List.range n))) (.tup (SqT.of hdu2') (dp_outs (fun x => (fst26 ts h tu x)[0]?) (List.range n))) pls (by decide) ⟨_, rfl, iteF (nxP ?_)⟩
    -- what is refused
    refine ⟨_, rfl, _, rfl, _, rfl, _, rfl, b, w, tl, n, ts, rfl, M27.bx, M27.tb, M27.webK hb8 web8, hW, M27.tiesL hb8 tie8 ntl, ntl, fun HU M28 => ⟨_, rfl, iteF (nxP ?_)⟩⟩
    have M29 := M27.trans M28
    exact ⟨_, _, _, _, _, _, _, _, _, _, _, _, _, _, _, rfl, sqL_ks hSa ((K8.trans M29).ks0 s1 hb0), M29.tb⟩
end
end K1
namespace K1
open PySem PySem.Spec PyProof.Rows L2
/-- the caller's call of a law that is told where nothing is being shown; some tables of code objects stand by -/
theorem call_laws {P : Program} {w : World} {K : PySem.W.Frag} {mg mb : Str → Option Value} {k : Nat} {fa a : Addr} (Ps : List (Addr × Addr)) {fd : FuncData} {x : Str} {sp : Sp} {s : Shared} {vs : List Value} {ns : List Int}
    (KX : K.In s.heap) (hmg : s.heap.Ns mainGlobals mg) (hmb : s.heap.Ns builtinsNs mb) (hbb : ∀ x : Str, x ≠ "__name__" → mb x = bootBuiltins x) (hlim : s.heap.NoLimit) (hg : s.gens = #[])
    (hPs : ∀ p ∈ Ps, s.heap.get? p.2 = some { cls := .none, data := .fields #[] } ∧ K.lookup p.2 = none ∧ PySem.W.CodeHd s.heap p.1 p.2)
    (hbm : ∃ (bm : Addr) (ob : Obj), mg "__builtins__" = some (.ref bm) ∧ bm ≠ builtinsNs ∧ s.heap.get? bm = some ob ∧ ob.cls = .type "module" ∧ ob.dict = some builtinsNs ∧ ob.data = .plain)
    (ha : s.heap.get? a = some { cls := .type "list", data := .seq vs.toArray }) (hi : IntsAre vs ns) (hl : ns.length ≤ sizeLine) (hr : Room k callerA)
    (F : ∀ base : Heap, K.In base → base.Ns mainGlobals mg → (∀ p ∈ Ps, LamX.TabB base mg p.1 p.2) → FnG P w K mg base k fa fd [x] sp) (hbind : ∀ (s : Shared) (u : Value), BindsTo s fd ⟨[u], []⟩ [(x, u)])
    (hsp : ∀ H : Hp, (∀ p ∈ Ps, H p.2 = some (.tbl #[])) → SqL K H a (ns.map V.int) → sp [.ref a] H (fun v _ => v = .bl true) fun _ _ _ => False) :
    codeAny (model P w) callerA (.call (.ref fa) ⟨[.ref a], []⟩) (fun r s' => r = .ok (.ret (.bool true)) ∧ OldK s.heap s'.heap ∧ s'.os = s.os ∧ AllBare s'.gens) s := by
  have hTS : ∀ b, b ∈ Ps.map (·.2) → s.heap.get? b = some { cls := .none, data := .fields #[] } ∧ K.lookup b = none ∧ ∃ c, PySem.W.CodeHd s.heap c b := fun b hb => by
    obtain ⟨p, hp, rfl⟩ := List.mem_map.mp hb
    obtain ⟨h1, h2, h3⟩ := hPs p hp
    exact ⟨h1, h2, _, h3⟩
  generalize hTSd : Ps.map (·.2) = TS at hTS
  have inTS : ∀ p ∈ Ps, p.2 ∈ TS := fun p hp => by rw [← hTSd]; exact List.mem_map.mpr ⟨p, hp, rfl⟩
  have nPa : ∀ b ∈ TS, b ≠ a := fun b hb z => by
    have hT := (hTS b hb).1
    rw [z, ha] at hT
    cases Option.some.inj hT
  -- told of any way to follow the script
  have told : ∀ H : Hp, (∀ b ∈ TS, H b = some (.tbl #[])) → (∀ b, b ∉ TS → H b = none ∨ (b = a ∧ K.lookup a = none ∧ ∃ o xs, H a = some (.frz o (.lst xs)))) → SqL K H a (ns.map V.int) → HOk P w H s.heap →
      codeAny (model P w) callerA (.call (.ref fa) ⟨[.ref a], []⟩) (fun r s' => r = .ok (.ret (.bool true)) ∧ OldK s.heap s'.heap ∧ s'.os = s.os ∧ AllBare s'.gens) s := by
    intro H hP hO hS hok
    have out : ∀ {b : Addr} {o : Obj}, s.heap.get? b = some o → b ∉ TS → b ≠ a → (hidT s.heap H).get? b = some o := fun {b o} e n1 n2 => hidT_get e ((hO b n1).resolve_right fun z => n2 z.1)
    have neD : ∀ {b : Addr} {o : Obj}, s.heap.get? b = some o → (∀ v n, o.data ≠ .seq v n) → (o.data ≠ .fields #[]) → b ∉ TS ∧ b ≠ a := fun {b o} e h1 h2 => ⟨fun z => by
      have hT := (hTS b z).1
      rw [hT] at e
      cases Option.some.inj e
      exact h2 rfl, fun z => by
      rw [z, ha] at e
      cases Option.some.inj e
      exact h1 _ _ rfl⟩
    have ns_ : ∀ {b : Addr} {m : Str → Option Value}, s.heap.Ns b m → (hidT s.heap H).Ns b m := fun {b m} ⟨o, es, ep, e, d, r⟩ => by
      have n := neD e (fun v n z => by rw [d] at z; cases z) (fun z => by rw [d] at z; cases z)
      exact ⟨o, es, ep, out e n.1 n.2, d, r⟩
    have kin : K.In (hidT s.heap H) := fun b o e => by
      refine hidT_get (KX b o e) ?_
      by_cases z : b ∈ TS
      · rw [(hTS b z).2.1] at e; cases e
      · refine (hO b z).resolve_right fun ⟨z1, z2, _⟩ => ?_
        rw [z1, z2] at e
        cases e
    have hM : L2.Mod K mg (hidT s.heap H) := ⟨kin, ns_ hmg, ⟨mb, ns_ hmb, hbb⟩, let ⟨mc, h1, h2⟩ := hlim; ⟨mc, ns_ h1, h2⟩⟩
    have TB : ∀ p ∈ Ps, LamX.TabB (hidT s.heap H) mg p.1 p.2 := fun p hp => by
      obtain ⟨hT, nT, hC⟩ := hPs p hp
      refine ⟨?_, ?_, fun z => ?_⟩
      · obtain ⟨o, us, file, tf, flags, tg, inF, text, tt, e, e2, e3, r⟩ := hC
        have n := neD e (fun v n z => by rw [e3] at z; cases z) (fun z => by
          rw [e3] at z
          cases z
          have := r.1
          simp at this)
        exact ⟨o, us, file, tf, flags, tg, inF, text, tt, out e n.1 n.2, e2, e3, r⟩
      · obtain ⟨bm, ob, b1, b2, b3, b4, b5, b6⟩ := hbm
        have n := neD b3 (fun v n z => by rw [b6] at z; cases z) (fun z => by rw [b6] at z; cases z)
        refine ⟨bm, ob, b1, b2, fun z => ?_, fun z => n.1 (by rw [z]; exact inTS p hp), out b3 n.1 n.2, b4, b5, b6⟩
        obtain ⟨o, es, ep, e, d, _⟩ := hmg
        rw [z, e] at b3
        cases Option.some.inj b3
        rw [d] at b6
        cases b6
      · obtain ⟨o, es, ep, e, d, _⟩ := hmg
        rw [z, hT] at e
        cases Option.some.inj e
        cases d
    have e0 : Env0 P w K mg (hidT s.heap H) callerA [] s H := ⟨rfl, hM, fun b o e => of_hidT e, Nat.le_of_eq (hidT_size _ _), trivial, fun b hb => absurd (show b ∈ ([] : List Addr) from hb) (by simp), hok, .of_eq hg⟩
    refine codeAny_mono ((F _ kin (ns_ hmg) TB).run callerA [] s H ⟨[.ref a], []⟩ [.ref a] [.ref a] _ _ hr rfl e0 (hbind s (.ref a)) (.cons rfl .nil) (hsp H (fun p hp => hP _ (inTS p hp)) hS)) fun r s' h => ?_
    cases r with
    | error e => exact (show False from h).elim
    | ok fl =>
      cases fl with
      | next => exact False.elim h
      | brk => exact False.elim h
      | cont => exact False.elim h
      | ret u =>
        obtain ⟨v, H', os, bare, un, hok', r', q⟩ := h
        obtain rfl : v = V.bl true := q
        obtain rfl : u = Value.bool true := r'
        have hm' : ∀ b ∈ TS, ∃ more, s'.heap.get? b = some { cls := .none, data := .fields more } := fun b hb => by
          obtain ⟨more, hm⟩ := un.tbls b #[] (hP b hb)
          have z := hok' b _ hm
          rw [Array.empty_append] at z
          exact ⟨more, z⟩
        have rest : ∀ b o, b ∉ TS → s.heap.get? b = some o → s'.heap.get? b = some o := fun b o n e => by
          rcases hO b n with z | ⟨z, _, ob, xs, hf⟩
          · exact un.keep b o e z (fun w => absurd (show b ∈ ([] : List Addr) from w) (by simp)) (by simp)
          · rw [z] at e ⊢
            have e1 := (hok a _ hf).1
            rw [e] at e1
            rw [Option.some.inj e1]
            exact (hok' a _ (un.frzs a ob _ hf)).1
        refine ⟨rfl, ⟨fun b o e => ?_, fun b o e => ?_⟩, os, bare⟩
        · by_cases z : b ∈ TS
          · obtain ⟨hT, _, c, hC⟩ := hTS b z
            obtain ⟨more, hm⟩ := hm' b z
            rw [hT] at e
            cases Option.some.inj e
            exact .inr (.inl ⟨(hC.tab hT).isCodeTable, rfl, #[], more, rfl, by rw [Array.empty_append]; exact hm⟩)
          · exact .inl (rest b o z e)
        · by_cases z : b ∈ TS
          · obtain ⟨more, hm⟩ := hm' b z
            exact ⟨_, hm⟩
          · exact ⟨o, rest b o z e⟩
  have rv := vals_ints hi
  have naTS : a ∉ TS := fun z => nPa a z rfl
  cases hk : K.lookup a with
  | some o =>
    have e := KX a o hk
    rw [ha] at e
    cases Option.some.inj e
    refine told (fun b => if b ∈ TS then some (.tbl #[]) else none) (fun b hb => if_pos hb) (fun b n => .inl (if_neg n)) (.inr ⟨_, vs.toArray, _, hk, rfl, rfl, rfl, by rw [List.size_toArray, hi.length]; exact hl, by simpa using rv⟩) fun b u z => ?_
    by_cases n : b ∈ TS
    · have z' : some (HO.tbl #[]) = some u := (if_pos n).symm.trans z
      cases z'
      exact (hTS b n).1
    · have z' : (none : Option HO) = some u := (if_neg n).symm.trans z
      cases z'
  | none =>
    refine told (fun b => if b ∈ TS then some (.tbl #[]) else if b = a then some (.frz { cls := .type "list", data := .seq vs.toArray } (.lst (ns.map V.int))) else none) (fun b hb => if_pos hb) (fun b n => ?_) (.inl (.inr ⟨_, (if_neg naTS).trans (if_pos rfl)⟩)) fun b u z => ?_
    · by_cases n2 : b = a
      · exact .inr ⟨n2, hk, _, _, (if_neg naTS).trans (if_pos rfl)⟩
      · exact .inl ((if_neg n).trans (if_neg n2))
    · by_cases n : b ∈ TS
      · have z' : some (HO.tbl #[]) = some u := (if_pos n).symm.trans z
        cases z'
        exact (hTS b n).1
      · by_cases n2 : b = a
        · have z' := ((if_neg n).trans (if_pos n2)).symm.trans z
          cases z'
          rw [n2]
          exact ⟨ha, by rw [List.length_map]; exact hl, vs, _, rv, ha⟩
        · have z' := ((if_neg n).trans (if_neg n2)).symm.trans z
          cases z'
end K1
namespace K1
open PySem PySem.Spec PyProof.Rows L2
abbrev T1 (Pr : Addr) : List (Addr × Str) := [(Pr, qRf)]
/-- what the top has left -/
structure Tp (K : PySem.W.Frag) (mg : Str → Option Value) (W CW CH CB CR CG cr Pr fa fr : Addr) (fd fdr : FuncData) : Prop where
  B : Bt mg
  rc : ∃ f fd, DfR K mg f fd
  cw : Cw mg
  cm : Cm mg
  whole : ∃ f fd, Df K mg "is_whole" sWhole ["value"] f fd
  below : ∃ f fd, Df K mg "is_below" sBelow ["value", "limit"] f fd
  seq : ∃ f fd, Df K mg "is_sequence" sSeq ["value", "least", "most"] f fd
  fnb : ∃ f fd, Df K mg "first_not_below" sFnb ["items", "limit"] f fd
  pair : ∃ f fd, Df K mg "is_pair" sPair ["value", "houses"] f fd
  cties : ∃ f fd, Df K mg "checked_ties" sCTies ["houses", "ties"] f fd
  needH : ∃ f fd, Df K mg "need_house" sNeedH ["web", "house"] f fd
  cby : ∃ f fd, Df K mg "counted_by" sCBy ["modulus", "number"] f fd
  chk : ∃ f fd, Df K mg "check_meetings" sCheckMeetings ["web", "value"] f fd
  oneAt : ∃ f fd, Df K mg "one_at" sOneAt ["web", "place"] f fd
  cb : ∃ f fd, Df K mg "counts_behind" sCountsBehind ["web", "counts", "meetings", "modulus"] f fd
  parted : ∃ f fd, Df K mg "parted" sParted ["web", "counts"] f fd
  mo : ∃ f fd, Df K mg "made_of" sMadeOf ["images", "numbers", "modulus"] f fd
  cp : ∃ f fd, Df K mg "counts_by_powers" sCountsByPowers ["web", "counts", "order", "rounds", "modulus"] f fd
  hrd : ∃ f fd, Df K mg "heard_rounds" sHeardRounds ["web", "house", "order"] f fd
  box : ∃ f fd, Df K mg "_law_box" sLBox ["_law_script", "_law_k"] f fd
  take : ∃ f fd, Df K mg "_law_take" sLTake ["_law_box_here", "_law_many"] f fd
  pick : ∃ f fd, Df K mg "_law_pick" sLPick ["_law_box_here", "_law_some"] f fd
  ties : ∃ f fd, Df K mg "_law_ties" sLTies ["_law_box_here", "_law_houses", "_law_most"] f fd
  metL : ∃ f fd, Df K mg "_law_met" sLMet ["_law_ties_here", "_law_houses", "_law_counts", "_law_meetings"] f fd
  begun : ∃ f fd, Df K mg "_law_begun" sLBegun ["_law_ties_here", "_law_houses", "_law_house"] f fd
  split : ∃ f fd, Df K mg "_law_split" sLSplit ["_law_houses", "_law_counts"] f fd
  trail : ∃ f fd, Df K mg "_law_trail" sLTrail ["_law_ties_here", "_law_houses", "_law_house", "_law_order", "_law_rounds", "_law_modulus"] f fd
  far : ∃ f fd, Df K mg "_law_far" sLFar ["_law_ties_here", "_law_houses", "_law_house", "_law_order", "_law_rounds", "_law_modulus"] f fd
  heard : ∃ f fd, Df K mg "_law_heard" sLHeard ["_law_ask"] f fd
  refR : FunC K "_law_refused_right" "_law_refused_right" sLRefusedRight fr fdr (.ref cr)
  refRD : Df K mg "_law_refused_right" sLRefusedRight ["_law_box_here", "_law_web", "_law_houses", "_law_ties_here"] fr fdr
  law : Fun K "law" "law" sLaw fa fd
  lawb : ∀ (s : Shared) (u : Value), BindsTo s fd ⟨[u], []⟩ [("_law_script", u)]
  initW : ∃ f fd, Fun K "__init__" "Web.__init__" sWInit f fd ∧ Mk K W f ∧ Binds K fd ["self", "houses", "ties"] []
  TW : WcT K mg W
  t1 : ∃ q b i, LAt.Txt K mg "BadWeb" q b CW i
  t2 : ∃ q b i, LHouse.Txt K mg "NoHouse" q b CH i
  t3 : ∃ q b i, LAt.Txt K mg "BadSteps" q b CB i
  t4 : ∃ q b i, LAt.Txt K mg "Refused" q b CR i
  t5 : ∃ q b i, LMost.Txt K mg "TooGreat" q b CG i
  ex : ∃ N, mg "NetError" = some (.ref N) ∧ Exm K CH CB CR CG N
  tabr : PySem.W.tabIn K "_law_refused_right" = some (cr, Pr)
  nPr : K.lookup Pr = Option.none
section
variable {P : Program} {w : World} {K : PySem.W.Frag} {mg : Str → Option Value} {base : Heap}
theorem asm {W CW CH CB CR CG cr Pr fa fr : Addr} {fd fdr : FuncData} (t : Tp K mg W CW CH CB CR CG cr Pr fa fr fd fdr) (TBr : LamX.TabB base mg cr Pr) : FnG P w K mg base 9 fa fd ["_law_script"] (spLaw K (T1 Pr)) := by
  have B := t.B
  have cw := t.cw
  have cm := t.cm
  obtain ⟨_, _, dWhole⟩ := t.whole
  obtain ⟨_, _, dBelow⟩ := t.below
  obtain ⟨_, _, dSeq⟩ := t.seq
  obtain ⟨_, _, dFnb⟩ := t.fnb
  obtain ⟨_, _, dPair⟩ := t.pair
  obtain ⟨_, _, dCties⟩ := t.cties
  obtain ⟨_, _, dNeedH⟩ := t.needH
  obtain ⟨_, _, dCby⟩ := t.cby
  obtain ⟨_, _, dChk⟩ := t.chk
  obtain ⟨_, _, dOneAt⟩ := t.oneAt
  obtain ⟨_, _, dCb⟩ := t.cb
  obtain ⟨_, _, dParted⟩ := t.parted
  obtain ⟨_, _, dMo⟩ := t.mo
  obtain ⟨_, _, dCp⟩ := t.cp
  obtain ⟨_, _, dHrd⟩ := t.hrd
  obtain ⟨_, _, dBox⟩ := t.box
  obtain ⟨_, _, dTake⟩ := t.take
  obtain ⟨_, _, dPick⟩ := t.pick
  obtain ⟨_, _, dTies⟩ := t.ties
  obtain ⟨_, _, dMetL⟩ := t.metL
  obtain ⟨_, _, dBegun⟩ := t.begun
  obtain ⟨_, _, dSplit⟩ := t.split
  obtain ⟨_, _, dTrail⟩ := t.trail
  obtain ⟨_, _, dFar⟩ := t.far
  obtain ⟨_, _, dHeard⟩ := t.heard
  have TW := t.TW
  obtain ⟨_, _, fiW, mkW, biW⟩ := t.initW
  obtain ⟨_, _, _, x1⟩ := id t.t1
  obtain ⟨_, _, _, x2⟩ := id t.t2
  obtain ⟨_, _, _, x3⟩ := id t.t3
  obtain ⟨_, _, _, x4⟩ := id t.t4
  obtain ⟨_, _, _, x5⟩ := id t.t5
  obtain ⟨_, _, dRc⟩ := t.rc
  have gWhole := ok_whole (P := P) (w := w) (base := base) dWhole B
  have gBelow := ok_below (P := P) (w := w) (base := base) dBelow dWhole B
  have gSeq := ok_seq (P := P) (w := w) (base := base) dSeq B
  have gFnb := ok_fnb (P := P) (w := w) (base := base) dFnb dBelow B gBelow
  have gPair := ok_pair (P := P) (w := w) (base := base) dPair dSeq dFnb gSeq gFnb
  have gCties := ok_cties (P := P) (w := w) (base := base) dCties dWhole dSeq dPair B cw x1 gWhole gSeq gPair
  have gWi := ok_winit (P := P) (w := w) (base := base) fiW dCties TW gCties
  have gNeedH := ok_needH (P := P) (w := w) (base := base) dNeedH dBelow TW x2 gBelow
  have gCby := ok_cby (P := P) (w := w) (base := base) dCby
  have gChk := ok_cm (P := P) (w := w) (base := base) dChk dSeq dFnb B cm TW x3 gSeq gFnb
  have gOneAt := ok_oneAt (P := P) (w := w) (base := base) dOneAt B TW
  have gCb := ok_cb (P := P) (w := w) (base := base) dCb dCby B TW gCby
  have gParted := ok_parted (P := P) (w := w) (base := base) dParted TW
  have gMo := ok_mo (P := P) (w := w) (base := base) dMo dCby B gCby
  have gCp := ok_cp (P := P) (w := w) (base := base) dCp dCb dOneAt dCby dMo B gCb gOneAt gCby gMo
  have gRc := ok_rc (P := P) (w := w) (base := base) dRc dNeedH dChk dBelow dOneAt dParted dCb dCp B cm TW x4 x5 gNeedH gChk gBelow gOneAt gParted gCb gCp
  have gHr := ok_hr (P := P) (w := w) (base := base) dHrd dNeedH dChk B TW gNeedH gChk
  have gTake := ok_take (P := P) (w := w) (base := base) dTake B
  have gPick := ok_pick (P := P) (w := w) (base := base) dPick dTake B gTake
  have gBox := ok_box (P := P) (w := w) (base := base) dBox B
  have gTies := ok_ties (P := P) (w := w) (base := base) dTies dTake B gTake
  have gMetL := ok_metL (P := P) (w := w) (base := base) dMetL B
  have gBegun := ok_begun (P := P) (w := w) (base := base) dBegun B
  have gSplit := ok_split (P := P) (w := w) (base := base) dSplit B
  have gTrail := ok_trail (P := P) (w := w) (base := base) dTrail dBegun dMetL B gBegun gMetL
  have gFar := ok_far (P := P) (w := w) (base := base) dFar dTrail B gTrail
  have hd : Hd K mg base CH CB CR CG := ⟨B, t.heard, t.t2, t.t3, t.t4, t.t5, t.ex⟩
  have gRef := ok_ref (P := P) (w := w) (T := T1 Pr) t.refR TBr List.mem_cons_self (fun p hp _ => by rw [List.mem_singleton.mp hp]) B hd dPick gPick dHrd gHr dRc gRc
  exact ok_law t.law (⟨B, TW, ⟨_, _, dBox, gBox⟩, ⟨_, _, dTake, gTake⟩, ⟨_, _, dPick, gPick⟩, ⟨_, _, dTies, gTies⟩, ⟨_, _, dTrail, gTrail⟩, ⟨_, _, dSplit, gSplit⟩, ⟨_, _, dFar, gFar⟩, ⟨_, _, mkW, biW, gWi⟩, ⟨_, _, dRc, gRc⟩, ⟨_, _, dHrd, gHr⟩, ⟨_, _, t.refRD, gRef⟩⟩ : Dn P w K mg base W CH CB CR CG (T1 Pr))
end
/-- the end: from what the top has left -/
theorem walkK {l : PySem.W.OpenLaw} {q : Program} {loose : List Str} {XP : (Str → Option Value) → Heap → Prop} {YP : World → Heap → Prop} {d : DefRec} {K : Params → PySem.W.Frag} (hn : l.most = some 63) (hdf : d.params.defaults = []) (hY : ∀ (w : World) (h : Heap), YP w h → (K w.params).In h)
    (hrr : ∃ d', (recsOf q).find? (fun e => e.name == ("_law_refused_right" : Str)) = some d')
    (F : ∀ (w : World) (mg : Str → Option Value) (fa : Addr) (h : Heap), (K w.params).In h → h.Ns mainGlobals mg → mg d.name = some (.ref fa) → ∃ (W CW CH CB CR CG cr Pr fr : Addr) (fd fdr : FuncData), Tp (K w.params) mg W CW CH CB CR CG cr Pr fa fr fd fdr) :
    PySem.W.WalkO q loose XP YP l.row.toRowW d [] (fun f vs => PySem.call f vs) := by
  refine Att.attach_callB hn hdf fun w s₀ s₁ mg mb fa o pm cd doc a vs ns G Y ho hd hcd hmg hobj hints hlen hbits hg => ?_
  have KX := hY w _ Y
  obtain ⟨W, CW, CH, CB, CR, CG, cr, Pr, fr, fd, fdr, t⟩ := F w mg fa _ KX G.T.g hmg
  obtain ⟨d_hrr, hrr⟩ := hrr
  obtain ⟨Chrr, Thrr⟩ := PySem.W.tab_of G.T KX hrr t.tabr
  exact call_laws (k := 9) [(cr, Pr)] (x := "_law_script") (sp := spLaw (K w.params) (T1 Pr)) KX G.T.g G.T.b G.T.builtins G.T.nolimit hg (fun p hp => by
      simp only [List.mem_cons, List.mem_nil_iff, or_false] at hp
      rcases hp with rfl
      · exact ⟨Thrr, t.nPr, Chrr⟩) G.T.bmain hobj hints (Nat.le_trans hlen (by decide)) ⟨rfl, by decide, by decide⟩ (fun base _ _ TB => asm t (TB _ List.mem_cons_self)) t.lawb
    fun H hP hS => ⟨a, ns, rfl, hS, hlen, fun p hp => by
      simp only [List.mem_cons, List.mem_nil_iff, or_false] at hp
      rcases hp with rfl
      · exact .nil (hP _ List.mem_cons_self), fun _ => rfl⟩
end K1
namespace K1
open PySem PySem.Spec PyProof.Rows L2
section
variable {K : PySem.W.Frag} {h : Heap} {mg : Str → Option Value} {x qual : Str} {st : Stmt} {ps : List Str} {f C : Addr} {oc kV doc pm cdv ct : Value} {od an : Option Addr} {osl : Array (Option Value)}
theorem df_of (X : K.In h) (G : h.Ns mainGlobals mg) (a : PySem.W.nsIn K mainGlobals x = some (some (.ref f))) (l : K.lookup f = some ⟨oc, od, .func (PySem.W.fnOf x x (defArgs st) (defBody st) (defScope st) .none kV doc pm an cdv ct), osl⟩)
    (c : PySem.W.codeIn K cdv x = true) (k : PySem.W.keepIn K (.ref f) = true)
    (b : ∀ (kV doc pm : Value) (an : Option Addr) (cdv ct : Value) (us : List Value), us.length = ps.length → bindArgs (PySem.W.fnOf x x (defArgs st) (defBody st) (defScope st) .none kV doc pm an cdv ct) ⟨us, []⟩ = pure (ps.zip us)) : ∃ f fd, Df K mg x st ps f fd :=
  ⟨f, _, ⟨fun_mk l c k, PySem.W.mg_of X G a, (fun_mk l c k).binds b⟩⟩
theorem dfc_of {cc : Addr} (X : K.In h) (G : h.Ns mainGlobals mg) (a : PySem.W.nsIn K mainGlobals x = some (some (.ref f))) (l : K.lookup f = some ⟨oc, od, .func (PySem.W.fnOf x x (defArgs st) (defBody st) (defScope st) .none kV doc pm an (.ref cc) ct), osl⟩)
    (c : PySem.W.codeIn K (.ref cc) x = true) (k : PySem.W.keepIn K (.ref f) = true)
    (b : ∀ (kV doc pm : Value) (an : Option Addr) (cdv ct : Value) (us : List Value), us.length = ps.length → bindArgs (PySem.W.fnOf x x (defArgs st) (defBody st) (defScope st) .none kV doc pm an cdv ct) ⟨us, []⟩ = pure (ps.zip us)) : ∃ f fd, Df K mg x st ps f fd ∧ FunC K x x st f fd (.ref cc) :=
  ⟨f, _, ⟨fun_mk l c k, PySem.W.mg_of X G a, (fun_mk l c k).binds b⟩, ⟨oc, od, kV, doc, pm, an, ct, osl, rfl, l, c⟩, k⟩
theorem law_of {fa cc : Addr} (X : K.In h) (G : h.Ns mainGlobals mg) (e : mg "law" = some (.ref fa)) (a : PySem.W.nsIn K mainGlobals "law" = some (some (.ref f))) (l : K.lookup f = some ⟨oc, od, .func (PySem.W.fnOf "law" "law" (defArgs sLaw) (defBody sLaw) (defScope sLaw) .none kV doc pm an (.ref cc) ct), osl⟩)
    (c : PySem.W.codeIn K (.ref cc) "law" = true) (k : PySem.W.keepIn K (.ref f) = true) : ∃ fd, FunC K "law" "law" sLaw fa fd (.ref cc) ∧ ∀ (s : Shared) (u : Value), BindsTo s fd ⟨[u], []⟩ [("_law_script", u)] := by
  have z := e.symm.trans (PySem.W.mg_of X G a)
  cases Option.some.inj z
  exact ⟨_, ⟨⟨oc, od, kV, doc, pm, an, ct, osl, rfl, l, c⟩, k⟩, fun s u => .of_eq rfl⟩
theorem lawF_of {fa : Addr} (X : K.In h) (G : h.Ns mainGlobals mg) (e : mg "law" = some (.ref fa)) (a : PySem.W.nsIn K mainGlobals "law" = some (some (.ref f))) (l : K.lookup f = some ⟨oc, od, .func (PySem.W.fnOf "law" "law" (defArgs sLaw) (defBody sLaw) (defScope sLaw) .none kV doc pm an cdv ct), osl⟩)
    (c : PySem.W.codeIn K cdv "law" = true) (k : PySem.W.keepIn K (.ref f) = true) : ∃ fd, Fun K "law" "law" sLaw fa fd ∧ ∀ (s : Shared) (u : Value), BindsTo s fd ⟨[u], []⟩ [("_law_script", u)] := by
  have z := e.symm.trans (PySem.W.mg_of X G a)
  cases Option.some.inj z
  exact ⟨_, fun_mk l c k, fun s u => .of_eq rfl⟩
theorem init_W {M : Addr} (a : PySem.W.findIn K (.ref M) "__init__" = some (some (.ref f))) (i : PySem.W.isFn K (.ref f) = true) (m : PySem.W.makesIn K M = true) (kM : PySem.W.keepIn K (.ref M) = true)
    (l : K.lookup f = some ⟨oc, od, .func (PySem.W.fnOf "__init__" "Web.__init__" (defArgs sWInit) (defBody sWInit) (defScope sWInit) .none kV doc pm an cdv ct), osl⟩) (c : PySem.W.codeIn K cdv "Web.__init__" = true) (k : PySem.W.keepIn K (.ref f) = true) :
    ∃ f fd, Fun K "__init__" "Web.__init__" sWInit f fd ∧ Mk K M f ∧ Binds K fd ["self", "houses", "ties"] [] :=
  ⟨f, _, fun_mk l c k, ⟨m, a, i, kM⟩, (fun_mk l c k).binds fun _ _ _ _ _ _ us hl => match us, hl with | [_, _, _], _ => rfl⟩
end
section
variable {K : PySem.W.Frag} {h : Heap} {mg : Str → Option Value} {cn ql nm q : Str} {C N0 N fI : Addr} {bs sub : List Value} {sn : List Str} {ab : Bool} {col : Option Bool} {dd : Option Addr} {k0 k1 k2 k3 k5 : Option Value} {oc doc pm cdv ct : Value} {od an : Option Addr} {osl : Array (Option Value)} {p1 p2 q1 q2 q3 q4 : Pos}
theorem LAt_of_ (X : K.In h) (G : h.Ns mainGlobals mg) (a : PySem.W.nsIn K mainGlobals cn = some (some (.ref C))) (xl : K.lookup C = some (excClassObj nm q C N bs (.ref N0 :: veT) true sn sub ab col dd k0 k1 k2 k3 k5 "ValueError.__new__"))
    (sa : PySem.W.findIn K (.ref C) "__setattr__" = some (some (.builtin "object.__setattr__"))) (ga : PySem.W.findIn K (.ref C) "__getattribute__" = some (some (.builtin "BaseException.__getattribute__"))) (gg : PySem.W.findIn K (.ref C) "__getattr__" = some none) (no : PySem.W.findIn K (.ref C) "at" = some none)
    (ic : PySem.W.findIn K (.ref C) "__init__" = some (some (.ref fI))) (tc : PySem.W.typeIn K (.ref fI) = some (.type "function")) (kc : PySem.W.keepIn K (.ref C) = true) (ec : PySem.W.subIn K (.ref C) (.type "BaseException") = some true) (ty : PySem.W.typeIn K (.ref C) = some (.type "type")) (hc : PySem.W.hasDictIn K C = true)
    (l : K.lookup fI = some ⟨oc, od, .func (PySem.W.fnOf "__init__" ql (LAt.iA p1 p2) (LAt.iB q1 q2 q3 q4) LAt.iS .none .none doc pm an cdv ct), osl⟩) (c : PySem.W.codeIn K cdv ql = true) : ∃ q b i, LAt.Txt K mg cn q b C i :=
  ⟨ql, _, fI, ⟨PySem.W.mg_of X G a, ⟨nm, q, N, bs, sn, sub, ab, col, dd, k0, k1, k2, k3, k5, xl⟩, mro_ve N0, sa, ga, gg, no, ic, tc, kc, ec, ty, hc, ⟨oc, od, doc, pm, an, cdv, ct, osl, p1, p2, q1, q2, q3, q4, l, c⟩⟩⟩
theorem LHouse_of_ (X : K.In h) (G : h.Ns mainGlobals mg) (a : PySem.W.nsIn K mainGlobals cn = some (some (.ref C))) (xl : K.lookup C = some (excClassObj nm q C N bs keT true sn sub ab col dd k0 k1 k2 k3 k5 "LookupError.__new__"))
    (sa : PySem.W.findIn K (.ref C) "__setattr__" = some (some (.builtin "object.__setattr__"))) (ga : PySem.W.findIn K (.ref C) "__getattribute__" = some (some (.builtin "BaseException.__getattribute__"))) (gg : PySem.W.findIn K (.ref C) "__getattr__" = some none) (no : PySem.W.findIn K (.ref C) "house" = some none)
    (ic : PySem.W.findIn K (.ref C) "__init__" = some (some (.ref fI))) (tc : PySem.W.typeIn K (.ref fI) = some (.type "function")) (kc : PySem.W.keepIn K (.ref C) = true) (ec : PySem.W.subIn K (.ref C) (.type "BaseException") = some true) (ty : PySem.W.typeIn K (.ref C) = some (.type "type")) (hc : PySem.W.hasDictIn K C = true)
    (l : K.lookup fI = some ⟨oc, od, .func (PySem.W.fnOf "__init__" ql (LHouse.iA p1 p2) (LHouse.iB q1 q2 q3 q4) LHouse.iS .none .none doc pm an cdv ct), osl⟩) (c : PySem.W.codeIn K cdv ql = true) : ∃ q b i, LHouse.Txt K mg cn q b C i :=
  ⟨ql, _, fI, ⟨PySem.W.mg_of X G a, ⟨nm, q, N, bs, sn, sub, ab, col, dd, k0, k1, k2, k3, k5, xl⟩, mro_ke, sa, ga, gg, no, ic, tc, kc, ec, ty, hc, ⟨oc, od, doc, pm, an, cdv, ct, osl, p1, p2, q1, q2, q3, q4, l, c⟩⟩⟩
theorem LMost_of_ (X : K.In h) (G : h.Ns mainGlobals mg) (a : PySem.W.nsIn K mainGlobals cn = some (some (.ref C))) (xl : K.lookup C = some (excClassObj nm q C N bs (.ref N0 :: veT) true sn sub ab col dd k0 k1 k2 k3 k5 "ValueError.__new__"))
    (sa : PySem.W.findIn K (.ref C) "__setattr__" = some (some (.builtin "object.__setattr__"))) (ga : PySem.W.findIn K (.ref C) "__getattribute__" = some (some (.builtin "BaseException.__getattribute__"))) (gg : PySem.W.findIn K (.ref C) "__getattr__" = some none) (no : PySem.W.findIn K (.ref C) "most" = some none)
    (ic : PySem.W.findIn K (.ref C) "__init__" = some (some (.ref fI))) (tc : PySem.W.typeIn K (.ref fI) = some (.type "function")) (kc : PySem.W.keepIn K (.ref C) = true) (ec : PySem.W.subIn K (.ref C) (.type "BaseException") = some true) (ty : PySem.W.typeIn K (.ref C) = some (.type "type")) (hc : PySem.W.hasDictIn K C = true)
    (l : K.lookup fI = some ⟨oc, od, .func (PySem.W.fnOf "__init__" ql (LMost.iA p1 p2) (LMost.iB q1 q2 q3 q4) LMost.iS .none .none doc pm an cdv ct), osl⟩) (c : PySem.W.codeIn K cdv ql = true) : ∃ q b i, LMost.Txt K mg cn q b C i :=
  ⟨ql, _, fI, ⟨PySem.W.mg_of X G a, ⟨nm, q, N, bs, sn, sub, ab, col, dd, k0, k1, k2, k3, k5, xl⟩, mro_ve N0, sa, ga, gg, no, ic, tc, kc, ec, ty, hc, ⟨oc, od, doc, pm, an, cdv, ct, osl, p1, p2, q1, q2, q3, q4, l, c⟩⟩⟩
end
theorem cw_of {K : PySem.W.Frag} {h : Heap} {mg : Str → Option Value} {t0 t1 : Tok} (X : K.In h) (G : h.Ns mainGlobals mg) (a0 : PySem.W.nsIn K mainGlobals "MOST_HOUSES" = some (some (.int 12 t0))) (a1 : PySem.W.nsIn K mainGlobals "MOST_TIES" = some (some (.int 20 t1))) : Cw mg :=
  ⟨⟨_, PySem.W.mg_of X G a0⟩, ⟨_, PySem.W.mg_of X G a1⟩⟩
theorem cm_of {K : PySem.W.Frag} {h : Heap} {mg : Str → Option Value} {t0 t1 t2 t3 : Tok} (X : K.In h) (G : h.Ns mainGlobals mg) (a0 : PySem.W.nsIn K mainGlobals "MOST_MEETINGS" = some (some (.int 10000 t0))) (a1 : PySem.W.nsIn K mainGlobals "MOST_ROUNDS" = some (some (.int 400 t1))) (a2 : PySem.W.nsIn K mainGlobals "MOST_MODULUS" = some (some (.int 1000000 t2))) (a3 : PySem.W.nsIn K mainGlobals "MOST_NUMBER" = some (some (.int 1000000000000000000 t3))) : Cm mg :=
  ⟨⟨_, PySem.W.mg_of X G a0⟩, ⟨_, PySem.W.mg_of X G a1⟩, ⟨_, PySem.W.mg_of X G a2⟩, ⟨_, PySem.W.mg_of X G a3⟩⟩
theorem bt_of {K : PySem.W.Frag} {h : Heap} {mg : Str → Option Value} (X : K.In h) (G : h.Ns mainGlobals mg) (z : ∀ x ∈ ([("isinstance" : Str), "int", "bool", "list", "tuple", "len", "enumerate", "range", "sorted", "set", "repr", "abs", "min", "max", "sum", "all", "any", "zip", "str", "dict", "KeyError"]), PySem.W.nsIn K mainGlobals x = some none) : Bt mg := by
  have n := fun x hx => PySem.W.mg_none_of X G (z x hx)
  exact ⟨n _ (by decide), n _ (by decide), n _ (by decide), n _ (by decide), n _ (by decide), n _ (by decide), n _ (by decide), n _ (by decide), n _ (by decide), n _ (by decide), n _ (by decide), n _ (by decide), n _ (by decide), n _ (by decide), n _ (by decide), n _ (by decide), n _ (by decide), n _ (by decide), n _ (by decide), n _ (by decide), n _ (by decide)⟩
theorem tab_mk {K : PySem.W.Frag} {x : Str} {f c Pt : Addr} {oc o1 : Value} {od o2 : Option Addr} {fd : FuncData} {osl o4 : Array (Option Value)} {vs : Array Value} (a : PySem.W.nsIn K mainGlobals x = some (some (.ref f))) (l : K.lookup f = some ⟨oc, od, .func fd, osl⟩) (hc : fd.code = .ref c)
    (lc : K.lookup c = some ⟨o1, o2, .fields vs, o4⟩) (hv : (vs[11]? : Option Value) = some (.ref Pt)) : PySem.W.tabIn K x = some (c, Pt) := by
  unfold PySem.W.tabIn
  rw [a]
  dsimp only
  rw [l]
  dsimp only
  rw [hc]
  dsimp only
  rw [lc]
  dsimp only
  rw [hv]
theorem dfR_of {K : PySem.W.Frag} {h : Heap} {mg : Str → Option Value} {f D : Addr} {oc doc pm cdv ct : Value} {od an : Option Addr} {osl : Array (Option Value)} {tk : Tok} (X : K.In h) (G : h.Ns mainGlobals mg) (a : PySem.W.nsIn K mainGlobals "round_counts" = some (some (.ref f)))
    (l : K.lookup f = some ⟨oc, od, .func (PySem.W.fnOf "round_counts" "round_counts" (defArgs sRoundCounts) (defBody sRoundCounts) (defScope sRoundCounts) .none (.ref D) doc pm an cdv ct), osl⟩)
    (c : PySem.W.codeIn K cdv "round_counts" = true) (k : PySem.W.keepIn K (.ref f) = true) (n : PySem.W.nsIn K D "modulus" = some (some (.int 0 tk))) : ∃ f fd, DfR K mg f fd :=
  ⟨f, _, ⟨⟨⟨oc, od, .none, .ref D, doc, pm, an, cdv, ct, osl, rfl, l, c, .inl ⟨rfl, rfl⟩, .inr ⟨D, rfl, fun q hq => by rw [List.mem_singleton.mp hq]; exact ⟨_, n, ⟨_, rfl⟩⟩⟩⟩, k⟩, PySem.W.mg_of X G a⟩⟩
/-- the facts of the head, by the words that k_is answers -/
theorem tp_of {K : PySem.W.Frag} {h : Heap} {mg : Str → Option Value} {fa fN W CW CH CB CR CG NErr : Addr} {oc kV doc pm ct cdv : Value} {od an : Option Addr} {osl : Array (Option Value)}  {cr Pr fNr : Addr} {ocr kVr docr pmr ctr o1r : Value} {odr anr o2r : Option Addr} {oslr o4r : Array (Option Value)} {vsr : Array Value} (X : K.In h) (G : h.Ns mainGlobals mg)
    (B : Bt mg) (rc : ∃ f fd, DfR K mg f fd) (cw : Cw mg) (cm : Cm mg)
    (whole : ∃ f fd, Df K mg "is_whole" sWhole ["value"] f fd)
    (below : ∃ f fd, Df K mg "is_below" sBelow ["value", "limit"] f fd)
    (seq : ∃ f fd, Df K mg "is_sequence" sSeq ["value", "least", "most"] f fd)
    (fnb : ∃ f fd, Df K mg "first_not_below" sFnb ["items", "limit"] f fd)
    (pair : ∃ f fd, Df K mg "is_pair" sPair ["value", "houses"] f fd)
    (cties : ∃ f fd, Df K mg "checked_ties" sCTies ["houses", "ties"] f fd)
    (needH : ∃ f fd, Df K mg "need_house" sNeedH ["web", "house"] f fd)
    (cby : ∃ f fd, Df K mg "counted_by" sCBy ["modulus", "number"] f fd)
    (chk : ∃ f fd, Df K mg "check_meetings" sCheckMeetings ["web", "value"] f fd)
    (oneAt : ∃ f fd, Df K mg "one_at" sOneAt ["web", "place"] f fd)
    (cb : ∃ f fd, Df K mg "counts_behind" sCountsBehind ["web", "counts", "meetings", "modulus"] f fd)
    (parted : ∃ f fd, Df K mg "parted" sParted ["web", "counts"] f fd)
    (mo : ∃ f fd, Df K mg "made_of" sMadeOf ["images", "numbers", "modulus"] f fd)
    (cp : ∃ f fd, Df K mg "counts_by_powers" sCountsByPowers ["web", "counts", "order", "rounds", "modulus"] f fd)
    (hrd : ∃ f fd, Df K mg "heard_rounds" sHeardRounds ["web", "house", "order"] f fd)
    (box : ∃ f fd, Df K mg "_law_box" sLBox ["_law_script", "_law_k"] f fd)
    (take : ∃ f fd, Df K mg "_law_take" sLTake ["_law_box_here", "_law_many"] f fd)
    (pick : ∃ f fd, Df K mg "_law_pick" sLPick ["_law_box_here", "_law_some"] f fd)
    (ties : ∃ f fd, Df K mg "_law_ties" sLTies ["_law_box_here", "_law_houses", "_law_most"] f fd)
    (metL : ∃ f fd, Df K mg "_law_met" sLMet ["_law_ties_here", "_law_houses", "_law_counts", "_law_meetings"] f fd)
    (begun : ∃ f fd, Df K mg "_law_begun" sLBegun ["_law_ties_here", "_law_houses", "_law_house"] f fd)
    (split : ∃ f fd, Df K mg "_law_split" sLSplit ["_law_houses", "_law_counts"] f fd)
    (trail : ∃ f fd, Df K mg "_law_trail" sLTrail ["_law_ties_here", "_law_houses", "_law_house", "_law_order", "_law_rounds", "_law_modulus"] f fd)
    (far : ∃ f fd, Df K mg "_law_far" sLFar ["_law_ties_here", "_law_houses", "_law_house", "_law_order", "_law_rounds", "_law_modulus"] f fd)
    (heard : ∃ f fd, Df K mg "_law_heard" sLHeard ["_law_ask"] f fd)
    (eL : mg "law" = some (.ref fa)) (aN : PySem.W.nsIn K mainGlobals "law" = some (some (.ref fN))) (lN : K.lookup fN = some ⟨oc, od, .func (PySem.W.fnOf "law" "law" (defArgs sLaw) (defBody sLaw) (defScope sLaw) .none kV doc pm an cdv ct), osl⟩)
    (cN : PySem.W.codeIn K cdv "law" = true) (kN : PySem.W.keepIn K (.ref fN) = true)
    (aNr : PySem.W.nsIn K mainGlobals "_law_refused_right" = some (some (.ref fNr))) (lNr : K.lookup fNr = some ⟨ocr, odr, .func (PySem.W.fnOf "_law_refused_right" "_law_refused_right" (defArgs sLRefusedRight) (defBody sLRefusedRight) (defScope sLRefusedRight) .none kVr docr pmr anr (.ref cr) ctr), oslr⟩)
    (cNr : PySem.W.codeIn K (.ref cr) "_law_refused_right" = true) (kNr : PySem.W.keepIn K (.ref fNr) = true) (lcr : K.lookup cr = some ⟨o1r, o2r, .fields vsr, o4r⟩) (hvr : (vsr[11]? : Option Value) = some (.ref Pr)) (nPr : K.lookup Pr = Option.none)
    (ac_W : PySem.W.nsIn K mainGlobals "Web" = some (some (.ref W))) (pgW : PySem.W.plainGet K W Str.empty = true) (hdW : PySem.W.hasDictIn K W = true) (poW : PySem.W.plainOver K W = true) (saW : PySem.W.findIn K (.ref W) "__setattr__" = some (some (.builtin "object.__setattr__"))) (nW0 : PySem.W.findIn K (.ref W) "ties" = some Option.none) (nW1 : PySem.W.findIn K (.ref W) "houses" = some Option.none)
    (initW : ∃ f fd, Fun K "__init__" "Web.__init__" sWInit f fd ∧ Mk K W f ∧ Binds K fd ["self", "houses", "ties"] [])
    (t1 : ∃ q b i, LAt.Txt K mg "BadWeb" q b CW i)
    (t2 : ∃ q b i, LHouse.Txt K mg "NoHouse" q b CH i)
    (t3 : ∃ q b i, LAt.Txt K mg "BadSteps" q b CB i)
    (t4 : ∃ q b i, LAt.Txt K mg "Refused" q b CR i)
    (t5 : ∃ q b i, LMost.Txt K mg "TooGreat" q b CG i)
    (aNE : PySem.W.nsIn K mainGlobals "NetError" = some (some (.ref NErr))) (ex : Exm K CH CB CR CG NErr)
    : ∃ (W CW CH CB CR CG cr Pr fr : Addr) (fd fdr : FuncData), Tp K mg W CW CH CB CR CG cr Pr fa fr fd fdr := by
  obtain ⟨fd, l1, l2⟩ := lawF_of X G eL aN lN cN kN
  obtain ⟨fr, fdr, dr, lr⟩ := dfc_of (ps := ["_law_box_here", "_law_web", "_law_houses", "_law_ties_here"]) X G aNr lNr cNr kNr fun _ _ _ _ _ _ us hl => match us, hl with | [_, _, _, _], _ => rfl
  exact ⟨W, CW, CH, CB, CR, CG, cr, Pr, fr, fd, fdr, ⟨B, rc, cw, cm, whole, below, seq, fnb, pair, cties, needH, cby, chk, oneAt, cb, parted, mo, cp, hrd, box, take, pick, ties, metL, begun, split, trail, far, heard, lr, dr, l1, l2, initW, ⟨⟨pgW, hdW, poW, saW⟩, nW0, nW1, PySem.W.mg_of X G ac_W⟩, t1, t2, t3, t4, t5, ⟨NErr, PySem.W.mg_of X G aNE, ex⟩, tab_mk aNr lNr rfl lcr hvr, nPr⟩⟩
end K1
open PySem PySem.W PyProof.Rows
set_option maxRecDepth 100000 in
set_option maxHeartbeats 0 in
theorem PySem.Challenge.cw_houseslessties_k44_whole_far_rounds_and_holds : PySem.Challenge.rw_houseslessties_k44_whole_far_rounds_and.Holds := by
  w_on; o_law; k_head; (case hw => w_witness2)
  k_fill
  refine K1.walkK (l := PySem.Challenge.rw_houseslessties_k44_whole_far_rounds_and) rfl rfl (fun w h Y => PySem.W.km_in_of Y) ?hrr ?F
  case hrr => exact ⟨_, rfl⟩
  case F =>
    intro w mg fa h KX G hmg
    refine' K1.tp_of KX G ?B ?rc ?cw ?cm ?zwhole ?zbelow ?zseq ?zfnb ?zpair ?zcties ?zneedH ?zcby ?zchk ?zoneAt ?zcb ?zparted ?zmo ?zcp ?zhrd ?zbox ?ztake ?zpick ?zties ?zmetL ?zbegun ?zsplit ?ztrail ?zfar ?zheard hmg ?aN ?lN ?cN ?kN ?aNr ?lNr ?cNr ?kNr ?lcr ?hvr ?nPr ?ac_W ?pgW ?hdW ?poW ?saW ?nW0 ?nW1 ?initW ?t1 ?t2 ?t3 ?t4 ?t5 ?aNE ?ex
    case B =>
      refine K1.bt_of KX G fun x hx => ?_
      simp only [List.mem_cons, List.mem_nil_iff, or_false] at hx
      rcases hx with rfl | rfl | rfl | rfl | rfl | rfl | rfl | rfl | rfl | rfl | rfl | rfl | rfl | rfl | rfl | rfl | rfl | rfl | rfl | rfl | rfl <;> k_is
    case rc => refine' K1.dfR_of (by assumption) (by assumption) ?aR ?lR ?cR ?kR ?nR; (case aR => k_is); (case lR => k_is); (case cR => k_is); (case kR => k_is); (case nR => k_is)
    case cw => refine' K1.cw_of KX G ?acw0 ?acw1; (case acw0 => k_is); (case acw1 => k_is)
    case cm => refine' K1.cm_of KX G ?acm0 ?acm1 ?acm2 ?acm3; (case acm0 => k_is); (case acm1 => k_is); (case acm2 => k_is); (case acm3 => k_is)
    case zwhole =>
      (refine' K1.df_of (by assumption) (by assumption) ?a_0 ?l_0 ?c_0 ?k_0 ?b_0; (case a_0 => k_is); (case l_0 => k_is); (case c_0 => k_is); (case k_0 => k_is))
      case b_0 => exact fun _ _ _ _ _ _ us hl => match us, hl with | [_], _ => rfl
    case zbelow =>
      (refine' K1.df_of (by assumption) (by assumption) ?a_1 ?l_1 ?c_1 ?k_1 ?b_1; (case a_1 => k_is); (case l_1 => k_is); (case c_1 => k_is); (case k_1 => k_is))
      case b_1 => exact fun _ _ _ _ _ _ us hl => match us, hl with | [_, _], _ => rfl
    case zseq =>
      (refine' K1.df_of (by assumption) (by assumption) ?a_2 ?l_2 ?c_2 ?k_2 ?b_2; (case a_2 => k_is); (case l_2 => k_is); (case c_2 => k_is); (case k_2 => k_is))
      case b_2 => exact fun _ _ _ _ _ _ us hl => match us, hl with | [_, _, _], _ => rfl
    case zfnb =>
      (refine' K1.df_of (by assumption) (by assumption) ?a_3 ?l_3 ?c_3 ?k_3 ?b_3; (case a_3 => k_is); (case l_3 => k_is); (case c_3 => k_is); (case k_3 => k_is))
      case b_3 => exact fun _ _ _ _ _ _ us hl => match us, hl with | [_, _], _ => rfl
    case zpair =>
      (refine' K1.df_of (by assumption) (by assumption) ?a_4 ?l_4 ?c_4 ?k_4 ?b_4; (case a_4 => k_is); (case l_4 => k_is); (case c_4 => k_is); (case k_4 => k_is))
      case b_4 => exact fun _ _ _ _ _ _ us hl => match us, hl with | [_, _], _ => rfl
    case zcties =>
      (refine' K1.df_of (by assumption) (by assumption) ?a_5 ?l_5 ?c_5 ?k_5 ?b_5; (case a_5 => k_is); (case l_5 => k_is); (case c_5 => k_is); (case k_5 => k_is))
      case b_5 => exact fun _ _ _ _ _ _ us hl => match us, hl with | [_, _], _ => rfl
    case zneedH =>
      (refine' K1.df_of (by assumption) (by assumption) ?a_6 ?l_6 ?c_6 ?k_6 ?b_6; (case a_6 => k_is); (case l_6 => k_is); (case c_6 => k_is); (case k_6 => k_is))
      case b_6 => exact fun _ _ _ _ _ _ us hl => match us, hl with | [_, _], _ => rfl
    case zcby =>
      (refine' K1.df_of (by assumption) (by assumption) ?a_7 ?l_7 ?c_7 ?k_7 ?b_7; (case a_7 => k_is); (case l_7 => k_is); (case c_7 => k_is); (case k_7 => k_is))
      case b_7 => exact fun _ _ _ _ _ _ us hl => match us, hl with | [_, _], _ => rfl
    case zchk =>
      (refine' K1.df_of (by assumption) (by assumption) ?a_8 ?l_8 ?c_8 ?k_8 ?b_8; (case a_8 => k_is); (case l_8 => k_is); (case c_8 => k_is); (case k_8 => k_is))
      case b_8 => exact fun _ _ _ _ _ _ us hl => match us, hl with | [_, _], _ => rfl
    case zoneAt =>
      (refine' K1.df_of (by assumption) (by assumption) ?a_9 ?l_9 ?c_9 ?k_9 ?b_9; (case a_9 => k_is); (case l_9 => k_is); (case c_9 => k_is); (case k_9 => k_is))
      case b_9 => exact fun _ _ _ _ _ _ us hl => match us, hl with | [_, _], _ => rfl
    case zcb =>
      (refine' K1.df_of (by assumption) (by assumption) ?a_10 ?l_10 ?c_10 ?k_10 ?b_10; (case a_10 => k_is); (case l_10 => k_is); (case c_10 => k_is); (case k_10 => k_is))
      case b_10 => exact fun _ _ _ _ _ _ us hl => match us, hl with | [_, _, _, _], _ => rfl
    case zparted =>
      (refine' K1.df_of (by assumption) (by assumption) ?a_11 ?l_11 ?c_11 ?k_11 ?b_11; (case a_11 => k_is); (case l_11 => k_is); (case c_11 => k_is); (case k_11 => k_is))
      case b_11 => exact fun _ _ _ _ _ _ us hl => match us, hl with | [_, _], _ => rfl
    case zmo =>
      (refine' K1.df_of (by assumption) (by assumption) ?a_12 ?l_12 ?c_12 ?k_12 ?b_12; (case a_12 => k_is); (case l_12 => k_is); (case c_12 => k_is); (case k_12 => k_is))
      case b_12 => exact fun _ _ _ _ _ _ us hl => match us, hl with | [_, _, _], _ => rfl
    case zcp =>
      (refine' K1.df_of (by assumption) (by assumption) ?a_13 ?l_13 ?c_13 ?k_13 ?b_13; (case a_13 => k_is); (case l_13 => k_is); (case c_13 => k_is); (case k_13 => k_is))
      case b_13 => exact fun _ _ _ _ _ _ us hl => match us, hl with | [_, _, _, _, _], _ => rfl
    case zhrd =>
      (refine' K1.df_of (by assumption) (by assumption) ?a_14 ?l_14 ?c_14 ?k_14 ?b_14; (case a_14 => k_is); (case l_14 => k_is); (case c_14 => k_is); (case k_14 => k_is))
      case b_14 => exact fun _ _ _ _ _ _ us hl => match us, hl with | [_, _, _], _ => rfl
    case zbox =>
      (refine' K1.df_of (by assumption) (by assumption) ?a_15 ?l_15 ?c_15 ?k_15 ?b_15; (case a_15 => k_is); (case l_15 => k_is); (case c_15 => k_is); (case k_15 => k_is))
      case b_15 => exact fun _ _ _ _ _ _ us hl => match us, hl with | [_, _], _ => rfl
    case ztake =>
      (refine' K1.df_of (by assumption) (by assumption) ?a_16 ?l_16 ?c_16 ?k_16 ?b_16; (case a_16 => k_is); (case l_16 => k_is); (case c_16 => k_is); (case k_16 => k_is))
      case b_16 => exact fun _ _ _ _ _ _ us hl => match us, hl with | [_, _], _ => rfl
    case zpick =>
      (refine' K1.df_of (by assumption) (by assumption) ?a_17 ?l_17 ?c_17 ?k_17 ?b_17; (case a_17 => k_is); (case l_17 => k_is); (case c_17 => k_is); (case k_17 => k_is))
      case b_17 => exact fun _ _ _ _ _ _ us hl => match us, hl with | [_, _], _ => rfl
    case zties =>
      (refine' K1.df_of (by assumption) (by assumption) ?a_18 ?l_18 ?c_18 ?k_18 ?b_18; (case a_18 => k_is); (case l_18 => k_is); (case c_18 => k_is); (case k_18 => k_is))
      case b_18 => exact fun _ _ _ _ _ _ us hl => match us, hl with | [_, _, _], _ => rfl
    case zmetL =>
      (refine' K1.df_of (by assumption) (by assumption) ?a_19 ?l_19 ?c_19 ?k_19 ?b_19; (case a_19 => k_is); (case l_19 => k_is); (case c_19 => k_is); (case k_19 => k_is))
      case b_19 => exact fun _ _ _ _ _ _ us hl => match us, hl with | [_, _, _, _], _ => rfl
    case zbegun =>
      (refine' K1.df_of (by assumption) (by assumption) ?a_20 ?l_20 ?c_20 ?k_20 ?b_20; (case a_20 => k_is); (case l_20 => k_is); (case c_20 => k_is); (case k_20 => k_is))
      case b_20 => exact fun _ _ _ _ _ _ us hl => match us, hl with | [_, _, _], _ => rfl
    case zsplit =>
      (refine' K1.df_of (by assumption) (by assumption) ?a_21 ?l_21 ?c_21 ?k_21 ?b_21; (case a_21 => k_is); (case l_21 => k_is); (case c_21 => k_is); (case k_21 => k_is))
      case b_21 => exact fun _ _ _ _ _ _ us hl => match us, hl with | [_, _], _ => rfl
    case ztrail =>
      (refine' K1.df_of (by assumption) (by assumption) ?a_22 ?l_22 ?c_22 ?k_22 ?b_22; (case a_22 => k_is); (case l_22 => k_is); (case c_22 => k_is); (case k_22 => k_is))
      case b_22 => exact fun _ _ _ _ _ _ us hl => match us, hl with | [_, _, _, _, _, _], _ => rfl
    case zfar =>
      (refine' K1.df_of (by assumption) (by assumption) ?a_23 ?l_23 ?c_23 ?k_23 ?b_23; (case a_23 => k_is); (case l_23 => k_is); (case c_23 => k_is); (case k_23 => k_is))
      case b_23 => exact fun _ _ _ _ _ _ us hl => match us, hl with | [_, _, _, _, _, _], _ => rfl
    case zheard =>
      (refine' K1.df_of (by assumption) (by assumption) ?a_24 ?l_24 ?c_24 ?k_24 ?b_24; (case a_24 => k_is); (case l_24 => k_is); (case c_24 => k_is); (case k_24 => k_is))
      case b_24 => exact fun _ _ _ _ _ _ us hl => match us, hl with | [_], _ => rfl
    (case aN => k_is); (case lN => k_is); (case cN => k_is); (case kN => k_is)
    (case aNr => k_is); (case lNr => k_is); (case cNr => k_is); (case kNr => k_is); (case lcr => k_is); (case hvr => rfl); (case nPr => kernel_rfl)
    (case ac_W => k_is); (case pgW => k_is); (case hdW => k_is); (case poW => k_is); (case saW => k_is); (case nW0 => k_is); (case nW1 => k_is)
    case initW => refine' K1.init_W ?a_IW ?i_IW ?m_IW ?kM_IW ?l_IW ?c_IW ?k_IW; (case a_IW => k_is); (case i_IW => k_is); (case m_IW => k_is); (case kM_IW => k_is); (case l_IW => k_is); (case c_IW => k_is); (case k_IW => k_is)
    case t1 => (refine' K1.LAt_of_ (by assumption) (by assumption) ?a_t1 ?xl_t1 ?sa_t1 ?ga_t1 ?gg_t1 ?no_t1 ?ic_t1 ?tc_t1 ?kc_t1 ?ec_t1 ?ty_t1 ?hc_t1 ?l_t1 ?c_t1; (case a_t1 => k_is); (case xl_t1 => k_is); (case sa_t1 => k_is); (case ga_t1 => k_is); (case gg_t1 => k_is); (case no_t1 => k_is); (case ic_t1 => k_is); (case tc_t1 => k_is); (case kc_t1 => k_is); (case ec_t1 => k_is); (case ty_t1 => k_is); (case hc_t1 => k_is); (case l_t1 => k_is); (case c_t1 => k_is))
    case t2 => (refine' K1.LHouse_of_ (by assumption) (by assumption) ?a_t2 ?xl_t2 ?sa_t2 ?ga_t2 ?gg_t2 ?no_t2 ?ic_t2 ?tc_t2 ?kc_t2 ?ec_t2 ?ty_t2 ?hc_t2 ?l_t2 ?c_t2; (case a_t2 => k_is); (case xl_t2 => k_is); (case sa_t2 => k_is); (case ga_t2 => k_is); (case gg_t2 => k_is); (case no_t2 => k_is); (case ic_t2 => k_is); (case tc_t2 => k_is); (case kc_t2 => k_is); (case ec_t2 => k_is); (case ty_t2 => k_is); (case hc_t2 => k_is); (case l_t2 => k_is); (case c_t2 => k_is))
    case t3 => (refine' K1.LAt_of_ (by assumption) (by assumption) ?a_t3 ?xl_t3 ?sa_t3 ?ga_t3 ?gg_t3 ?no_t3 ?ic_t3 ?tc_t3 ?kc_t3 ?ec_t3 ?ty_t3 ?hc_t3 ?l_t3 ?c_t3; (case a_t3 => k_is); (case xl_t3 => k_is); (case sa_t3 => k_is); (case ga_t3 => k_is); (case gg_t3 => k_is); (case no_t3 => k_is); (case ic_t3 => k_is); (case tc_t3 => k_is); (case kc_t3 => k_is); (case ec_t3 => k_is); (case ty_t3 => k_is); (case hc_t3 => k_is); (case l_t3 => k_is); (case c_t3 => k_is))
    case t4 => (refine' K1.LAt_of_ (by assumption) (by assumption) ?a_t4 ?xl_t4 ?sa_t4 ?ga_t4 ?gg_t4 ?no_t4 ?ic_t4 ?tc_t4 ?kc_t4 ?ec_t4 ?ty_t4 ?hc_t4 ?l_t4 ?c_t4; (case a_t4 => k_is); (case xl_t4 => k_is); (case sa_t4 => k_is); (case ga_t4 => k_is); (case gg_t4 => k_is); (case no_t4 => k_is); (case ic_t4 => k_is); (case tc_t4 => k_is); (case kc_t4 => k_is); (case ec_t4 => k_is); (case ty_t4 => k_is); (case hc_t4 => k_is); (case l_t4 => k_is); (case c_t4 => k_is))
    case t5 => (refine' K1.LMost_of_ (by assumption) (by assumption) ?a_t5 ?xl_t5 ?sa_t5 ?ga_t5 ?gg_t5 ?no_t5 ?ic_t5 ?tc_t5 ?kc_t5 ?ec_t5 ?ty_t5 ?hc_t5 ?l_t5 ?c_t5; (case a_t5 => k_is); (case xl_t5 => k_is); (case sa_t5 => k_is); (case ga_t5 => k_is); (case gg_t5 => k_is); (case no_t5 => k_is); (case ic_t5 => k_is); (case tc_t5 => k_is); (case kc_t5 => k_is); (case ec_t5 => k_is); (case ty_t5 => k_is); (case hc_t5 => k_is); (case l_t5 => k_is); (case c_t5 => k_is))
    (case aNE => k_is)
    case ex =>
      refine' ⟨?e0, ?e1, ?e2, ?e3, ?e4, ?e5, ?e6, ?e7, ?e8, ?e9, ?e10, ?e11, ?e12, ⟨?x0_0, ?x0_1, ?x0_2, ?x0_3, ?x0_4, ?x0_5, ?x0_6, ?x0_7⟩, ⟨?x1_0, ?x1_1, ?x1_2, ?x1_3, ?x1_4, ?x1_5, ?x1_6, ?x1_7⟩, ⟨?x2_0, ?x2_1, ?x2_2, ?x2_3, ?x2_4, ?x2_5, ?x2_6, ?x2_7⟩, ⟨?x3_0, ?x3_1, ?x3_2, ?x3_3, ?x3_4, ?x3_5, ?x3_6, ?x3_7⟩⟩
      all_goals first | k_is | kernel_rfl
