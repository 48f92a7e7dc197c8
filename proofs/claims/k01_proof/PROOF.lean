import PyProof.Rows.All
import Wide.All
import OpenK.AllK
import Wide.FinOn
import HandS.ForMost
import HandS.ForExc
import HandS.ExcInit
import PyProof.ExcBaseAll.LookupError
import KE.KExcIs
import HandS.IsInst
import KE.GoesEnum
import PyProof.ReprRoads
import PySem.Challenge.RW_houseslessties_k01_machines_rows_and_wha
import HandS.TryMany
import HandS.Lambda
import HandS.Nested
import HandS.EndTab
import HandS.DictTup
import HandS.OwnEq
import HandS.Strs
import HandS.Conv
import HandS.TupAny
import HandS.TupMul
import HandS.SortInts
import HandS.Style
import HandS.MakeKw
import HandS.Defaults
import HandS.TupLe
import HandS.SetKeys
import HandS.SetFor
import HandS.RaiseMore
import KE.KDictDisplayH
import HandS.Base
import HandS.Call
import HandS.Exc
import PyProof.StrOps2
import HandS.MakeKwOnly
import HandS.EndBits
set_option Elab.async false
set_option linter.all false
set_option maxRecDepth 100000
set_option maxHeartbeats 4000000
/-! exceptions of own classes whose base may be ValueError or KeyError: what is asked of the chain of classes stands as premises -/
namespace K1
open PySem PySem.HandSPX Builtin Builtin.ObjectAttr
/-- what the chain of classes behind the own one must be -/
structure Mro (B : String) (bm : List Value) : Prop where
  b : bm.contains (.type B) = true
  a : bm.contains (.type "AttributeError") = false
  n : bm.contains (.type "NameError") = false
  o : bm.contains (.type "object") = true
  p : ∀ self : Value, refuseLoop self "__setattr__" bm = pure ()
section
variable {prog : Program} {w : World} {A : Around} {E : Value → Shared → Prop} {R : Result → Shared → Prop} {h : Heap} {g : Array GenState} {d : Drawn} {t : Nat} {os : OsState}
variable {nm q : Str} {C N : Addr} {bs bm bmB : List Value} {hdct : Bool} {sn : List Str} {sub : List Value} {ab : Bool} {col : Option Bool} {dd : Option Addr} {k0 k1 k2 k3 k5 : Option Value} {B newId initId : String}
theorem check_newG {M : Model} (F : ExcBaseFacts B newId initId bmB) (T : Mro B bm) {rest : List Value} {Q : Unit → Shared → Prop}
    (hC : h.get? C = some (excClassObj nm q C N bs bm hdct sn sub ab col dd k0 k1 k2 k3 k5 newId)) (hq : Q () ⟨h, g, d, t, os⟩) : wpAny M A (checkBuiltinCall newId ⟨.ref C :: rest, []⟩) Q E ⟨h, g, d, t, os⟩ := by
  have hcont : (Value.ref C :: bm).contains (.type B) = true := by rw [List.contains_cons, T.b, Bool.or_true]
  have hstar := F.noStar
  simp only [checkBuiltinCall, F.newKind, F.newSplit, F.newRow]
  repeat (first | refine wpAny_loadPart_at hC ?_ | (refine wpAny_isSubtype_exc hC ?_; rw [hcont]) | refine wpAny_staticBase_exc hC ?_ | refine wpAny_madeBy_exc hC ?_ | simp only [bne_self_eq_false, Bool.false_eq_true, if_false] | wp_step)
  exact hq
theorem newG (F : ExcBaseFacts B newId initId bmB) (T : Mro B bm) {rest : List Value}
    (hC : h.get? C = some (excClassObj nm q C N bs bm hdct sn sub ab col dd k0 k1 k2 k3 k5 newId))
    (hq : R (.ok (.ret (.ref (h.objs.size + 1)))) ⟨(h.push { cls := .type "tuple", data := .seq rest.toArray }).push
      { cls := .ref C, data := .fields #[.ref h.objs.size, .none, .none, .none, .bool false, .none] }, g, d, t, os⟩) (hrest : rest.length ≤ sizeLine) :
    codeAny (model prog w) A (.builtin newId ⟨.ref C :: rest, []⟩) R ⟨h, g, d, t, os⟩ := by
  have hends := F.ends
  have hcB : (Value.ref C :: bm).contains (.type B) = true := by rw [List.contains_cons, T.b, Bool.or_true]
  have hcA : (Value.ref C :: bm).contains (.type "AttributeError") = false := by rw [List.contains_cons, T.a]; rfl
  have hcN : (Value.ref C :: bm).contains (.type "NameError") = false := by rw [List.contains_cons, T.n]; rfl
  refine codeAny_builtinAt F.entry ?_
  unfold Builtin.«BaseException.__new__»
  refine wpAt_bind ?_
  show wpAt _ _ _ (stack >>= _) _ _ _
  refine wpAt_bind (wpAt_stack fun p below => wpAt_of_wpAny ?_)
  wp_walk
  refine wpAt_of_wpAny ?_
  rw [F.owner]
  repeat (first | with_reducible refine wpAny_madeHere_exc F.canon hC ?_ | with_reducible refine wpAny_loadPart_at hC ?_ | (with_reducible refine wpAny_isSubtype_exc hC ?_; first | rw [hcB] | rw [hcA] | rw [hcN]) | wp_step)
  show R _ _
  rw [Heap.size_push]
  exact hq
theorem type_callG (F : ExcBaseFacts B newId initId bmB) (T : Mro B bm) {rest : List Value} {fI : Addr} {Q : Fin → Shared → Prop}
    (hC : h.get? C = some (excClassObj nm q C N bs bm hdct sn sub ab col dd k0 k1 k2 k3 k5 newId))
    (hi : W.Looks (model prog w) h (typeLookup (.ref C) "__init__") (some (.ref fI))) (hb : ∀ self, W.Looks (model prog w) h (bindSpecial (.ref fI) self) (.ref fI, [self])) (hrest : rest.length ≤ sizeLine)
    (hq : codeAny (model prog w) A (.call (.ref fI) ⟨.ref (h.objs.size + 1) :: rest, []⟩)
      (fun r s' => match r with | .ok (.ret v) => v = .none ∧ Q (.done (.ret (.ref (h.objs.size + 1)))) s' | .ok _ => False | .error e => E e s')
      ⟨(h.push (W.kdv_tup rest)).push (excO C h.objs.size), g, d, t, os⟩) :
    wpAny (model prog w) A (Builtin.«type.__call__» ⟨.ref C :: rest, []⟩) Q E ⟨h, g, d, t, os⟩ := by
  repeat (first | with_reducible refine wpAny_loadPart_at hC ?_ | with_reducible refine wpAny_madeBy_exc hC ?_ | wp_step)
  refine codeAny_call_builtin_code (Code.quiet_builtin _ F.quiet) (check_newG F T hC ?_)
  refine newG F T hC ?_ hrest
  show wpAny _ _ _ _ _ _
  have k : ∀ b o, h.get? b = some o → ((h.push (W.kdv_tup rest)).push (excO C h.objs.size)).get? b = some o := fun b o e => Heap.get?_push_of_some _ (Heap.get?_push_of_some _ e)
  have hC₁ := k _ _ hC
  have hget : ((h.push (W.kdv_tup rest)).push (excO C h.objs.size)).get? (h.objs.size + 1) = some (excO C h.objs.size) := by heap_get
  have hcC : (Value.ref C :: bm).contains (.ref C) = true := by simp
  have i1 := hi.keeps k
  have b1 := (hb (.ref (h.objs.size + 1))).keeps k
  unfold isInstance
  repeat (first | with_reducible refine wpAny_loadPart_at hget ?_ | (with_reducible refine wpAny_isSubtype_exc hC₁ ?_; rw [hcC]) | wp_step)
  show wpAny _ _ (typeLookup (.ref C) _) _ _ _
  refine i1.at ?_
  refine wpAny_holding (wpAny_bind (b1.at ?_))
  refine wpAny_bind (wpAny_call (codeAny_mono hq fun r s' z => ?_))
  rcases r with e | (v | _ | _ | _) <;> first | exact z | exact z.elim | skip
  obtain ⟨rfl, z⟩ := z
  first
    | exact wpAny_pure (wpAny_pure z)
    | (wp_walk; exact z)
theorem call_ownG (F : ExcBaseFacts B newId initId bmB) (T : Mro B bm) {rest : List Value} {fI : Addr}
    (hC : h.get? C = some (excClassObj nm q C N bs bm hdct sn sub ab col dd k0 k1 k2 k3 k5 newId))
    (hi : W.Looks (model prog w) h (typeLookup (.ref C) "__init__") (some (.ref fI))) (hb : ∀ self, W.Looks (model prog w) h (bindSpecial (.ref fI) self) (.ref fI, [self])) (hrest : rest.length ≤ sizeLine)
    (hq : codeAny (model prog w) (A.under (.builtin "type.__call__" ⟨.ref C :: rest, []⟩)) (.call (.ref fI) ⟨.ref (h.objs.size + 1) :: rest, []⟩) (W.InitBack (h.objs.size + 1) R)
      ⟨(h.push (W.kdv_tup rest)).push (excO C h.objs.size), g, d, t, os⟩) :
    codeAny (model prog w) A (.call (.ref C) ⟨rest, []⟩) R ⟨h, g, d, t, os⟩ := by
  have f1 := tc_lookup
  have f2 := tc_bind (.ref C)
  have hTy : (⟨h, g, d, t, os⟩ : Shared).TypeIs (.ref C) "type" := ⟨_, hC, rfl⟩
  refine codeAny_of_tree ?_
  show wpAny _ _ (callAny (.ref C) _) _ _ _
  repeat (any_goals (first | assumption | with_reducible refine wpAny_loadPart_at hC ?_ | wp_step))
  refine ⟨rfl, ?_⟩
  refine codeAny_call_builtin_at (Code.quiet_builtin _ (by decide +kernel)) entry_typeCall (wpAny_check_type_call_sub hC (type_callG F T hC hi hb hrest ?_))
  refine codeAny_mono hq fun r s' z => ?_
  rcases r with e | (v | _ | _ | _) <;> exact z
end
section
variable {prog : Program} {w : World} {A : Around} {E : Value → Shared → Prop} {R : Result → Shared → Prop} {hp : Heap} {g : Array GenState} {d : Drawn} {t : Nat} {os : OsState}
theorem exc_osaG {K : W.Frag} {name : Str} {tk : Tok} {v : Value} {x C : Addr} {fv : Array Value} {cd : ClassData} {B : String} {bm : List Value}
    (X : K.In hp) (hx : hp.get? x = some { cls := .ref C, data := .fields fv }) (hcd : W.clsIn K C = some cd) (hm : cd.mro = .ref C :: bm) (T : Mro B bm) (hh : cd.hasDict = true) (ha : W.findIn K (.ref C) name = some none)
    (hq : ∀ h' tk' dx, (∀ b o, b ≠ x → hp.get? b = some o → h'.get? b = some o) → hp.objs.size ≤ dx → dx ≠ x → h'.get? x = some { cls := .ref C, dict := some dx, data := .fields fv } →
      h'.Ns1 dx (fun y => if y = name then some v else none) → R (.ok (.ret .none)) ⟨h', g, d, tk', os⟩) :
    codeAny (model prog w) A (.call (.builtin "object.__setattr__") ⟨[.ref x, .str name tk, v], []⟩) R ⟨hp, g, d, t, os⟩ := by
  have I : W.InstAt hp x { cls := .ref C, data := .fields fv } C none := ⟨hx, rfl, rfl, trivial⟩
  have SF := F.store_object
  have ne : cd.mro.isEmpty = false := by rw [hm]; rfl
  have hob : cd.mro.contains (.type "object") = true := by rw [hm, List.contains_cons, T.o, Bool.or_true]
  have hxs : x ≠ hp.objs.size := Nat.ne_of_lt (Heap.lt_size hx)
  have sub : W.Looks (model prog w) hp (isInstance (.ref x) (.type "object")) true := I.type.andThen (W.looks_mroIn X (by unfold W.mroIn; rw [hcd, Option.bind_some, if_neg (by rw [ne]; decide), hob]))
  refine codeAny_call_builtin SF.slot.plain SF.entry (@W.check_slot (model prog w) _ _ ⟨hp, g, d, t, os⟩ "object.__setattr__" "object" "__setattr__" (.ref x) [.str name tk, v] [] _ SF.kind SF.split sub (SF.args (.ref x) (.str name tk) v) ?_)
  have hmr : W.Looks (model prog w) hp (mroOf (.ref C)) cd.mro := (W.looks_clsIn X hcd).andThen .now
  have L3 : W.Looks (model prog w) hp (storeTaker? none) none := .now
  have hcls : W.Looks (model prog w) hp (classData C) cd := W.looks_clsIn X hcd
  rw [W.osa_eq, refuse_eq]
  refine wpAny_bind (wpAny_bind (I.type.at (wpAny_bind (hmr.at ?_))))
  rw [hm, refuseLoop_ref, T.p]
  refine wpAny_pure (wpAny_bind (I.type.at (wpAny_bind ((W.looks_findIn X ha).at (wpAny_bind (L3.at ?_))))))
  show wpAny _ _ (storeInOwnDict (.ref x) (.ref C) (.str name tk) name v false) _ _ _
  obtain ⟨nm, bs, mro, ns, qn, hd, sn, sb, ab, col, del⟩ := cd
  dsimp only at hh
  subst hh
  unfold storeInOwnDict ownDictForStores
  repeat (first | with_reducible refine store_in_new ?_ ?_ | with_reducible refine wpAny_loadPart_at hx ?_ | with_reducible refine hcls.at ?_ | wp_step)
  · exact ⟨_, #[], _, (Heap.get?_update_ne _ _ _ _ hxs.symm).trans (Heap.get?_push_at rfl rfl), rfl, fun e he => absurd he (by simp), fun _ => rfl⟩
  · intro h' tk' hn' hs
    have hx₁ : (hp.push { cls := .type "dict", data := .dict #[] }).get? x = some { cls := .ref C, data := .fields fv } := Heap.get?_push_of_some _ hx
    refine hq h' tk' hp.objs.size (fun b o hb ho => ?_) (Nat.le_refl _) hxs.symm ?_ hn'
    · exact (hs.2 b (Nat.ne_of_lt (Heap.lt_size ho))).trans ((Heap.get?_update_ne _ _ _ _ hb).trans (Heap.get?_push_of_some _ ho))
    · exact (hs.2 x hxs).trans (Heap.get?_update_self _ hx₁ rfl)
end
abbrev veT : List Value := [.type "ValueError", .type "Exception", .type "BaseException", .type "object"]
abbrev keT : List Value := [.type "KeyError", .type "LookupError", .type "Exception", .type "BaseException", .type "object"]
theorem mro_ve (c : Addr) : Mro "ValueError" (.ref c :: veT) := ⟨rfl, rfl, rfl, rfl, fun self => by rw [refuseLoop_ref]; exact F.store_ValueError.passes self⟩
theorem ke_pass (self : Value) : refuseLoop self "__setattr__" keT = pure () := by kernel_rfl
theorem mro_ke : Mro "LookupError" keT := ⟨by decide +kernel, by decide +kernel, by decide +kernel, by decide +kernel, ke_pass⟩
end K1
/-! own exception classes whose __init__ stores one field -/

namespace K1
open PySem PySem.W PySem.Calls PyProof.Rows PySem.HandSPX
theorem one_le (v : Value) : [v].length ≤ sizeLine := by
  rw [sizeLine_eq]
  exact (by decide : 1 ≤ 16777216)
theorem ldE {M : Model} {s : Shared} {name : Str} {scope : Scope} {L a : Addr} {cd : Value} {m : Str → Option Value} {x : Str} {pos : Pos} {v : Value} {Q : Value → Shared → Prop} {A : Around} {E : Value → Shared → Prop} (hn : s.heap.Ns L m) (hv : m x = some v) (h : Q v s)
    (hk : scope.kind = .function := by rfl) (hl : (envOfC name scope L a cd).kindOf x = some .local := by rfl) (hd : (x == ("__debug__" : Str)) = false := by decide) :
    wpAny M A (eval (.Name x pos) (envOfC name scope L a cd)) Q E s := wpAny_Name (wpAny_loadName_local hk hl hn hv h) hd
end K1
namespace K1
open PySem PySem.Spec PyProof.Rows L2
theorem relO_one {v : V} {v' : Value} {g : Str} (r : RelV v v') (f : Str) : RelO (List.lookup f [(g, v)]) (if f = g then some v' else none) := by
  by_cases hw : f = g
  · subst hw
    rw [if_pos rfl]
    have q : List.lookup f [(f, v)] = some v := by simp [List.lookup]
    rw [q]
    exact r
  · rw [if_neg hw]
    have qw : (f == g) = false := by simpa using hw
    have q2 : List.lookup f [(g, v)] = none := by simp [List.lookup, qw]
    rw [q2]
    trivial
/-- C(e), C's __init__ storing e as the field g -/
def tMkF (g : Str) (C : Addr) (ta : TA) : L2.St → Hp → XK → Prop := fun σ H Q => ta σ H fun vs H1 => ∃ v, vs = [v] ∧ ∀ d, H1 d = none → Q (.ref C) (some d) (upd H1 d (.xd [(g, v)]))
def tRaiseF (g : Str) (C : Addr) (W : WX) (ta : TA) : TS := fun _ σ H => tMkF g C ta σ H fun cls d H' => W cls d σ H'
def tByF (g : Str) (C : Addr) (a : Addr) (cls : Value) (d : Option Addr) (te : TE) : TE := fun σ H Q => te σ H fun x H1 => x = .ref a ∧ cls = .ref C ∧ ∃ (dd : Addr) (v : V), d = some dd ∧ H1 dd = some (.xd [(g, v)]) ∧ Q v H1
end K1

namespace K1
namespace LAt
open PySem PySem.W PySem.Calls PyProof.Rows PySem.HandSPX
/-- the text of __init__ -/
def iA (p1 p2 : Pos) : Arguments := { posonlyargs := [], args := [{ arg := "self", annotation := none, pos := p1 }, { arg := "at", annotation := none, pos := p2 }], vararg := none, kwonlyargs := [], kw_defaults := [], kwarg := none, defaults := [] }
def iB (q1 q2 q3 q4 : Pos) : List Stmt := [.Assign [.Attribute (.Name "self" q1) "at" q2] (.Name "at" q3) q4]
def iS : Scope := { kind := .function, names := [(PySem.Str.ofString "self", .local), (PySem.Str.ofString "at", .local)], isGenerator := false, isCoroutine := false, more := [] }
/-- what the written part says of the class at C (named cn), of its chain bm, and of its __init__, at fI -/
structure Txt (K : Frag) (mg : Str → Option Value) (cn ql : Str) (bm : List Value) (C fI : Addr) : Prop where
  gC : mg cn = some (.ref C)
  cls : ∃ nm q N bs sn sub ab col dd k0 k1 k2 k3 k5, K.lookup C = some (excClassObj nm q C N bs bm true sn sub ab col dd k0 k1 k2 k3 k5 "ValueError.__new__")
  mr : Mro "ValueError" bm
  sa : findIn K (.ref C) "__setattr__" = some (some (.builtin "object.__setattr__"))
  ga : findIn K (.ref C) "__getattribute__" = some (some (.builtin "BaseException.__getattribute__"))
  gg : findIn K (.ref C) "__getattr__" = some none
  noN : findIn K (.ref C) "at" = some none
  iC : findIn K (.ref C) "__init__" = some (some (.ref fI))
  tC : typeIn K (.ref fI) = some (.type "function")
  kC : keepIn K (.ref C) = true
  exC : subIn K (.ref C) (.type "BaseException") = some true
  tyC : typeIn K (.ref C) = some (.type "type")
  hdC : hasDictIn K C = true
  fn : ∃ (oc : Value) (od : Option Addr) (doc pm : Value) (an : Option Addr) (cdv ct : Value) (osl : Array (Option Value)) (p1 p2 q1 q2 q3 q4 : Pos),
    K.lookup fI = some ⟨oc, od, .func (fnOf "__init__" ql (iA p1 p2) (iB q1 q2 q3 q4) iS .none .none doc pm an cdv ct), osl⟩ ∧ codeIn K cdv ql = true
/-- what __init__ leaves of a fresh exception at x -/
structure InitEnd (h h' : Heap) (x C dx t1 : Addr) (v : Value) : Prop where
  keep : ∀ b o, b ≠ x → h.get? b = some o → h'.get? b = some o
  obj : h'.get? x = some { cls := .ref C, dict := some dx, data := .fields #[.ref t1, .none, .none, .none, .bool false, .none] }
  dbig : h.objs.size ≤ dx
  dne : dx ≠ x
  ns : h'.Ns1 dx (fun y => if y = "at" then some v else none)
structure OwnMade (h h' : Heap) (e C d : Addr) (v : Value) : Prop where
  keep : ∀ b o, h.get? b = some o → h'.get? b = some o
  new : h.objs.size ≤ e
  obj : ∃ oe vs, h'.get? e = some oe ∧ oe.cls = .ref C ∧ oe.dict = some d ∧ oe.data = .fields vs ∧ vs[1]? = some .none
  dbig : h.objs.size ≤ d
  dne : d ≠ e
  ns : h'.Ns1 d (fun y => if y = "at" then some v else none)
section
variable {prog : Program} {w : World} {A : Around} {E : Value → Shared → Prop} {R : Result → Shared → Prop} {s : Shared} {K : Frag} {mg : Str → Option Value} {cn ql : Str} {bm : List Value} {C fI : Addr}
theorem init (T : Txt K mg cn ql bm C fI) {x t0 : Addr} {v : Value} (X : K.In s.heap) (hlim : s.heap.NoLimit) (hx : s.heap.get? x = some (excO C t0)) (hnx : K.lookup x = none) (hroom : A.depth < recursionLimit)
    (hq : ∀ h' tk dx, InitEnd s.heap h' x C dx t0 v → R (.ok (.ret .none)) { s with heap := h', toks := tk }) :
    codeAny (model prog w) A (.call (.ref fI) ⟨[.ref x, v], []⟩) R s := by
  obtain ⟨oc, od, doc, pm, an, cdv, ct, osl, p1, p2, q1, q2, q3, q4, ho, hcd⟩ := T.fn
  obtain ⟨nm, q, N, bs, sn, sub, ab, col, dd, k0, k1, k2, k3, k5, hC⟩ := T.cls
  have hcl : clsIn K C = some { name := nm, bases := bs, mro := .ref C :: bm, ns := N, qualname := q, hasDict := true, slotNames := sn, subclasses := sub, abstract := ab, collection := col, hasDel := false } := by unfold clsIn; rw [hC] <;> rfl
  refine Att.call_fn (binds := [("self", .ref x), ("at", v)]) X hlim ho hcd hroom (BindsTo.of_eq (by first | rfl | with_unfolding_all rfl)) (by first | rfl | decide | with_unfolding_all rfl) (fun s₁ IC => ?_) rfl rfl rfl
  obtain ⟨h₁, tk₁, rfl⟩ := IC.toInCall.same
  have k : ∀ b o, s.heap.get? b = some o → h₁.get? b = some o := IC.toInCall.keep
  have hn := IC.toInCall.ns
  have X₁ : K.In h₁ := X.keeps k
  have hx₁ := k _ _ hx
  show wpAny _ _ (execs _ _) _ _ _
  refine wpAny_execs_cons (plainObj_wpAny_Assign_Attribute ?_)
  refine ldE (v := v) hn (by first | rfl | with_unfolding_all rfl | kernel_rfl) (ldE (v := .ref x) hn (by first | rfl | with_unfolding_all rfl | kernel_rfl) ?_)
  refine set_plain X₁ (ox := excO C t0) (od := none) ⟨hx₁, rfl, rfl, trivial⟩ T.sa ?_
  refine exc_osaG X₁ hx₁ hcl rfl T.mr rfl T.noN (fun h₃ tk₃ dx k₃ dn dne hx₃ hn₃ => ?_)
  show wpAny _ _ (execs _ _) _ _ _
  have z : s.heap.objs.size < h₁.objs.size := hn.lt
  exact wpAny_execs_nil (hq h₃ tk₃ dx ⟨fun b o hb e => k₃ b o hb (k b o e), hx₃, Nat.le_of_lt (Nat.lt_of_lt_of_le z dn), dne, hn₃⟩)
theorem made (T : Txt K mg cn ql bm C fI) {v : Value} (X : K.In s.heap) (hlim : s.heap.NoLimit) (hroom : A.depth + 1 < recursionLimit)
    (hq : ∀ h' tk e d, OwnMade s.heap h' e C d v → R (.ok (.ret (.ref e))) { s with heap := h', toks := tk }) :
    codeAny (model prog w) A (.call (.ref C) ⟨[v], []⟩) R s := by
  obtain ⟨nm, q, N, bs, sn, sub, ab, col, dd, k0, k1, k2, k3, k5, hC⟩ := T.cls
  obtain ⟨hp, g, dr, tk, os⟩ := s
  have k : ∀ b o, hp.get? b = some o → ((hp.push (kdv_tup [v])).push (excO C hp.objs.size)).get? b = some o := fun b o e => Heap.get?_push_of_some _ (Heap.get?_push_of_some _ e)
  have hget : ((hp.push (kdv_tup [v])).push (excO C hp.objs.size)).get? (hp.objs.size + 1) = some (excO C hp.objs.size) := by heap_get
  have hnx : K.lookup (hp.objs.size + 1) = none := by
    cases e : K.lookup (hp.objs.size + 1) with
    | none => rfl
    | some o =>
      have z : hp.get? (hp.objs.size + 1) = some o := X _ _ e
      exact absurd (Nat.lt_of_succ_lt (Heap.lt_size z)) (Nat.lt_irrefl _)
  refine call_ownG F.excBase_ValueError T.mr (X _ _ hC) (looks_findIn X T.iC) (fun self => bind_fn X self T.tC) (one_le v) ?_
  refine init (s := ⟨(hp.push (kdv_tup [v])).push (excO C hp.objs.size), g, dr, tk, os⟩) T (X.keeps k) (hlim.keeps k) hget hnx ?_ fun h' tk' dx ⟨k', hx, dn, dne, hns⟩ => ?_
  · show A.depth + 1 < recursionLimit
    exact hroom
  · have old : ∀ b o, hp.get? b = some o → h'.get? b = some o := fun b o e => k' b o (Nat.ne_of_lt (Nat.lt_succ_of_lt (Heap.lt_size e))) (k b o e)
    have z : hp.objs.size + 1 + 1 ≤ dx := by
      first
        | (simpa only [Heap.size_push] using dn)
        | exact dn
        | (have q := dn; rw [Heap.size_push, Heap.size_push] at q; exact q)
    exact ⟨rfl, hq h' tk' (hp.objs.size + 1) dx ⟨old, Nat.le_succ _, ⟨_, _, hx, rfl, rfl, rfl, rfl⟩, Nat.le_trans (Nat.le_trans (Nat.le_succ _) (Nat.le_succ _)) z, dne, hns⟩⟩
end
end LAt
end K1
namespace K1
open PySem PySem.Spec PyProof.Rows L2
section
variable {X : Cx} {cn ql : Str} {bm : List Value} {C fI : Addr}
theorem pmk_LAt {a : Expr} {ta : TA} {p pos : Pos} {k : Nat} (T : LAt.Txt X.K X.mg cn ql bm C fI) (hr : Room k X.A) (ha : PA X [a] ta) (hg : Gl X cn := by rfl)
    (he : starEach (a :: []) X.env = (false, eval a X.env) :: starEach [] X.env := by rfl) (hpl : (backTo pos (starEach [] X.env)).any (·.1) = false := by rfl) (hdb : (cn == ("__debug__" : Str)) = false := by decide) :
    PMk X (.Call (.Name cn p) [a] [] pos) (tMkF "at" C ta) := by
  intro pins s σ H Q I h
  refine wpAny_Call_Name_kw (ld_glob I hg T.gC ?_ hdb)
  refine PySem.W.callWith_K (h₀ := X.base) I.ok.mod.kin T.kC (thn (ha.run pos pins s σ H _ I h) fun us s1 hh => ?_) he hpl
  obtain ⟨vs, H1, I1, r1, v, ev, q1⟩ := hh
  subst ev
  refine ⟨I1.kIn, ?_⟩
  cases r1 with
  | cons rv rn =>
    rename_i v' us'
    cases rn
    show wpAny _ _ (call (.ref C) [v']) _ _ _
    have hlim := I1.nolimit
    obtain ⟨hp, g, dr, tk, os⟩ := s1
    refine wpAny_call (LAt.made T I1.kIn hlim (by have := hr.dp; omega) fun h' tk' e d M => ?_)
    show MkP X pins σ Q (.ref e) ⟨h', g, dr, tk', os⟩
    obtain ⟨oe, fv, hoe, hc, hd, hdat, h1⟩ := M.obj
    have hns := M.ns
    obtain ⟨G', g1, g2⟩ := restrict h' fun b => decide (b ≠ e)
    have gk : ∀ b, b ≠ e → G'.get? b = h'.get? b := fun b hb => g1 b (decide_eq_true hb)
    have ge : G'.get? e = none := g2 e (by simp)
    have old : ∀ b o, hp.get? b = some o → G'.get? b = some o := fun b o q => (gk b (Nat.ne_of_lt (Nat.lt_of_lt_of_le (Heap.lt_size q) M.new))).trans (M.keep b o q)
    have ob : ObjOk X.prog X.w (upd H1 d (.xd [(("at" : Str), v)])) G' d (.xd [(("at" : Str), v)]) :=
      ⟨_, hns.at (fun o q => (gk d M.dne).trans q), fun f => relO_one rv f⟩
    have J : Inv X pins σ (upd H1 d (.xd [(("at" : Str), v)])) ⟨G', g, dr, tk', os⟩ := I1.laid (t' := tk') old M.dbig ob
    refine ⟨e, oe, fv, ⟨G', g, dr, tk', os⟩, _, .ref C, some d, rfl, J, fun b o q => ?_, ge, hoe, ⟨hc, hd⟩, hdat, h1, ?_, rfl, I1.bare, raises_own T.exC T.tyC, q1 d (I1.hok.fresh M.dbig)⟩
    · by_cases hb : b = e
      · have q' : G'.get? b = some o := q
        rw [hb, ge] at q'; cases q'
      · exact (gk b hb).symm.trans q
    · rw [upd_ne (Ne.symm M.dne)]
      exact I1.hok.fresh M.new
theorem ps_raise_LAt {a : Expr} {ta : TA} {W : WX} {p pos pos2 : Pos} {k : Nat} (hc : X.calm = true) (T : LAt.Txt X.K X.mg cn ql bm C fI) (hr : Room k X.A) (tk : Takes X W) (ha : PA X [a] ta) (hg : Gl X cn := by rfl)
    (he : starEach (a :: []) X.env = (false, eval a X.env) :: starEach [] X.env := by rfl) (hpl : (backTo pos (starEach [] X.env)).any (·.1) = false := by rfl) (hdb : (cn == ("__debug__" : Str)) = false := by decide) :
    PS X (.Raise (some (.Call (.Name cn p) [a] [] pos)) none pos2) (tRaiseF "at" C W ta) := ps_raise hc tk (pmk_LAt T hr ha hg he hpl hdb)
theorem pe_by_LAt {a : Addr} {oe : Obj} {cls : Value} {d : Option Addr} {pn : List (Addr × Obj)} {e : Expr} {te : TE} {pos : Pos} (T : LAt.Txt X.K X.mg cn ql bm C fI) (hz : Zc cls d oe) (hf : ∃ vs, oe.data = .fields vs) (he : PE (X.suite a ((a, oe) :: pn)) e te)
    (hb : attributeBase e "at" X.env (eval e X.env) = eval e X.env := by rfl) :
    PE (X.suite a ((a, oe) :: pn)) (.Attribute e "at" pos) (tByF "at" C a cls d te) := by
  refine ⟨fun pins s σ H Q I h => ?_⟩
  refine attr_of hb (thn (he.run pins s σ H _ I h) fun u s1 hh => ?_)
  obtain ⟨x, H1, I1, rx, ex, ec, dd, v, ed, ea, q⟩ := hh
  subst ex
  obtain rfl : u = Value.ref a := rx
  subst ec
  subst ed
  obtain ⟨ha, _⟩ := I1.pin (a, oe) (List.mem_append_left _ List.mem_cons_self)
  obtain ⟨vs, hd⟩ := hf
  have hx : ObjOk X.prog X.w H1 s1.heap dd (.xd [(("at" : Str), v)]) := I1.hok dd _ ea
  obtain ⟨mA, hns, hr⟩ := hx
  obtain ⟨od, ho, hl⟩ := lookIn_ns hns
  have l : List.lookup ("at" : Str) [(("at" : Str), v)] = some v := by simp [List.lookup]
  obtain ⟨u, hu, ru⟩ := RelO.some_of (v := v) (o := mA "at") (by rw [← l]; exact hr "at")
  have J : PySem.W.InstAt s1.heap a oe C (some od) := ⟨ha, hz.1, by unfold PySem.W.notCls; rw [hd] <;> rfl, by rw [hz.2]; exact ho⟩
  exact HandSPX.exc_get I1.kIn J T.ga T.gg T.exC (PySem.W.findObj_own T.hdC T.noN rfl (by rw [hl, hu])) (handed_of ru) ⟨v, H1, I1.tok _, ru, q⟩
end
end K1

namespace K1
namespace LState
open PySem PySem.W PySem.Calls PyProof.Rows PySem.HandSPX
/-- the text of __init__ -/
def iA (p1 p2 : Pos) : Arguments := { posonlyargs := [], args := [{ arg := "self", annotation := none, pos := p1 }, { arg := "state", annotation := none, pos := p2 }], vararg := none, kwonlyargs := [], kw_defaults := [], kwarg := none, defaults := [] }
def iB (q1 q2 q3 q4 : Pos) : List Stmt := [.Assign [.Attribute (.Name "self" q1) "state" q2] (.Name "state" q3) q4]
def iS : Scope := { kind := .function, names := [(PySem.Str.ofString "self", .local), (PySem.Str.ofString "state", .local)], isGenerator := false, isCoroutine := false, more := [] }
/-- what the written part says of the class at C (named cn), of its chain bm, and of its __init__, at fI -/
structure Txt (K : Frag) (mg : Str → Option Value) (cn ql : Str) (bm : List Value) (C fI : Addr) : Prop where
  gC : mg cn = some (.ref C)
  cls : ∃ nm q N bs sn sub ab col dd k0 k1 k2 k3 k5, K.lookup C = some (excClassObj nm q C N bs bm true sn sub ab col dd k0 k1 k2 k3 k5 "LookupError.__new__")
  mr : Mro "LookupError" bm
  sa : findIn K (.ref C) "__setattr__" = some (some (.builtin "object.__setattr__"))
  ga : findIn K (.ref C) "__getattribute__" = some (some (.builtin "BaseException.__getattribute__"))
  gg : findIn K (.ref C) "__getattr__" = some none
  noN : findIn K (.ref C) "state" = some none
  iC : findIn K (.ref C) "__init__" = some (some (.ref fI))
  tC : typeIn K (.ref fI) = some (.type "function")
  kC : keepIn K (.ref C) = true
  exC : subIn K (.ref C) (.type "BaseException") = some true
  tyC : typeIn K (.ref C) = some (.type "type")
  hdC : hasDictIn K C = true
  fn : ∃ (oc : Value) (od : Option Addr) (doc pm : Value) (an : Option Addr) (cdv ct : Value) (osl : Array (Option Value)) (p1 p2 q1 q2 q3 q4 : Pos),
    K.lookup fI = some ⟨oc, od, .func (fnOf "__init__" ql (iA p1 p2) (iB q1 q2 q3 q4) iS .none .none doc pm an cdv ct), osl⟩ ∧ codeIn K cdv ql = true
/-- what __init__ leaves of a fresh exception at x -/
structure InitEnd (h h' : Heap) (x C dx t1 : Addr) (v : Value) : Prop where
  keep : ∀ b o, b ≠ x → h.get? b = some o → h'.get? b = some o
  obj : h'.get? x = some { cls := .ref C, dict := some dx, data := .fields #[.ref t1, .none, .none, .none, .bool false, .none] }
  dbig : h.objs.size ≤ dx
  dne : dx ≠ x
  ns : h'.Ns1 dx (fun y => if y = "state" then some v else none)
structure OwnMade (h h' : Heap) (e C d : Addr) (v : Value) : Prop where
  keep : ∀ b o, h.get? b = some o → h'.get? b = some o
  new : h.objs.size ≤ e
  obj : ∃ oe vs, h'.get? e = some oe ∧ oe.cls = .ref C ∧ oe.dict = some d ∧ oe.data = .fields vs ∧ vs[1]? = some .none
  dbig : h.objs.size ≤ d
  dne : d ≠ e
  ns : h'.Ns1 d (fun y => if y = "state" then some v else none)
section
variable {prog : Program} {w : World} {A : Around} {E : Value → Shared → Prop} {R : Result → Shared → Prop} {s : Shared} {K : Frag} {mg : Str → Option Value} {cn ql : Str} {bm : List Value} {C fI : Addr}
theorem init (T : Txt K mg cn ql bm C fI) {x t0 : Addr} {v : Value} (X : K.In s.heap) (hlim : s.heap.NoLimit) (hx : s.heap.get? x = some (excO C t0)) (hnx : K.lookup x = none) (hroom : A.depth < recursionLimit)
    (hq : ∀ h' tk dx, InitEnd s.heap h' x C dx t0 v → R (.ok (.ret .none)) { s with heap := h', toks := tk }) :
    codeAny (model prog w) A (.call (.ref fI) ⟨[.ref x, v], []⟩) R s := by
  obtain ⟨oc, od, doc, pm, an, cdv, ct, osl, p1, p2, q1, q2, q3, q4, ho, hcd⟩ := T.fn
  obtain ⟨nm, q, N, bs, sn, sub, ab, col, dd, k0, k1, k2, k3, k5, hC⟩ := T.cls
  have hcl : clsIn K C = some { name := nm, bases := bs, mro := .ref C :: bm, ns := N, qualname := q, hasDict := true, slotNames := sn, subclasses := sub, abstract := ab, collection := col, hasDel := false } := by unfold clsIn; rw [hC] <;> rfl
  refine Att.call_fn (binds := [("self", .ref x), ("state", v)]) X hlim ho hcd hroom (BindsTo.of_eq (by first | rfl | with_unfolding_all rfl)) (by first | rfl | decide | with_unfolding_all rfl) (fun s₁ IC => ?_) rfl rfl rfl
  obtain ⟨h₁, tk₁, rfl⟩ := IC.toInCall.same
  have k : ∀ b o, s.heap.get? b = some o → h₁.get? b = some o := IC.toInCall.keep
  have hn := IC.toInCall.ns
  have X₁ : K.In h₁ := X.keeps k
  have hx₁ := k _ _ hx
  show wpAny _ _ (execs _ _) _ _ _
  refine wpAny_execs_cons (plainObj_wpAny_Assign_Attribute ?_)
  refine ldE (v := v) hn (by first | rfl | with_unfolding_all rfl | kernel_rfl) (ldE (v := .ref x) hn (by first | rfl | with_unfolding_all rfl | kernel_rfl) ?_)
  refine set_plain X₁ (ox := excO C t0) (od := none) ⟨hx₁, rfl, rfl, trivial⟩ T.sa ?_
  refine exc_osaG X₁ hx₁ hcl rfl T.mr rfl T.noN (fun h₃ tk₃ dx k₃ dn dne hx₃ hn₃ => ?_)
  show wpAny _ _ (execs _ _) _ _ _
  have z : s.heap.objs.size < h₁.objs.size := hn.lt
  exact wpAny_execs_nil (hq h₃ tk₃ dx ⟨fun b o hb e => k₃ b o hb (k b o e), hx₃, Nat.le_of_lt (Nat.lt_of_lt_of_le z dn), dne, hn₃⟩)
theorem made (T : Txt K mg cn ql bm C fI) {v : Value} (X : K.In s.heap) (hlim : s.heap.NoLimit) (hroom : A.depth + 1 < recursionLimit)
    (hq : ∀ h' tk e d, OwnMade s.heap h' e C d v → R (.ok (.ret (.ref e))) { s with heap := h', toks := tk }) :
    codeAny (model prog w) A (.call (.ref C) ⟨[v], []⟩) R s := by
  obtain ⟨nm, q, N, bs, sn, sub, ab, col, dd, k0, k1, k2, k3, k5, hC⟩ := T.cls
  obtain ⟨hp, g, dr, tk, os⟩ := s
  have k : ∀ b o, hp.get? b = some o → ((hp.push (kdv_tup [v])).push (excO C hp.objs.size)).get? b = some o := fun b o e => Heap.get?_push_of_some _ (Heap.get?_push_of_some _ e)
  have hget : ((hp.push (kdv_tup [v])).push (excO C hp.objs.size)).get? (hp.objs.size + 1) = some (excO C hp.objs.size) := by heap_get
  have hnx : K.lookup (hp.objs.size + 1) = none := by
    cases e : K.lookup (hp.objs.size + 1) with
    | none => rfl
    | some o =>
      have z : hp.get? (hp.objs.size + 1) = some o := X _ _ e
      exact absurd (Nat.lt_of_succ_lt (Heap.lt_size z)) (Nat.lt_irrefl _)
  refine call_ownG F.excBase_LookupError T.mr (X _ _ hC) (looks_findIn X T.iC) (fun self => bind_fn X self T.tC) (one_le v) ?_
  refine init (s := ⟨(hp.push (kdv_tup [v])).push (excO C hp.objs.size), g, dr, tk, os⟩) T (X.keeps k) (hlim.keeps k) hget hnx ?_ fun h' tk' dx ⟨k', hx, dn, dne, hns⟩ => ?_
  · show A.depth + 1 < recursionLimit
    exact hroom
  · have old : ∀ b o, hp.get? b = some o → h'.get? b = some o := fun b o e => k' b o (Nat.ne_of_lt (Nat.lt_succ_of_lt (Heap.lt_size e))) (k b o e)
    have z : hp.objs.size + 1 + 1 ≤ dx := by
      first
        | (simpa only [Heap.size_push] using dn)
        | exact dn
        | (have q := dn; rw [Heap.size_push, Heap.size_push] at q; exact q)
    exact ⟨rfl, hq h' tk' (hp.objs.size + 1) dx ⟨old, Nat.le_succ _, ⟨_, _, hx, rfl, rfl, rfl, rfl⟩, Nat.le_trans (Nat.le_trans (Nat.le_succ _) (Nat.le_succ _)) z, dne, hns⟩⟩
end
end LState
end K1
namespace K1
open PySem PySem.Spec PyProof.Rows L2
section
variable {X : Cx} {cn ql : Str} {bm : List Value} {C fI : Addr}
theorem pmk_LState {a : Expr} {ta : TA} {p pos : Pos} {k : Nat} (T : LState.Txt X.K X.mg cn ql bm C fI) (hr : Room k X.A) (ha : PA X [a] ta) (hg : Gl X cn := by rfl)
    (he : starEach (a :: []) X.env = (false, eval a X.env) :: starEach [] X.env := by rfl) (hpl : (backTo pos (starEach [] X.env)).any (·.1) = false := by rfl) (hdb : (cn == ("__debug__" : Str)) = false := by decide) :
    PMk X (.Call (.Name cn p) [a] [] pos) (tMkF "state" C ta) := by
  intro pins s σ H Q I h
  refine wpAny_Call_Name_kw (ld_glob I hg T.gC ?_ hdb)
  refine PySem.W.callWith_K (h₀ := X.base) I.ok.mod.kin T.kC (thn (ha.run pos pins s σ H _ I h) fun us s1 hh => ?_) he hpl
  obtain ⟨vs, H1, I1, r1, v, ev, q1⟩ := hh
  subst ev
  refine ⟨I1.kIn, ?_⟩
  cases r1 with
  | cons rv rn =>
    rename_i v' us'
    cases rn
    show wpAny _ _ (call (.ref C) [v']) _ _ _
    have hlim := I1.nolimit
    obtain ⟨hp, g, dr, tk, os⟩ := s1
    refine wpAny_call (LState.made T I1.kIn hlim (by have := hr.dp; omega) fun h' tk' e d M => ?_)
    show MkP X pins σ Q (.ref e) ⟨h', g, dr, tk', os⟩
    obtain ⟨oe, fv, hoe, hc, hd, hdat, h1⟩ := M.obj
    have hns := M.ns
    obtain ⟨G', g1, g2⟩ := restrict h' fun b => decide (b ≠ e)
    have gk : ∀ b, b ≠ e → G'.get? b = h'.get? b := fun b hb => g1 b (decide_eq_true hb)
    have ge : G'.get? e = none := g2 e (by simp)
    have old : ∀ b o, hp.get? b = some o → G'.get? b = some o := fun b o q => (gk b (Nat.ne_of_lt (Nat.lt_of_lt_of_le (Heap.lt_size q) M.new))).trans (M.keep b o q)
    have ob : ObjOk X.prog X.w (upd H1 d (.xd [(("state" : Str), v)])) G' d (.xd [(("state" : Str), v)]) :=
      ⟨_, hns.at (fun o q => (gk d M.dne).trans q), fun f => relO_one rv f⟩
    have J : Inv X pins σ (upd H1 d (.xd [(("state" : Str), v)])) ⟨G', g, dr, tk', os⟩ := I1.laid (t' := tk') old M.dbig ob
    refine ⟨e, oe, fv, ⟨G', g, dr, tk', os⟩, _, .ref C, some d, rfl, J, fun b o q => ?_, ge, hoe, ⟨hc, hd⟩, hdat, h1, ?_, rfl, I1.bare, raises_own T.exC T.tyC, q1 d (I1.hok.fresh M.dbig)⟩
    · by_cases hb : b = e
      · have q' : G'.get? b = some o := q
        rw [hb, ge] at q'; cases q'
      · exact (gk b hb).symm.trans q
    · rw [upd_ne (Ne.symm M.dne)]
      exact I1.hok.fresh M.new
theorem ps_raise_LState {a : Expr} {ta : TA} {W : WX} {p pos pos2 : Pos} {k : Nat} (hc : X.calm = true) (T : LState.Txt X.K X.mg cn ql bm C fI) (hr : Room k X.A) (tk : Takes X W) (ha : PA X [a] ta) (hg : Gl X cn := by rfl)
    (he : starEach (a :: []) X.env = (false, eval a X.env) :: starEach [] X.env := by rfl) (hpl : (backTo pos (starEach [] X.env)).any (·.1) = false := by rfl) (hdb : (cn == ("__debug__" : Str)) = false := by decide) :
    PS X (.Raise (some (.Call (.Name cn p) [a] [] pos)) none pos2) (tRaiseF "state" C W ta) := ps_raise hc tk (pmk_LState T hr ha hg he hpl hdb)
theorem pe_by_LState {a : Addr} {oe : Obj} {cls : Value} {d : Option Addr} {pn : List (Addr × Obj)} {e : Expr} {te : TE} {pos : Pos} (T : LState.Txt X.K X.mg cn ql bm C fI) (hz : Zc cls d oe) (hf : ∃ vs, oe.data = .fields vs) (he : PE (X.suite a ((a, oe) :: pn)) e te)
    (hb : attributeBase e "state" X.env (eval e X.env) = eval e X.env := by rfl) :
    PE (X.suite a ((a, oe) :: pn)) (.Attribute e "state" pos) (tByF "state" C a cls d te) := by
  refine ⟨fun pins s σ H Q I h => ?_⟩
  refine attr_of hb (thn (he.run pins s σ H _ I h) fun u s1 hh => ?_)
  obtain ⟨x, H1, I1, rx, ex, ec, dd, v, ed, ea, q⟩ := hh
  subst ex
  obtain rfl : u = Value.ref a := rx
  subst ec
  subst ed
  obtain ⟨ha, _⟩ := I1.pin (a, oe) (List.mem_append_left _ List.mem_cons_self)
  obtain ⟨vs, hd⟩ := hf
  have hx : ObjOk X.prog X.w H1 s1.heap dd (.xd [(("state" : Str), v)]) := I1.hok dd _ ea
  obtain ⟨mA, hns, hr⟩ := hx
  obtain ⟨od, ho, hl⟩ := lookIn_ns hns
  have l : List.lookup ("state" : Str) [(("state" : Str), v)] = some v := by simp [List.lookup]
  obtain ⟨u, hu, ru⟩ := RelO.some_of (v := v) (o := mA "state") (by rw [← l]; exact hr "state")
  have J : PySem.W.InstAt s1.heap a oe C (some od) := ⟨ha, hz.1, by unfold PySem.W.notCls; rw [hd] <;> rfl, by rw [hz.2]; exact ho⟩
  exact HandSPX.exc_get I1.kIn J T.ga T.gg T.exC (PySem.W.findObj_own T.hdC T.noN rfl (by rw [hl, hu])) (handed_of ru) ⟨v, H1, I1.tok _, ru, q⟩
end
end K1

namespace K1
namespace LDeed
open PySem PySem.W PySem.Calls PyProof.Rows PySem.HandSPX
/-- the text of __init__ -/
def iA (p1 p2 : Pos) : Arguments := { posonlyargs := [], args := [{ arg := "self", annotation := none, pos := p1 }, { arg := "deed", annotation := none, pos := p2 }], vararg := none, kwonlyargs := [], kw_defaults := [], kwarg := none, defaults := [] }
def iB (q1 q2 q3 q4 : Pos) : List Stmt := [.Assign [.Attribute (.Name "self" q1) "deed" q2] (.Name "deed" q3) q4]
def iS : Scope := { kind := .function, names := [(PySem.Str.ofString "self", .local), (PySem.Str.ofString "deed", .local)], isGenerator := false, isCoroutine := false, more := [] }
/-- what the written part says of the class at C (named cn), of its chain bm, and of its __init__, at fI -/
structure Txt (K : Frag) (mg : Str → Option Value) (cn ql : Str) (bm : List Value) (C fI : Addr) : Prop where
  gC : mg cn = some (.ref C)
  cls : ∃ nm q N bs sn sub ab col dd k0 k1 k2 k3 k5, K.lookup C = some (excClassObj nm q C N bs bm true sn sub ab col dd k0 k1 k2 k3 k5 "LookupError.__new__")
  mr : Mro "LookupError" bm
  sa : findIn K (.ref C) "__setattr__" = some (some (.builtin "object.__setattr__"))
  ga : findIn K (.ref C) "__getattribute__" = some (some (.builtin "BaseException.__getattribute__"))
  gg : findIn K (.ref C) "__getattr__" = some none
  noN : findIn K (.ref C) "deed" = some none
  iC : findIn K (.ref C) "__init__" = some (some (.ref fI))
  tC : typeIn K (.ref fI) = some (.type "function")
  kC : keepIn K (.ref C) = true
  exC : subIn K (.ref C) (.type "BaseException") = some true
  tyC : typeIn K (.ref C) = some (.type "type")
  hdC : hasDictIn K C = true
  fn : ∃ (oc : Value) (od : Option Addr) (doc pm : Value) (an : Option Addr) (cdv ct : Value) (osl : Array (Option Value)) (p1 p2 q1 q2 q3 q4 : Pos),
    K.lookup fI = some ⟨oc, od, .func (fnOf "__init__" ql (iA p1 p2) (iB q1 q2 q3 q4) iS .none .none doc pm an cdv ct), osl⟩ ∧ codeIn K cdv ql = true
/-- what __init__ leaves of a fresh exception at x -/
structure InitEnd (h h' : Heap) (x C dx t1 : Addr) (v : Value) : Prop where
  keep : ∀ b o, b ≠ x → h.get? b = some o → h'.get? b = some o
  obj : h'.get? x = some { cls := .ref C, dict := some dx, data := .fields #[.ref t1, .none, .none, .none, .bool false, .none] }
  dbig : h.objs.size ≤ dx
  dne : dx ≠ x
  ns : h'.Ns1 dx (fun y => if y = "deed" then some v else none)
structure OwnMade (h h' : Heap) (e C d : Addr) (v : Value) : Prop where
  keep : ∀ b o, h.get? b = some o → h'.get? b = some o
  new : h.objs.size ≤ e
  obj : ∃ oe vs, h'.get? e = some oe ∧ oe.cls = .ref C ∧ oe.dict = some d ∧ oe.data = .fields vs ∧ vs[1]? = some .none
  dbig : h.objs.size ≤ d
  dne : d ≠ e
  ns : h'.Ns1 d (fun y => if y = "deed" then some v else none)
section
variable {prog : Program} {w : World} {A : Around} {E : Value → Shared → Prop} {R : Result → Shared → Prop} {s : Shared} {K : Frag} {mg : Str → Option Value} {cn ql : Str} {bm : List Value} {C fI : Addr}
theorem init (T : Txt K mg cn ql bm C fI) {x t0 : Addr} {v : Value} (X : K.In s.heap) (hlim : s.heap.NoLimit) (hx : s.heap.get? x = some (excO C t0)) (hnx : K.lookup x = none) (hroom : A.depth < recursionLimit)
    (hq : ∀ h' tk dx, InitEnd s.heap h' x C dx t0 v → R (.ok (.ret .none)) { s with heap := h', toks := tk }) :
    codeAny (model prog w) A (.call (.ref fI) ⟨[.ref x, v], []⟩) R s := by
  obtain ⟨oc, od, doc, pm, an, cdv, ct, osl, p1, p2, q1, q2, q3, q4, ho, hcd⟩ := T.fn
  obtain ⟨nm, q, N, bs, sn, sub, ab, col, dd, k0, k1, k2, k3, k5, hC⟩ := T.cls
  have hcl : clsIn K C = some { name := nm, bases := bs, mro := .ref C :: bm, ns := N, qualname := q, hasDict := true, slotNames := sn, subclasses := sub, abstract := ab, collection := col, hasDel := false } := by unfold clsIn; rw [hC] <;> rfl
  refine Att.call_fn (binds := [("self", .ref x), ("deed", v)]) X hlim ho hcd hroom (BindsTo.of_eq (by first | rfl | with_unfolding_all rfl)) (by first | rfl | decide | with_unfolding_all rfl) (fun s₁ IC => ?_) rfl rfl rfl
  obtain ⟨h₁, tk₁, rfl⟩ := IC.toInCall.same
  have k : ∀ b o, s.heap.get? b = some o → h₁.get? b = some o := IC.toInCall.keep
  have hn := IC.toInCall.ns
  have X₁ : K.In h₁ := X.keeps k
  have hx₁ := k _ _ hx
  show wpAny _ _ (execs _ _) _ _ _
  refine wpAny_execs_cons (plainObj_wpAny_Assign_Attribute ?_)
  refine ldE (v := v) hn (by first | rfl | with_unfolding_all rfl | kernel_rfl) (ldE (v := .ref x) hn (by first | rfl | with_unfolding_all rfl | kernel_rfl) ?_)
  refine set_plain X₁ (ox := excO C t0) (od := none) ⟨hx₁, rfl, rfl, trivial⟩ T.sa ?_
  refine exc_osaG X₁ hx₁ hcl rfl T.mr rfl T.noN (fun h₃ tk₃ dx k₃ dn dne hx₃ hn₃ => ?_)
  show wpAny _ _ (execs _ _) _ _ _
  have z : s.heap.objs.size < h₁.objs.size := hn.lt
  exact wpAny_execs_nil (hq h₃ tk₃ dx ⟨fun b o hb e => k₃ b o hb (k b o e), hx₃, Nat.le_of_lt (Nat.lt_of_lt_of_le z dn), dne, hn₃⟩)
theorem made (T : Txt K mg cn ql bm C fI) {v : Value} (X : K.In s.heap) (hlim : s.heap.NoLimit) (hroom : A.depth + 1 < recursionLimit)
    (hq : ∀ h' tk e d, OwnMade s.heap h' e C d v → R (.ok (.ret (.ref e))) { s with heap := h', toks := tk }) :
    codeAny (model prog w) A (.call (.ref C) ⟨[v], []⟩) R s := by
  obtain ⟨nm, q, N, bs, sn, sub, ab, col, dd, k0, k1, k2, k3, k5, hC⟩ := T.cls
  obtain ⟨hp, g, dr, tk, os⟩ := s
  have k : ∀ b o, hp.get? b = some o → ((hp.push (kdv_tup [v])).push (excO C hp.objs.size)).get? b = some o := fun b o e => Heap.get?_push_of_some _ (Heap.get?_push_of_some _ e)
  have hget : ((hp.push (kdv_tup [v])).push (excO C hp.objs.size)).get? (hp.objs.size + 1) = some (excO C hp.objs.size) := by heap_get
  have hnx : K.lookup (hp.objs.size + 1) = none := by
    cases e : K.lookup (hp.objs.size + 1) with
    | none => rfl
    | some o =>
      have z : hp.get? (hp.objs.size + 1) = some o := X _ _ e
      exact absurd (Nat.lt_of_succ_lt (Heap.lt_size z)) (Nat.lt_irrefl _)
  refine call_ownG F.excBase_LookupError T.mr (X _ _ hC) (looks_findIn X T.iC) (fun self => bind_fn X self T.tC) (one_le v) ?_
  refine init (s := ⟨(hp.push (kdv_tup [v])).push (excO C hp.objs.size), g, dr, tk, os⟩) T (X.keeps k) (hlim.keeps k) hget hnx ?_ fun h' tk' dx ⟨k', hx, dn, dne, hns⟩ => ?_
  · show A.depth + 1 < recursionLimit
    exact hroom
  · have old : ∀ b o, hp.get? b = some o → h'.get? b = some o := fun b o e => k' b o (Nat.ne_of_lt (Nat.lt_succ_of_lt (Heap.lt_size e))) (k b o e)
    have z : hp.objs.size + 1 + 1 ≤ dx := by
      first
        | (simpa only [Heap.size_push] using dn)
        | exact dn
        | (have q := dn; rw [Heap.size_push, Heap.size_push] at q; exact q)
    exact ⟨rfl, hq h' tk' (hp.objs.size + 1) dx ⟨old, Nat.le_succ _, ⟨_, _, hx, rfl, rfl, rfl, rfl⟩, Nat.le_trans (Nat.le_trans (Nat.le_succ _) (Nat.le_succ _)) z, dne, hns⟩⟩
end
end LDeed
end K1
namespace K1
open PySem PySem.Spec PyProof.Rows L2
section
variable {X : Cx} {cn ql : Str} {bm : List Value} {C fI : Addr}
theorem pmk_LDeed {a : Expr} {ta : TA} {p pos : Pos} {k : Nat} (T : LDeed.Txt X.K X.mg cn ql bm C fI) (hr : Room k X.A) (ha : PA X [a] ta) (hg : Gl X cn := by rfl)
    (he : starEach (a :: []) X.env = (false, eval a X.env) :: starEach [] X.env := by rfl) (hpl : (backTo pos (starEach [] X.env)).any (·.1) = false := by rfl) (hdb : (cn == ("__debug__" : Str)) = false := by decide) :
    PMk X (.Call (.Name cn p) [a] [] pos) (tMkF "deed" C ta) := by
  intro pins s σ H Q I h
  refine wpAny_Call_Name_kw (ld_glob I hg T.gC ?_ hdb)
  refine PySem.W.callWith_K (h₀ := X.base) I.ok.mod.kin T.kC (thn (ha.run pos pins s σ H _ I h) fun us s1 hh => ?_) he hpl
  obtain ⟨vs, H1, I1, r1, v, ev, q1⟩ := hh
  subst ev
  refine ⟨I1.kIn, ?_⟩
  cases r1 with
  | cons rv rn =>
    rename_i v' us'
    cases rn
    show wpAny _ _ (call (.ref C) [v']) _ _ _
    have hlim := I1.nolimit
    obtain ⟨hp, g, dr, tk, os⟩ := s1
    refine wpAny_call (LDeed.made T I1.kIn hlim (by have := hr.dp; omega) fun h' tk' e d M => ?_)
    show MkP X pins σ Q (.ref e) ⟨h', g, dr, tk', os⟩
    obtain ⟨oe, fv, hoe, hc, hd, hdat, h1⟩ := M.obj
    have hns := M.ns
    obtain ⟨G', g1, g2⟩ := restrict h' fun b => decide (b ≠ e)
    have gk : ∀ b, b ≠ e → G'.get? b = h'.get? b := fun b hb => g1 b (decide_eq_true hb)
    have ge : G'.get? e = none := g2 e (by simp)
    have old : ∀ b o, hp.get? b = some o → G'.get? b = some o := fun b o q => (gk b (Nat.ne_of_lt (Nat.lt_of_lt_of_le (Heap.lt_size q) M.new))).trans (M.keep b o q)
    have ob : ObjOk X.prog X.w (upd H1 d (.xd [(("deed" : Str), v)])) G' d (.xd [(("deed" : Str), v)]) :=
      ⟨_, hns.at (fun o q => (gk d M.dne).trans q), fun f => relO_one rv f⟩
    have J : Inv X pins σ (upd H1 d (.xd [(("deed" : Str), v)])) ⟨G', g, dr, tk', os⟩ := I1.laid (t' := tk') old M.dbig ob
    refine ⟨e, oe, fv, ⟨G', g, dr, tk', os⟩, _, .ref C, some d, rfl, J, fun b o q => ?_, ge, hoe, ⟨hc, hd⟩, hdat, h1, ?_, rfl, I1.bare, raises_own T.exC T.tyC, q1 d (I1.hok.fresh M.dbig)⟩
    · by_cases hb : b = e
      · have q' : G'.get? b = some o := q
        rw [hb, ge] at q'; cases q'
      · exact (gk b hb).symm.trans q
    · rw [upd_ne (Ne.symm M.dne)]
      exact I1.hok.fresh M.new
theorem ps_raise_LDeed {a : Expr} {ta : TA} {W : WX} {p pos pos2 : Pos} {k : Nat} (hc : X.calm = true) (T : LDeed.Txt X.K X.mg cn ql bm C fI) (hr : Room k X.A) (tk : Takes X W) (ha : PA X [a] ta) (hg : Gl X cn := by rfl)
    (he : starEach (a :: []) X.env = (false, eval a X.env) :: starEach [] X.env := by rfl) (hpl : (backTo pos (starEach [] X.env)).any (·.1) = false := by rfl) (hdb : (cn == ("__debug__" : Str)) = false := by decide) :
    PS X (.Raise (some (.Call (.Name cn p) [a] [] pos)) none pos2) (tRaiseF "deed" C W ta) := ps_raise hc tk (pmk_LDeed T hr ha hg he hpl hdb)
theorem pe_by_LDeed {a : Addr} {oe : Obj} {cls : Value} {d : Option Addr} {pn : List (Addr × Obj)} {e : Expr} {te : TE} {pos : Pos} (T : LDeed.Txt X.K X.mg cn ql bm C fI) (hz : Zc cls d oe) (hf : ∃ vs, oe.data = .fields vs) (he : PE (X.suite a ((a, oe) :: pn)) e te)
    (hb : attributeBase e "deed" X.env (eval e X.env) = eval e X.env := by rfl) :
    PE (X.suite a ((a, oe) :: pn)) (.Attribute e "deed" pos) (tByF "deed" C a cls d te) := by
  refine ⟨fun pins s σ H Q I h => ?_⟩
  refine attr_of hb (thn (he.run pins s σ H _ I h) fun u s1 hh => ?_)
  obtain ⟨x, H1, I1, rx, ex, ec, dd, v, ed, ea, q⟩ := hh
  subst ex
  obtain rfl : u = Value.ref a := rx
  subst ec
  subst ed
  obtain ⟨ha, _⟩ := I1.pin (a, oe) (List.mem_append_left _ List.mem_cons_self)
  obtain ⟨vs, hd⟩ := hf
  have hx : ObjOk X.prog X.w H1 s1.heap dd (.xd [(("deed" : Str), v)]) := I1.hok dd _ ea
  obtain ⟨mA, hns, hr⟩ := hx
  obtain ⟨od, ho, hl⟩ := lookIn_ns hns
  have l : List.lookup ("deed" : Str) [(("deed" : Str), v)] = some v := by simp [List.lookup]
  obtain ⟨u, hu, ru⟩ := RelO.some_of (v := v) (o := mA "deed") (by rw [← l]; exact hr "deed")
  have J : PySem.W.InstAt s1.heap a oe C (some od) := ⟨ha, hz.1, by unfold PySem.W.notCls; rw [hd] <;> rfl, by rw [hz.2]; exact ho⟩
  exact HandSPX.exc_get I1.kIn J T.ga T.gg T.exC (PySem.W.findObj_own T.hdC T.noN rfl (by rw [hl, hu])) (handed_of ru) ⟨v, H1, I1.tok _, ru, q⟩
end
end K1
/-! enumerate over a tuple, repr of data of any depth, isinstance of a held exception -/
namespace K1
open PySem PySem.Spec PyProof.Rows L2
theorem meets_enum1 {v : Value} {o : Obj} {H : Heap → Prop} (B : Begins v o H) :
    Meets (Builtin.«enumerate.__new__» ⟨[.type "enumerate", v], []⟩) (fun _ R s => H s.heap ∧
      R (.ok (.ret (.ref (s.heap.push o).objs.size))) { s with heap := (s.heap.push o).push { cls := .type "enumerate", data := .fields #[.none, .bool false, .ref s.heap.objs.size, rawInt 0, .none, .none] } }) :=
  .of_wp fun prog w A R s h => by
    obtain ⟨hp, g, d, tk, os⟩ := s
    obtain ⟨h1, h⟩ := h
    have hsub := sub_enumerate
    have q1 : ∀ {A' : Around} {E : Value → Shared → Prop} {Q : Value → Shared → Prop}, Q (.ref hp.objs.size) ⟨hp.push o, g, d, tk, os⟩ → wpAny (model prog w) A' (pyIter v) Q E ⟨hp, g, d, tk, os⟩ :=
      fun q => B.iter prog w _ _ ⟨hp, g, d, tk, os⟩ _ h1 q
    wp_walk using q1
    refine wpAny_stack_any fun st => wpAny_pure ?_
    split
    · rename_i c _ _ _ _ _
      cases (c == Value.type "enumerate") <;> (wp_walk using q1; exact ⟨_, rfl, h⟩)
    · wp_walk using q1
      exact ⟨_, rfl, h⟩
theorem enum_begins1 {prog : Program} {w : World} {A : Around} {E : Value → Shared → Prop} {s : Shared} {v : Value} {o : Obj} {H : Heap → Prop} {Q : Value → Shared → Prop} (B : Begins v o H) (h1 : H s.heap)
    (h : ∀ h', IsEnum h' (s.heap.objs.size + 1) s.heap.objs.size 0 .none → h'.get? s.heap.objs.size = some o → h'.objs.size = s.heap.objs.size + 2 →
      (∀ b o, s.heap.get? b = some o → h'.get? b = some o) → Q (.ref (s.heap.objs.size + 1)) { s with heap := h' }) :
    wpAny (model prog w) A (call (.type "enumerate") [v]) Q E s := by
  refine callType_new F.called_enumerate (by decide) (F.typeCall_enumerate_1 _) (F.newCall_enumerate_1 _) (fun obj => F.args_object_init_2 obj _) F.entry_enumerate_new (meets_enum1 B) ⟨h1, ?_⟩
  have hz : (s.heap.push o).objs.size = s.heap.objs.size + 1 := Heap.size_push ..
  show _ ∧ _
  rw [hz]
  have he := Heap.get?_push_size (s.heap.push o) (o := { cls := .type "enumerate", data := .fields #[.none, .bool false, .ref s.heap.objs.size, rawInt 0, .none, .none] }) rfl
  rw [hz] at he
  exact ⟨⟨_, he, rfl⟩, h _ he (Heap.get?_push_of_some _ (Heap.get?_push_size _ B.free)) (by rw [Heap.size_push, hz]) fun b o x => Heap.get?_push_of_some _ (Heap.get?_push_of_some _ x)⟩
/-- the tuple at a, each item in a new pair -/
def IteT (K : PySem.W.Frag) (a : Addr) : It :=
  ⟨fun i H => ∃ (xs : List V) (x : V), SqT K H a xs ∧ xs[i]? = some x, fun i H v H' => ∃ T x, v = .ref T ∧ H T = none ∧ H' = upd H T (.tup [.int (i : Nat), x]) ∧ ∀ xs, SqT K H a xs → xs[i]? = some x, fun i H => ∃ xs : List V, SqT K H a xs ∧ xs.length ≤ i⟩
theorem turn_enumT {P : Program} {w : World} {K : PySem.W.Frag} {elts : List Expr} {kk : Nat} {tpos : Pos} (a e it : Addr) :
    Turn P w K (.Tuple elts kk tpos) (IteT K a) [e, it] e (fun i h => (∃ old, IsEnum h e it ((i : Nat) : Int) old) ∧ h.IsTupleIter it a i ∧ e ≠ it ∧ e ≠ a ∧ a ≠ it) where
  mem := by simp
  obj := fun i h st b hb => by
    obtain ⟨⟨old, he⟩, ⟨o, ho, hc, hd⟩, _⟩ := st
    rcases (show b = e ∨ b = it by simpa using hb) with z | z
    · rw [z]; exact ⟨_, he, fun v q => nomatch q⟩
    · rw [z]; exact ⟨o, ho, fun v q => by rw [hd] at q; cases q⟩
  keep := fun i h h' st k => let ⟨⟨old, he⟩, hi, hne⟩ := st; ⟨⟨old, k e (by simp) _ he⟩, hi.at fun o q => k it (by simp) o q, hne⟩
  item := by
    intro X hP hw hK hc i pins s σ H E I hf st hg
    subst hP hw hK
    obtain ⟨⟨old, he⟩, hit, hne, nea, nai⟩ := st
    obtain ⟨xs, x, hq, hx⟩ := hg
    obtain ⟨its, rv, p, hz⟩ := I.tuple hq
    obtain ⟨u, hu, ru⟩ := rv.get hx
    have hil' := (List.getElem?_eq_some_iff.mp hu).1
    have hel : e < s.heap.objs.size := Heap.lt_size he
    have hil : it < s.heap.objs.size := by obtain ⟨_, q, _⟩ := hit; exact Heap.lt_size q
    have D := Draws.tuple (prog := X.prog) (w := X.w) (A := X.A.in1) (show X.A.in1.handled = none from I.ok.hd hc) it a nai its.toArray
    refine wpAny_pyNext_enum_itemD D he ⟨hit, (show s.heap.IsTuple a its.toArray from p)⟩ (by simpa using hil') hne (by simp [hne, nea]) fun y h' tk hy ho hst hT hsz hk => ?_
    have ey : y = u := by
      have z : its[i]? = some y := by simpa using hy
      rw [hu] at z
      exact (Option.some.inj z).symm
    subst ey
    refine ⟨_, rfl, wpAny_letOwnedTupleGo_enum (s := { s with heap := h', toks := tk + 1 }) ho fun h'' he' sb => ?_⟩
    have hT2 : h''.get? s.heap.objs.size = some { cls := .type "tuple", data := .seq #[.int i tk, y] } := (sb.2 _ (Nat.ne_of_gt hel)).trans hT
    have new : ObjOk X.prog X.w (upd H s.heap.objs.size (.tup [.int (i : Nat), x])) h'' s.heap.objs.size (.tup [.int (i : Nat), x]) :=
      ⟨by show 2 ≤ sizeLine; decide, [.int i tk, y], .cons ⟨_, rfl⟩ (.cons ru .nil), ⟨_, hT2, rfl, _, rfl⟩⟩
    have I1 : Inv X pins σ (upd H s.heap.objs.size (.tup [.int (i : Nat), x])) { s with heap := h'', toks := tk + 1 } :=
      I.turnedNew (ch := [e, it]) (fun b ob hb q => (sb.2 b (fun z => hb (by simp [z]))).trans (hk b ob (fun z => hb (by simp [z])) (fun z => hb (by simp [z])) q)) hf (Nat.le_refl _) new
    refine ⟨.ref s.heap.objs.size, _, I1, rfl, ⟨_, x, rfl, I.hok.fresh (Nat.le_refl _), rfl, fun ys hy => by rw [I.tuple_inj hy hq]; exact hx⟩, ⟨⟨y, ?_⟩, hst.1.at fun o q => (sb.2 it (Ne.symm hne)).trans q, hne, nea, nai⟩, fun b hb => ?_⟩
    · have e1 : ((i + 1 : Nat) : Int) = (i : Int) + 1 := by omega
      rw [e1]; exact he'
    · have hb' : b < s.heap.objs.size := by
        rcases (show b = e ∨ b = it by simpa using hb) with z | z
        · rw [z]; exact hel
        · rw [z]; exact hil
      rw [upd_ne (Nat.ne_of_lt hb')]
      exact (hf b hb).1
  done := by
    intro X hP hw hK hc i pins s σ H E I hf st hg
    subst hP hw hK
    obtain ⟨⟨old, he⟩, hit, hne, nea, nai⟩ := st
    obtain ⟨xs, hq, hx⟩ := hg
    obtain ⟨its, rv, p, hz⟩ := I.tuple hq
    obtain ⟨f0, f1, f2, f3, f4, f5⟩ := hf it (by simp)
    have hl := rv.length
    have hTs : s.TypeIs (.ref e) "enumerate" := ⟨_, he, rfl⟩
    unfold pyNext
    refine wpAny_bind (wpAny_attempt (wpAny_callSpecial?_slot (name := Str.ofString "__next__") hTs F.slot_enumerate_next
      (wpAny_call_entry F.slot_enumerate_next hTs F.entry_enumerate_next ?_ (F.args_enumerate_next_1 _))))
    show wpAny _ _ (field (.ref e) 2 >>= _) _ _ _
    refine wpAny_bind (wpAny_field he rfl (x := .ref it) rfl ?_)
    refine wpAny_bind (wpAny_nextOf_tuple_end (show X.A.in1.handled = none from I.ok.hd hc) hit (show s.heap.IsTuple a its.toArray from p) (by simp; omega) fun h' y eb hx' => ?_)
    obtain ⟨o, ho, hc'⟩ := hx'
    refine wpAny_bind (wpAny_isInstance (T := "StopIteration") (b := true) ⟨o, ho, hc'⟩ isSubtype_stop ?_)
    exact wpAny_pure ⟨rfl, I.turned (t' := s.toks) (fun b o hb q => eb b o hb q) f0 f1 f3 f4 f5⟩
  self := fun A i s Q E st h => let ⟨⟨_, he⟩, _⟩ := st; wpAny_pyIter_enum he h
def iEnumA (K : PySem.W.Frag) (ta : TA) : TI := fun σ H R => ta σ H fun vs H1 => ∃ a, vs = [.ref a] ∧ ((∃ xs, SqL K H1 a xs ∧ R (Ite K a) H1) ∨ (∃ xs, SqT K H1 a xs ∧ R (IteT K a) H1))
theorem pi_enumA {X : Cx} {e : Expr} {ta : TA} {p pos tpos : Pos} {elts : List Expr} {kk : Nat} (hg : Gl X "enumerate") (hm : X.mg "enumerate" = none) (ha : PA X [e] ta) (hs : starEach [e] X.env = [(false, eval e X.env)] := by rfl) :
    PI X (.Tuple elts kk tpos) (.Call (.Name "enumerate" p) [e] [] pos) (iEnumA X.K ta) := by
  refine ⟨fun pins s σ H R I h => ?_⟩
  refine Call_ (ld_blt I hg hm boot_enumerate (PyProof.Rows.callWith_type1 (thn (ha.run pos pins s σ H _ I h) fun us s1 ⟨vs, H1, I1, r1, q1⟩ => ?_) hs rfl))
  obtain ⟨a, ex, q⟩ := q1
  subst ex
  cases r1 with
  | cons r rr =>
    cases rr
    cases r
    have big : ∀ b ∈ [s1.heap.objs.size + 1, s1.heap.objs.size], s1.heap.objs.size ≤ b := fun b hb => by
      rcases (show b = s1.heap.objs.size + 1 ∨ b = s1.heap.objs.size by simpa using hb) with z | z
      · rw [z]; exact Nat.le_add_right _ _
      · rw [z]; exact Nat.le_refl _
    rcases q with ⟨xs, hq, q⟩ | ⟨xs, hq, q⟩
    · obtain ⟨its, rv, p', hz⟩ := I1.list hq
      refine call_enumerate_list p'.isList fun h' he hit hsz hk => wpAny_pyIter_enum he ?_
      have I2 : Inv X pins σ H1 { s1 with heap := h' } := I1.kept (t' := s1.toks) hk
      exact ⟨s1.heap.objs.size + 1, [s1.heap.objs.size + 1, s1.heap.objs.size], _, _, H1, rfl, I2, turn_enum a (s1.heap.objs.size + 1) s1.heap.objs.size, ⟨⟨.none, he⟩, hit, Nat.succ_ne_self _⟩, fun b hb => I1.fpOk (big b hb) (I1.hok.fresh (big b hb)), q⟩
    · obtain ⟨its, rv, p', hz⟩ := I1.tuple hq
      have hp : s1.heap.IsTuple a its.toArray := p'
      have hal : a < s1.heap.objs.size := by obtain ⟨_, q, _⟩ := hp; exact Heap.lt_size q
      refine enum_begins1 (begins_tuple a its.toArray) hp fun h' he hit hsz hk => wpAny_pyIter_enum he ?_
      have I2 : Inv X pins σ H1 { s1 with heap := h' } := I1.kept (t' := s1.toks) hk
      exact ⟨s1.heap.objs.size + 1, [s1.heap.objs.size + 1, s1.heap.objs.size], _, _, H1, rfl, I2, turn_enumT a (s1.heap.objs.size + 1) s1.heap.objs.size, ⟨⟨.none, he⟩, ⟨_, hit, rfl, rfl⟩, Nat.succ_ne_self _, Nat.ne_of_gt (Nat.lt_succ_of_lt hal), Nat.ne_of_lt hal⟩, fun b hb => I1.fpOk (big b hb) (I1.hok.fresh (big b hb)), q⟩
section
variable {K : PySem.W.Frag} {a : Addr} {xs : List V} {g : TG} {tb : TS} {D : Ends} {σ : L2.St} {H : Hp}
theorem for_enumL (Pv : Nat → L2.St → Hp → Prop) (h0 : Pv 0 σ H) (hl : ∀ i σ H, i ≤ xs.length → Pv i σ H → SqL K H a xs)
    (hs : ∀ i x T σ H, xs[i]? = some x → H T = none → Pv i σ H → g (.ref T) σ (upd H T (.tup [.int (i : Nat), x])) fun σ2 H2 => tb { D with nx := Pv (i + 1), ct := Pv (i + 1), bk := D.nx } σ2 H2) (hd : ∀ σ H, Pv xs.length σ H → D.nx σ H) :
    ∃ W : Nat → Nat → L2.St → Hp → Prop, (∃ m, W 0 m σ H) ∧ ∀ i m σ H, W i m σ H →
      ((Ite K a).stop i H ∧ D.nx σ H) ∨ ((Ite K a).go i H ∧ ∃ N : L2.St → Hp → Prop, (∀ σ' H', N σ' H' → ∃ m', m' < m ∧ W (i + 1) m' σ' H') ∧ ∀ x H', (Ite K a).yld i H x H' → g x σ H' fun σ2 H2 => tb { D with nx := N, ct := N, bk := D.nx } σ2 H2) := by
  refine ⟨fun i m σ H => m = xs.length - i ∧ i ≤ xs.length ∧ Pv i σ H, ⟨xs.length, by simp, Nat.zero_le _, h0⟩, ?_⟩
  rintro i m σ H ⟨rfl, hi, p⟩
  have q := hl i σ H hi p
  by_cases hlt : i < xs.length
  · refine .inr ⟨⟨xs, xs[i], q, by simp [hlt]⟩, Pv (i + 1), fun σ' H' p' => ⟨xs.length - (i + 1), by omega, rfl, hlt, p'⟩, fun x H' y => ?_⟩
    obtain ⟨T, x', e1, e2, e3, e4⟩ := y
    subst e1 e3
    exact hs i x' T σ H (e4 xs q) e2 p
  · have e : i = xs.length := by omega
    subst e
    exact .inl ⟨⟨xs, q, Nat.le_refl _⟩, hd σ H p⟩
theorem for_enumT (Pv : Nat → L2.St → Hp → Prop) (h0 : Pv 0 σ H) (hl : ∀ i σ H, i ≤ xs.length → Pv i σ H → SqT K H a xs)
    (hs : ∀ i x T σ H, xs[i]? = some x → H T = none → Pv i σ H → g (.ref T) σ (upd H T (.tup [.int (i : Nat), x])) fun σ2 H2 => tb { D with nx := Pv (i + 1), ct := Pv (i + 1), bk := D.nx } σ2 H2) (hd : ∀ σ H, Pv xs.length σ H → D.nx σ H) :
    ∃ W : Nat → Nat → L2.St → Hp → Prop, (∃ m, W 0 m σ H) ∧ ∀ i m σ H, W i m σ H →
      ((IteT K a).stop i H ∧ D.nx σ H) ∨ ((IteT K a).go i H ∧ ∃ N : L2.St → Hp → Prop, (∀ σ' H', N σ' H' → ∃ m', m' < m ∧ W (i + 1) m' σ' H') ∧ ∀ x H', (IteT K a).yld i H x H' → g x σ H' fun σ2 H2 => tb { D with nx := N, ct := N, bk := D.nx } σ2 H2) := by
  refine ⟨fun i m σ H => m = xs.length - i ∧ i ≤ xs.length ∧ Pv i σ H, ⟨xs.length, by simp, Nat.zero_le _, h0⟩, ?_⟩
  rintro i m σ H ⟨rfl, hi, p⟩
  have q := hl i σ H hi p
  by_cases hlt : i < xs.length
  · refine .inr ⟨⟨xs, xs[i], q, by simp [hlt]⟩, Pv (i + 1), fun σ' H' p' => ⟨xs.length - (i + 1), by omega, rfl, hlt, p'⟩, fun x H' y => ?_⟩
    obtain ⟨T, x', e1, e2, e3, e4⟩ := y
    subst e1 e3
    exact hs i x' T σ H (e4 xs q) e2 p
  · have e : i = xs.length := by omega
    subst e
    exact .inl ⟨⟨xs, q, Nat.le_refl _⟩, hd σ H p⟩
end
/-! ### repr -/
/-- repr of what is no object -/
def rReprS : List V → Hp → VK → Prop := fun xs H Q => ∃ v, xs = [v] ∧ ((v = .non ∧ Q (.str "None") H) ∨ (∃ b : Bool, v = .bl b ∧ Q (.str (if b then "True" else "False")) H) ∨ (∃ i : Int, v = .int i ∧ i.natAbs.log2 < 1920 ∧ Q (.str (toString i)) H) ∨
  ∃ x : Str, v = .str x ∧ (reprText x).length ≤ sizeLine ∧ Q (.str (reprText x)) H)
theorem call_reprS {X : Cx} : CallR X (.builtin "repr") rReprS := by
  intro pins s σ H xs us Q I r h
  obtain ⟨v, rfl, h⟩ := h
  obtain ⟨u, rfl, rv⟩ := vals1 r
  rcases h with ⟨rfl, q⟩ | ⟨b, rfl, q⟩ | ⟨i, rfl, hz, q⟩ | ⟨x, rfl, hz, q⟩
  · cases rv
    exact PySem.P.repr_of_none ⟨.str _, H, I.tok _, ⟨_, rfl⟩, q⟩
  · cases rv
    exact PySem.P.repr_of_bool ⟨.str _, H, I.tok _, ⟨_, rfl⟩, q⟩
  · obtain ⟨t, rfl⟩ := rv
    exact PySem.P.repr_of_int hz ⟨.str _, H, I.tok _, ⟨_, rfl⟩, q⟩
  · obtain ⟨t, rfl⟩ := rv
    exact PySem.P.repr_of_str (t := t) ⟨.str _, H, I.tok _, ⟨_, rfl⟩, q⟩ hz
/-- repr of a list or tuple: plain data without dicts -/
def rRepr (K : PySem.W.Frag) : List V → Hp → VK → Prop := fun xs H Q => ∃ a d, xs = [.ref a] ∧ Dp K H (.ref a) d ∧ PyData.showable d = true ∧ PyData.hasDict d = false ∧ PyData.depth d ≤ 40 ∧ d.shown.length ≤ sizeLine ∧ Q (.str d.shown) H
theorem call_repr {X : Cx} (hg : X.A.guards = some []) (hu : X.A.units + 64 < cLine) : CallR X (.builtin "repr") (rRepr X.K) := by
  intro pins s σ H xs us Q I r h
  obtain ⟨a, d, rfl, hd, h1, h2, h3, h4, q⟩ := h
  obtain ⟨u, rfl, rv⟩ := vals1 r
  obtain ⟨as, R⟩ := Dp.reads I d _ u hd rv
  cases rv
  exact repr_of_reads' R h1 (PyData.noDict_hsm h2) hg (by omega) (fun _ _ e => e) (fun h' u' tk k => ⟨.str _, H, I.kept (t' := tk) k, ⟨_, rfl⟩, q⟩) h4
/-! ### isinstance of the exception that a suite holds, its own dict at d -/
structure ExcK (K : PySem.W.Frag) (C : Addr) : Prop where
  cl : (PySem.W.clsIn K C).isSome = true
  ga : PySem.W.findIn K (.ref C) "__getattribute__" = some (some (.builtin "BaseException.__getattribute__"))
  gt : PySem.W.findIn K (.ref C) "__getattr__" = some none
  sb : PySem.W.subIn K (.ref C) (.type "BaseException") = some true
  ca : PySem.W.findIn K (.ref C) "__class__" = some (some (.builtin "object.__class__"))
  sp : PySem.W.specialIn K (.builtin "object.__class__") "__get__" = some (some (.builtin "getset_descriptor.__get__"))
  tk : PySem.W.takesIn K (.builtin "object.__class__") = some true
  mo : PySem.W.mroIn K C (.type "object") = some true
def rIsD (K : PySem.W.Frag) (C d a : Addr) : List V → Hp → VK → Prop := fun xs H Q => ∃ (N : Addr) (g : Str) (v : V) (b : Bool), xs = [.ref a, .ref N] ∧ H d = some (.xd [(g, v)]) ∧ PySem.W.kitOne K (.ref C) (.ref N) = some b ∧ Q (.bl b) H
theorem call_isD {X : Cx} {a C d : Addr} {oe : Obj} {pn : List (Addr × Obj)} (T : ExcK X.K C) (hz : Zc (.ref C) (some d) oe) (hf : ∃ vs, oe.data = .fields vs) : CallR (X.suite a ((a, oe) :: pn)) (.builtin "isinstance") (rIsD X.K C d a) := by
  intro pins s σ H xs us Q I r h
  obtain ⟨N, g, v, b, rfl, hx, e, q⟩ := h
  obtain ⟨u1, u2, rfl, r1, r2⟩ := vals2 r
  cases r1
  cases r2
  obtain ⟨hget, _⟩ := I.pin (a, oe) (List.mem_append.mpr (.inl List.mem_cons_self))
  obtain ⟨vs, hd⟩ := hf
  have hx' : ObjOk X.prog X.w H s.heap d (.xd [(g, v)]) := I.hok d _ hx
  obtain ⟨mA, hns, hr⟩ := hx'
  obtain ⟨od, ho, hl⟩ := lookIn_ns hns
  have J : PySem.W.InstAt s.heap a oe C (some od) := ⟨hget, hz.1, by unfold PySem.W.notCls; rw [hd] <;> rfl, by rw [hz.2]; exact ho⟩
  exact PySem.W.kia_one (PySem.W.kitx_exc T.cl T.ga T.gt T.sb T.ca T.sp T.tk T.mo) I.kIn J e (fun z => nomatch z) fun tk => ⟨.bl b, H, I.kept (t' := tk) fun _ _ z => z, rfl, q⟩
/-! ### defs whose bodies show lists: they are told where nothing is being shown -/
structure FnG (P : Program) (w : World) (K : PySem.W.Frag) (mg : Str → Option Value) (base : Heap) (k : Nat) (f : Addr) (fd : FuncData) (ps : List Str) (sp : Sp) : Prop where
  len : ∀ vs H Q E, sp vs H Q E → vs.length = ps.length
  run : ∀ (A : Around) (outer : List Env) (s : Shared) (H : Hp) (args : Args) (us : List Value) (vs : List V) (Q : VK) (E : XK), Room k A → A.guards = some [] → Env0 P w K mg base A outer s H → BindsTo s fd args (ps.zip us) → Vals vs us → sp vs H Q E →
    codeAny (model P w) A (.call (.ref f) args) (CR CX0 outer P w H s Q E) s
end K1
/-! the text by places; short words for calls -/
namespace K1
open PySem PySem.Spec PyProof.Rows L2
def top (i : Nat) : Stmt := PySem.Challenge.pw_houseslessties_k01_machines_rows_and_wha.main.body.getD i (.Pass ⟨0, 0, 0, 0⟩)
abbrev sWhole : Stmt := top 8
abbrev sBelow : Stmt := top 9
abbrev sSeq : Stmt := top 10
abbrev sFnb : Stmt := top 11
abbrev sMInit : Stmt := inClass (top 16) 0
abbrev sMEq : Stmt := inClass (top 16) 1
abbrev sIsTab : Stmt := top 17
abbrev sChk : Stmt := top 18
abbrev sNeedS : Stmt := top 19
abbrev sNeedD : Stmt := top 20
abbrev sFault : Stmt := top 21
abbrev sRow : Stmt := top 22
abbrev sMoved : Stmt := top 23
abbrev sLed : Stmt := top 24
abbrev sFirst : Stmt := top 25
abbrev sOrbit : Stmt := top 26
abbrev sBox : Stmt := top 28
abbrev sTake : Stmt := top 29
abbrev sPick : Stmt := top 30
abbrev sTabs : Stmt := top 31
abbrev sRun : Stmt := top 32
abbrev sLog : Stmt := top 33
abbrev sHeard : Stmt := top 34
abbrev sTold : Stmt := top 35
abbrev sNone : Stmt := top 36
abbrev sLaw : Stmt := top 37
/-- a def of the text: its object, its name in the module, how its arguments bind -/
structure Df (K : PySem.W.Frag) (mg : Str → Option Value) (x : Str) (st : Stmt) (ps : List Str) (f : Addr) (fd : FuncData) : Prop where
  F : Fun K x x st f fd
  g : mg x = some (.ref f)
  b : Binds K fd ps []
section
variable {X : Cx} {CX : CXT} {k : Nat} {f : Addr} {fd : FuncData} {ps : List Str} {sp : Sp} {E : XK} {x : Str} {st : Stmt} {p pos : Pos} {e : Expr} {es : List Expr} {t : TA}
/-- x(e, ..) -/
theorem pc (D : Df X.K X.mg x st ps f fd) (G : FnOk X.prog X.w X.K X.mg X.base CX k f fd ps sp) (hr : Room k X.A) (hx : Passes CX X E) (ha : PA X (e :: es) t) (hg : Gl X x := by rfl)
    (hdb : (x == ("__debug__" : Str)) = false := by decide) (he : starEach (e :: es) X.env = (false, eval e X.env) :: starEach es X.env := by rfl) (hpl : (backTo pos (starEach es X.env)).any (·.1) = false := by rfl) :
    PE X (.Call (.Name x p) (e :: es) [] pos) (tCall sp [] E t) := pe_call G hr hg D.g D.F.kp D.b .nil hx ha hdb he hpl
end
/-- what a def that raises may let out at its caller's def -/
theorem pass1 {X : Cx} {E : XK} (tk : Takes X (fun cls d _ H => E cls d H)) : Passes (L2.CX X.prog X.w) X E := passes_call tk fun _ _ _ _ h => h
/-! ### tests by cases -/
theorem ifD {c : Bool} {A B : Prop} (h1 : c = true → A) (h2 : c = false → B) : if c = true then A else B := by
  cases c with
  | true => exact iteT (h1 rfl)
  | false => exact iteF (h2 rfl)
theorem eqv {α : Type} {P : α → Prop} {a b : α} (e : a = b) (h : P b) : P a := e ▸ h
theorem qbl {Q : VK} {H : Hp} {a b : Bool} (e : a = b) (h : Q (.bl b) H) : Q (.bl a) H := e ▸ h
/-! ### values of any kind -/
/-- what a value is: some items for a list or a tuple, none for the others -/
inductive KV (K : PySem.W.Frag) (H : Hp) : V → Option (List V) → Prop
  | int (i : Int) : KV K H (.int i) none
  | bl (b : Bool) : KV K H (.bl b) none
  | non : KV K H .non none
  | str (x : Str) : KV K H (.str x) none
  | lst {a : Addr} {xs : List V} (h : H a = some (.lst xs)) : KV K H (.ref a) (some xs)
  | tup {a : Addr} {xs : List V} (h : H a = some (.tup xs)) : KV K H (.ref a) (some xs)
theorem KV.same {K : PySem.W.Frag} {H H' : Hp} {v : V} {o : Option (List V)} (h : KV K H v o) (s : Same H H') : KV K H' v o := by
  cases h with
  | int i => exact .int i
  | bl b => exact .bl b
  | non => exact .non
  | str x => exact .str x
  | lst h => exact .lst (s _ _ h)
  | tup h => exact .tup (s _ _ h)
def wholeB : V → Bool | .int _ => true | _ => false
def boolB : V → Bool | .bl _ => true | _ => false
inductive Tg where | i | b | n | s | l | t
def Tg.nm : Tg → String | .i => "int" | .b => "bool" | .n => "NoneType" | .s => "str" | .l => "list" | .t => "tuple"
def Tg.isI : Tg → Bool | .i => true | _ => false
def Tg.isB : Tg → Bool | .b => true | _ => false
def Tg.isQ : Tg → Bool | .l => true | .t => true | _ => false
theorem KV.ty {K : PySem.W.Frag} {H : Hp} {v : V} {o : Option (List V)} (h : KV K H v o) : ∃ g : Tg, TyX K H v (.type g.nm) ∧ g.isI = wholeB v ∧ g.isB = boolB v ∧ g.isQ = o.isSome := by
  cases h with
  | int i => exact ⟨.i, .base (.int i), rfl, rfl, rfl⟩
  | bl b => exact ⟨.b, .base (.bl b), rfl, rfl, rfl⟩
  | non => exact ⟨.n, .base .non, rfl, rfl, rfl⟩
  | str x => exact ⟨.s, .base (.str x), rfl, rfl, rfl⟩
  | lst h => exact ⟨.l, .base (.lst h), rfl, rfl, rfl⟩
  | tup h => exact ⟨.t, .base (.tup h), rfl, rfl, rfl⟩
theorem kit_I (K : PySem.W.Frag) (g : Tg) : PySem.W.kitOne K (.type g.nm) (.type "int") = some (g.isI || g.isB) := by
  cases g <;> exact kit_ty (by decide +kernel)
theorem kit_B (K : PySem.W.Frag) (g : Tg) : PySem.W.kitOne K (.type g.nm) (.type "bool") = some g.isB := by
  cases g <;> exact kit_ty (by decide +kernel)
def Tg.isL : Tg → Bool | .l => true | _ => false
def Tg.isT : Tg → Bool | .t => true | _ => false
theorem kit_L (K : PySem.W.Frag) (g : Tg) : PySem.W.kitOne K (.type g.nm) (.type "list") = some g.isL := by
  cases g <;> exact kit_ty (by decide +kernel)
theorem kit_T (K : PySem.W.Frag) (g : Tg) : PySem.W.kitOne K (.type g.nm) (.type "tuple") = some g.isT := by
  cases g <;> exact kit_ty (by decide +kernel)
theorem kit_Q (K : PySem.W.Frag) (g : Tg) : PySem.W.kitAny K (.type g.nm) [.type "list", .type "tuple"] = some g.isQ := by
  refine kitAny_cons (kit_L K g) (fun e => kitAny_cons (kit_T K g) (fun e2 => ?_) fun e2 => ?_) fun e => ?_
  all_goals (cases g <;> first | rfl | (cases e; done) | (cases e2; done))
/-- the built-in names that the text uses are the built-in ones -/
structure Bt (mg : Str → Option Value) : Prop where
  isinstance : mg "isinstance" = none
  int : mg "int" = none
  bool : mg "bool" = none
  list : mg "list" = none
  tuple : mg "tuple" = none
  len : mg "len" = none
  enumerate : mg "enumerate" = none
  range : mg "range" = none
  sorted : mg "sorted" = none
  set : mg "set" = none
  repr : mg "repr" = none
  abs : mg "abs" = none
  min : mg "min" = none
  max : mg "max" = none
end K1
namespace K1
open PySem PySem.Spec PyProof.Rows L2
def belowB (v : V) (lim : Int) : Bool := match v with | .int i => decide (0 ≤ i) && decide (i < lim) | _ => false
def seqB (o : Option (List V)) (least most : Int) : Bool := match o with | some xs => decide (least ≤ (xs.length : Int)) && decide ((xs.length : Int) ≤ most) | none => false
def spWhole (K : PySem.W.Frag) : Sp := fun vs H Q _ => ∃ v o, vs = [v] ∧ KV K H v o ∧ Q (.bl (wholeB v)) H
def spBelow (K : PySem.W.Frag) : Sp := fun vs H Q _ => ∃ v o lim, vs = [v, .int lim] ∧ KV K H v o ∧ Q (.bl (belowB v lim)) H
def spSeq (K : PySem.W.Frag) : Sp := fun vs H Q _ => ∃ v o least most, vs = [v, .int least, .int most] ∧ KV K H v o ∧ ∀ H', Same H H' → Q (.bl (seqB o least most)) H'
section
variable {P : Program} {w : World} {K : PySem.W.Frag} {mg : Str → Option Value} {base : Heap}
theorem scW : FnScope ["value"] ["value"] (defScope sWhole) := ⟨rfl, rfl, rfl, by decide +kernel, rfl, by decide +kernel, by decide +kernel⟩
theorem ok_whole {f : Addr} {fd : FuncData} (D : Df K mg "is_whole" sWhole ["value"] f fd) (B : Bt mg) : FnOk P w K mg base CX0 1 f fd ["value"] (spWhole K) := by
  refine D.F.ok scW (fun vs H Q E h => ?_) (fun cdv A outer s H vs Q E hr h => ?_)
  · obtain ⟨v, o, rfl, _⟩ := h
    rfl
  · obtain ⟨v, o, rfl, kv, q⟩ := h
    obtain ⟨g, ty, eI, eB, eQ⟩ := kv.ty
    refine ⟨_, pss_one (ps_ret (pe_and (pe_callB call_isi (by rfl) B.isinstance (by decide +kernel) (pa_cons (pv 0) (pa_cons (pe_bltn (v := .ty "int") (by rfl) B.int PyProof.Rows.boot_int rfl) pa_nil)))
      (pe_one (pe_not (pe_callB call_isi (by rfl) B.isinstance (by decide +kernel) (pa_cons (pv 0) (pa_cons (pe_bltn (v := .ty "bool") (by rfl) B.bool PyProof.Rows.boot_bool rfl) pa_nil))))))), ?_⟩
    refine ⟨_, rfl, _, _, _, _, _, rfl, .ty _, ty, kit_I K g, _, rfl, ifD (fun e => ?_) fun e => ?_⟩
    · refine ⟨_, rfl, _, _, _, _, _, rfl, .ty _, ty, kit_B K g, _, rfl, ?_⟩
      have z : (!g.isB) = wholeB v := by rw [← eI]; cases g <;> first | rfl | cases e
      exact qbl z q
    · have z : false = wholeB v := by rw [← eI]; cases g <;> first | rfl | cases e
      exact qbl z q
theorem scB : FnScope ["value", "limit"] ["value", "limit"] (defScope sBelow) := ⟨rfl, rfl, rfl, by decide +kernel, rfl, by decide +kernel, by decide +kernel⟩
theorem ok_below {f fW : Addr} {fd fdW : FuncData} (D : Df K mg "is_below" sBelow ["value", "limit"] f fd) (DW : Df K mg "is_whole" sWhole ["value"] fW fdW) (B : Bt mg) : FnOk P w K mg base CX0 2 f fd ["value", "limit"] (spBelow K) := by
  have GW : FnOk P w K mg base CX0 1 fW fdW ["value"] (spWhole K) := ok_whole DW B
  refine D.F.ok scB (fun vs H Q E h => ?_) (fun cdv A outer s H vs Q E hr h => ?_)
  · obtain ⟨v, o, lim, rfl, _⟩ := h
    rfl
  · obtain ⟨v, o, lim, rfl, kv, q⟩ := h
    refine ⟨_, pss_one (ps_ret (pe_and (pc DW GW hr pass0 (pa_cons (pv 0) pa_nil)) (pe_one (pe_chain op_le op_lt pe_int (pv 0) (pv 1))))), ?_⟩
    refine ⟨_, rfl, _, _, rfl, kv, _, rfl, ifD (fun e => ?_) fun e => ?_⟩
    · obtain ⟨i, rfl⟩ : ∃ i, v = .int i := by
        cases v <;> first | exact ⟨_, rfl⟩ | cases e
      refine ⟨_, rfl, _, _, rfl, rfl, _, rfl, ifD (fun e2 => ?_) fun e2 => ?_⟩
      · refine ⟨_, rfl, _, _, rfl, rfl, ?_⟩
        have z : decide (i < lim) = belowB (.int i) lim := by
          show _ = (decide (0 ≤ i) && decide (i < lim))
          rw [e2]; rfl
        exact qbl z q
      · have z : false = belowB (.int i) lim := by
          show _ = (decide (0 ≤ i) && decide (i < lim))
          rw [e2]; rfl
        exact qbl z q
    · have z : false = belowB v lim := by cases v <;> first | rfl | cases e
      exact qbl z q
theorem scS : FnScope ["value", "least", "most"] ["value", "least", "most"] (defScope sSeq) := ⟨rfl, rfl, rfl, by decide +kernel, rfl, by decide +kernel, by decide +kernel⟩
theorem ok_seq {f : Addr} {fd : FuncData} (D : Df K mg "is_sequence" sSeq ["value", "least", "most"] f fd) (B : Bt mg) : FnOk P w K mg base CX0 1 f fd ["value", "least", "most"] (spSeq K) := by
  refine D.F.ok scS (fun vs H Q E h => ?_) (fun cdv A outer s H vs Q E hr h => ?_)
  · obtain ⟨v, o, least, most, rfl, _⟩ := h
    rfl
  · obtain ⟨v, o, least, most, rfl, kv, q⟩ := h
    refine ⟨_, pss_one (ps_ret (pe_and (pe_callB call_isiT (by rfl) B.isinstance (by decide +kernel) (pa_cons (pv 0) (pa_cons (pe_tup (pa_cons (pe_bltn (v := .ty "list") (by rfl) B.list PyProof.Rows.boot_list rfl) (pa_cons (pe_bltn (v := .ty "tuple") (by rfl) B.tuple PyProof.Rows.boot_tuple rfl) pa_nil))) pa_nil)))
      (pe_one (pe_chain op_le op_le (pv 1) (pe_callB call_len_seq (by rfl) B.len PySem.boot_len (pa_cons (pv 0) pa_nil)) (pv 2))))), ?_⟩
    refine ⟨_, rfl, (by show 2 ≤ sizeLine; decide), fun p hp => ?_⟩
    have sm : Same H (upd H p (.tup [.ty "list", .ty "tuple"])) := fun b o e => by rw [upd_ne (ne_of_none e hp)]; exact e
    obtain ⟨g, ty, eI, eB, eQ⟩ := (kv.same sm).ty
    refine ⟨_, _, _, _, _, _, rfl, upd_same, .cons (.ty _) (.cons (.ty _) .nil), ty, kit_Q K g, _, rfl, ifD (fun e => ?_) fun e => ?_⟩
    · have kv2 := kv.same sm
      generalize hH1 : upd H p (.tup [.ty "list", .ty "tuple"]) = H1 at *
      rw [eQ] at e
      have q2 := q _ sm
      cases kv with
      | lst h =>
        rename_i a xs
        have h1 : H1 a = some (.lst xs) := sm _ _ h
        refine ⟨_, rfl, _, rfl, _, _, rfl, .inl (SqL.of h1), _, _, rfl, rfl, _, rfl, ifD (fun e2 => ?_) fun e2 => ?_⟩
        · refine ⟨_, rfl, _, _, rfl, rfl, qbl ?_ q2⟩
          show _ = (decide (least ≤ (xs.length : Int)) && decide ((xs.length : Int) ≤ most))
          rw [e2]; rfl
        · refine qbl ?_ q2
          show _ = (decide (least ≤ (xs.length : Int)) && decide ((xs.length : Int) ≤ most))
          rw [e2]; rfl
      | tup h =>
        rename_i a xs
        have h1 : H1 a = some (.tup xs) := sm _ _ h
        refine ⟨_, rfl, _, rfl, _, _, rfl, .inr (SqT.of h1), _, _, rfl, rfl, _, rfl, ifD (fun e2 => ?_) fun e2 => ?_⟩
        · refine ⟨_, rfl, _, _, rfl, rfl, qbl ?_ q2⟩
          show _ = (decide (least ≤ (xs.length : Int)) && decide ((xs.length : Int) ≤ most))
          rw [e2]; rfl
        · refine qbl ?_ q2
          show _ = (decide (least ≤ (xs.length : Int)) && decide ((xs.length : Int) ≤ most))
          rw [e2]; rfl
      | _ => cases e
    · rw [eQ] at e
      have z : o = none := by cases o <;> first | rfl | cases e
      subst z
      exact q _ sm
end
end K1
namespace K1
open PySem PySem.Spec PyProof.Rows L2
def fnb (xs : List V) (lim : Int) : V := match xs.findIdx? (fun x => !belowB x lim) with | some i => .int (i : Nat) | none => .non
theorem fnb_at {xs : List V} {lim : Int} {i : Nat} {x : V} (hx : xs[i]? = some x) (hn : belowB x lim = false) (hb : ∀ j y, j < i → xs[j]? = some y → belowB y lim = true) : fnb xs lim = .int (i : Nat) := by
  obtain ⟨hi, ex⟩ := List.getElem?_eq_some_iff.mp hx
  have e : xs.findIdx? (fun x => !belowB x lim) = some i := by
    rw [List.findIdx?_eq_some_iff_getElem]
    refine ⟨hi, by rw [ex, hn]; rfl, fun j hj => ?_⟩
    have hj' : j < xs.length := Nat.lt_trans hj hi
    have := hb j xs[j] hj (by simp [hj'])
    simp [this]
  unfold fnb
  rw [e]
theorem fnb_none {xs : List V} {lim : Int} (hb : ∀ j y, j < xs.length → xs[j]? = some y → belowB y lim = true) : fnb xs lim = .non := by
  have e : xs.findIdx? (fun x => !belowB x lim) = none := by
    rw [List.findIdx?_eq_none_iff]
    intro x hx
    obtain ⟨j, hj, e⟩ := List.mem_iff_getElem.mp hx
    have := hb j xs[j] hj (by simp [hj])
    rw [← e, this]; rfl
  unfold fnb
  rw [e]
/-- a list or tuple at a -/
def SeqA (H : Hp) (a : Addr) (xs : List V) : Prop := H a = some (.lst xs) ∨ H a = some (.tup xs)
theorem SeqA.same {H H' : Hp} {a : Addr} {xs : List V} (h : SeqA H a xs) (s : Same H H') : SeqA H' a xs := h.elim (fun h => .inl (s _ _ h)) fun h => .inr (s _ _ h)
theorem SeqA.kv {K : PySem.W.Frag} {H : Hp} {a : Addr} {xs : List V} (h : SeqA H a xs) : KV K H (.ref a) (some xs) := h.elim .lst .tup
/-- each item is of some kind -/
def Kinds (K : PySem.W.Frag) (H : Hp) (xs : List V) : Prop := ∀ x ∈ xs, ∃ o, KV K H x o
theorem Kinds.same {K : PySem.W.Frag} {H H' : Hp} {xs : List V} (h : Kinds K H xs) (s : Same H H') : Kinds K H' xs := fun x hx => let ⟨o, k⟩ := h x hx; ⟨o, k.same s⟩
theorem same_new {H : Hp} {p : Addr} {o : HO} (hp : H p = none) : Same H (upd H p o) := fun b u e => by rw [upd_ne (ne_of_none e hp)]; exact e
def spFnb (K : PySem.W.Frag) : Sp := fun vs H Q _ => ∃ a xs lim, vs = [.ref a, .int lim] ∧ SeqA H a xs ∧ Kinds K H xs ∧ ∀ H', Same H H' → Q (fnb xs lim) H'
section
variable {P : Program} {w : World} {K : PySem.W.Frag} {mg : Str → Option Value} {base : Heap}
theorem scF : FnScope ["items", "limit", "at", "item"] ["items", "limit"] (defScope sFnb) := ⟨rfl, rfl, rfl, by decide +kernel, rfl, by decide +kernel, by decide +kernel⟩
/-- one turn of the search, and the way behind it: the iterator is a list's or a tuple's -/
theorem ok_fnb {f fB : Addr} {fd fdB : FuncData} (D : Df K mg "first_not_below" sFnb ["items", "limit"] f fd) (DB : Df K mg "is_below" sBelow ["value", "limit"] fB fdB) (B : Bt mg)
    (GB : FnOk P w K mg base CX0 2 fB fdB ["value", "limit"] (spBelow K)) : FnOk P w K mg base CX0 3 f fd ["items", "limit"] (spFnb K) := by
  refine D.F.ok scF (fun vs H Q E h => ?_) (fun cdv A outer s H vs Q E hr h => ?_)
  · obtain ⟨a, xs, lim, rfl, _⟩ := h
    rfl
  · obtain ⟨a, xs, lim, rfl, hS, hK, q⟩ := h
    refine ⟨_, pss_cons (ps_for PassesOwn.never rfl (pi_enumA (by rfl) B.enumerate (pa_cons (pv 0) pa_nil))
        (pg_tup rfl (pgs_cons (pg_name (i := 2) scF.nd rfl (.inl rfl)) (pgs_cons (pg_name (i := 3) scF.nd rfl (.inl rfl)) pgs_nil)))
        (pss_one (ps_if (pt_not (pt_val (pc DB GB hr pass0 (pa_cons (pv 3) (pa_cons (pv 1) pa_nil))))) (pss_one (ps_ret (pv 2))) pss_nil)))
      (pss_one (ps_ret pe_non)), ?_⟩
    let Pv : Nat → L2.St → Hp → Prop := fun i σ H' => ∃ v2 v3 : Option V, σ = [some (.ref a), some (.int lim), v2, v3] ∧ Same H H' ∧ ∀ j y, j < i → xs[j]? = some y → belowB y lim = true
    have end_ : ∀ σ H', Pv xs.length σ H' → Q .non H' := fun σ H' ⟨v2, v3, _, sm, hb⟩ => by
      have := q H' sm
      rw [fnb_none hb] at this
      exact this
    refine ⟨_, rfl, a, rfl, ?_⟩
    rcases hS with hS | hS
    · refine .inl ⟨xs, SqL.of hS, for_enumL (K := K) Pv ⟨none, none, rfl, Same.refl H, fun j y hj => absurd hj (Nat.not_lt_zero _)⟩ (fun i σ H' _ ⟨_, _, _, sm, _⟩ => SqL.of (sm _ _ hS)) ?_ end_⟩
      rintro i x T σ H' hx hT ⟨v2, v3, rfl, sm, hb⟩
      have sm2 : Same H (upd H' T (.tup [.int (i : Nat), x])) := sm.trans (same_new hT)
      obtain ⟨o, kv⟩ := hK x (List.mem_of_getElem? hx)
      refine ⟨T, _, rfl, SqT.of upd_same, rfl, _, _, rfl, _, _, rfl, rfl, ?_⟩
      refine ⟨_, rfl, _, rfl, _, o, lim, rfl, kv.same sm2, _, rfl, ?_⟩
      refine ifD (fun e => ?_) fun e => ?_
      · refine ⟨_, rfl, ?_⟩
        have e' : belowB x lim = false := by simpa using e
        have := q _ sm2
        rw [fnb_at hx e' hb] at this
        exact this
      · have e' : belowB x lim = true := by simpa using e
        refine ⟨_, _, rfl, sm2, fun j y hj hy => ?_⟩
        rcases Nat.lt_succ_iff_lt_or_eq.mp hj with z | z
        · exact hb j y z hy
        · subst z
          rw [hx] at hy
          rw [← Option.some.inj hy]
          exact e'
    · refine .inr ⟨xs, SqT.of hS, for_enumT (K := K) Pv ⟨none, none, rfl, Same.refl H, fun j y hj => absurd hj (Nat.not_lt_zero _)⟩ (fun i σ H' _ ⟨_, _, _, sm, _⟩ => SqT.of (sm _ _ hS)) ?_ end_⟩
      rintro i x T σ H' hx hT ⟨v2, v3, rfl, sm, hb⟩
      have sm2 : Same H (upd H' T (.tup [.int (i : Nat), x])) := sm.trans (same_new hT)
      obtain ⟨o, kv⟩ := hK x (List.mem_of_getElem? hx)
      refine ⟨T, _, rfl, SqT.of upd_same, rfl, _, _, rfl, _, _, rfl, rfl, ?_⟩
      refine ⟨_, rfl, _, rfl, _, o, lim, rfl, kv.same sm2, _, rfl, ?_⟩
      refine ifD (fun e => ?_) fun e => ?_
      · refine ⟨_, rfl, ?_⟩
        have e' : belowB x lim = false := by simpa using e
        have := q _ sm2
        rw [fnb_at hx e' hb] at this
        exact this
      · have e' : belowB x lim = true := by simpa using e
        refine ⟨_, _, rfl, sm2, fun j y hj hy => ?_⟩
        rcases Nat.lt_succ_iff_lt_or_eq.mp hj with z | z
        · exact hb j y z hy
        · subst z
          rw [hx] at hy
          rw [← Option.some.inj hy]
          exact e'
end
end K1
namespace K1
open PySem PySem.Spec PyProof.Rows L2
/-- the module's numbers -/
structure Ct (mg : Str → Option Value) : Prop where
  tabs : ∃ t, mg "MOST_TABLES" = some (.int 8 t)
  states : ∃ t, mg "MOST_STATES" = some (.int 12 t)
  row : ∃ t, mg "MOST_ROW" = some (.int 10000 t)
/-- a walk over a list or a tuple -/
def iSeqA (K : PySem.W.Frag) (tl : TE) : TI := fun σ H R => tl σ H fun x H1 => ∃ a, x = .ref a ∧ ((∃ xs, SqL K H1 a xs ∧ R (Itl K a) H1) ∨ (∃ xs, SqT K H1 a xs ∧ R (Itt K a) H1))
theorem pi_seqA {X : Cx} {tg l : Expr} {tl : TE} (hl : PE X l tl) : PI X tg l (iSeqA X.K tl) := by
  refine ⟨fun pins s σ H R I h => ?_⟩
  refine thn (hl.run pins s σ H _ I h) fun v s1 ⟨x, H1, I1, r1, q1⟩ => ?_
  obtain ⟨a, e, q⟩ := q1
  subst e
  cases r1
  rcases q with ⟨xs, hq, q⟩ | ⟨xs, hq, q⟩
  · obtain ⟨its, rv, p, hz⟩ := I1.list hq
    refine wpAny_pyIter_list p.isList ?_
    refine ⟨s1.heap.objs.size, [s1.heap.objs.size], _, _, H1, rfl, I1.kept (t' := s1.toks) fun b o e => Heap.get?_push_of_some _ e, turn_list a _, ⟨_, Heap.get?_push_size _ rfl, rfl, rfl⟩, fun b hb => ?_, q⟩
    have e : b = s1.heap.objs.size := by simpa using hb
    subst e
    exact I1.fpOk (Nat.le_refl _) (I1.hok.fresh (Nat.le_refl _))
  · obtain ⟨its, rv, p, hz⟩ := I1.tuple hq
    refine wpAny_pyIter_tuple (show s1.heap.IsTuple a its.toArray from p) ?_
    refine ⟨s1.heap.objs.size, [s1.heap.objs.size], _, _, H1, rfl, I1.kept (t' := s1.toks) fun b o e => Heap.get?_push_of_some _ e, turn_tuple a _, ⟨_, Heap.get?_push_size _ rfl, rfl, rfl⟩, fun b hb => ?_, q⟩
    have e : b = s1.heap.objs.size := by simpa using hb
    subst e
    exact I1.fpOk (Nat.le_refl _) (I1.hok.fresh (Nat.le_refl _))
/-- a table of n states, by its items (none: no sequence) -/
def isTab (r : Option (List V)) (n : Int) : Bool := seqB r n n && match r with | some ys => decide (fnb ys n = V.non) | none => false
/-- a value and, if it is a sequence, the kinds of its items -/
structure Rw (K : PySem.W.Frag) (H : Hp) (x : V) (r : Option (List V)) : Prop where
  kv : KV K H x r
  ks : ∀ ys, r = some ys → Kinds K H ys
theorem Rw.same {K : PySem.W.Frag} {H H' : Hp} {x : V} {r : Option (List V)} (h : Rw K H x r) (s : Same H H') : Rw K H' x r := ⟨h.kv.same s, fun ys e => (h.ks ys e).same s⟩
theorem KV.seqA {K : PySem.W.Frag} {H : Hp} {x : V} {ys : List V} (h : KV K H x (some ys)) : ∃ a, x = .ref a ∧ SeqA H a ys := by
  cases h with
  | lst h => exact ⟨_, rfl, .inl h⟩
  | tup h => exact ⟨_, rfl, .inr h⟩
def spIsTab (K : PySem.W.Frag) : Sp := fun vs H Q _ => ∃ x r n, vs = [x, .int n] ∧ Rw K H x r ∧ ∀ H', Same H H' → Q (.bl (isTab r n)) H'
section
variable {P : Program} {w : World} {K : PySem.W.Frag} {mg : Str → Option Value} {base : Heap}
theorem scIT : FnScope ["value", "states"] ["value", "states"] (defScope sIsTab) := ⟨rfl, rfl, rfl, by decide +kernel, rfl, by decide +kernel, by decide +kernel⟩
theorem ok_istab {f fS fF : Addr} {fd fdS fdF : FuncData} (D : Df K mg "is_table" sIsTab ["value", "states"] f fd) (DS : Df K mg "is_sequence" sSeq ["value", "least", "most"] fS fdS) (DF : Df K mg "first_not_below" sFnb ["items", "limit"] fF fdF)
    (GS : FnOk P w K mg base CX0 1 fS fdS ["value", "least", "most"] (spSeq K)) (GF : FnOk P w K mg base CX0 3 fF fdF ["items", "limit"] (spFnb K)) : FnOk P w K mg base CX0 4 f fd ["value", "states"] (spIsTab K) := by
  refine D.F.ok scIT (fun vs H Q E h => ?_) (fun cdv A outer s H vs Q E hr h => ?_)
  · obtain ⟨x, r, n, rfl, _⟩ := h
    rfl
  · obtain ⟨x, r, n, rfl, hw, q⟩ := h
    refine ⟨_, pss_one (ps_ret (pe_and (pc DS GS (hr.mono (by decide)) pass0 (pa_cons (pv 0) (pa_cons (pv 1) (pa_cons (pv 1) pa_nil)))) (pe_one (pe_cmp (pc_isN (pc DF GF hr pass0 (pa_cons (pv 0) (pa_cons (pv 1) pa_nil)))) rfl)))), ?_⟩
    refine ⟨_, rfl, _, rfl, _, rfl, _, r, n, n, rfl, hw.kv, fun H1 sm => ⟨_, rfl, ifD (fun e => ?_) fun e => ?_⟩⟩
    · cases r with
      | none => cases e
      | some ys =>
        obtain ⟨a, rfl, hS⟩ := hw.kv.seqA
        refine ⟨_, rfl, _, rfl, a, ys, n, rfl, hS.same sm, (hw.ks ys rfl).same sm, fun H2 sm2 => qbl ?_ (q _ (sm.trans sm2))⟩
        show _ = (seqB (some ys) n n && _)
        rw [e]; rfl
    · refine qbl ?_ (q _ sm)
      show _ = (seqB r n n && _)
      rw [e]; rfl
end
end K1
namespace K1
open PySem PySem.Spec PyProof.Rows L2
/-- the items of a lot of tables, each with what it holds -/
structure Rws (K : PySem.W.Frag) (H : Hp) (xs : List V) (rs : List (Option (List V))) : Prop where
  len : xs.length = rs.length
  at_ : ∀ (i : Nat) x r, xs[i]? = some x → rs[i]? = some r → Rw K H x r
theorem Rws.same {K : PySem.W.Frag} {H H' : Hp} {xs : List V} {rs : List (Option (List V))} (h : Rws K H xs rs) (s : Same H H') : Rws K H' xs rs := ⟨h.len, fun i x r e1 e2 => (h.at_ i x r e1 e2).same s⟩
theorem Rws.get {K : PySem.W.Frag} {H : Hp} {xs : List V} {rs : List (Option (List V))} (h : Rws K H xs rs) {i : Nat} {x : V} (e : xs[i]? = some x) : ∃ r, rs[i]? = some r ∧ Rw K H x r := by
  have hi : i < rs.length := h.len ▸ (List.getElem?_eq_some_iff.mp e).1
  exact ⟨rs[i], by simp [hi], h.at_ i x _ e (by simp [hi])⟩
/-- what is told of a value that is no machine: none for a machine's tables (xs of the value, by their items) -/
def chkAt (o : Option (List (Option (List V)))) : Option Int :=
  match o with
  | none => some (-1)
  | some rs => if rs.length < 1 ∨ 8 < rs.length then some (-1) else
    match rs[0]? with
    | some (some y0) => if y0.length < 1 ∨ 12 < y0.length then some 0 else (rs.findIdx? fun r => !isTab r (y0.length : Int)).map fun i => (i : Int)
    | _ => some 0
/-- a value that may be a machine's tables; of its items nothing is known where there are too many, or none -/
inductive Mv (K : PySem.W.Frag) (H : Hp) : V → Option (List (Option (List V))) → Prop
  | no {v : V} (h : KV K H v none) : Mv K H v none
  | yes {v : V} {xs : List V} {rs : List (Option (List V))} (h : KV K H v (some xs)) (r : Rws K H xs rs) : Mv K H v (some rs)
theorem Mv.same {K : PySem.W.Frag} {H H' : Hp} {v : V} {o : Option (List (Option (List V)))} (h : Mv K H v o) (s : Same H H') : Mv K H' v o := by
  cases h with
  | no h => exact .no (h.same s)
  | yes h r => exact .yes (h.same s) (r.same s)
/-- tables that stand at ta, each as a tuple -/
def TabsAt (H : Hp) (ta : Addr) (ts : List (List V)) : Prop := ∃ as : List Addr, H ta = some (.tup (as.map V.ref)) ∧ as.length = ts.length ∧ ∀ (i : Nat) a t, as[i]? = some a → ts[i]? = some t → H a = some (.tup t)
theorem TabsAt.same {H H' : Hp} {ta : Addr} {ts : List (List V)} (h : TabsAt H ta ts) (s : Same H H') : TabsAt H' ta ts := let ⟨as, h1, h2, h3⟩ := h; ⟨as, s _ _ h1, h2, fun i a t e1 e2 => s _ _ (h3 i a t e1 e2)⟩
/-- an error of the class at C, its field f at v -/
def Rz (C : Addr) (f : Str) (v : V) (H : Hp) (E : XK) : Prop := ∀ d H', Same H H' → H d = none → H' d = some (.xd [(f, v)]) → E (.ref C) (some d) H'
/-- checked_tables: the tables, or the error -/
def spChk (K : PySem.W.Frag) (C : Addr) : Sp := fun vs H Q E => ∃ v o, vs = [v] ∧ Mv K H v o ∧ (∀ z, chkAt o = some z → Rz C "at" (.int z) H E) ∧
  (chkAt o = none → ∀ (ts : List (List V)), o = some (ts.map some) → ∀ ta H', Same H H' → TabsAt H' ta ts → Q (.ref ta) H')
theorem chk_neg {o : Option (List (Option (List V)))} (h : seqB (o.map fun rs => rs.map fun _ => V.non) 1 8 = false) : chkAt o = some (-1) := by
  cases o with
  | none => rfl
  | some rs =>
    have z : rs.length < 1 ∨ 8 < rs.length := by
      have e : (decide ((1 : Int) ≤ ((rs.map fun _ => V.non).length : Int)) && decide (((rs.map fun _ => V.non).length : Int) ≤ 8)) = false := h
      rw [List.length_map] at e
      simp only [Bool.and_eq_false_iff, decide_eq_false_iff_not] at e
      omega
    show (if rs.length < 1 ∨ 8 < rs.length then some (-1) else _) = _
    rw [if_pos z]
theorem chk_zero {rs : List (Option (List V))} {r0 : Option (List V)} (h1 : seqB (some (rs.map fun _ => V.non)) 1 8 = true) (h0 : rs[0]? = some r0) (h : seqB r0 1 12 = false) : chkAt (some rs) = some 0 := by
  have e : (decide ((1 : Int) ≤ ((rs.map fun _ => V.non).length : Int)) && decide (((rs.map fun _ => V.non).length : Int) ≤ 8)) = true := h1
  rw [List.length_map] at e
  simp only [Bool.and_eq_true, decide_eq_true_eq] at e
  have z : ¬ (rs.length < 1 ∨ 8 < rs.length) := by omega
  show (if rs.length < 1 ∨ 8 < rs.length then some (-1) else _) = _
  rw [if_neg z, h0]
  cases r0 with
  | none => rfl
  | some y0 =>
    have e : (decide ((1 : Int) ≤ (y0.length : Int)) && decide ((y0.length : Int) ≤ 12)) = false := h
    simp only [Bool.and_eq_false_iff, decide_eq_false_iff_not] at e
    have z : y0.length < 1 ∨ 12 < y0.length := by omega
    show (if y0.length < 1 ∨ 12 < y0.length then some 0 else _) = _
    rw [if_pos z]
theorem chk_in {rs : List (Option (List V))} {y0 : List V} (h1 : seqB (some (rs.map fun _ => V.non)) 1 8 = true) (h0 : rs[0]? = some (some y0)) (h : seqB (some y0) 1 12 = true) : chkAt (some rs) = (rs.findIdx? fun r => !isTab r (y0.length : Int)).map fun i => (i : Int) := by
  have e : (decide ((1 : Int) ≤ ((rs.map fun _ => V.non).length : Int)) && decide (((rs.map fun _ => V.non).length : Int) ≤ 8)) = true := h1
  rw [List.length_map] at e
  simp only [Bool.and_eq_true, decide_eq_true_eq] at e
  have z : ¬ (rs.length < 1 ∨ 8 < rs.length) := by omega
  have e2 : (decide ((1 : Int) ≤ (y0.length : Int)) && decide ((y0.length : Int) ≤ 12)) = true := h
  simp only [Bool.and_eq_true, decide_eq_true_eq] at e2
  have z2 : ¬ (y0.length < 1 ∨ 12 < y0.length) := by omega
  show (if rs.length < 1 ∨ 8 < rs.length then some (-1) else _) = _
  rw [if_neg z, h0]
  show (if y0.length < 1 ∨ 12 < y0.length then some 0 else _) = _
  rw [if_neg z2]
theorem find_at {α : Type} {rs : List α} {p : α → Bool} {i : Nat} {r : α} (hr : rs[i]? = some r) (hn : p r = true) (hb : ∀ (j : Nat) y, j < i → rs[j]? = some y → p y = false) : rs.findIdx? p = some i := by
  obtain ⟨hi, ex⟩ := List.getElem?_eq_some_iff.mp hr
  rw [List.findIdx?_eq_some_iff_getElem]
  refine ⟨hi, by rw [ex, hn], fun j hj => ?_⟩
  have hj' : j < rs.length := Nat.lt_trans hj hi
  have := hb j rs[j] hj (by simp [hj'])
  simp [this]
theorem find_none {α : Type} {rs : List α} {p : α → Bool} (hb : ∀ (j : Nat) y, j < rs.length → rs[j]? = some y → p y = false) : rs.findIdx? p = none := by
  rw [List.findIdx?_eq_none_iff]
  intro x hx
  obtain ⟨j, hj, e⟩ := List.mem_iff_getElem.mp hx
  exact e ▸ hb j rs[j] hj (by simp [hj])
theorem isTab_some {r : Option (List V)} {n : Int} (h : isTab r n = true) : ∃ ys, r = some ys := by
  cases r with
  | none => cases h
  | some ys => exact ⟨ys, rfl⟩
/-- tuple(x) -/
def rTup (K : PySem.W.Frag) : List V → Hp → VK → Prop := fun xs H Q => ∃ p ys, xs = [.ref p] ∧ ((SqL K H p ys ∧ ∀ l, H l = none → Q (.ref l) (upd H l (.tup ys))) ∨ (SqT K H p ys ∧ Q (.ref p) H))
theorem ctup {X : Cx} {K : PySem.W.Frag} (h : X.K = K) : CallR X (.type "tuple") (rTup K) := by
  subst h
  exact call_tuple_of
section
variable {P : Program} {w : World} {K : PySem.W.Frag} {mg : Str → Option Value} {base : Heap}
theorem scC : FnScope ["value", "states", "at", "table"] ["value"] (defScope sChk) := ⟨rfl, rfl, rfl, by decide +kernel, rfl, by decide +kernel, by decide +kernel⟩
theorem ok_chk {f fS fI C cI : Addr} {fd fdS fdI : FuncData} {bm : List Value} {ql : Str} (D : Df K mg "checked_tables" sChk ["value"] f fd) (DS : Df K mg "is_sequence" sSeq ["value", "least", "most"] fS fdS) (DI : Df K mg "is_table" sIsTab ["value", "states"] fI fdI)
    (B : Bt mg) (c : Ct mg) (T : LAt.Txt K mg "BadMachine" ql bm C cI) (GS : FnOk P w K mg base CX0 1 fS fdS ["value", "least", "most"] (spSeq K)) (GI : FnOk P w K mg base CX0 4 fI fdI ["value", "states"] (spIsTab K)) :
    FnOk P w K mg base (L2.CX P w) 5 f fd ["value"] (spChk K C) := by
  obtain ⟨t1, hc1⟩ := c.tabs
  obtain ⟨t2, hc2⟩ := c.states
  refine D.F.okX scC (fun vs H Q E h => ?_) (fun cdv A outer s H vs Q E hr h => ?_)
  · obtain ⟨v, o, rfl, _⟩ := h
    rfl
  · obtain ⟨v, o, rfl, hm, qE, qQ⟩ := h
    have hr1 : Room 1 _ := hr.mono (by decide)
    refine ⟨_, pss_cons (ps_if (pt_not (pt_val (pc DS GS hr1 pass0 (pa_cons (pv 0) (pa_cons pe_int (pa_cons (pe_glob (v := .int 8) (by rfl) hc1 ⟨_, rfl⟩) pa_nil)))))) (pss_one (ps_raise_LAt rfl T hr (takes_of rfl rfl rfl rfl) (pa_cons (pe_un un_neg pe_int) pa_nil))) pss_nil)
      (pss_cons (ps_if (pt_not (pt_val (pc DS GS hr1 pass0 (pa_cons (pe_ix ix_seq (pv 0) pe_int (fun _ _ => rfl)) (pa_cons pe_int (pa_cons (pe_glob (v := .int 12) (by rfl) hc2 ⟨_, rfl⟩) pa_nil)))))) (pss_one (ps_raise_LAt rfl T hr (takes_of rfl rfl rfl rfl) (pa_cons pe_int pa_nil))) pss_nil)
      (pss_cons (ps_set (i := 1) scC.nd rfl (.inl rfl) (pe_callB call_len_seq (by rfl) B.len PySem.boot_len (pa_cons (pe_ix ix_seq (pv 0) pe_int (fun _ _ => rfl)) pa_nil)))
      (pss_cons (ps_for (passes_of rfl) rfl (pi_enumA (by rfl) B.enumerate (pa_cons (pv 0) pa_nil)) (pg_tup rfl (pgs_cons (pg_name (i := 2) scC.nd rfl (.inl rfl)) (pgs_cons (pg_name (i := 3) scC.nd rfl (.inl rfl)) pgs_nil)))
        (pss_one (ps_if (pt_not (pt_val (pc DI GI hr pass0 (pa_cons (pv 3) (pa_cons (pv 1) pa_nil))))) (pss_one (ps_raise_LAt rfl T hr (takes_of rfl rfl rfl rfl) (pa_cons (pv 2) pa_nil))) pss_nil)))
      (pss_one (ps_ret (pe_callTy call_tuple_of (by rfl) B.tuple (by decide +kernel) (pa_cons
        (pe_lc (own := [("table", 3)]) (g := gName 3) (tt := tYes) rfl scC.nd (pi_seqA (pv 0)) (blkOk_by (N := ["value", "states", "at", "table"]) (sc := defScope sChk) (by decide +kernel)) (fun _ _ _ _ _ => pg_name (i := 3) scC.nd rfl (Or.inl rfl)) (fun _ _ _ _ _ => pts_nil)
          (fun _ _ _ _ _ => pe_callTy (ctup (K := K) rfl) (by rfl) B.tuple PyProof.Rows.boot_tuple (pa_cons (pv 3) pa_nil))) pa_nil))))))), ?_⟩
    cases hm with
    | no kv =>
      refine ⟨_, rfl, _, none, 1, 8, rfl, kv, fun H1 s1 => ⟨_, rfl, ?_⟩⟩
      exact iteT ⟨_, rfl, _, rfl, fun d hd => qE (-1) rfl d _ (s1.trans (same_new hd)) (s1.free hd) upd_same⟩
    | yes kv R =>
      rename_i xs rs
      have eqs : ∀ l m, seqB (some xs) l m = seqB (some (rs.map fun _ => V.non)) l m := fun l m => by
        show (_ && _) = (_ && _)
        rw [List.length_map, R.len]
      refine ⟨_, rfl, _, some xs, 1, 8, rfl, kv, fun H1 s1 => ⟨_, rfl, ifD (fun e1 => ?_) fun e1 => ?_⟩⟩
      · have e1' : seqB (some xs) 1 8 = false := by simpa using e1
        rw [eqs] at e1'
        exact ⟨_, rfl, _, rfl, fun d hd => qE (-1) (chk_neg (o := some rs) e1') d _ (s1.trans (same_new hd)) (s1.free hd) upd_same⟩
      · have e1' : seqB (some xs) 1 8 = true := by simpa using e1
        have e1r := e1'
        rw [eqs] at e1r
        have hx0 : ∃ x0, xs[0]? = some x0 := by
          have z : (decide ((1 : Int) ≤ (xs.length : Int)) && decide ((xs.length : Int) ≤ 8)) = true := e1'
          simp only [Bool.and_eq_true, decide_eq_true_eq] at z
          exact ⟨xs[0]'(by omega), by simp⟩
        obtain ⟨x0, hx0⟩ := hx0
        obtain ⟨r0, hr0, W0⟩ := R.get hx0
        obtain ⟨a, rfl, hS⟩ := kv.seqA
        have ixr : ∀ {H' : Hp} {Qv : VK}, Same H H' → Qv x0 H' → rIx K (.ref a) (.int 0) H' Qv := fun {H' Qv} sm q => by
          rcases hS.same sm with h | h
          · exact .inl ⟨a, xs, 0, x0, rfl, rfl, SqL.of h, atI_nat (j := 0) hx0, q⟩
          · exact .inr (.inl ⟨a, xs, 0, x0, rfl, rfl, SqT.of h, atI_nat (j := 0) hx0, q⟩)
        refine ⟨_, rfl, ixr s1 ?_⟩
        refine ⟨_, r0, 1, 12, rfl, W0.kv.same s1, fun H2 s2 => ⟨_, rfl, ifD (fun e2 => ?_) fun e2 => ?_⟩⟩
        · have e2' : seqB r0 1 12 = false := by simpa using e2
          exact ⟨_, rfl, fun d hd => qE 0 (chk_zero e1r hr0 e2') d _ ((s1.trans s2).trans (same_new hd)) ((s1.trans s2).free hd) upd_same⟩
        · have e2' : seqB r0 1 12 = true := by simpa using e2
          have s12 := s1.trans s2
          obtain ⟨y0, rfl⟩ : ∃ y0, r0 = some y0 := by
            cases r0 with
            | none => cases e2'
            | some y0 => exact ⟨y0, rfl⟩
          have hc := chk_in e1r hr0 e2'
          obtain ⟨a0, rfl, hS0⟩ := W0.kv.seqA
          refine ⟨_, rfl, ixr s12 ⟨a0, y0, rfl, (hS0.same s12).elim (fun h => .inl (SqL.of h)) (fun h => .inr (SqT.of h)), ?_⟩⟩
          -- the loop
          let Pv : Nat → L2.St → Hp → Prop := fun i σ H' => ∃ v2 v3 : Option V, σ = [some (.ref a), some (.int (y0.length : Int)), v2, v3] ∧ Same H H' ∧ ∀ (j : Nat) r, j < i → rs[j]? = some r → isTab r (y0.length : Int) = true
          refine ⟨_, rfl, a, rfl, ?_⟩
          have P0 : Pv 0 [some (.ref a), some (.int (y0.length : Int)), none, none] H2 := ⟨none, none, rfl, s12, fun j r hj => absurd hj (Nat.not_lt_zero _)⟩
          rcases hS with hS | hS
          · refine .inl ⟨xs, SqL.of (s12 _ _ hS), for_enumL (K := K) Pv P0 (fun i σ H' _ ⟨_, _, _, sm, _⟩ => SqL.of (sm _ _ hS)) ?_ ?_⟩
            · rintro i x T σ H' hx hT ⟨v2, v3, rfl, sm, hb⟩
              have sm2 : Same H (upd H' T (.tup [.int (i : Nat), x])) := sm.trans (same_new hT)
              obtain ⟨r, hr', W⟩ := R.get hx
              refine ⟨T, _, rfl, SqT.of upd_same, rfl, _, _, rfl, _, _, rfl, rfl, ?_⟩
              refine ⟨_, rfl, _, rfl, x, r, (y0.length : Int), rfl, W.same sm2, fun H3 s3 => ⟨_, rfl, ifD (fun e => ?_) fun e => ?_⟩⟩
              · have e' : isTab r (y0.length : Int) = false := by simpa using e
                have hz : chkAt (some rs) = some (i : Int) := by
                  rw [hc, find_at hr' (by rw [e']; rfl) fun j y hj hy => by rw [hb j y hj hy]; rfl]; rfl
                exact ⟨_, rfl, _, rfl, fun d hd => qE _ hz d _ ((sm2.trans s3).trans (same_new hd)) ((sm2.trans s3).free hd) upd_same⟩
              · have e' : isTab r (y0.length : Int) = true := by simpa using e
                refine ⟨_, _, rfl, sm2.trans s3, fun j y hj hy => ?_⟩
                rcases Nat.lt_succ_iff_lt_or_eq.mp hj with z | z
                · exact hb j y z hy
                · subst z
                  rw [hr'] at hy
                  rw [← Option.some.inj hy]
                  exact e'
            · rintro σ H' ⟨v2, v3, rfl, sm, hb⟩
              have hz : chkAt (some rs) = none := by
                rw [hc, find_none fun j y hj hy => by rw [hb j y (by rw [R.len]; exact hj) hy]; rfl]; rfl
              have hsome : ∀ (i : Nat) r, rs[i]? = some r → ∃ ys, r = some ys := fun i r hi => isTab_some (hb i r (by rw [R.len]; exact (List.getElem?_eq_some_iff.mp hi).1) hi)
              have hts : some rs = some ((rs.map fun r => r.getD []).map some) := by
                congr 1
                rw [List.map_map]
                refine (List.map_id rs).symm.trans (List.map_congr_left fun r hr => ?_)
                obtain ⟨i, hi, e⟩ := List.mem_iff_getElem.mp hr
                obtain ⟨ys, rfl⟩ := hsome i r (by rw [← e]; simp [hi])
                rfl
              have qq := qQ hz _ hts
              have gett : ∀ (i : Nat) x, xs[i]? = some x → ∃ b ys, x = .ref b ∧ rs[i]? = some (some ys) ∧ SeqA H b ys := fun i x hx => by
                obtain ⟨r, h1, W⟩ := R.get hx
                obtain ⟨ys, rfl⟩ := hsome i r h1
                obtain ⟨b, rfl, h2⟩ := W.kv.seqA
                exact ⟨b, ys, rfl, h1, h2⟩
              let Lv : Addr → Nat → Hp → Prop := fun D i H2 => ∃ as : List Addr, as.length = i ∧ Same H' H2 ∧ H2 D = some (.lst (as.map V.ref)) ∧ ∀ (j : Nat) b t, as[j]? = some b → rs[j]? = some (some t) → H2 b = some (.tup t)
              refine ⟨_, rfl, a, rfl, .inl ⟨xs, SqL.of (sm _ _ hS), fun D hD => lc_list (K := K) (a := a) (xs := xs) (Lv D) ⟨[], rfl, same_new hD, upd_same, fun j b t z => nomatch z⟩ (fun i H2 _ ⟨as, _, s5, _⟩ => SqL.of (s5 _ _ (sm _ _ hS))) ?_ ?_⟩⟩
              · rintro i x H2 hx ⟨as, hl, s5, hD2, hA⟩
                obtain ⟨b, ys, rfl, h1, h2⟩ := gett i x hx
                have nD : ∀ c o, H' c = some o → c ≠ D := fun c o e => ne_of_none e hD
                have hlen : (as.map V.ref).length < sizeLine := by
                  rw [List.length_map, hl, sizeLine_eq]
                  have := (List.getElem?_eq_some_iff.mp hx).1
                  have z : (decide ((1 : Int) ≤ (xs.length : Int)) && decide ((xs.length : Int) ≤ 8)) = true := e1'
                  simp only [Bool.and_eq_true, decide_eq_true_eq] at z
                  omega
                have fin : ∀ (l : Addr) (H3 : Hp), Same H2 H3 → H3 l = some (.tup ys) → H3 D = some (.lst (as.map V.ref)) → l ≠ D → Lv D (i + 1) (upd H3 D (.lst (as.map V.ref ++ [.ref l]))) := fun l H3 s6 hl3 hD3 hne => by
                  have keep : ∀ c o, H3 c = some o → c ≠ D → upd H3 D (.lst (as.map V.ref ++ [.ref l])) c = some o := fun c o e n => by rw [upd_ne n]; exact e
                  refine ⟨as ++ [l], by rw [List.length_append, hl]; rfl, fun c o e => keep c o (s6 _ _ (s5 _ _ e)) (nD c o e), by rw [upd_same, List.map_append]; rfl, fun j b t hb ht => ?_⟩
                  by_cases hj : j < as.length
                  · rw [List.getElem?_append_left hj] at hb
                    have z := s6 _ _ (hA j b t hb ht)
                    exact keep _ _ z (ne_of z hD3 (by intro q; cases q))
                  · have hj2 : j = as.length := by
                      have := (List.getElem?_eq_some_iff.mp hb).1
                      rw [List.length_append] at this
                      have q : ([l] : List Addr).length = 1 := rfl
                      omega
                    subst hj2
                    rw [List.getElem?_append_right (Nat.le_refl _), Nat.sub_self] at hb
                    have eb : l = b := Option.some.inj hb
                    subst eb
                    rw [hl, h1] at ht
                    rw [← Option.some.inj (Option.some.inj ht)]
                    exact keep _ _ hl3 hne
                refine ⟨rfl, _, rfl, b, ys, rfl, ?_⟩
                rcases h2 with h2 | h2
                · have hb2 := s5 _ _ (sm _ _ h2)
                  refine .inl ⟨SqL.of hb2, fun l hl2 => ?_⟩
                  have nlD : l ≠ D := fun e => by rw [e, hD2] at hl2; cases hl2
                  exact ⟨_, (upd_ne nlD.symm).trans hD2, hlen, fin l _ (same_new hl2) upd_same ((upd_ne nlD.symm).trans hD2) nlD⟩
                · have hb2 := s5 _ _ (sm _ _ h2)
                  refine .inr ⟨SqT.of hb2, ?_⟩
                  exact ⟨_, hD2, hlen, fin b _ (Same.refl _) hb2 hD2 (ne_of hb2 hD2 (by intro q; cases q))⟩
              · rintro H2 ⟨as, hl, s5, hD2, hA⟩
                refine ⟨D, _, rfl, .inl ⟨SqL.of hD2, fun ta hta => ?_⟩⟩
                have s7 : Same H (upd H2 ta (.tup (as.map V.ref))) := (sm.trans s5).trans (same_new hta)
                refine qq ta _ s7 ⟨as, upd_same, by rw [hl, List.length_map, R.len], fun j b t hb ht => ?_⟩
                have hj : rs[j]? = some (some t) := by
                  rw [List.getElem?_map] at ht
                  cases e : rs[j]? with
                  | none => rw [e] at ht; cases ht
                  | some r =>
                    obtain ⟨ys, rfl⟩ := hsome j r e
                    rw [e] at ht
                    rw [← Option.some.inj ht]; rfl
                exact same_new hta _ _ (hA j b t hb hj)
          · refine .inr ⟨xs, SqT.of (s12 _ _ hS), for_enumT (K := K) Pv P0 (fun i σ H' _ ⟨_, _, _, sm, _⟩ => SqT.of (sm _ _ hS)) ?_ ?_⟩
            · rintro i x T σ H' hx hT ⟨v2, v3, rfl, sm, hb⟩
              have sm2 : Same H (upd H' T (.tup [.int (i : Nat), x])) := sm.trans (same_new hT)
              obtain ⟨r, hr', W⟩ := R.get hx
              refine ⟨T, _, rfl, SqT.of upd_same, rfl, _, _, rfl, _, _, rfl, rfl, ?_⟩
              refine ⟨_, rfl, _, rfl, x, r, (y0.length : Int), rfl, W.same sm2, fun H3 s3 => ⟨_, rfl, ifD (fun e => ?_) fun e => ?_⟩⟩
              · have e' : isTab r (y0.length : Int) = false := by simpa using e
                have hz : chkAt (some rs) = some (i : Int) := by
                  rw [hc, find_at hr' (by rw [e']; rfl) fun j y hj hy => by rw [hb j y hj hy]; rfl]; rfl
                exact ⟨_, rfl, _, rfl, fun d hd => qE _ hz d _ ((sm2.trans s3).trans (same_new hd)) ((sm2.trans s3).free hd) upd_same⟩
              · have e' : isTab r (y0.length : Int) = true := by simpa using e
                refine ⟨_, _, rfl, sm2.trans s3, fun j y hj hy => ?_⟩
                rcases Nat.lt_succ_iff_lt_or_eq.mp hj with z | z
                · exact hb j y z hy
                · subst z
                  rw [hr'] at hy
                  rw [← Option.some.inj hy]
                  exact e'
            · rintro σ H' ⟨v2, v3, rfl, sm, hb⟩
              have hz : chkAt (some rs) = none := by
                rw [hc, find_none fun j y hj hy => by rw [hb j y (by rw [R.len]; exact hj) hy]; rfl]; rfl
              have hsome : ∀ (i : Nat) r, rs[i]? = some r → ∃ ys, r = some ys := fun i r hi => isTab_some (hb i r (by rw [R.len]; exact (List.getElem?_eq_some_iff.mp hi).1) hi)
              have hts : some rs = some ((rs.map fun r => r.getD []).map some) := by
                congr 1
                rw [List.map_map]
                refine (List.map_id rs).symm.trans (List.map_congr_left fun r hr => ?_)
                obtain ⟨i, hi, e⟩ := List.mem_iff_getElem.mp hr
                obtain ⟨ys, rfl⟩ := hsome i r (by rw [← e]; simp [hi])
                rfl
              have qq := qQ hz _ hts
              have gett : ∀ (i : Nat) x, xs[i]? = some x → ∃ b ys, x = .ref b ∧ rs[i]? = some (some ys) ∧ SeqA H b ys := fun i x hx => by
                obtain ⟨r, h1, W⟩ := R.get hx
                obtain ⟨ys, rfl⟩ := hsome i r h1
                obtain ⟨b, rfl, h2⟩ := W.kv.seqA
                exact ⟨b, ys, rfl, h1, h2⟩
              let Lv : Addr → Nat → Hp → Prop := fun D i H2 => ∃ as : List Addr, as.length = i ∧ Same H' H2 ∧ H2 D = some (.lst (as.map V.ref)) ∧ ∀ (j : Nat) b t, as[j]? = some b → rs[j]? = some (some t) → H2 b = some (.tup t)
              refine ⟨_, rfl, a, rfl, .inr ⟨xs, SqT.of (sm _ _ hS), fun D hD => lc_tup (K := K) (a := a) (xs := xs) (Lv D) ⟨[], rfl, same_new hD, upd_same, fun j b t z => nomatch z⟩ (fun i H2 _ ⟨as, _, s5, _⟩ => SqT.of (s5 _ _ (sm _ _ hS))) ?_ ?_⟩⟩
              · rintro i x H2 hx ⟨as, hl, s5, hD2, hA⟩
                obtain ⟨b, ys, rfl, h1, h2⟩ := gett i x hx
                have nD : ∀ c o, H' c = some o → c ≠ D := fun c o e => ne_of_none e hD
                have hlen : (as.map V.ref).length < sizeLine := by
                  rw [List.length_map, hl, sizeLine_eq]
                  have := (List.getElem?_eq_some_iff.mp hx).1
                  have z : (decide ((1 : Int) ≤ (xs.length : Int)) && decide ((xs.length : Int) ≤ 8)) = true := e1'
                  simp only [Bool.and_eq_true, decide_eq_true_eq] at z
                  omega
                have fin : ∀ (l : Addr) (H3 : Hp), Same H2 H3 → H3 l = some (.tup ys) → H3 D = some (.lst (as.map V.ref)) → l ≠ D → Lv D (i + 1) (upd H3 D (.lst (as.map V.ref ++ [.ref l]))) := fun l H3 s6 hl3 hD3 hne => by
                  have keep : ∀ c o, H3 c = some o → c ≠ D → upd H3 D (.lst (as.map V.ref ++ [.ref l])) c = some o := fun c o e n => by rw [upd_ne n]; exact e
                  refine ⟨as ++ [l], by rw [List.length_append, hl]; rfl, fun c o e => keep c o (s6 _ _ (s5 _ _ e)) (nD c o e), by rw [upd_same, List.map_append]; rfl, fun j b t hb ht => ?_⟩
                  by_cases hj : j < as.length
                  · rw [List.getElem?_append_left hj] at hb
                    have z := s6 _ _ (hA j b t hb ht)
                    exact keep _ _ z (ne_of z hD3 (by intro q; cases q))
                  · have hj2 : j = as.length := by
                      have := (List.getElem?_eq_some_iff.mp hb).1
                      rw [List.length_append] at this
                      have q : ([l] : List Addr).length = 1 := rfl
                      omega
                    subst hj2
                    rw [List.getElem?_append_right (Nat.le_refl _), Nat.sub_self] at hb
                    have eb : l = b := Option.some.inj hb
                    subst eb
                    rw [hl, h1] at ht
                    rw [← Option.some.inj (Option.some.inj ht)]
                    exact keep _ _ hl3 hne
                refine ⟨rfl, _, rfl, b, ys, rfl, ?_⟩
                rcases h2 with h2 | h2
                · have hb2 := s5 _ _ (sm _ _ h2)
                  refine .inl ⟨SqL.of hb2, fun l hl2 => ?_⟩
                  have nlD : l ≠ D := fun e => by rw [e, hD2] at hl2; cases hl2
                  exact ⟨_, (upd_ne nlD.symm).trans hD2, hlen, fin l _ (same_new hl2) upd_same ((upd_ne nlD.symm).trans hD2) nlD⟩
                · have hb2 := s5 _ _ (sm _ _ h2)
                  refine .inr ⟨SqT.of hb2, ?_⟩
                  exact ⟨_, hD2, hlen, fin b _ (Same.refl _) hb2 hD2 (ne_of hb2 hD2 (by intro q; cases q))⟩
              · rintro H2 ⟨as, hl, s5, hD2, hA⟩
                refine ⟨D, _, rfl, .inl ⟨SqL.of hD2, fun ta hta => ?_⟩⟩
                have s7 : Same H (upd H2 ta (.tup (as.map V.ref))) := (sm.trans s5).trans (same_new hta)
                refine qq ta _ s7 ⟨as, upd_same, by rw [hl, List.length_map, R.len], fun j b t hb ht => ?_⟩
                have hj : rs[j]? = some (some t) := by
                  rw [List.getElem?_map] at ht
                  cases e : rs[j]? with
                  | none => rw [e] at ht; cases ht
                  | some r =>
                    obtain ⟨ys, rfl⟩ := hsome j r e
                    rw [e] at ht
                    rw [← Option.some.inj ht]; rfl
                exact same_new hta _ _ (hA j b t hb hj)
end
end K1
namespace K1
open PySem PySem.Spec PyProof.Rows L2
/-! ### the machine's object -/
def mf (ta : Addr) (n k : Int) : List (Str × V) := putF "states" (.int k) (putF "deeds" (.int n) (putF "tables" (.ref ta) []))
theorem mf_t (ta : Addr) (n k : Int) : (mf ta n k).lookup ("tables" : Str) = some (.ref ta) := by
  unfold mf
  rw [lookup_putF, if_neg (by decide +kernel), lookup_putF, if_neg (by decide +kernel), lookup_putF, if_pos rfl]
theorem mf_d (ta : Addr) (n k : Int) : (mf ta n k).lookup ("deeds" : Str) = some (.int n) := by
  unfold mf
  rw [lookup_putF, if_neg (by decide +kernel), lookup_putF, if_pos rfl]
theorem mf_s (ta : Addr) (n k : Int) : (mf ta n k).lookup ("states" : Str) = some (.int k) := by
  unfold mf
  rw [lookup_putF, if_pos rfl]
/-- the machine at m, of the class at M: tables that stand at ta -/
def MachAt (M : Addr) (H : Hp) (m ta : Addr) (ts : List (List V)) : Prop :=
  (∃ (dx : Addr) (t0 : List V), ts[0]? = some t0 ∧ H m = some (.ins M dx (mf ta (ts.length : Int) (t0.length : Int)))) ∧ TabsAt H ta ts
theorem MachAt.same {M : Addr} {H H' : Hp} {m ta : Addr} {ts : List (List V)} (h : MachAt M H m ta ts) (s : Same H H') : MachAt M H' m ta ts :=
  let ⟨⟨dx, t0, h0, h1⟩, h2⟩ := h
  ⟨⟨dx, t0, h0, s _ _ h1⟩, h2.same s⟩
/-- what the walk asks of the class Machine, at M -/
structure McT (K : PySem.W.Frag) (mg : Str → Option Value) (M : Addr) : Prop where
  cl : Cls K M
  nT : NoAttr K M "tables"
  nD : NoAttr K M "deeds"
  nS : NoAttr K M "states"
  g : mg "Machine" = some (.ref M)
  ca : PySem.W.findIn K (.ref M) "__class__" = some (some (.builtin "object.__class__"))
  sp : PySem.W.specialIn K (.builtin "object.__class__") "__get__" = some (some (.builtin "getset_descriptor.__get__"))
  tk : PySem.W.takesIn K (.builtin "object.__class__") = some true
  mo : PySem.W.mroIn K M (.type "object") = some true
/-- __init__ of a fresh machine -/
def spMInit (K : PySem.W.Frag) (C M : Addr) : Sp := fun vs H Q E => ∃ m dx v o, vs = [.ref m, v] ∧ H m = some (.ins M dx []) ∧ Mv K H v o ∧ (∀ z, chkAt o = some z → Rz C "at" (.int z) H E) ∧
  (chkAt o = none → ∀ (ts : List (List V)), o = some (ts.map some) → ∀ ta H', (∀ b u, H b = some u → b ≠ m → H' b = some u) → MachAt M H' m ta ts → Q .non H')
theorem chk_first {ts : List (List V)} (h : chkAt (some (ts.map some)) = none) : ∃ t0, ts[0]? = some t0 := by
  cases ts with
  | nil =>
    have z : chkAt (some ([] : List (Option (List V)))) = some (-1) := rfl
    rw [show (([] : List (List V)).map some) = [] from rfl, z] at h
    cases h
  | cons a r => exact ⟨a, rfl⟩
section
variable {P : Program} {w : World} {K : PySem.W.Frag} {mg : Str → Option Value} {base : Heap}
theorem scMI : FnScope ["self", "tables"] ["self", "tables"] (defScope sMInit) := ⟨rfl, rfl, rfl, by decide +kernel, rfl, by decide +kernel, by decide +kernel⟩
theorem ok_minit {f fC C M : Addr} {fd fdC : FuncData} (F : Fun K "__init__" "Machine.__init__" sMInit f fd) (DC : Df K mg "checked_tables" sChk ["value"] fC fdC) (B : Bt mg) (T : McT K mg M)
    (GC : FnOk P w K mg base (L2.CX P w) 5 fC fdC ["value"] (spChk K C)) : FnOk P w K mg base (L2.CX P w) 6 f fd ["self", "tables"] (spMInit K C M) := by
  refine F.okX scMI (fun vs H Q E h => ?_) (fun cdv A outer s H vs Q E hr h => ?_)
  · obtain ⟨m, dx, v, o, rfl, _⟩ := h
    rfl
  · obtain ⟨m, dx, v, o, rfl, hm, mv, qE, qQ⟩ := h
    refine ⟨_, pss_cons (ps_fld (pv 0) (pc DC GC hr (pass1 (takes_of rfl rfl rfl rfl)) (pa_cons (pv 1) pa_nil)) rfl)
      (pss_cons (ps_fld (pv 0) (pe_callB call_len_seq (by rfl) B.len PySem.boot_len (pa_cons (pe_fld (pv 0) rfl) pa_nil)) rfl)
      (pss_one (ps_fld (pv 0) (pe_callB call_len_seq (by rfl) B.len PySem.boot_len (pa_cons (pe_ix ix_tup (pe_fld (pv 0) rfl) pe_int (fun _ _ => rfl)) pa_nil)) rfl))), ?_⟩
    refine ⟨_, rfl, v, o, rfl, mv, fun z hz d H' sm hd he => qE z hz d H' sm hd he, fun hz ts hts ta H' sm hT => ?_⟩
    subst hts
    obtain ⟨t0, h0⟩ := chk_first hz
    have hm1 := sm _ _ hm
    obtain ⟨as, ha1, ha2, ha3⟩ := hT
    have nma : m ≠ ta := ne_of hm1 ha1 (by intro q; cases q)
    have k1 : ∀ {fs : List (Str × V)}, (upd H' m (.ins M dx fs)) ta = some (.tup (as.map V.ref)) := fun {fs} => by rw [upd_ne nma.symm]; exact ha1
    obtain ⟨a0, ea0⟩ : ∃ a0, as[0]? = some a0 := by
      have : 0 < as.length := by rw [ha2]; exact (List.getElem?_eq_some_iff.mp h0).1
      exact ⟨as[0], by simp [this]⟩
    have hA0 := ha3 0 a0 t0 ea0 h0
    have nm0 : m ≠ a0 := ne_of hm1 hA0 (by intro q; cases q)
    refine ⟨_, rfl, m, M, dx, [], rfl, hm1, T.cl, T.nT, (by show 0 < 1000; decide), ?_⟩
    refine ⟨_, rfl, m, M, dx, _, _, rfl, upd_same, T.cl, T.nT, (by rw [lookup_putF, if_pos rfl]), ta, _, rfl, .inr (SqT.of k1), _, rfl, m, M, dx, _, rfl, upd_same, T.cl, T.nD, (by show 1 < 1000; decide), ?_⟩
    rw [upd_upd]
    refine ⟨_, rfl, m, M, dx, _, _, rfl, upd_same, T.cl, T.nT, (by rw [lookup_putF, if_neg (by decide +kernel), lookup_putF, if_pos rfl]), ta, _, 0, _, rfl, rfl, SqT.of k1, atI_nat (j := 0) (by rw [List.getElem?_map, ea0]; rfl), a0, t0, rfl, .inr (SqT.of (by rw [upd_ne nm0.symm]; exact hA0)), _, rfl, m, M, dx, _, rfl, upd_same, T.cl, T.nS, (by show 2 < 1000; decide), ?_⟩
    rw [upd_upd]
    refine qQ hz ts rfl ta _ (fun b u e hb => ?_) ⟨⟨dx, t0, h0, ?_⟩, as, k1, ha2, fun i a t e1 e2 => ?_⟩
    · rw [upd_ne hb]
      exact sm _ _ e
    · rw [upd_same]
      show some (HO.ins M dx (putF "states" (.int t0.length) (putF "deeds" (.int ((as.map V.ref).length : Int)) (putF "tables" (.ref ta) [])))) = _
      rw [List.length_map, ha2]
      rfl
    · have z := ha3 i a t e1 e2
      rw [upd_ne (ne_of z hm1 (by intro q; cases q))]
      exact z
end
end K1
namespace K1
open PySem PySem.Spec PyProof.Rows L2
/-- x == y by x's own __eq__: y another such instance, or a tuple -/
def rEqOwn (C : Addr) (sp : Sp) : R2 := fun x y H Q => ∃ (a : Addr) (dx : Addr) (fs : List (Str × V)), x = .ref a ∧ H a = some (.ins C dx fs) ∧ ((∃ (b dy : Addr) (gs : List (Str × V)), y = .ref b ∧ H b = some (.ins C dy gs)) ∨ ∃ (b : Addr) (ys : List V), y = .ref b ∧ H b = some (.tup ys)) ∧
  sp [x, y] H (fun v H' => ∃ k, v = .bl k ∧ Q v H') E0
theorem op_eqOwn {X : Cx} {n : Nat} {C f : Addr} {fd : FuncData} {ps : List Str} {sp : Sp} (F : FnOk X.prog X.w X.K X.mg X.base CX0 n f fd ps sp) (hr : Room n X.A)
    (hs : PySem.W.findIn X.K (.ref C) "__eq__" = some (some (.ref f))) (hf : PySem.W.isFn X.K (.ref f) = true) (hb : Binds X.K fd ps []) (nf : PySem.W.notFirst X.K C (.type "tuple") = true) : OpR X (compareOp .Eq) (rEqOwn C sp) := by
  intro pins s σ H x y v u Q I rx ry hq
  obtain ⟨a, dx, fs, rfl, ha, hy, hsp⟩ := hq
  cases rx
  show wpAny (model X.prog X.w) X.A (richCompare .Eq (.ref a) u) (EP X pins σ Q) X.xe s
  obtain ⟨mA, J, _⟩ := ins_get I.hok ha
  obtain ⟨od, J, _⟩ := J.look
  obtain ⟨m, hF⟩ := I.fr
  have tl : ∃ tb, PySem.W.Looks (model X.prog X.w) s.heap (typeOf u) tb ∧ PySem.W.notFirst X.K C tb = true := by
    rcases hy with ⟨b, dy, gs, rfl, hb'⟩ | ⟨b, ys, rfl, hb'⟩
    · cases ry
      obtain ⟨mB, J', _⟩ := ins_get I.hok hb'
      obtain ⟨od', J', _⟩ := J'.look
      exact ⟨.ref C, J'.type, by simp [PySem.W.notFirst]⟩
    · cases ry
      obtain ⟨_, its, rv, o, h1, h2, _⟩ := (show ObjOk X.prog X.w H s.heap b (.tup ys) from I.hok b _ hb')
      exact ⟨.type "tuple", h2 ▸ (PySem.W.Looks.ld h1).andThen .now, nf⟩
  obtain ⟨tb, tl, hn⟩ := tl
  refine PySem.W.cmp_K (op := .Eq) (tb := tb) hr.units0 hF I.ok.mod.kin J tl hn hs hf ?_
  have hl := F.len _ _ _ _ hsp
  have r2 : Vals [V.ref a, y] [Value.ref a, u] := .cons rfl (.cons ry .nil)
  refine wpAny_call (codeAny_mono (F.run X.A X.stack s H ⟨[.ref a, u], []⟩ [.ref a, u] [.ref a, y] _ E0 hr I.env0 (by
    have := hb s [.ref a, u] I.kIn (by simpa using hl)
    simpa using this) r2 hsp) fun r s' hq => ?_)
  cases r with
  | error e => exact (show False from hq).elim
  | ok fl =>
    cases fl with
    | ret w =>
      obtain ⟨z, H', I', rz, k, ez, q⟩ := I.after hq
      subst ez
      cases rz
      exact ⟨.bl k, H', I', rfl, q⟩
    | next => exact False.elim hq
    | brk => exact False.elim hq
    | cont => exact False.elim hq
/-! ### whole numbers by rows -/
/-- the tables of a machine as lists of whole numbers -/
abbrev Ts := List (List Int)
def vrow (t : List Int) : List V := t.map V.int
def vts (ts : Ts) : List (List V) := ts.map vrow
def dI (t : List Int) : List PyData := t.map PyData.int
def dT (ts : Ts) : PyData := .tuple (ts.map fun t => .tuple (dI t))
section
variable {K : PySem.W.Frag} {H : Hp}
theorem dp_ints : ∀ t : List Int, DpAll K H (vrow t) (dI t)
  | [] => .nil
  | i :: r => .cons (.int i) (dp_ints r)
theorem dp_tup {a : Addr} {t : List Int} (h : H a = some (.tup (vrow t))) : Dp K H (.ref a) (.tuple (dI t)) := .tup (SqT.of h) (dp_ints t)
theorem dp_refs : ∀ (as : List Addr) (ts : Ts), as.length = ts.length → (∀ (i : Nat) a t, as[i]? = some a → (vts ts)[i]? = some t → H a = some (.tup t)) → DpAll K H (as.map V.ref) (ts.map fun t => PyData.tuple (dI t))
  | [], [], _, _ => .nil
  | a :: as, t :: ts, hl, h => .cons (dp_tup (h 0 a (vrow t) rfl rfl)) (dp_refs as ts (Nat.succ.inj hl) fun i b u e1 e2 => h (i + 1) b u e1 e2)
  | [], _ :: _, hl, _ => nomatch hl
  | _ :: _, [], hl, _ => nomatch hl
theorem TabsAt.dp {ta : Addr} {ts : Ts} (h : TabsAt H ta (vts ts)) : Dp K H (.ref ta) (dT ts) := by
  obtain ⟨as, h1, h2, h3⟩ := h
  exact .tup (SqT.of h1) (dp_refs as ts (by rw [h2]; exact List.length_map _) h3)
end
/-- plain data: shown shortly, compared by what they hold -/
structure Pl (d : PyData) (n w : Nat) : Prop where
  lay : d.canLay0 = true
  sh : d.showable = true
  nd : d.hasDict = false
  dp : d.depth ≤ n
  wt : d.weight ≤ w
  sr : d.leavesShort 20 = true
structure PlA (ds : List PyData) (n w : Nat) : Prop where
  lay : PyData.canLayAll0 ds = true
  sh : PyData.showableAll ds = true
  nd : PyData.hasDictAll ds = false
  dp : PyData.depthAll ds ≤ n
  wt : PyData.weightAll ds ≤ w
  sr : PyData.leavesShortAll 20 ds = true
theorem Pl.int {i : Int} (h : i.natAbs < 10 ^ 19) : Pl (.int i) 0 64 := by
  have h3 : i.natAbs ≠ 0 → i.natAbs.log2 < 64 := fun z => (Nat.log2_lt z).mpr (Nat.lt_of_lt_of_le h (by decide))
  refine ⟨by simp only [PyData.canLay0], ?_, by simp only [PyData.hasDict], by simp only [PyData.depth]; omega, ?_, ?_⟩
  · simp only [PyData.showable, decide_eq_true_eq]
    by_cases z : i.natAbs = 0
    · rw [z]; decide
    · have := h3 z
      omega
  · simp only [PyData.weight]
    split
    · omega
    · rename_i z
      have := h3 (fun e => z (by rw [Int.natAbs_eq_zero.mp e]; rfl))
      omega
  · have e := int_text_length_le10 (a := i) (k := 19) (by decide) h
    simp only [PyData.leavesShort, decide_eq_true_eq, PyData.shown]
    exact decide_eq_true (Nat.le_trans (Nat.le_of_eq (PySem.ofString_length _)) e)
theorem Pl.bl (b : Bool) : Pl (.bool b) 0 0 := ⟨by simp only [PyData.canLay0], by simp only [PyData.showable], by simp only [PyData.hasDict], by simp only [PyData.depth]; omega, by simp only [PyData.weight]; omega, by simp only [PyData.leavesShort]⟩
theorem PlA.nil : PlA [] 0 0 := ⟨by simp only [PyData.canLayAll0], by simp only [PyData.showableAll], by simp only [PyData.hasDictAll], by simp only [PyData.depthAll]; omega, by simp only [PyData.weightAll]; omega, by simp only [PyData.leavesShortAll]⟩
theorem PlA.cons {d : PyData} {ds : List PyData} {n m u v : Nat} (a : Pl d n u) (b : PlA ds m v) : PlA (d :: ds) (max n m) (u + 1 + v) := by
  refine ⟨by simp only [PyData.canLayAll0, a.lay, b.lay, Bool.and_self], by simp only [PyData.showableAll, a.sh, b.sh, Bool.and_self], by simp only [PyData.hasDictAll, a.nd, b.nd, Bool.or_self], ?_, ?_, by simp only [PyData.leavesShortAll, a.sr, b.sr, Bool.and_self]⟩
  · have h1 := a.dp; have h2 := b.dp
    simp only [PyData.depthAll]; omega
  · have h1 := a.wt; have h2 := b.wt
    simp only [PyData.weightAll]; omega
theorem Pl.list {ds : List PyData} {n w : Nat} (a : PlA ds n w) : Pl (.list ds) (n + 1) w := by
  refine ⟨by simp only [PyData.canLay0, a.lay], by simp only [PyData.showable, a.sh], by simp only [PyData.hasDict, a.nd], ?_, ?_, by simp only [PyData.leavesShort, a.sr]⟩
  · have h1 := a.dp
    simp only [PyData.depth]; omega
  · have h1 := a.wt
    simp only [PyData.weight]; omega
theorem Pl.tuple {ds : List PyData} {n w : Nat} (a : PlA ds n w) : Pl (.tuple ds) (n + 1) w := by
  refine ⟨by simp only [PyData.canLay0, a.lay], by simp only [PyData.showable, a.sh], by simp only [PyData.hasDict, a.nd], ?_, ?_, by simp only [PyData.leavesShort, a.sr]⟩
  · have h1 := a.dp
    simp only [PyData.depth]; omega
  · have h1 := a.wt
    simp only [PyData.weight]; omega
theorem Pl.mono {d : PyData} {n w m v : Nat} (a : Pl d n w) (h1 : n ≤ m) (h2 : w ≤ v) : Pl d m v := ⟨a.lay, a.sh, a.nd, Nat.le_trans a.dp h1, Nat.le_trans a.wt h2, a.sr⟩
theorem PlA.mono {d : List PyData} {n w m v : Nat} (a : PlA d n w) (h1 : n ≤ m) (h2 : w ≤ v) : PlA d m v := ⟨a.lay, a.sh, a.nd, Nat.le_trans a.dp h1, Nat.le_trans a.wt h2, a.sr⟩
theorem Pl.shaped {d : PyData} {n w : Nat} (a : Pl d n w) (h : n ≤ 40) : SeqAt.shaped d = true := by
  have := a.dp
  unfold SeqAt.shaped
  rw [a.lay, decide_eq_true (by omega)]; rfl
theorem Pl.short {d : PyData} {n w : Nat} (a : Pl d n w) (h : w ≤ 100000) : d.shown.length ≤ sizeLine := by
  have h1 := PyData.shown_le 20 (by decide) d a.sr
  have h2 := a.wt
  rw [sizeLine_eq]
  omega
/-- rows of whole numbers below 10 ^ 19 -/
theorem pla_ints : ∀ t : List Int, (∀ i ∈ t, i.natAbs < 10 ^ 19) → PlA (dI t) 0 (t.length * 65)
  | [], _ => PlA.nil
  | i :: r, h => (PlA.cons (Pl.int (h i List.mem_cons_self)) (pla_ints r fun j hj => h j (List.mem_cons_of_mem _ hj))).mono (by omega) (by show 64 + 1 + r.length * 65 ≤ (r.length + 1) * 65; omega)
theorem pla_rows {n : Nat} : ∀ ts : Ts, (∀ t ∈ ts, t.length ≤ n ∧ ∀ i ∈ t, i.natAbs < 10 ^ 19) → PlA (ts.map fun t => PyData.tuple (dI t)) 1 (ts.length * (n * 65 + 1))
  | [], _ => PlA.nil.mono (by omega) (by omega)
  | t :: r, h => by
    obtain ⟨h1, h2⟩ := h t List.mem_cons_self
    refine (PlA.cons (Pl.tuple (pla_ints t h2)) (pla_rows r fun u hu => h u (List.mem_cons_of_mem _ hu))).mono (by omega) ?_
    show t.length * 65 + 1 + r.length * (n * 65 + 1) ≤ (r.length + 1) * (n * 65 + 1)
    rw [Nat.add_mul]
    omega
theorem pl_dT {n : Nat} {ts : Ts} (h : ∀ t ∈ ts, t.length ≤ n ∧ ∀ i ∈ t, i.natAbs < 10 ^ 19) : Pl (dT ts) 2 (ts.length * (n * 65 + 1)) := Pl.tuple (pla_rows ts h)
end K1
namespace K1
open PySem PySem.Spec PyProof.Rows L2
/-- tables that are shown and compared: few, of few states -/
def Few (ts : Ts) : Prop := ts.length ≤ 8 ∧ ∀ t ∈ ts, t.length ≤ 12 ∧ ∀ i ∈ t, i.natAbs < 10 ^ 19
theorem Few.pl {ts : Ts} (h : Few ts) : Pl (dT ts) 2 10000 := (pl_dT h.2).mono (Nat.le_refl _) (by have := h.1; have : ts.length * (12 * 65 + 1) ≤ 8 * (12 * 65 + 1) := Nat.mul_le_mul_right _ h.1; omega)
/-- machine == other: another machine with the same tables, or a tuple -/
def spMEq (M : Addr) : Sp := fun vs H Q _ => ∃ m ta ts v, vs = [.ref m, v] ∧ MachAt M H m ta (vts ts) ∧ Few ts ∧
  ((∃ m2 ta2, v = .ref m2 ∧ MachAt M H m2 ta2 (vts ts) ∧ Q (.bl true) H) ∨ (∃ a xs, v = .ref a ∧ H a = some (.tup xs) ∧ Q (.bl false) H))
/-- which answers isinstance gives of the class -/
structure McI (K : PySem.W.Frag) (M : Addr) : Prop where
  y : PySem.W.kitOne K (.ref M) (.ref M) = some true
  n : PySem.W.kitOne K (.type "tuple") (.ref M) = some false
def spNeed (M C : Addr) (fld : Str) (g : Ts → Nat) : Sp := fun vs H Q E => ∃ m ta ts v, vs = [.ref m, v] ∧ MachAt M H m ta (vts ts) ∧ (∃ (K : PySem.W.Frag) (o : Option (List V)), KV K H v o) ∧
  (belowB v (g ts : Int) = true → Q v H) ∧ (belowB v (g ts : Int) = false → Rz C fld v H E)
theorem ints_of {t0 : List V} {ts : Ts} (h : (vts ts)[0]? = some t0) : ∃ r : List Int, ts[0]? = some r ∧ t0 = vrow r := by
  rw [vts, List.getElem?_map] at h
  cases e : ts[0]? with
  | none => rw [e] at h; cases h
  | some r =>
    rw [e] at h
    exact ⟨r, rfl, (Option.some.inj h).symm⟩
/-- how many states -/
def nS (ts : Ts) : Nat := (ts[0]?.getD []).length
theorem MachAt.fs {M : Addr} {H : Hp} {m ta : Addr} {ts : Ts} (h : MachAt M H m ta (vts ts)) : ∃ dx : Addr, H m = some (.ins M dx (mf ta (ts.length : Int) (nS ts : Int))) := by
  obtain ⟨⟨dx, t0, h0, h1⟩, _⟩ := h
  obtain ⟨r, hr, rfl⟩ := ints_of h0
  refine ⟨dx, ?_⟩
  rw [h1]
  have e1 : (vts ts).length = ts.length := List.length_map _
  have e2 : (vrow r).length = nS ts := by
    unfold nS
    rw [hr]
    exact List.length_map _
  rw [e1, e2]
section
variable {P : Program} {w : World} {K : PySem.W.Frag} {mg : Str → Option Value} {base : Heap}
theorem scME : FnScope ["self", "other"] ["self", "other"] (defScope sMEq) := ⟨rfl, rfl, rfl, by decide +kernel, rfl, by decide +kernel, by decide +kernel⟩
theorem ok_meq {f M : Addr} {fd : FuncData} (F : Fun K "__eq__" "Machine.__eq__" sMEq f fd) (B : Bt mg) (T : McT K mg M) (T2 : McI K M) : FnOk P w K mg base CX0 1 f fd ["self", "other"] (spMEq M) := by
  refine F.ok scME (fun vs H Q E h => ?_) (fun cdv A outer s H vs Q E hr h => ?_)
  · obtain ⟨m, ta, ts, v, rfl, _⟩ := h
    rfl
  · obtain ⟨m, ta, ts, v, rfl, hM, hF, q⟩ := h
    refine ⟨_, pss_one (ps_ret (pe_and (pe_callB call_isi (by rfl) B.isinstance (by decide +kernel) (pa_cons (pv 1) (pa_cons (pe_glob (v := .ref M) (by rfl) T.g rfl) pa_nil)))
      (pe_one (pe_cmpR (op_eqD hr.units) (pe_fld (pv 0) rfl) (pe_fld (pv 1) rfl) (nomark _))))), ?_⟩
    obtain ⟨dx, h1⟩ := hM.fs
    rcases q with ⟨m2, ta2, rfl, hM2, q⟩ | ⟨a, xs, rfl, ha, q⟩
    · obtain ⟨dx2, h2⟩ := hM2.fs
      refine ⟨_, rfl, _, _, _, _, _, rfl, .own M, .base (.ins h2 T.cl T.ca T.sp T.tk T.mo), T2.y, _, rfl, iteT ?_⟩
      refine ⟨_, rfl, m, M, dx, _, _, rfl, h1, T.cl, T.nT, mf_t _ _ _, _, rfl, m2, M, dx2, _, _, rfl, h2, T.cl, T.nT, mf_t _ _ _, dT ts, dT ts, hM.2.dp, hM2.2.dp, hF.pl.shaped (by decide), hF.pl.shaped (by decide), qbl ?_ q⟩
      exact SeqAt.eqv_refl _ hF.pl.lay
    · refine ⟨_, rfl, _, _, _, _, _, rfl, .own M, .base (.tup ha), T2.n, _, rfl, iteF q⟩
theorem scNS : FnScope ["machine", "state"] ["machine", "state"] (defScope sNeedS) := ⟨rfl, rfl, rfl, by decide +kernel, rfl, by decide +kernel, by decide +kernel⟩
theorem ok_needS {f fB C M cI : Addr} {fd fdB : FuncData} {bm : List Value} {ql : Str} (D : Df K mg "need_state" sNeedS ["machine", "state"] f fd) (DB : Df K mg "is_below" sBelow ["value", "limit"] fB fdB) (T : McT K mg M) (TX : LState.Txt K mg "NoState" ql bm C cI)
    (GB : FnOk P w K mg base CX0 2 fB fdB ["value", "limit"] (spBelow K)) : FnOk P w K mg base (L2.CX P w) 3 f fd ["machine", "state"] (spNeed M C "state" nS) := by
  refine D.F.okX scNS (fun vs H Q E h => ?_) (fun cdv A outer s H vs Q E hr h => ?_)
  · obtain ⟨m, ta, ts, v, rfl, _⟩ := h
    rfl
  · obtain ⟨m, ta, ts, v, rfl, hM, ⟨K', o, kv⟩, q1, q2⟩ := h
    refine ⟨_, pss_cons (ps_if (pt_not (pt_val (pc DB GB hr pass0 (pa_cons (pv 1) (pa_cons (pe_fld (pv 0) rfl) pa_nil))))) (pss_one (ps_raise_LState rfl TX hr (takes_of rfl rfl rfl rfl) (pa_cons (pv 1) pa_nil))) pss_nil) (pss_one (ps_ret (pv 1))), ?_⟩
    obtain ⟨dx, h1⟩ := hM.fs
    have kv' : KV K H v o := by cases kv <;> first | exact .int _ | exact .bl _ | exact .non | exact .str _ | exact .lst (by assumption) | exact .tup (by assumption)
    refine ⟨_, rfl, _, rfl, m, M, dx, _, _, rfl, h1, T.cl, T.nS, mf_s _ _ _, v, o, _, rfl, kv', _, rfl, ifD (fun e => ?_) fun e => ?_⟩
    · exact ⟨_, rfl, _, rfl, fun d hd => q2 (by simpa using e) d _ (same_new hd) hd upd_same⟩
    · exact ⟨_, rfl, q1 (by simpa using e)⟩
theorem scND : FnScope ["machine", "deed"] ["machine", "deed"] (defScope sNeedD) := ⟨rfl, rfl, rfl, by decide +kernel, rfl, by decide +kernel, by decide +kernel⟩
theorem ok_needD {f fB C M cI : Addr} {fd fdB : FuncData} {bm : List Value} {ql : Str} (D : Df K mg "need_deed" sNeedD ["machine", "deed"] f fd) (DB : Df K mg "is_below" sBelow ["value", "limit"] fB fdB) (T : McT K mg M) (TX : LDeed.Txt K mg "NoDeed" ql bm C cI)
    (GB : FnOk P w K mg base CX0 2 fB fdB ["value", "limit"] (spBelow K)) : FnOk P w K mg base (L2.CX P w) 3 f fd ["machine", "deed"] (spNeed M C "deed" List.length) := by
  refine D.F.okX scND (fun vs H Q E h => ?_) (fun cdv A outer s H vs Q E hr h => ?_)
  · obtain ⟨m, ta, ts, v, rfl, _⟩ := h
    rfl
  · obtain ⟨m, ta, ts, v, rfl, hM, ⟨K', o, kv⟩, q1, q2⟩ := h
    refine ⟨_, pss_cons (ps_if (pt_not (pt_val (pc DB GB hr pass0 (pa_cons (pv 1) (pa_cons (pe_fld (pv 0) rfl) pa_nil))))) (pss_one (ps_raise_LDeed rfl TX hr (takes_of rfl rfl rfl rfl) (pa_cons (pv 1) pa_nil))) pss_nil) (pss_one (ps_ret (pv 1))), ?_⟩
    obtain ⟨dx, h1⟩ := hM.fs
    have kv' : KV K H v o := by cases kv <;> first | exact .int _ | exact .bl _ | exact .non | exact .str _ | exact .lst (by assumption) | exact .tup (by assumption)
    refine ⟨_, rfl, _, rfl, m, M, dx, _, _, rfl, h1, T.cl, T.nD, mf_d _ _ _, v, o, _, rfl, kv', _, rfl, ifD (fun e => ?_) fun e => ?_⟩
    · exact ⟨_, rfl, _, rfl, fun d hd => q2 (by simpa using e) d _ (same_new hd) hd upd_same⟩
    · exact ⟨_, rfl, q1 (by simpa using e)⟩
end
end K1
namespace K1
open PySem PySem.Spec PyProof.Rows L2
def rowF (r : Option (List V)) (n : Int) : V := if seqB r 0 10000 = true then fnb (r.getD []) n else .int (-1)
theorem fnb_non {xs : List V} {lim : Int} (h : fnb xs lim = .non) : ∀ x ∈ xs, belowB x lim = true := by
  unfold fnb at h
  cases e : xs.findIdx? (fun x => !belowB x lim) with
  | some i => rw [e] at h; cases h
  | none =>
    rw [List.findIdx?_eq_none_iff] at e
    intro x hx
    simpa using e x hx
theorem fnb_all {xs : List V} {lim : Int} (h : ∀ x ∈ xs, belowB x lim = true) : fnb xs lim = .non := fnb_none fun j y _ hy => h y (List.mem_of_getElem? hy)
theorem rowF_non {r : Option (List V)} {n : Int} (h : rowF r n = .non) : ∃ xs, r = some xs ∧ ∀ x ∈ xs, belowB x n = true := by
  unfold rowF at h
  by_cases e : seqB r 0 10000 = true
  · rw [if_pos e] at h
    cases r with
    | none => cases e
    | some xs => exact ⟨xs, rfl, fnb_non h⟩
  · rw [if_neg e] at h
    cases h
/-- where a deed leads a state; where a row leads it -/
def stp (ts : Ts) (s d : Int) : Int := ((ts[d.toNat]?.getD [])[s.toNat]?).getD 0
def run (ts : Ts) (s : Int) (row : List Int) : Int := row.foldl (stp ts) s
/-- well made tables -/
structure Wf (ts : Ts) : Prop where
  t1 : 1 ≤ ts.length
  t8 : ts.length ≤ 8
  s1 : 1 ≤ nS ts
  s12 : nS ts ≤ 12
  row : ∀ t ∈ ts, t.length = nS ts ∧ ∀ i ∈ t, 0 ≤ i ∧ i < (nS ts : Int)
theorem Wf.few {ts : Ts} (h : Wf ts) : Few ts := ⟨h.t8, fun t ht => ⟨by rw [(h.row t ht).1]; exact h.s12, fun i hi => by
  have := (h.row t ht).2 i hi
  have := h.s12
  omega⟩⟩
theorem Wf.at_ {ts : Ts} (h : Wf ts) {s d : Int} (hd : 0 ≤ d ∧ d < ts.length) (hs : 0 ≤ s ∧ s < (nS ts : Int)) : ∃ t, ts[d.toNat]? = some t ∧ t[s.toNat]? = some (stp ts s d) ∧ 0 ≤ stp ts s d ∧ stp ts s d < (nS ts : Int) := by
  have h1 : d.toNat < ts.length := by omega
  have ht : ts[d.toNat]? = some ts[d.toNat] := by simp [h1]
  have hm : ts[d.toNat] ∈ ts := List.getElem_mem h1
  obtain ⟨r1, r2⟩ := h.row _ hm
  have h2 : s.toNat < ts[d.toNat].length := by rw [r1]; omega
  have e : stp ts s d = ts[d.toNat][s.toNat] := by
    unfold stp
    rw [ht]
    simp [h2]
  refine ⟨_, ht, by rw [e]; simp [h2], ?_⟩
  rw [e]
  exact r2 _ (List.getElem_mem h2)
theorem Wf.run {ts : Ts} (h : Wf ts) : ∀ (row : List Int) (s : Int), (∀ d ∈ row, 0 ≤ d ∧ d < (ts.length : Int)) → 0 ≤ s ∧ s < (nS ts : Int) → 0 ≤ run ts s row ∧ run ts s row < (nS ts : Int)
  | [], s, _, hs => hs
  | d :: r, s, hd, hs => by
    obtain ⟨t, _, _, h3⟩ := h.at_ (hd d List.mem_cons_self) hs
    exact Wf.run h r (stp ts s d) (fun e he => hd e (List.mem_cons_of_mem _ he)) h3
theorem run_snoc (ts : Ts) (s : Int) (row : List Int) (d : Int) : run ts s (row ++ [d]) = stp ts (run ts s row) d := by
  unfold run
  rw [List.foldl_append]; rfl
theorem take_succ {α : Type} {l : List α} {i : Nat} {x : α} (h : l[i]? = some x) : l.take (i + 1) = l.take i ++ [x] := by
  rw [List.take_add_one, h]; rfl
def spFault (K : PySem.W.Frag) (M : Addr) : Sp := fun vs H Q _ => ∃ m ta ts v r, vs = [.ref m, v] ∧ MachAt M H m ta (vts ts) ∧ Rw K H v r ∧ ∀ H', Same H H' → Q (rowF r (ts.length : Int)) H'
def spRow (K : PySem.W.Frag) (M C : Addr) : Sp := fun vs H Q E => ∃ m ta ts v r, vs = [.ref m, v] ∧ MachAt M H m ta (vts ts) ∧ Rw K H v r ∧ (rowF r (ts.length : Int) ≠ .non → Rz C "at" (rowF r (ts.length : Int)) H E) ∧
  (rowF r (ts.length : Int) = .non → ∀ xs, r = some xs → ∀ p H', Same H H' → H' p = some (.tup xs) → Q (.ref p) H')
def spMoved (M : Addr) : Sp := fun vs H Q _ => ∃ m ta ts s p row, vs = [.ref m, .int s, .ref p] ∧ MachAt M H m ta (vts ts) ∧ Wf ts ∧ (0 ≤ s ∧ s < (nS ts : Int)) ∧ H p = some (.tup (vrow row)) ∧ (∀ d ∈ row, 0 ≤ d ∧ d < (ts.length : Int)) ∧ Q (.int (run ts s row)) H
def spLed (K : PySem.W.Frag) (M CS CR : Addr) : Sp := fun vs H Q E => ∃ m ta ts v rv, vs = [.ref m, v, rv] ∧ MachAt M H m ta (vts ts) ∧ Wf ts ∧ (∃ o, KV K H v o) ∧ (belowB v (nS ts : Int) = false → Rz CS "state" v H E) ∧
  ((belowB v (nS ts : Int) = true) → ∃ s r, v = .int s ∧ Rw K H rv r ∧ (rowF r (ts.length : Int) ≠ .non → Rz CR "at" (rowF r (ts.length : Int)) H E) ∧ (rowF r (ts.length : Int) = .non → ∃ row, r = some (vrow row) ∧ ∀ H', Same H H' → Q (.int (run ts s row)) H'))
section
variable {P : Program} {w : World} {K : PySem.W.Frag} {mg : Str → Option Value} {base : Heap}
theorem scFa : FnScope ["machine", "value"] ["machine", "value"] (defScope sFault) := ⟨rfl, rfl, rfl, by decide +kernel, rfl, by decide +kernel, by decide +kernel⟩
theorem ok_fault {f fS fF M : Addr} {fd fdS fdF : FuncData} (D : Df K mg "row_fault" sFault ["machine", "value"] f fd) (DS : Df K mg "is_sequence" sSeq ["value", "least", "most"] fS fdS) (DF : Df K mg "first_not_below" sFnb ["items", "limit"] fF fdF) (c : Ct mg) (T : McT K mg M)
    (GS : FnOk P w K mg base CX0 1 fS fdS ["value", "least", "most"] (spSeq K)) (GF : FnOk P w K mg base CX0 3 fF fdF ["items", "limit"] (spFnb K)) : FnOk P w K mg base CX0 4 f fd ["machine", "value"] (spFault K M) := by
  obtain ⟨t1, hc1⟩ := c.row
  refine D.F.ok scFa (fun vs H Q E h => ?_) (fun cdv A outer s H vs Q E hr h => ?_)
  · obtain ⟨m, ta, ts, v, r, rfl, _⟩ := h
    rfl
  · obtain ⟨m, ta, ts, v, r, rfl, hM, W, q⟩ := h
    refine ⟨_, pss_cons (ps_if (pt_not (pt_val (pc DS GS (hr.mono (by decide)) pass0 (pa_cons (pv 1) (pa_cons pe_int (pa_cons (pe_glob (v := .int 10000) (by rfl) hc1 ⟨_, rfl⟩) pa_nil)))))) (pss_one (ps_ret (pe_un un_neg pe_int))) pss_nil)
      (pss_one (ps_ret (pc DF GF hr pass0 (pa_cons (pv 1) (pa_cons (pe_fld (pv 0) rfl) pa_nil))))), ?_⟩
    refine ⟨_, rfl, v, r, 0, 10000, rfl, W.kv, fun H1 s1 => ⟨_, rfl, ifD (fun e => ?_) fun e => ?_⟩⟩
    · have e' : ¬ seqB r 0 10000 = true := by simpa using e
      refine ⟨_, rfl, ?_⟩
      have := q _ s1
      unfold rowF at this
      rw [if_neg e'] at this
      exact this
    · have e' : seqB r 0 10000 = true := by simpa using e
      obtain ⟨xs, rfl⟩ : ∃ xs, r = some xs := by cases r with
        | none => cases e'
        | some xs => exact ⟨xs, rfl⟩
      obtain ⟨a, rfl, hS⟩ := W.kv.seqA
      obtain ⟨dx, h1⟩ := (hM.same s1).fs
      refine ⟨_, rfl, _, rfl, m, M, dx, _, _, rfl, h1, T.cl, T.nD, mf_d _ _ _, a, xs, _, rfl, hS.same s1, (W.ks xs rfl).same s1, fun H2 s2 => ?_⟩
      have := q _ (s1.trans s2)
      unfold rowF at this
      rw [if_pos e'] at this
      exact this
theorem scRo : FnScope ["machine", "value", "at"] ["machine", "value"] (defScope sRow) := ⟨rfl, rfl, rfl, by decide +kernel, rfl, by decide +kernel, by decide +kernel⟩
theorem ok_row {f fF C M cI : Addr} {fd fdF : FuncData} {bm : List Value} {ql : Str} (D : Df K mg "check_row" sRow ["machine", "value"] f fd) (DF : Df K mg "row_fault" sFault ["machine", "value"] fF fdF) (B : Bt mg) (TX : LAt.Txt K mg "BadRow" ql bm C cI)
    (GF : FnOk P w K mg base CX0 4 fF fdF ["machine", "value"] (spFault K M)) : FnOk P w K mg base (L2.CX P w) 5 f fd ["machine", "value"] (spRow K M C) := by
  refine D.F.okX scRo (fun vs H Q E h => ?_) (fun cdv A outer s H vs Q E hr h => ?_)
  · obtain ⟨m, ta, ts, v, r, rfl, _⟩ := h
    rfl
  · obtain ⟨m, ta, ts, v, r, rfl, hM, W, q1, q2⟩ := h
    refine ⟨_, pss_cons (ps_set (i := 2) scRo.nd rfl (.inl rfl) (pc DF GF hr pass0 (pa_cons (pv 0) (pa_cons (pv 1) pa_nil))))
      (pss_cons (ps_if (pt_cmpR op_notN (pv 2) pe_non (nomark _)) (pss_one (ps_raise_LAt rfl TX hr (takes_of rfl rfl rfl rfl) (pa_cons (pv 2) pa_nil))) pss_nil)
      (pss_one (ps_ret (pe_callTy call_tuple_of (by rfl) B.tuple (by decide +kernel) (pa_cons (pv 1) pa_nil))))), ?_⟩
    refine ⟨_, rfl, _, rfl, m, ta, ts, v, r, rfl, hM, W, fun H1 s1 => ?_⟩
    refine ⟨_, rfl, rfl, _, rfl, ifD (fun e => ?_) fun e => ?_⟩
    · have e' : rowF r (ts.length : Int) ≠ .non := by simpa using e
      exact ⟨_, rfl, _, rfl, fun d hd => q1 e' d _ (s1.trans (same_new hd)) (s1.free hd) upd_same⟩
    · have e' : rowF r (ts.length : Int) = .non := by simpa using e
      obtain ⟨xs, rfl, _⟩ := rowF_non e'
      obtain ⟨a, rfl, hS⟩ := W.kv.seqA
      refine ⟨_, rfl, a, xs, rfl, ?_⟩
      rcases hS.same s1 with h | h
      · exact .inl ⟨SqL.of h, fun l hl => q2 e' xs rfl l _ (s1.trans (same_new hl)) upd_same⟩
      · exact .inr ⟨SqT.of h, q2 e' xs rfl a _ s1 h⟩
theorem scMv : FnScope ["machine", "state", "row", "deed"] ["machine", "state", "row"] (defScope sMoved) := ⟨rfl, rfl, rfl, by decide +kernel, rfl, by decide +kernel, by decide +kernel⟩
theorem ok_moved {f M : Addr} {fd : FuncData} (D : Df K mg "moved" sMoved ["machine", "state", "row"] f fd) (T : McT K mg M) : FnOk P w K mg base CX0 1 f fd ["machine", "state", "row"] (spMoved M) := by
  refine D.F.ok scMv (fun vs H Q E h => ?_) (fun cdv A outer s H vs Q E hr h => ?_)
  · obtain ⟨m, ta, ts, v, p, row, rfl, _⟩ := h
    rfl
  · obtain ⟨m, ta, ts, s0, p, row, rfl, hM, hW, hs, hp, hd, q⟩ := h
    refine ⟨_, pss_cons (ps_for PassesOwn.never rfl (pi_tup (pv 2)) (pg_name (i := 3) scMv.nd rfl (.inl rfl)) (pss_one (ps_set (i := 1) scMv.nd rfl (.inl rfl) (pe_ix ix_tup (pe_ix ix_tup (pe_fld (pv 0) rfl) (pv 3) (fun _ _ => rfl)) (pv 1) (fun _ _ => rfl)))))
      (pss_one (ps_ret (pv 1))), ?_⟩
    refine ⟨_, rfl, p, rfl, ⟨_, SqT.of hp⟩, for_tup (K := K) (a := p) (xs := vrow row) (fun i σ H' => ∃ v3 : Option V, σ = [some (.ref m), some (.int (run ts s0 (row.take i))), some (.ref p), v3] ∧ H' = H)
      ⟨none, rfl, rfl⟩ (fun i σ H' _ ⟨_, _, e⟩ => by rw [e]; exact SqT.of hp) ?_ ?_⟩
    · rintro i y σ H' hi ⟨v3, rfl, rfl⟩
      obtain ⟨d, ed, rfl⟩ : ∃ d, row[i]? = some d ∧ y = V.int d := by
        rw [vrow, List.getElem?_map] at hi
        cases e : row[i]? with
        | none => rw [e] at hi; cases hi
        | some z =>
          rw [e] at hi
          exact ⟨z, rfl, (Option.some.inj hi).symm⟩
      have hb := hd d (List.mem_of_getElem? ed)
      have hr' := hW.run (row.take i) s0 (fun e he => hd e (List.mem_of_mem_take he)) hs
      obtain ⟨t, h1, h2, h3⟩ := hW.at_ hb hr'
      obtain ⟨dx, hm⟩ := hM.fs
      obtain ⟨as, ha1, ha2, ha3⟩ := hM.2
      have hla : d.toNat < as.length := by rw [ha2, vts, List.length_map]; omega
      have hA : as[d.toNat]? = some as[d.toNat] := by simp [hla]
      have hT := ha3 d.toNat _ (vrow t) hA (by rw [vts, List.getElem?_map, h1]; rfl)
      refine ⟨_, rfl, m, M, dx, _, _, rfl, hm, T.cl, T.nT, mf_t _ _ _, _, rfl, ta, _, d, _, rfl, rfl, SqT.of ha1, at_of (j := d.toNat) (by omega) (by rw [List.getElem?_map, hA]; rfl), ?_⟩
      refine ⟨_, rfl, _, _, _, .int (stp ts (run ts s0 (row.take i)) d), rfl, rfl, SqT.of hT, at_of (j := (run ts s0 (row.take i)).toNat) (by omega) (by rw [vrow, List.getElem?_map, h2]; rfl), ?_⟩
      refine ⟨some (.int d), ?_, rfl⟩
      rw [take_succ ed, run_snoc]
      rfl
    · rintro σ H' ⟨v3, rfl, rfl⟩
      have e : row.take (vrow row).length = row := by rw [vrow, List.length_map, List.take_length]
      rw [e]
      exact ⟨_, rfl, q⟩
theorem scLe : FnScope ["machine", "state", "row"] ["machine", "state", "row"] (defScope sLed) := ⟨rfl, rfl, rfl, by decide +kernel, rfl, by decide +kernel, by decide +kernel⟩
theorem ok_led {f fN fM fR CS CR M : Addr} {fd fdN fdM fdR : FuncData} (D : Df K mg "led" sLed ["machine", "state", "row"] f fd) (DN : Df K mg "need_state" sNeedS ["machine", "state"] fN fdN) (DM : Df K mg "moved" sMoved ["machine", "state", "row"] fM fdM) (DR : Df K mg "check_row" sRow ["machine", "value"] fR fdR)
    (GN : FnOk P w K mg base (L2.CX P w) 3 fN fdN ["machine", "state"] (spNeed M CS "state" nS)) (GM : FnOk P w K mg base CX0 1 fM fdM ["machine", "state", "row"] (spMoved M)) (GR : FnOk P w K mg base (L2.CX P w) 5 fR fdR ["machine", "value"] (spRow K M CR)) :
    FnOk P w K mg base (L2.CX P w) 6 f fd ["machine", "state", "row"] (spLed K M CS CR) := by
  refine D.F.okX scLe (fun vs H Q E h => ?_) (fun cdv A outer s H vs Q E hr h => ?_)
  · obtain ⟨m, ta, ts, v, rv, rfl, _⟩ := h
    rfl
  · obtain ⟨m, ta, ts, v, rv, rfl, hM, hW, ⟨o, kv⟩, q1, q2⟩ := h
    refine ⟨_, pss_cons (ps_expr (pc DN GN (hr.mono (by decide)) (pass1 (takes_of rfl rfl rfl rfl)) (pa_cons (pv 0) (pa_cons (pv 1) pa_nil))))
      (pss_one (ps_ret (pc DM GM (hr.mono (by decide)) pass0 (pa_cons (pv 0) (pa_cons (pv 1) (pa_cons (pc DR GR hr (pass1 (takes_of rfl rfl rfl rfl)) (pa_cons (pv 0) (pa_cons (pv 2) pa_nil))) pa_nil)))))), ?_⟩
    refine ⟨_, rfl, _, rfl, m, ta, ts, v, rfl, hM, ⟨K, o, kv⟩, fun e => ?_, fun e => q1 e⟩
    obtain ⟨s0, r, rfl, W, q3, q4⟩ := q2 e
    have hs : 0 ≤ s0 ∧ s0 < (nS ts : Int) := by
      have z : (decide (0 ≤ s0) && decide (s0 < (nS ts : Int))) = true := e
      simpa using z
    refine ⟨_, rfl, _, rfl, _, rfl, _, rfl, m, ta, ts, rv, r, rfl, hM, W, fun e2 => q3 e2, fun e2 xs hxs p H' sm hp => ?_⟩
    obtain ⟨row, rfl, q⟩ := q4 e2
    obtain rfl : vrow row = xs := Option.some.inj hxs
    obtain ⟨_, hx, hb⟩ := rowF_non e2
    obtain rfl := Option.some.inj hx
    refine ⟨m, ta, ts, s0, p, row, rfl, hM.same sm, hW, hs, hp, fun d hd => ?_, q _ sm⟩
    have z : (decide (0 ≤ d) && decide (d < (ts.length : Int))) = true := hb (.int d) (List.mem_map.mpr ⟨d, hd, rfl⟩)
    simpa using z
end
end K1
namespace K1
open PySem PySem.Spec PyProof.Rows L2
/-! ### {k: v}, k a tuple -/
def tDispT (tk tv : TE) : TE := fun σ H Q => ∀ p, H p = none → tk σ (upd H p (.dT [])) fun x H1 => tv σ H1 fun y H2 => ∃ b k, x = .ref b ∧ H2 b = some (.tup (k.map kV)) ∧ H2 p = some (.dT []) ∧ Q (.ref p) (upd H2 p (.dT [(k, y)]))
theorem pe_dispT {X : Cx} {pos : Pos} {ke ve : Expr} {tk tv : TE} (hu : X.A.units < cLine) (hk : PE X ke tk) (hv : PE X ve tv) : PE X (.Dict [some ke] [ve] pos) (tDispT tk tv) := by
  refine ⟨fun pins s σ H Q I q => ?_⟩
  have hn := I.hok.fresh (Nat.le_refl s.heap.objs.size)
  have I1 := I.laid (a := s.heap.objs.size) (o := .dT []) (h' := s.heap.push { cls := .type "dict", data := .dict #[] }) (t' := s.toks) (fun _ _ q => Heap.get?_push_of_some _ q) (Nat.le_refl _) (dt_empty s.heap I.big)
  have P := pps_cons (pos := pos) hk hv pps_nil
  rw [arm_eval_Dict, zip_pairTrees [some ke] [ve] X.env pos rfl rfl, dictDisplay_pairs _ (by intro e; cases e) (by show 1 < 17; decide)]
  refine wpAny_bind (wpAny_standAt (wpAny_bind (wpAny_subDictH (knd := tupleKind (mixKind X.prog X.w)) (Q := fun d s' => wpAny (model X.prog X.w) X.A (pure (Value.ref d)) (EP X pins σ Q) X.xe s') hu (by show 1 ≤ 15; decide) ?_)))
  let Φ : V → V → Hp → Prop := fun x y H2 => ∃ b k, x = .ref b ∧ H2 b = some (.tup (k.map kV)) ∧ H2 s.heap.objs.size = some (.dT []) ∧ Q (.ref s.heap.objs.size) (upd H2 s.heap.objs.size (.dT [(k, y)]))
  refine thn (P.run pins _ σ _ (fun ps H2 => match ps with | [(x, y)] => Φ x y H2 | _ => False) I1 (q _ hn)) fun ws s2 hh => ?_
  obtain ⟨ps, H2, I2, rel, hh⟩ := hh
  match ps, hh with
  | [(x, y)], ⟨b, k, ex, hb, hp, q2⟩ =>
    cases rel with
    | cons r1 r2 =>
      cases r2
      rename_i u
      obtain ⟨u1, u2⟩ := u
      obtain ⟨rx, ry⟩ := r1
      subst ex
      obtain rfl : u1 = Value.ref b := rx
      obtain ⟨z, hd, xs, kt, dd⟩ := dt_of I2.hok hp
      cases kt
      refine ⟨[(k, b, u2)], ⟨rfl, rfl, key_of I2.hok hb, trivial⟩, dd, fun h' tk' dd' hs => wpAny_pure ?_⟩
      have dd2 : h'.DictOfH (tupleKind (mixKind X.prog X.w)) s.heap.objs.size [(k, b, u2)] := dd'
      have he : ∃ q, h'.get? s.heap.objs.size = some q := let ⟨q, _, _, hq, _⟩ := dd2; ⟨q, hq⟩
      obtain ⟨ob, es, ep, hq, h2, h3, h4, _, h5⟩ := dd2
      have nb : b ≠ s.heap.objs.size := ne_of hb hp (fun z => nomatch z)
      have kt2 : KT (upd H2 s.heap.objs.size (.dT [(k, y)])) [(k, y)] [(k, b, u2)] := .cons ⟨rfl, by rw [upd_ne nb]; exact hb, ry⟩ .nil
      refine ⟨.ref s.heap.objs.size, _, d_write (ob := .dT [(k, y)]) I2 (by rw [hp]; exact True.intro) hs he ⟨by show 1 ≤ sizeLine; decide, hd, _, kt2, ob, es, ep, hq, h2, h3, h4, h5⟩, rfl, q2⟩
/-! ### the keys of a dict that nobody else sees: locked for good -/
def iKeysF (td : TE) : TI := fun σ H R => td σ H fun x H1 => ∃ d kvs, x = .ref d ∧ H1 d = some (.dT kvs) ∧ ∀ o, R (Itkt d o kvs) (upd H1 d (.frz o (.dT kvs)))
theorem pi_keysF {X : Cx} {tg e : Expr} {td : TE} (he : PE X e td) : PI X tg e (iKeysF td) := by
  refine ⟨fun pins s σ H R I h => ?_⟩
  refine thn (he.run pins s σ H _ I h) fun u s1 ⟨x, H1, I1, rx, d, kvs, ex, hd0, q⟩ => ?_
  subst ex
  obtain rfl : u = Value.ref d := rx
  obtain ⟨o, I2⟩ := I1.lock hd0 trivial
  obtain ⟨hs, hgd, hx, es, ep, hdt, hsz, ent⟩ := I2.frzT upd_same
  refine iter_keys hs hgd hx hdt (pi_one (tk := s1.toks) I2 _ (turn_keysT _ hdt) ⟨_, Heap.get?_push_size _ rfl, rfl, ?_⟩ (q o))
  rw [hsz] <;> rfl
theorem lc_keysF {d : Addr} {o : Obj} {kvs : List (List Key × V)} {g : TG} {tt : TT} {te : TE} {vs : List Nat} {σ : L2.St} {H1 : Hp} {D : Addr} {Qd : Hp → Prop} (Pv : Nat → Hp → Prop) (h0 : Pv 0 (upd H1 D (.lst []))) (hl : ∀ i H, i ≤ kvs.length → Pv i H → H d = some (.frz o (.dT kvs)))
    (hs : ∀ (i : Nat) k v q H, kvs[i]? = some (k, v) → H q = some (.tup (k.map kV)) → Pv i H → g (.ref q) (wipe σ vs) H fun σ2 H2 => wipe σ2 vs = wipe σ vs ∧ tt σ2 H2 fun b H3 =>
      if b = true then te σ2 H3 fun y H4 => ∃ acc, H4 D = some (.lst acc) ∧ acc.length < sizeLine ∧ Pv (i + 1) (upd H4 D (.lst (acc ++ [y]))) else Pv (i + 1) H3) (hd : ∀ H, Pv kvs.length H → Qd H) :
    ∃ W : Nat → Nat → Hp → Prop, (∃ m, W 0 m (upd H1 D (.lst []))) ∧ ∀ i m H, W i m H →
      ((Itkt d o kvs).stop i H ∧ Qd H) ∨ ((Itkt d o kvs).go i H ∧ ∃ Nx : Hp → Prop, (∀ H', Nx H' → ∃ m', m' < m ∧ W (i + 1) m' H') ∧ ∀ x H', (Itkt d o kvs).yld i H x H' → g x (wipe σ vs) H' fun σ2 H2 => wipe σ2 vs = wipe σ vs ∧ tt σ2 H2 fun b H3 =>
        if b = true then te σ2 H3 fun y H4 => ∃ acc, H4 D = some (.lst acc) ∧ acc.length < sizeLine ∧ Nx (upd H4 D (.lst (acc ++ [y]))) else Nx H3) := by
  refine ⟨fun i m H => m = kvs.length - i ∧ i ≤ kvs.length ∧ Pv i H, ⟨kvs.length, by simp, Nat.zero_le _, h0⟩, ?_⟩
  rintro i m H ⟨rfl, hi, p⟩
  have q := hl i H hi p
  by_cases hlt : i < kvs.length
  · refine .inr ⟨⟨q, hlt⟩, Pv (i + 1), fun H' p' => ⟨kvs.length - (i + 1), by omega, rfl, hlt, p'⟩, fun x H' y => ?_⟩
    obtain ⟨e, k, v, b, e1, e2, e3⟩ := y
    subst e e2
    exact hs i k v b _ e1 e3 p
  · have e : i = kvs.length := by omega
    subst e
    exact .inl ⟨⟨q, Nat.le_refl _⟩, hd H p⟩
end K1
namespace K1
open PySem PySem.Spec PyProof.Rows L2
/-- the states to which rows lead -/
inductive Reach (ts : Ts) (s : Int) : Int → Prop
  | refl : Reach ts s s
  | step {x d : Int} (h : Reach ts s x) (hd : 0 ≤ d ∧ d < (ts.length : Int)) : Reach ts s (stp ts x d)
theorem Reach.rng {ts : Ts} (w : Wf ts) {s x : Int} (hs : 0 ≤ s ∧ s < (nS ts : Int)) (h : Reach ts s x) : 0 ≤ x ∧ x < (nS ts : Int) := by
  induction h with
  | refl => exact hs
  | step h hd ih => exact (w.at_ hd ih).choose_spec.2.2
abbrev kI (x : Int) : List Key := [Sum.inl x]
/-- the search: its dict at d, its queue at q, the states met L -/
structure BF (ts : Ts) (s0 : Int) (H : Hp) (d q : Addr) (L : List Int) (kvs : List (List Key × V)) (as : List Addr) : Prop where
  hd : H d = some (.dT kvs)
  ky : kvs.map (·.1) = L.map kI
  vl : ∀ (i : Nat) k v, kvs[i]? = some (k, v) → ∃ a xs, v = .ref a ∧ H a = some (.tup xs) ∧ xs.length ≤ i
  hq : H q = some (.lst (as.map V.ref))
  ln : as.length = L.length
  it : ∀ (i : Nat) a x, as[i]? = some a → L[i]? = some x → H a = some (.tup [.int x])
  nd : L.Nodup
  rn : ∀ x ∈ L, 0 ≤ x ∧ x < (nS ts : Int)
  rc : ∀ x ∈ L, Reach ts s0 x
  st : s0 ∈ L
theorem BF.same {ts : Ts} {s0 : Int} {H H' : Hp} {d q : Addr} {L : List Int} {kvs : List (List Key × V)} {as : List Addr} (b : BF ts s0 H d q L kvs as) (s : Same H H') : BF ts s0 H' d q L kvs as :=
  ⟨s _ _ b.hd, b.ky, fun i k v e => let ⟨a, xs, h1, h2, h3⟩ := b.vl i k v e; ⟨a, xs, h1, s _ _ h2, h3⟩, s _ _ b.hq, b.ln, fun i a x e1 e2 => s _ _ (b.it i a x e1 e2), b.nd, b.rn, b.rc, b.st⟩
/-- at most as many as there are numbers -/
theorem nodup_le : ∀ (n : Nat) (L : List Int), L.Nodup → (∀ x ∈ L, 0 ≤ x ∧ x < (n : Int)) → L.length ≤ n
  | 0, L, _, h => by
    cases L with
    | nil => exact Nat.le_refl _
    | cons a r => have := h a List.mem_cons_self; omega
  | n + 1, L, nd, h => by
    have ih := nodup_le n (L.erase (n : Int)) (nd.erase _) fun x hx => by
      have h1 := h x (List.mem_of_mem_erase hx)
      have h2 : x ≠ (n : Int) := fun e => by
        rw [e] at hx
        exact (List.Nodup.mem_erase_iff nd).mp hx |>.1 rfl
      omega
    have h3 : L.length ≤ (L.erase (n : Int)).length + 1 := by
      by_cases hm : (n : Int) ∈ L
      · rw [List.length_erase_of_mem hm]; omega
      · rw [List.erase_of_not_mem hm]; omega
    omega
theorem BF.few {ts : Ts} {s0 : Int} {H : Hp} {d q : Addr} {L : List Int} {kvs : List (List Key × V)} {as : List Addr} (b : BF ts s0 H d q L kvs as) : L.length ≤ nS ts := nodup_le _ _ b.nd b.rn
theorem BF.klen {ts : Ts} {s0 : Int} {H : Hp} {d q : Addr} {L : List Int} {kvs : List (List Key × V)} {as : List Addr} (b : BF ts s0 H d q L kvs as) : kvs.length = L.length := by
  have := congrArg List.length b.ky
  simpa using this
theorem val_some {kvs : List (List Key × V)} {k : List Key} {v : V} (h : valV kvs k = some v) : ∃ i : Nat, kvs[i]? = some (k, v) := by
  unfold valV at h
  cases e : kvs.find? (fun kv => decide (kv.1 = k)) with
  | none => rw [e] at h; cases h
  | some p =>
    rw [e] at h
    have h1 := List.find?_some e
    have h2 := List.mem_of_find?_eq_some e
    obtain ⟨i, hi, ep⟩ := List.mem_iff_getElem.mp h2
    refine ⟨i, ?_⟩
    rw [List.getElem?_eq_getElem hi, ep]
    obtain ⟨p1, p2⟩ := p
    have e1 : p1 = k := of_decide_eq_true h1
    have e2 : p2 = v := Option.some.inj h
    rw [e1, e2]
theorem val_none {kvs : List (List Key × V)} {L : List Int} (hk : kvs.map (·.1) = L.map kI) {x : Int} : valV kvs (kI x) = none ↔ x ∉ L := by
  have e := valV_any (kI x) kvs
  have h : (kvs.any fun kv => decide (kv.1 = kI x)) = true ↔ x ∈ L := by
    have z : (kvs.any fun kv => decide (kv.1 = kI x)) = ((kvs.map (·.1)).any fun k => decide (k = kI x)) := by rw [List.any_map]; rfl
    rw [z, hk, List.any_map, List.any_eq_true]
    constructor
    · rintro ⟨y, hy, e⟩
      have e' : kI y = kI x := of_decide_eq_true e
      injection e' with e1 _
      injection e1 with e1
      rw [← e1]; exact hy
    · intro hx
      exact ⟨x, hx, decide_eq_true rfl⟩
  constructor
  · intro hn hx
    rw [hn] at e
    rw [h.mpr hx] at e
    cases e
  · intro hx
    cases q : valV kvs (kI x) with
    | none => rfl
    | some v =>
      rw [q] at e
      exact absurd (h.mp e) hx
/-- a new state: into the dict and the queue -/
theorem BF.put {ts : Ts} {s0 : Int} {H : Hp} {d q : Addr} {L : List Int} {kvs : List (List Key × V)} {as : List Addr} (b : BF ts s0 H d q L kvs as) {x : Int} {e a : Addr} {xs : List V} (hx : x ∉ L) (he : H e = some (.tup [.int x])) (ha : H a = some (.tup xs)) (hl : xs.length ≤ L.length)
    (hr : 0 ≤ x ∧ x < (nS ts : Int)) (hc : Reach ts s0 x) :
    BF ts s0 (upd (upd H d (.dT (putK kvs (kI x) (.ref a)))) q (.lst (as.map V.ref ++ [.ref e]))) d q (L ++ [x]) (kvs ++ [(kI x, .ref a)]) (as ++ [e]) := by
  have ndq : d ≠ q := ne_of b.hd b.hq (by intro z; cases z)
  have keep : ∀ c ys, H c = some (.tup ys) → (upd (upd H d (.dT (putK kvs (kI x) (.ref a)))) q (.lst (as.map V.ref ++ [.ref e]))) c = some (.tup ys) := fun c ys h => by
    rw [upd_ne (ne_of h b.hq (by intro z; cases z)), upd_ne (ne_of h b.hd (by intro z; cases z))]; exact h
  refine ⟨?_, ?_, fun i k v h => ?_, ?_, ?_, fun i c y h1 h2 => ?_, ?_, fun y hy => ?_, fun y hy => ?_, List.mem_append_left _ b.st⟩
  · rw [upd_ne ndq, upd_same, putK_new _ ((val_none b.ky).mpr hx)]
  · rw [List.map_append, b.ky, List.map_append]; rfl
  · by_cases hi : i < kvs.length
    · rw [List.getElem?_append_left hi] at h
      obtain ⟨c, ys, e1, e2, e3⟩ := b.vl i k v h
      exact ⟨c, ys, e1, keep _ _ e2, e3⟩
    · have hi2 : i = kvs.length := by
        have := (List.getElem?_eq_some_iff.mp h).1
        rw [List.length_append] at this
        have z : ([(kI x, V.ref a)] : List (List Key × V)).length = 1 := rfl
        omega
      subst hi2
      rw [List.getElem?_append_right (Nat.le_refl _), Nat.sub_self] at h
      have e1 : (kI x, V.ref a) = (k, v) := Option.some.inj h
      injection e1 with _ e1
      exact ⟨a, xs, e1.symm, keep _ _ ha, by rw [b.klen]; exact hl⟩
  · rw [upd_same, List.map_append]; rfl
  · rw [List.length_append, List.length_append, b.ln]; rfl
  · by_cases hi : i < as.length
    · rw [List.getElem?_append_left hi] at h1
      rw [List.getElem?_append_left (by rw [← b.ln]; exact hi)] at h2
      exact keep _ _ (b.it i c y h1 h2)
    · have hi2 : i = as.length := by
        have := (List.getElem?_eq_some_iff.mp h1).1
        rw [List.length_append] at this
        have z : ([e] : List Addr).length = 1 := rfl
        omega
      subst hi2
      rw [List.getElem?_append_right (Nat.le_refl _), Nat.sub_self] at h1
      rw [b.ln, List.getElem?_append_right (Nat.le_refl _), Nat.sub_self] at h2
      rw [← Option.some.inj h1, ← Option.some.inj h2]
      exact keep _ _ he
  · rw [List.nodup_append]
    exact ⟨b.nd, by simp, fun y hy z hz e => by
      rw [List.mem_singleton.mp hz] at e
      rw [e] at hy
      exact hx hy⟩
  · rcases List.mem_append.mp hy with h | h
    · exact b.rn y h
    · rw [List.mem_singleton.mp h]; exact hr
  · rcases List.mem_append.mp hy with h | h
    · exact b.rc y h
    · rw [List.mem_singleton.mp h]; exact hc
/-- a key's value -/
theorem BF.look {ts : Ts} {s0 : Int} {H : Hp} {d q : Addr} {L : List Int} {kvs : List (List Key × V)} {as : List Addr} (b : BF ts s0 H d q L kvs as) {x : Int} {i : Nat} (hi : L[i]? = some x) : ∃ a xs, valV kvs (kI x) = some (.ref a) ∧ H a = some (.tup xs) ∧ xs.length ≤ i := by
  cases e : valV kvs (kI x) with
  | none => exact absurd (List.mem_of_getElem? hi) ((val_none b.ky).mp e)
  | some v =>
    obtain ⟨j, hj⟩ := val_some e
    obtain ⟨a, xs, rfl, h2, h3⟩ := b.vl j _ _ hj
    have hk : (kvs.map (·.1))[j]? = some (kI x) := by rw [List.getElem?_map, hj]; rfl
    rw [b.ky, List.getElem?_map] at hk
    cases e2 : L[j]? with
    | none => rw [e2] at hk; cases hk
    | some y =>
      rw [e2] at hk
      have e3 : kI y = kI x := Option.some.inj hk
      injection e3 with e4 _
      injection e4 with e4
      subst e4
      have hij : j = i := by
        obtain ⟨h1, e5⟩ := List.getElem?_eq_some_iff.mp e2
        obtain ⟨h2', e6⟩ := List.getElem?_eq_some_iff.mp hi
        exact (List.getElem_inj b.nd).mp (e5.trans e6.symm)
      subst hij
      exact ⟨a, xs, rfl, h2, h3⟩
theorem ixTK {X : Cx} {K : PySem.W.Frag} (h : X.K = K) : IxR X (rIxT K) := by
  subst h
  exact ix_tup
end K1
namespace K1
open PySem PySem.Spec PyProof.Rows L2
def spFirst (M : Addr) : Sp := fun vs H Q _ => ∃ m ta ts s0 p, vs = [.ref m, .ref p, .non, .non] ∧ MachAt M H m ta (vts ts) ∧ Wf ts ∧ (0 ≤ s0 ∧ s0 < (nS ts : Int)) ∧ H p = some (.tup [.int s0]) ∧
  ∀ d q L kvs as H', Same H H' → H d = none → BF ts s0 H' d q L kvs as → (∀ x ∈ L, ∀ e : Int, 0 ≤ e ∧ e < (ts.length : Int) → stp ts x e ∈ L) → Q (.ref d) H'
section
variable {P : Program} {w : World} {K : PySem.W.Frag} {mg : Str → Option Value} {base : Heap}
/-- a def with two defaults that are None -/
structure DfF (K : PySem.W.Frag) (mg : Str → Option Value) (f : Addr) (fd : FuncData) : Prop where
  F : FunD K "first_rows" "first_rows" (defArgs sFirst) (defBody sFirst) (defScope sFirst) [.non, .non] [] f fd
  g : mg "first_rows" = some (.ref f)
theorem DfF.b {f : Addr} {fd : FuncData} (D : DfF K mg f fd) : ∃ ds, Vals [.non, .non] ds ∧ Binds K fd ["machine", "states", "out", "most"] ds :=
  D.F.binds1 2 0 (by simp) rfl fun T kV doc pm an cdv ct us its h1 h2 => match us, its, h1, h2 with | [_, _], [_, _], _, _ => ⟨_, rfl, rfl⟩
abbrev nFR : List Str := ["machine", "states", "out", "most", "rows", "queue", "at", "here", "deed", "table", "ends", "state"]
theorem scFR : FnScope nFR ["machine", "states", "out", "most"] (defScope sFirst) := ⟨rfl, rfl, rfl, by decide +kernel, rfl, by decide +kernel, by decide +kernel⟩
theorem iteE {c : Bool} {A B : Prop} (e : c = true) (h : A) : if c = true then A else B := by subst e; exact iteT h
theorem iteN {c : Bool} {A B : Prop} (e : c = false) (h : B) : if c = true then A else B := by subst e; exact iteF h
/-- a test that the proof never comes to -/
theorem pt_never {X : Cx} {e : Expr} : PT X e fun _ _ _ => False := ⟨fun _ _ _ _ _ _ h => h.elim⟩
theorem ok_first {f M : Addr} {fd : FuncData} (D : DfF K mg f fd) (B : Bt mg) (T : McT K mg M) : FnOk P w K mg base CX0 1 f fd ["machine", "states", "out", "most"] (spFirst M) := by
  refine D.F.ok scFR (fun vs H Q E h => ?_) (fun cdv A outer s H vs Q E hr h => ?_)
  · obtain ⟨m, ta, ts, s0, p, rfl, _⟩ := h
    rfl
  · obtain ⟨m, ta, ts, s0, p, rfl, hM, hW, hs, hp, q⟩ := h
    have hu := hu_of hr
    suffices z : ∃ t, PSs (cxOf CX0 P w K mg base nFR "first_rows" (defScope sFirst) f cdv A outer s H E).nox (defBody sFirst) t ∧ t { nx := fun _ H' => Q .non H', rt := Q } (start nFR [.ref m, .ref p, .non, .non]) H from
      let ⟨t, h1, h2⟩ := z
      ⟨t, h1.nox, h2⟩
    refine ⟨_, pss_cons (ps_set (i := 4) scFR.nd rfl (.inl rfl) (pe_dispT (Nat.lt_of_succ_lt hu) (pv 1) (pe_tup pa_nil)))
      (pss_cons (ps_set (i := 5) scFR.nd rfl (.inl rfl) (pe_lst (pa_cons (pv 1) pa_nil)))
      (pss_cons (ps_set (i := 6) scFR.nd rfl (.inl rfl) pe_int)
      (pss_cons (ps_while PassesOwn.never (PW.pt (pw_and (pt_cmpR op_lt (pv 6) (pe_callB call_len_seq (by rfl) B.len PySem.boot_len (pa_cons (pv 5) pa_nil)) (nomark _))
          (pw_and1 (PW.pt (pw_or (pt_cmp (pc_isN (pv 2))) (pw_or1 pt_never))))))
        (pss_cons (ps_set (i := 7) scFR.nd rfl (.inl rfl) (pe_ix ix_list (pv 5) (pv 6) (fun _ _ => rfl)))
        (pss_cons (ps_for PassesOwn.never rfl (pi_enumA (by rfl) B.enumerate (pa_cons (pe_fld (pv 0) rfl) pa_nil)) (pg_tup rfl (pgs_cons (pg_name (i := 8) scFR.nd rfl (.inl rfl)) (pgs_cons (pg_name (i := 9) scFR.nd rfl (.inr rfl)) pgs_nil)))
          (pss_cons (ps_set (i := 10) scFR.nd rfl (.inl rfl) (pe_callTy call_tuple_of (by rfl) B.tuple PyProof.Rows.boot_tuple (pa_cons
              (pe_lc (own := [("state", 11)]) (g := gName 11) (tt := tYes) rfl scFR.nd (pi_tup (pv 7)) (blkOk_by (N := nFR) (sc := defScope sFirst) (by decide +kernel)) (fun _ _ _ _ _ => pg_name (i := 11) scFR.nd rfl (Or.inl rfl)) (fun _ _ _ _ _ => pts_nil)
                (fun _ _ _ _ _ => pe_ix (ixTK (K := K) rfl) (pv 9) (pv 11) (fun _ _ => rfl))) pa_nil)))
          (pss_one (ps_if (pt_cmp (pc_dnotin hu (pv 10) (pv 4))) (pss_cons (ps_dput hu (pv 4) (pv 10) (pe_op op_catA (pe_dget hu (pv 4) (pv 7) (fun _ _ => rfl)) (pe_tup (pa_cons (pv 8) pa_nil))) rfl)
            (pss_one (ps_expr (pe_bm PySem.F.plainAttrs_list PySem.F.slot_list_append PySem.F.type_list_append mt_append (pv 5) (pa_cons (pv 10) pa_nil))))) pss_nil))))
        (pss_cons (ps_if (PW.pt (pw_and (pt_cmp (pc_notN (pv 3))) (pw_and1 pt_never))) pss_never pss_nil)
        (pss_one (ps_aug (i := 6) scFR.nd rfl (.inl rfl) pe_int ip_add))))))
      (pss_one (ps_ret (pv 4)))))), ?_⟩
    intro d hd
    refine ⟨_, rfl, (by show 0 ≤ sizeLine; decide), fun e0 he0 => ?_⟩
    have hd1 : H p ≠ none := by rw [hp]; intro z; cases z
    have ned : e0 ≠ d := fun z => by rw [z, upd_same] at he0; cases he0
    have se : Same H (upd (upd H d (.dT [])) e0 (.tup [])) := (same_new hd).trans (same_new he0)
    refine ⟨p, kI s0, rfl, se _ _ hp, by rw [upd_ne ned.symm, upd_same], ?_⟩
    generalize hH1 : upd (upd (upd H d (.dT [])) e0 (.tup [])) d (.dT [(kI s0, .ref e0)]) = H1
    have s1 : Same H H1 := fun b o e => by
      rw [← hH1, upd_ne (ne_of_none e hd)]
      exact se _ _ e
    have hd1' : H1 d = some (.dT [(kI s0, .ref e0)]) := by rw [← hH1, upd_same]
    have he1 : H1 e0 = some (.tup []) := by rw [← hH1, upd_ne ned, upd_same]
    refine ⟨_, rfl, (by show 1 ≤ sizeLine; decide), fun q0 hq0 => ?_⟩
    have s2 : Same H (upd H1 q0 (.lst [.ref p])) := s1.trans (same_new hq0)
    have b0 : BF ts s0 (upd H1 q0 (.lst [.ref p])) d q0 [s0] [(kI s0, .ref e0)] [p] := by
      have sm := same_new (o := HO.lst [.ref p]) hq0
      refine ⟨sm _ _ hd1', rfl, fun i k v h => ?_, upd_same, rfl, fun i a x h1 h2 => ?_, by simp, fun x hx => ?_, fun x hx => ?_, by simp⟩
      · cases i with
        | zero =>
          have z : (kI s0, V.ref e0) = (k, v) := Option.some.inj h
          injection z with _ z
          exact ⟨e0, [], z.symm, sm _ _ he1, Nat.le_refl _⟩
        | succ i => cases h
      · cases i with
        | zero =>
          obtain rfl : p = a := Option.some.inj h1
          obtain rfl : s0 = x := Option.some.inj h2
          exact s2 _ _ hp
        | succ i => cases h1
      · rw [List.mem_singleton.mp hx]; exact hs
      · rw [List.mem_singleton.mp hx]; exact .refl
    have nd0 : H d = none := hd
    refine while_by (fun σ H' => ∃ (i : Nat) (L : List Int) (kvs : List (List Key × V)) (as : List Addr) (v5 v6 v7 v8 : Option V), σ = [some (.ref m), some (.ref p), some .non, some .non, some (.ref d), some (.ref q0), some (.int (i : Int)), v5, v6, v7, v8, none] ∧ Same H H' ∧ BF ts s0 H' d q0 L kvs as ∧ i ≤ L.length ∧
        ∀ (j : Nat) x, j < i → L[j]? = some x → ∀ e : Int, 0 ≤ e ∧ e < (ts.length : Int) → stp ts x e ∈ L)
      (fun (σ : L2.St) _ => match σ[6]? with | some (some (V.int i)) => nS ts - i.toNat | _ => 0) ⟨0, _, _, _, none, none, none, none, rfl, s2, b0, Nat.zero_le _, fun j x hj => absurd hj (Nat.not_lt_zero _)⟩ ?_
      (fun σ H Q Q' hQ ⟨v, h1, v3, h2, p, ys, h3, h4, i, j, h5, h6, k, h7, h8⟩ => by
        refine ⟨v, h1, v3, h2, p, ys, h3, h4, i, j, h5, h6, k, h7, ?_⟩
        cases k with
        | false => exact hQ _ _ h8
        | true =>
          obtain ⟨u, hu, c, hc, h9⟩ := h8
          refine ⟨u, hu, c, hc, ?_⟩
          cases c with
          | false => exact h9
          | true => exact hQ _ _ h9)
    rintro σ H' ⟨i, L, kvs, as, v5, v6, v7, v8, rfl, sm, b, hi, cl⟩
    refine ⟨_, rfl, _, rfl, q0, _, rfl, .inl (SqL.of b.hq), _, _, rfl, rfl, _, rfl, ifD (fun ec => ⟨_, rfl, _, rfl, iteE rfl (iteT ?_)⟩) fun ec => iteF ?_⟩
    · have hlt : i < L.length := by
        have z : (i : Int) < ((as.map V.ref).length : Int) := of_decide_eq_true ec
        rw [List.length_map, b.ln] at z
        omega
      obtain ⟨x, hx⟩ : ∃ x, L[i]? = some x := ⟨L[i], List.getElem?_eq_getElem hlt⟩
      obtain ⟨a, ha⟩ : ∃ a, as[i]? = some a := by
        have : i < as.length := by rw [b.ln]; exact hlt
        exact ⟨as[i], List.getElem?_eq_getElem this⟩
      have hax := b.it i a x ha hx
      have hxr := b.rn x (List.mem_of_getElem? hx)
      obtain ⟨dx, hm⟩ := hM.fs
      obtain ⟨tas, ht1, ht2, ht3⟩ := hM.2
      have ltas : tas.length = ts.length := by rw [ht2, vts, List.length_map]
      refine ⟨_, rfl, _, rfl, q0, _, (i : Int), .ref a, rfl, rfl, SqL.of b.hq, atI_nat (by rw [List.getElem?_map, ha]; rfl), ?_⟩
      refine ⟨_, rfl, m, M, dx, _, _, rfl, sm _ _ hm, T.cl, T.nT, mf_t _ _ _, ta, rfl, .inr ⟨_, SqT.of (sm _ _ ht1), for_enumT (K := K) (a := ta) (xs := tas.map V.ref)
        (fun j σ H' => ∃ (L' : List Int) (kvs : List (List Key × V)) (as : List Addr) (v6 v7 v8 : Option V), σ = [some (.ref m), some (.ref p), some .non, some .non, some (.ref d), some (.ref q0), some (.int (i : Int)), some (.ref a), v6, v7, v8, none] ∧ Same H H' ∧ BF ts s0 H' d q0 L' kvs as ∧ H' a = some (.tup [.int x]) ∧ (∃ r, L' = L ++ r) ∧ ∀ e : Int, 0 ≤ e ∧ e < (j : Int) → stp ts x e ∈ L')
        ⟨L, kvs, as, _, _, _, rfl, sm, b, hax, ⟨[], by simp⟩, fun e he => by omega⟩ (fun j σ H' _ ⟨_, _, _, _, _, _, _, sm, _⟩ => SqT.of (sm _ _ ht1)) ?_ ?_⟩⟩
      · rintro j y T0 σ H' hy hT0 ⟨L', kvs, as, v6, v7, v8, rfl, sm, b, hax, ⟨r, rfl⟩, hc⟩
        obtain ⟨tj, htj, rfl⟩ : ∃ t, tas[j]? = some t ∧ y = V.ref t := by
          rw [List.getElem?_map] at hy
          cases e : tas[j]? with
          | none => rw [e] at hy; cases hy
          | some t => rw [e] at hy; exact ⟨t, rfl, (Option.some.inj hy).symm⟩
        have hjt : j < ts.length := by rw [← ltas]; exact (List.getElem?_eq_some_iff.mp htj).1
        have hdj : 0 ≤ (j : Int) ∧ (j : Int) < (ts.length : Int) := by omega
        obtain ⟨t, h1, h2, h3⟩ := hW.at_ hdj hxr
        have h1' : ts[j]? = some t := by simpa using h1
        have hT := ht3 j tj (vrow t) htj (by rw [vts, List.getElem?_map, h1']; rfl)
        generalize hyy : stp ts x (j : Int) = yy at h2 h3
        have sT := same_new (o := HO.tup [.int (j : Nat), .ref tj]) hT0
        refine ⟨T0, _, rfl, SqT.of upd_same, rfl, _, _, rfl, _, _, rfl, rfl, ?_⟩
        generalize hH2 : upd H' T0 (.tup [.int (j : Nat), .ref tj]) = H2 at sT ⊢
        have b2 := b.same sT
        have sm2 := sm.trans sT
        have hax2 := sT _ _ hax
        -- ends
        refine ⟨_, rfl, a, rfl, ⟨_, SqT.of hax2⟩, fun D0 hD0 => lc_tup (K := K) (a := a) (xs := [.int x]) (fun k H3 => Same H2 H3 ∧ H3 D0 = some (.lst (([V.int yy]).take k))) ⟨same_new hD0, upd_same⟩ (fun k H3 _ ⟨s3, _⟩ => SqT.of (s3 _ _ hax2)) ?_ ?_⟩
        · rintro k z H3 hz ⟨s3, hD3⟩
          cases k with
          | succ k => cases hz
          | zero =>
            obtain rfl : V.int x = z := Option.some.inj hz
            refine ⟨rfl, _, rfl, _, rfl, tj, _, x, .int yy, rfl, rfl, SqT.of (s3 _ _ (sm2 _ _ hT)), at_of (j := x.toNat) (by omega) (by rw [vrow, List.getElem?_map, h2]; rfl), ?_⟩
            refine ⟨[], hD3, (by show 0 < sizeLine; decide), ?_, upd_same⟩
            intro c o e
            rw [upd_ne (ne_of_none e hD0)]
            exact s3 _ _ e
        · rintro H3 ⟨s3, hD3⟩
          refine ⟨D0, _, rfl, .inl ⟨SqL.of hD3, fun en hen => ?_⟩⟩
          have s4 := s3.trans (same_new (o := HO.tup [V.int yy]) hen)
          generalize hH4 : upd H3 en (.tup (([V.int yy]).take [V.int x].length)) = H4
          have hen4 : H4 en = some (.tup [.int yy]) := by rw [← hH4]; exact upd_same
          have s4' : Same H2 H4 := by rw [← hH4]; exact s4
          have b4 := b2.same s4'
          have sm4 := sm2.trans s4'
          have hax4 := s4' _ _ hax2
          have goal_ : ∀ (L2 : List Int) (kvs2 : List (List Key × V)) (as2 : List Addr) (H5 : Hp) (w6 w7 w8 : Option V), Same H H5 → BF ts s0 H5 d q0 L2 kvs2 as2 → H5 a = some (.tup [.int x]) → (∃ r2, L2 = L ++ r2) → (∀ z ∈ L ++ r, z ∈ L2) → yy ∈ L2 →
              ∃ (L' : List Int) (kvs : List (List Key × V)) (as : List Addr) (u6 u7 u8 : Option V), [some (V.ref m), some (V.ref p), some V.non, some V.non, some (V.ref d), some (V.ref q0), some (V.int (i : Int)), some (V.ref a), w6, w7, w8, none] = [some (V.ref m), some (V.ref p), some V.non, some V.non, some (V.ref d), some (V.ref q0), some (V.int (i : Int)), some (V.ref a), u6, u7, u8, none] ∧ Same H H5 ∧ BF ts s0 H5 d q0 L' kvs as ∧ H5 a = some (.tup [.int x]) ∧ (∃ r, L' = L ++ r) ∧ ∀ e : Int, 0 ≤ e ∧ e < ((j + 1 : Nat) : Int) → stp ts x e ∈ L' :=
            fun L2 kvs2 as2 H5 w6 w7 w8 s5 b5 ha5 hr2 hsub hin => ⟨L2, kvs2, as2, w6, w7, w8, rfl, s5, b5, ha5, hr2, fun e he => by
              by_cases z : e = (j : Int)
              · rw [z, hyy]; exact hin
              · exact hsub _ (hc e (by omega))⟩
          refine ⟨_, rfl, _, rfl, d, _, rfl, DGet.t (k := kI yy) b4.hd hen4, _, rfl, ?_⟩
          cases ev : valV kvs (kI yy) with
          | some v =>
            refine iteF ?_
            have hin : yy ∈ L ++ r := by
              by_cases z : yy ∈ L ++ r
              · exact z
              · rw [(val_none b4.ky).mpr z] at ev; cases ev
            exact goal_ _ _ _ _ _ _ _ sm4 b4 hax4 ⟨r, rfl⟩ (fun z hz => hz) hin
          | none =>
            refine iteT ?_
            have hnin := (val_none b4.ky).mp ev
            have hxi : (L ++ r)[i]? = some x := by rw [List.getElem?_append_left hlt]; exact hx
            obtain ⟨ra, rxs, hv, hra, hrl⟩ := b4.look hxi
            have hil : i < (L ++ r).length := (List.getElem?_eq_some_iff.mp hxi).1
            have hsmall : (L ++ r).length ≤ 12 := Nat.le_trans b4.few hW.s12
            refine ⟨_, rfl, _, rfl, d, .ref ra, rfl, by rw [← hv]; exact DGet.t b4.hd hax4, _, rfl, (by show 1 ≤ sizeLine; decide), fun dt hdt => ?_⟩
            have s5 := same_new (o := HO.tup [V.int (j : Nat)]) hdt
            -- whichever tuple stands for the row, the rest is the same
            have rest : ∀ (rb : Addr) (ys : List V) (H6 : Hp), Same H4 H6 → H6 rb = some (.tup ys) → ys.length ≤ (L ++ r).length → DPut H6 d (.ref en) (.ref rb) (upd H6 d (.dT (putK kvs (kI yy) (.ref rb)))) ∧
                BF ts s0 (upd (upd H6 d (.dT (putK kvs (kI yy) (.ref rb)))) q0 (.lst (as.map V.ref ++ [.ref en]))) d q0 ((L ++ r) ++ [yy]) (kvs ++ [(kI yy, .ref rb)]) (as ++ [en]) ∧ (upd H6 d (.dT (putK kvs (kI yy) (.ref rb)))) q0 = some (.lst (as.map V.ref)) ∧
                Same H (upd (upd H6 d (.dT (putK kvs (kI yy) (.ref rb)))) q0 (.lst (as.map V.ref ++ [.ref en]))) ∧ (upd (upd H6 d (.dT (putK kvs (kI yy) (.ref rb)))) q0 (.lst (as.map V.ref ++ [.ref en]))) a = some (.tup [.int x]) := fun rb ys H6 s6 hrb hyl => by
              have b6 := b4.same s6
              have hq6 := b6.hq
              have ndq : q0 ≠ d := ne_of hq6 b6.hd (by intro z; cases z)
              refine ⟨DPut.t b6.hd (s6 _ _ hen4) (by rw [b6.klen, sizeLine_eq]; omega), b6.put hnin (s6 _ _ hen4) hrb hyl h3 (hyy ▸ .step (b6.rc x (List.mem_of_getElem? hxi)) hdj), by rw [upd_ne ndq]; exact hq6, fun c o e => ?_, ?_⟩
              · have hcq : c ≠ q0 := fun z => by rw [z, s1.free hq0] at e; cases e
                rw [upd_ne hcq, upd_ne (ne_of_none e nd0)]
                exact s6 _ _ (sm4 _ _ e)
              · have z := s6 _ _ hax4
                rw [upd_ne (ne_of z hq6 (by intro z; cases z)), upd_ne (ne_of z b6.hd (by intro z; cases z))]
                exact z
            have fin : ∀ (rb : Addr) (ys : List V) (H6 : Hp), Same H4 H6 → H6 rb = some (.tup ys) → ys.length ≤ (L ++ r).length → (as.map V.ref).length < sizeLine := fun _ _ _ _ _ _ => by
              rw [List.length_map, b4.ln, sizeLine_eq]; omega
            refine ⟨ra, dt, rxs, [.int (j : Nat)], rfl, rfl, SqT.of (s5 _ _ hra), SqT.of upd_same, ?_, fun e => ?_, fun _ e => absurd e (by simp), fun _ _ pn hpn => ?_⟩
            · show rxs.length + 1 ≤ sizeLine
              rw [sizeLine_eq]; omega
            · obtain ⟨g1, g2, g3, g4, g5⟩ := rest dt [.int (j : Nat)] _ s5 upd_same (by show 1 ≤ _; omega)
              refine ⟨_, rfl, _, rfl, d, _, rfl, g1, ?_⟩
              refine ⟨_, rfl, .inl ⟨rfl, _, SqL.of g3⟩, _, rfl, q0, _, _, rfl, rfl, g3, fin dt _ _ s5 upd_same (by show 1 ≤ _; omega), ?_⟩
              exact goal_ _ _ _ _ _ _ _ g4 g2 g5 ⟨r ++ [yy], by simp⟩ (fun z hz => List.mem_append_left _ hz) (by simp)
            · have s6 := s5.trans (same_new (o := HO.tup (rxs ++ [V.int (j : Nat)])) hpn)
              have hl6 : (rxs ++ [V.int (j : Nat)]).length ≤ (L ++ r).length := by
                rw [List.length_append]
                show rxs.length + 1 ≤ _
                omega
              obtain ⟨g1, g2, g3, g4, g5⟩ := rest pn _ _ s6 upd_same hl6
              refine ⟨_, rfl, _, rfl, d, _, rfl, g1, ?_⟩
              refine ⟨_, rfl, .inl ⟨rfl, _, SqL.of g3⟩, _, rfl, q0, _, _, rfl, rfl, g3, fin pn _ _ s6 upd_same hl6, ?_⟩
              exact goal_ _ _ _ _ _ _ _ g4 g2 g5 ⟨r ++ [yy], by simp⟩ (fun z hz => List.mem_append_left _ hz) (by simp)
      · rintro σ H' ⟨L', kvs, as, v6, v7, v8, rfl, sm, b, hax, ⟨r, rfl⟩, hc⟩
        refine ⟨_, rfl, _, rfl, iteN rfl (iteF ⟨_, rfl, _, _, rfl, rfl, ?_⟩)⟩
        refine ⟨⟨i + 1, L ++ r, kvs, as, some (.ref a), v6, v7, v8, ?_, sm, b, ?_, fun j y hj hy e he => ?_⟩, ?_⟩
        · have z : ((i + 1 : Nat) : Int) = (i : Int) + 1 := by omega
          rw [z]; rfl
        · rw [List.length_append]; omega
        · rcases Nat.lt_succ_iff_lt_or_eq.mp hj with z | z
          · have hy' : L[j]? = some y := by rw [List.getElem?_append_left (by omega)] at hy; exact hy
            exact List.mem_append_left _ (cl j y z hy' e he)
          · subst z
            rw [List.getElem?_append_left hlt, hx] at hy
            rw [← Option.some.inj hy]
            refine hc e ?_
            rw [List.length_map, ltas]
            exact he
        · have hf := b.few
          rw [List.length_append] at hf
          show nS ts - ((i : Int) + 1).toNat < nS ts - (i : Int).toNat
          omega
    · have hge : i = L.length := by
        have z : ¬ ((i : Int) < ((as.map V.ref).length : Int)) := of_decide_eq_false ec
        rw [List.length_map, b.ln] at z
        omega
      refine ⟨_, rfl, q d q0 L kvs as H' sm nd0 b fun x hx e he => ?_⟩
      obtain ⟨j, hj, ej⟩ := List.mem_iff_getElem.mp hx
      exact cl j x (by omega) (by rw [← ej]; exact List.getElem?_eq_getElem hj) e he
end
end K1
namespace K1
open PySem PySem.Spec PyProof.Rows L2
theorem reach_closed {ts : Ts} {s0 : Int} {L : List Int} (h0 : s0 ∈ L) (hc : ∀ x ∈ L, ∀ e : Int, 0 ≤ e ∧ e < (ts.length : Int) → stp ts x e ∈ L) : ∀ {x : Int}, Reach ts s0 x → x ∈ L := by
  intro x h
  induction h with
  | refl => exact h0
  | step h hd ih => exact hc _ ih _ hd
theorem lt_of_le_nodup {l : List Int} (h : l.Pairwise (· ≤ ·)) (n : l.Nodup) : l.Pairwise (· < ·) := by
  have h2 : l.Pairwise (· ≠ ·) := n
  exact (h.and h2).imp fun {a b} ⟨h1, h2⟩ => by omega
def spOrbit (K : PySem.W.Frag) (M CS : Addr) : Sp := fun vs H Q E => ∃ m ta ts v, vs = [.ref m, v] ∧ MachAt M H m ta (vts ts) ∧ Wf ts ∧ (∃ o, KV K H v o) ∧ (belowB v (nS ts : Int) = false → Rz CS "state" v H E) ∧
  (belowB v (nS ts : Int) = true → ∃ s, v = .int s ∧ ∀ (ns : List Int) p H', Same H H' → ns.Pairwise (· < ·) → (∀ x, x ∈ ns ↔ Reach ts s x) → H' p = some (.tup (vrow ns)) → Q (.ref p) H')
section
variable {P : Program} {w : World} {K : PySem.W.Frag} {mg : Str → Option Value} {base : Heap}
abbrev nOr : List Str := ["machine", "state", "ends"]
theorem scOr : FnScope nOr ["machine", "state"] (defScope sOrbit) := ⟨rfl, rfl, rfl, by decide +kernel, rfl, by decide +kernel, by decide +kernel⟩
/-- first_rows(e, ..) with its defaults -/
theorem pcF {X : Cx} {CX : CXT} {k : Nat} {f : Addr} {fd : FuncData} {sp : Sp} {E : XK} {p pos : Pos} {e : Expr} {es : List Expr} {t : TA} {ds : List Value} (D : DfF X.K X.mg f fd) (G : FnOk X.prog X.w X.K X.mg X.base CX k f fd ["machine", "states", "out", "most"] sp) (hr : Room k X.A) (hx : Passes CX X E) (ha : PA X (e :: es) t)
    (hv : Vals [.non, .non] ds) (hb : Binds X.K fd ["machine", "states", "out", "most"] ds) (hg : Gl X "first_rows" := by rfl)
    (hdb : (("first_rows" : Str) == ("__debug__" : Str)) = false := by decide) (he : starEach (e :: es) X.env = (false, eval e X.env) :: starEach es X.env := by rfl) (hpl : (backTo pos (starEach es X.env)).any (·.1) = false := by rfl) :
    PE X (.Call (.Name "first_rows" p) (e :: es) [] pos) (tCall sp [.non, .non] E t) := pe_call G hr hg D.g D.F.kp hb hv hx ha hdb he hpl
theorem ok_orbit {f fN fF CS M : Addr} {fd fdN fdF : FuncData} (D : Df K mg "orbit" sOrbit ["machine", "state"] f fd) (DN : Df K mg "need_state" sNeedS ["machine", "state"] fN fdN) (DF : DfF K mg fF fdF) (B : Bt mg)
    (GN : FnOk P w K mg base (L2.CX P w) 3 fN fdN ["machine", "state"] (spNeed M CS "state" nS)) (GF : FnOk P w K mg base CX0 1 fF fdF ["machine", "states", "out", "most"] (spFirst M)) : FnOk P w K mg base (L2.CX P w) 4 f fd ["machine", "state"] (spOrbit K M CS) := by
  refine D.F.okX scOr (fun vs H Q E h => ?_) (fun cdv A outer s H vs Q E hr h => ?_)
  · obtain ⟨m, ta, ts, v, rfl, _⟩ := h
    rfl
  · obtain ⟨m, ta, ts, v, rfl, hM, hW, ⟨o, kv⟩, q1, q2⟩ := h
    obtain ⟨ds, vd, bd⟩ := DF.b
    refine ⟨_, pss_cons (ps_expr (pc DN GN hr (pass1 (takes_of rfl rfl rfl rfl)) (pa_cons (pv 0) (pa_cons (pv 1) pa_nil))))
      (pss_one (ps_ret (pe_callTy call_tuple_of (by rfl) B.tuple PyProof.Rows.boot_tuple (pa_cons (pe_callB cr_sortedI (by rfl) B.sorted PyProof.Rows.boot_sorted (pa_cons
        (pe_lc (own := [("ends", 2)]) (g := gName 2) (tt := tYes) rfl scOr.nd (pi_keysF (pcF DF GF (hr.mono (by decide)) pass0 (pa_cons (pv 0) (pa_cons (pe_tup (pa_cons (pv 1) pa_nil)) pa_nil)) vd bd)) (blkOk_by (N := nOr) (sc := defScope sOrbit) (by decide +kernel)) (fun _ _ _ _ _ => pg_name (i := 2) scOr.nd rfl (Or.inl rfl)) (fun _ _ _ _ _ => pts_nil)
          (fun _ _ _ _ _ => pe_ix (ixTK (K := K) rfl) (pv 2) pe_int (fun _ _ => rfl))) pa_nil)) pa_nil)))), ?_⟩
    refine ⟨_, rfl, _, rfl, m, ta, ts, v, rfl, hM, ⟨K, o, kv⟩, fun e => ?_, fun e => q1 e⟩
    obtain ⟨s0, rfl, q⟩ := q2 e
    have hs : 0 ≤ s0 ∧ s0 < (nS ts : Int) := by
      have z : (decide (0 ≤ s0) && decide (s0 < (nS ts : Int))) = true := e
      simpa using z
    refine ⟨_, rfl, _, rfl, (by show 1 ≤ sizeLine; decide), fun p hp => ?_⟩
    have s1 := same_new (o := HO.tup [V.int s0]) hp
    refine ⟨m, ta, ts, s0, p, rfl, hM.same s1, hW, hs, upd_same, fun d qa L kvs as H2 s2 hd b hc => ?_⟩
    have s12 := s1.trans s2
    have hd0 : H d = none := s1.free hd
    refine ⟨d, kvs, rfl, b.hd, fun od D0 hD0 => ?_⟩
    have ndD : d ≠ D0 := fun z => by rw [← z, upd_same] at hD0; cases hD0
    have hD2 : H2 D0 = none := by rw [upd_ne ndD.symm] at hD0; exact hD0
    generalize hH3 : upd H2 d (.frz od (.dT kvs)) = H3
    have hd3 : H3 d = some (.frz od (.dT kvs)) := by rw [← hH3, upd_same]
    have s3 : Same H H3 := fun c o e => by
      rw [← hH3, upd_ne (ne_of_none e hd0)]
      exact s12 _ _ e
    have hD3 : H3 D0 = none := by rw [← hH3, upd_ne ndD.symm]; exact hD2
    refine lc_keysF (fun i H' => Same H3 H' ∧ H' D0 = some (.lst ((L.take i).map V.int))) ⟨same_new hD3, upd_same⟩ (fun i H' _ ⟨s4, _⟩ => s4 _ _ hd3) ?_ ?_
    · rintro i k v qk H' hk hqk ⟨s4, hD4⟩
      obtain ⟨x, hx, rfl⟩ : ∃ x, L[i]? = some x ∧ k = kI x := by
        have z : (kvs.map (·.1))[i]? = some k := by rw [List.getElem?_map, hk]; rfl
        rw [b.ky, List.getElem?_map] at z
        cases e : L[i]? with
        | none => rw [e] at z; cases z
        | some x => rw [e] at z; exact ⟨x, rfl, (Option.some.inj z).symm⟩
      have hlen : L.length ≤ 12 := Nat.le_trans b.few hW.s12
      refine ⟨rfl, _, rfl, qk, [.int x], 0, .int x, rfl, rfl, SqT.of hqk, atI_nat (j := 0) rfl, _, hD4, ?_, ?_, ?_⟩
      · rw [List.length_map, List.length_take, sizeLine_eq]; omega
      · intro c o e
        rw [upd_ne (ne_of_none e hD3)]
        exact s4 _ _ e
      · rw [upd_same, take_succ hx, List.map_append]; rfl
    · rintro H4 ⟨s4, hD4⟩
      have eL : L.take kvs.length = L := by rw [b.klen, List.take_length]
      rw [eL] at hD4
      refine ⟨D0, L, rfl, SqL.of hD4, fun ns' p2 hperm hpw hp2 => ?_⟩
      refine ⟨p2, _, rfl, .inl ⟨SqL.of upd_same, fun p3 hp3 => ?_⟩⟩
      refine q ns' p3 _ ((s3.trans s4).trans ((same_new hp2).trans (same_new hp3))) (lt_of_le_nodup hpw (hperm.nodup_iff.mpr b.nd)) (fun x => ?_) upd_same
      rw [hperm.mem_iff]
      exact ⟨b.rc x, reach_closed b.st hc⟩
end
end K1
/-! set(xs) of a list of whole numbers, sorted(set(xs)); a dict display with one tuple key; the keys of a dict walked and kept -/
namespace K1
open PySem PySem.Spec PyProof.Rows L2
section
variable {P : Program} {w : World} {A : Around} {E : Value → Shared → Prop} {s : Shared}
theorem call_set_lstI {l : Addr} {items : Array Value} (ns : List Int) {Q : Value → Shared → Prop} (hh : A.handled = none) (hl : s.heap.IsList l items) (hit : IntsAre items.toList ns) (hb : ns.length + 1 < scanBound)
    (h : ∀ (h' : Heap) (tk c : Nat), SetR w h' s.heap.objs.size (fun j => decide (j ∈ ns)) c → c ≤ ns.length → (∀ b o, s.heap.get? b = some o → h'.get? b = some o) → Q (.ref s.heap.objs.size) { s with heap := h', toks := tk }) :
    wpAny (model P w) A (call (.type "set") [.ref l]) Q E s := by
  have hisz : items.size = ns.length := by
    have q := IntsAre.length hit
    rw [Array.length_toList] at q
    exact q
  obtain ⟨c, tl, hmro⟩ := F.called_set.mro
  have hmade := F.called_set.made
  have hsub := F.called_set.sub
  refine wpAny_call (codeAny_of_tree ?_)
  show wpAny _ _ (callAny (.type "set") _) _ _ _
  refine wpAny_pure ⟨Code.quiet_builtin _ (by decide +kernel), codeAny_builtin F.entry_type_call ?_⟩
  rw [Around.under_plain (weight_type_call_type "set" [.ref l] []) rfl]
  have h1 := F.called_set.notType
  have h2 := F.called_set.canCreate
  have hct := F.typeCall_set_1 (.ref l)
  repeat (any_goals (first | assumption | wp_step))

  refine codeAny_mono (code_set_led1 (.ref l) (E := E) (Q₁ := fun obj s₁ => obj = .ref s.heap.objs.size ∧ s₁ = { s with heap := s.heap.push { cls := .type "set", dict := none, data := .set #[] 0 (.fresh 0 0 (!w.params.followText "set-order")) } }) ⟨rfl, rfl⟩) fun r s₁ hr => ?_
  cases r with
  | error e => exact hr
  | ok fl =>
    cases fl with
    | ret obj =>
      obtain ⟨rfl, rfl⟩ := hr
      have hS : (s.heap.push { cls := .type "set", dict := none, data := .set #[] 0 (.fresh 0 0 (!w.params.followText "set-order")) }).get? s.heap.objs.size = some { cls := .type "set", dict := none, data := .set #[] 0 (.fresh 0 0 (!w.params.followText "set-order")) } := Heap.get?_push_size _ rfl
      have hT : Shared.TypeIs { s with heap := s.heap.push { cls := .type "set", dict := none, data := .set #[] 0 (.fresh 0 0 (!w.params.followText "set-order")) } } (.ref s.heap.objs.size) "set" := ⟨_, hS, rfl⟩
      have hli := F.called_set.init.lookup
      have hbi := F.called_set.init.bind (.ref s.heap.objs.size)
      repeat (any_goals (first | assumption | wp_step))

      refine codeAny_mono (codeAny_call_builtin (R := wants (fun r s₂ => r = .none ∧ ∃ h' tk c, s₂ = { s with heap := h', toks := tk } ∧ SetR w h' s.heap.objs.size (fun j => decide (j ∈ ns)) c ∧ c ≤ ns.length ∧
          (∀ b o, s.heap.get? b = some o → h'.get? b = some o)) E) F.called_set.init.plain F.entry_set_init (check_set_init_1 hT ?_)) fun r₂ s₂ hr₂ => ?_
      · obtain ⟨ol, hol, hcl, nl, hdl⟩ := hl
        obtain ⟨ocls, odict, odata, oslots⟩ := ol
        simp only at hcl hdl
        subst hcl; subst hdl
        have hol' : (s.heap.push { cls := .type "set", dict := none, data := .set #[] 0 (.fresh 0 0 (!w.params.followText "set-order")) }).get? l = some { cls := .type "list", dict := odict, data := .seq items nl, slots := oslots } := Heap.get?_push_of_some _ hol
        have hsls := F.sub_list_set
        have hslf := F.sub_list_frozenset
        have hne : (Value.type "list" == Value.type "dict") = false := by decide
        have hl1 : (s.heap.push { cls := .type "set", dict := none, data := .set #[] 0 (.fresh 0 0 (!w.params.followText "set-order")) }).IsList l items := ⟨_, hol', rfl, nl, rfl⟩
        unfold Builtin.«set.__init__» noKeywords Builtin.Frozenset.updateFrom
        generalize hPI : pyIter = PI
        wp_walk
        subst hPI

        refine wpAny_pyIter_list hl1 ?_
        refine wpAny_bind (wpAny_runValue ?_)
        have hlS : l < s.heap.objs.size := Heap.lt_size hol
        have hh3 : A.in1.in1.in1.handled = none := by simp [hh]
        have hz1 : (s.heap.push { cls := .type "set", dict := none, data := .set #[] 0 (.fresh 0 0 (!w.params.followText "set-order")) }).objs.size = s.heap.objs.size + 1 := Heap.size_push ..
        have hneI : l ≠ (s.heap.push { cls := .type "set", dict := none, data := .set #[] 0 (.fresh 0 0 (!w.params.followText "set-order")) }).objs.size := by
          rw [Heap.size_push]; exact Nat.ne_of_lt (Nat.lt_succ_of_lt hlS)
        have hSf : s.heap.objs.size ∉ [(s.heap.push { cls := .type "set", dict := none, data := .set #[] 0 (.fresh 0 0 (!w.params.followText "set-order")) }).objs.size, l] := by
          rw [Heap.size_push]; simp only [List.mem_cons, List.mem_singleton, List.not_mem_nil, or_false, not_or]
          exact ⟨Nat.ne_of_lt (Nat.lt_succ_self _), Nat.ne_of_gt hlS⟩
        have hval : ∀ (i : Nat) (v : Value), items[i]? = some v → ∃ k t, ns[i]? = some k ∧ v = .int k t := fun i v hv => by
          have hi : i < ns.length := by rw [← hisz]; exact (Array.getElem?_eq_some_iff.mp hv).1
          obtain ⟨t, e⟩ := PyProof.Rows.IntsAre.int_at hit i v (by rw [Array.getElem?_toList]; exact hv)
          refine ⟨ns[i], t, List.getElem?_eq_getElem hi, ?_⟩
          rw [e, List.getD_eq_getElem?_getD, List.getElem?_eq_getElem hi] <;> rfl
        refine set_update_ints ((Walks.list hh3 _ l hneI items).toS) s.heap.objs.size
          hSf ns hisz hb hval (items.size - 0) 0 _ (by omega) (Nat.zero_le _)
          ⟨⟨_, Heap.get?_push_size _ rfl, rfl, rfl⟩, (hl1.push _)⟩ ?hS0 ?hR
        case hS0 =>
          have hget : ((s.heap.push { cls := .type "set", dict := none, data := .set #[] 0 (.fresh 0 0 (!w.params.followText "set-order")) }).push { cls := .type "list_iterator", data := .fields #[.ref l, .int 0 0] }).get? s.heap.objs.size
              = some { cls := .type "set", dict := none, data := .set #[] 0 (.fresh 0 0 (!w.params.followText "set-order")) } := Heap.get?_push_of_some _ hS
          exact ⟨0, Nat.le_refl 0, setR_new_at hget⟩
        case hR =>
          intro s' c' hm hc' hS'
          obtain ⟨h', g2, d', tk', os'⟩ := s'
          have eg : g2 = s.gens := hm.gens
          have ed : d' = s.drawn := hm.drawn
          have eo : os' = s.os := hm.os
          subst eg; subst ed; subst eo
          show wpAny _ _ _ _ _ _
          refine wpAny_pure ?_
          show wpAny _ _ (ret Value.none) _ _ _
          rw [hisz] at hc'
          refine wpAny_pure ⟨rfl, h', tk', c', rfl, hS', hc', fun b o e => ?_⟩
          have hb0 : b < s.heap.objs.size := Heap.lt_size e
          have hb1 : b ≠ s.heap.objs.size := Nat.ne_of_lt hb0
          have hb2 : b ≠ (s.heap.push { cls := .type "set", dict := none, data := .set #[] 0 (.fresh 0 0 (!w.params.followText "set-order")) }).objs.size := by
            rw [Heap.size_push]; exact Nat.ne_of_lt (Nat.lt_succ_of_lt hb0)
          exact hm.heap b o (by simp only [List.mem_cons, List.mem_singleton, List.not_mem_nil, or_false, not_or]; exact ⟨hb1, hb2⟩) (Heap.get?_push_of_some _ (Heap.get?_push_of_some _ e))

      · cases r₂ with
        | error e => exact hr₂
        | ok fl₂ =>
          cases fl₂ with
          | ret r =>
            obtain ⟨rfl, h', tk, c', rfl, hS', hc', hk'⟩ := hr₂
            repeat (any_goals (first | assumption | wp_step))
            exact h _ _ _ hS' hc' hk'
          | _ => exact hr₂.elim
    | _ => exact hr.elim

end
/-- set(xs), xs a list of whole numbers -/
def rSetI (K : PySem.W.Frag) (w : World) : List V → Hp → VK → Prop := fun xs H Q => ∃ (a : Addr) (ns : List Int), xs = [.ref a] ∧ SqL K H a (ns.map V.int) ∧ ns.length < 60 ∧
  ∀ p c, H p = none → c ≤ ns.length → Q (.ref p) (upd H p (SetO w p (fun j => decide (j ∈ ns)) c))
theorem cr_setI {X : Cx} (hc : X.calm = true) : CallR X (.type "set") (rSetI X.K X.w) := by
  intro pins s σ H xs us Q I r h
  obtain ⟨a, ns, rfl, hs, h60, q⟩ := h
  rw [Vals.ref1 r]
  obtain ⟨its, rv, pl, hz⟩ := I.list hs
  refine call_set_lstI ns (I.ok.hd hc) pl.isList (by simpa using rv.ints) (by unfold scanBound; omega) fun h' tk c R hcn k => ?_
  refine ⟨.ref _, upd H s.heap.objs.size (SetO X.w s.heap.objs.size (fun j => decide (j ∈ ns)) c), I.laid (t' := tk) k (Nat.le_refl _) (setO_new R), rfl, q _ c (I.hok.fresh (Nat.le_refl _)) hcn⟩
end K1
namespace K1
open PySem PySem.Spec PyProof.Rows L2
/-- a source of draws -/
def BoxO (H : Hp) (b : Addr) : Prop := ∃ x y z : Int, H b = some (.lst [.int x, .int y, .int z])
/-- all but the source stands, which is one again -/
def Bx (b : Addr) (H H' : Hp) : Prop := BoxO H' b ∧ ∀ c o, H c = some o → c ≠ b → H' c = some o
theorem Bx.refl {b : Addr} {H : Hp} (h : BoxO H b) : Bx b H H := ⟨h, fun _ _ e _ => e⟩
theorem Bx.trans {b : Addr} {H H1 H2 : Hp} (a : Bx b H H1) (c : Bx b H1 H2) : Bx b H H2 := ⟨c.1, fun d o e n => c.2 d o (a.2 d o e n) n⟩
theorem Bx.same {b : Addr} {H H1 H2 : Hp} (a : Bx b H H1) (s : Same H1 H2) : Bx b H H2 := ⟨let ⟨x, y, z, e⟩ := a.1; ⟨x, y, z, s _ _ e⟩, fun d o e n => s _ _ (a.2 d o e n)⟩
theorem BoxO.same {b : Addr} {H H' : Hp} (h : BoxO H b) (s : Same H H') : BoxO H' b := let ⟨x, y, z, e⟩ := h; ⟨x, y, z, s _ _ e⟩
theorem Same.bx {b : Addr} {H H1 H2 : Hp} (s : Same H H1) (a : Bx b H1 H2) : Bx b H H2 := ⟨a.1, fun d o e n => a.2 d o (s _ _ e) n⟩
theorem Bx.set {b : Addr} {H : Hp} {x y z : Int} : Bx b H (upd H b (.lst [.int x, .int y, .int z])) := ⟨⟨x, y, z, upd_same⟩, fun c o e n => by rw [upd_ne n]; exact e⟩
theorem Bx.free {b c : Addr} {H H' : Hp} (a : Bx b H H') (hb : c ≠ b) (h : H' c = none) : H c = none := by
  cases q : H c with
  | none => rfl
  | some o => rw [a.2 c o q hb] at h; cases h
def spTake : Sp := fun vs H Q _ => ∃ b n, vs = [.ref b, .int n] ∧ BoxO H b ∧ 1 ≤ n ∧ n < 1073741824 ∧ ∀ r H', 0 ≤ r → r < n → Bx b H H' → Q (.int r) H'
def spPick : Sp := fun vs H Q _ => ∃ (b l : Addr) (xs : List V), vs = [.ref b, .ref l] ∧ BoxO H b ∧ H l = some (.lst xs) ∧ l ≠ b ∧ 1 ≤ xs.length ∧ xs.length ≤ 1000 ∧ ∀ (i : Nat) v H', xs[i]? = some v → Bx b H H' → Q v H'
def spBox (K : PySem.W.Frag) : Sp := fun vs H Q _ => ∃ (a : Addr) (ns : List Int) (k : Int), vs = [.ref a, .int k] ∧ SqL K H a (ns.map V.int) ∧ ns.length ≤ 63 ∧ 0 ≤ k ∧ k ≤ 10 ∧ ∀ b H', Same H H' → H b = none → BoxO H' b → Q (.ref b) H'
section
variable {P : Program} {w : World} {K : PySem.W.Frag} {mg : Str → Option Value} {base : Heap}
theorem scTk : FnScope ["_law_box_here", "_law_many", "_law_digit", "_law_raw"] ["_law_box_here", "_law_many"] (defScope sTake) := ⟨rfl, rfl, rfl, by decide +kernel, rfl, by decide +kernel, by decide +kernel⟩
theorem ok_take {f : Addr} {fd : FuncData} (D : Df K mg "_law_take" sTake ["_law_box_here", "_law_many"] f fd) (B : Bt mg) : FnOk P w K mg base CX0 1 f fd ["_law_box_here", "_law_many"] spTake := by
  refine D.F.ok scTk (fun vs H Q E h => ?_) (fun cdv A outer s H vs Q E hr h => ?_)
  · obtain ⟨b, n, rfl, _⟩ := h
    rfl
  · obtain ⟨b, n, rfl, ⟨x, y, z, hb⟩, h1, h2, q⟩ := h
    refine ⟨_, pss_cons (ps_if (pt_cmpR op_gt (pe_ix ix_list (pv 0) pe_int (fun _ _ => rfl)) pe_int (nomark _))
        (pss_cons (ps_set (i := 2) scTk.nd rfl (.inl rfl) (pe_op op_mod (pe_callTy call_int1 (by rfl) B.int PyProof.Rows.boot_int (pa_cons (pe_ix ix_list (pv 0) pe_int (fun _ _ => rfl)) pa_nil)) (pv 1)))
        (pss_cons (ps_asg (pe_op op_fdivN (pe_ix ix_list (pv 0) pe_int (fun _ _ => rfl)) (pv 1)) (pg_sub (pv 0) pe_int set_list))
        (pss_one (ps_ret (pv 2))))) pss_nil)
      (pss_cons (ps_asg (pe_op op_add (pe_ix ix_list (pv 0) pe_int (fun _ _ => rfl)) pe_int) (pg_sub (pv 0) pe_int set_list))
      (pss_cons (ps_set (i := 3) scTk.nd rfl (.inl rfl) (pe_op op_mod (pe_callTy call_int1 (by rfl) B.int PyProof.Rows.boot_int (pa_cons (pe_op op_add (pe_op op_mul (pe_op op_add (pe_ix ix_list (pv 0) pe_int (fun _ _ => rfl)) (pe_op op_mul pe_int (pe_ix ix_list (pv 0) pe_int (fun _ _ => rfl)))) pe_int) pe_int) pa_nil)) pe_int))
      (pss_cons (ps_asg (pe_op op_add (pe_op op_mod (pe_callTy call_int1 (by rfl) B.int PyProof.Rows.boot_int (pa_cons (pe_op op_add (pe_op op_mul (pv 3) pe_int) pe_int) pa_nil)) pe_int) pe_int) (pg_sub (pv 0) pe_int set_list))
      (pss_one (ps_ret (pe_op op_mod (pe_callTy call_int1 (by rfl) B.int PyProof.Rows.boot_int (pa_cons (pe_op op_fdivN (pe_op op_add (pe_op op_mul (pv 3) pe_int) (pe_ix ix_list (pv 0) pe_int (fun _ _ => rfl))) pe_int) pa_nil)) (pv 1))))))), ?_⟩
    have a0 : ∀ {u v t : Int}, atI [V.int u, V.int v, V.int t] 0 = some (V.int u) := fun {u v t} => atI_nat (j := 0) rfl
    have a1 : ∀ {u v t : Int}, atI [V.int u, V.int v, V.int t] 1 = some (V.int v) := fun {u v t} => atI_nat (j := 1) rfl
    have a2 : ∀ {u v t : Int}, atI [V.int u, V.int v, V.int t] 2 = some (V.int t) := fun {u v t} => atI_nat (j := 2) rfl
    have np : 0 < n := by omega
    refine ⟨_, rfl, b, _, 0, .int x, rfl, rfl, SqL.of hb, a0, _, _, rfl, rfl, _, rfl, ifD (fun e => ?_) fun e => ?_⟩
    · refine ⟨_, rfl, b, _, 0, .int x, rfl, rfl, SqL.of hb, a0, .inl ⟨x, rfl, _, rfl, _, _, rfl, rfl, np, ?_⟩⟩
      refine ⟨_, rfl, b, _, 0, .int x, rfl, rfl, SqL.of hb, a0, _, rfl, _, _, rfl, rfl, ⟨by omega, by omega⟩, _, rfl, b, _, 0, 0, rfl, rfl, hb, rfl, ?_⟩
      exact ⟨_, rfl, q _ _ (Int.emod_nonneg _ (by omega)) (Int.emod_lt_of_pos _ np) Bx.set⟩
    · refine ⟨_, rfl, b, _, 2, .int z, rfl, rfl, SqL.of hb, a2, _, _, rfl, rfl, _, rfl, b, _, 2, 2, rfl, rfl, hb, rfl, ?_⟩
      show tSeq _ _ _ _ (upd H b (.lst [.int x, .int y, .int (z + 1)]))
      generalize hH1 : upd H b (.lst [.int x, .int y, .int (z + 1)]) = H1
      have hb1 : H1 b = some (.lst [.int x, .int y, .int (z + 1)]) := by rw [← hH1, upd_same]
      refine ⟨_, rfl, b, _, 1, .int y, rfl, rfl, SqL.of hb1, a1, _, rfl, b, _, 2, .int (z + 1), rfl, rfl, SqL.of hb1, a2, _, _, rfl, rfl, .inl ⟨by decide, by decide⟩, _, _, rfl, rfl, _, _, rfl, rfl, .inr ⟨by decide, by decide⟩, _, _, rfl, rfl, .inl ⟨_, rfl, _, _, rfl, rfl, (by decide : (0 : Int) < 2147483423), ?_⟩⟩
      refine ⟨_, rfl, _, _, rfl, rfl, .inr ⟨by decide, by decide⟩, _, _, rfl, rfl, .inl ⟨_, rfl, _, _, rfl, rfl, (by decide : (0 : Int) < 2147483477), _, _, rfl, rfl, _, rfl, b, _, 1, 1, rfl, rfl, hb1, rfl, ?_⟩⟩
      generalize hH2 : upd H1 b _ = H2
      have hb2 : ∃ y', H2 b = some (.lst [.int x, .int y', .int (z + 1)]) := ⟨_, by rw [← hH2, upd_same]; rfl⟩
      obtain ⟨y', hb2⟩ := hb2
      have bx : Bx b H H2 := ⟨⟨_, _, _, hb2⟩, fun c o e n => by rw [← hH2, upd_ne n, ← hH1, upd_ne n]; exact e⟩
      refine ⟨_, rfl, _, _, rfl, rfl, .inr ⟨by decide, by decide⟩, _, rfl, b, _, 1, .int y', rfl, rfl, SqL.of hb2, a1, _, _, rfl, rfl, _, _, rfl, rfl, ⟨by decide, by decide⟩, .inl ⟨_, rfl, _, rfl, _, _, rfl, rfl, np, ?_⟩⟩
      exact q _ _ (Int.emod_nonneg _ (by omega)) (Int.emod_lt_of_pos _ np) bx
theorem scPi : FnScope ["_law_box_here", "_law_some"] ["_law_box_here", "_law_some"] (defScope sPick) := ⟨rfl, rfl, rfl, by decide +kernel, rfl, by decide +kernel, by decide +kernel⟩
theorem ok_pick {f fT : Addr} {fd fdT : FuncData} (D : Df K mg "_law_pick" sPick ["_law_box_here", "_law_some"] f fd) (DT : Df K mg "_law_take" sTake ["_law_box_here", "_law_many"] fT fdT) (B : Bt mg) (GT : FnOk P w K mg base CX0 1 fT fdT ["_law_box_here", "_law_many"] spTake) :
    FnOk P w K mg base CX0 2 f fd ["_law_box_here", "_law_some"] spPick := by
  refine D.F.ok scPi (fun vs H Q E h => ?_) (fun cdv A outer s H vs Q E hr h => ?_)
  · obtain ⟨b, l, xs, rfl, _⟩ := h
    rfl
  · obtain ⟨b, l, xs, rfl, hb, hl, hne, h1, h2, q⟩ := h
    refine ⟨_, pss_one (ps_ret (pe_ix ix_list (pv 1) (pc DT GT hr pass0 (pa_cons (pv 0) (pa_cons (pe_callB call_len_seq (by rfl) B.len PySem.boot_len (pa_cons (pv 1) pa_nil)) pa_nil))) (fun _ _ => rfl))), ?_⟩
    refine ⟨_, rfl, _, rfl, _, rfl, l, xs, rfl, .inl (SqL.of hl), b, _, rfl, hb, by omega, by omega, fun r H' r0 r1 bx => ?_⟩
    have hi : r.toNat < xs.length := by omega
    refine ⟨l, xs, r, xs[r.toNat], rfl, rfl, SqL.of (bx.2 _ _ hl hne), at_of (j := r.toNat) (by omega) (List.getElem?_eq_getElem hi), q r.toNat _ H' (List.getElem?_eq_getElem hi) bx⟩
theorem scBx : FnScope ["_law_script", "_law_k", "_law_cell"] ["_law_script", "_law_k"] (defScope sBox) := ⟨rfl, rfl, rfl, by decide +kernel, rfl, by decide +kernel, by decide +kernel⟩
theorem ok_box {f : Addr} {fd : FuncData} (D : Df K mg "_law_box" sBox ["_law_script", "_law_k"] f fd) (B : Bt mg) : FnOk P w K mg base CX0 1 f fd ["_law_script", "_law_k"] (spBox K) := by
  refine D.F.ok scBx (fun vs H Q E h => ?_) (fun cdv A outer s H vs Q E hr h => ?_)
  · obtain ⟨a, ns, k, rfl, _⟩ := h
    rfl
  · obtain ⟨a, ns, k, rfl, hS, hl, k0, k1, q⟩ := h
    refine ⟨_, pss_cons (ps_set (i := 2) scBx.nd rfl (.inl rfl) (pe_op op_add (pe_op op_mul pe_int (pv 1)) pe_int))
      (pss_cons (ps_if (pt_cmpR op_lt (pv 1) (pe_callB call_len_seq (by rfl) B.len PySem.boot_len (pa_cons (pv 0) pa_nil)) (nomark _))
        (pss_one (ps_set (i := 2) scBx.nd rfl (.inl rfl) (pe_callB call_abs (by rfl) B.abs (by decide +kernel) (pa_cons (pe_ix ix_list (pv 0) (pv 1) (fun _ _ => rfl)) pa_nil))))
        (pss_one (ps_if (pt_cmpR op_gt (pe_callB call_len_seq (by rfl) B.len PySem.boot_len (pa_cons (pv 0) pa_nil)) pe_int (nomark _))
          (pss_one (ps_set (i := 2) scBx.nd rfl (.inl rfl) (pe_op op_add (pv 2) (pe_op op_mul (pe_op op_mod (pe_callTy call_int1 (by rfl) B.int PyProof.Rows.boot_int (pa_cons (pe_callB call_abs (by rfl) B.abs (by decide +kernel) (pa_cons (pe_ix ix_list (pv 0)
            (pe_op op_mod (pe_callTy call_int1 (by rfl) B.int PyProof.Rows.boot_int (pa_cons (pv 1) pa_nil)) (pe_callB call_len_seq (by rfl) B.len PySem.boot_len (pa_cons (pv 0) pa_nil))) (fun _ _ => rfl)) pa_nil)) pa_nil)) pe_int) pe_int)))) pss_nil)))
      (pss_one (ps_ret (pe_lst (pa_cons (pe_ix ix_list (pe_lst (pa_cons pe_int (pa_cons (pv 2) pa_nil))) (pe_callTy call_int1 (by rfl) B.int PyProof.Rows.boot_int (pa_cons (pe_cmpR op_ge (pv 2) (pe_op op_pow pe_int pe_int) (nomark _)) pa_nil)) (fun _ _ => rfl))
        (pa_cons (pe_op op_add (pe_op op_mod (pe_callTy call_int1 (by rfl) B.int PyProof.Rows.boot_int (pa_cons (pe_op op_add (pe_op op_mul (pe_op op_mod (pe_callTy call_int1 (by rfl) B.int PyProof.Rows.boot_int (pa_cons (pv 2) pa_nil)) pe_int) pe_int) (pe_op op_mul pe_int (pv 1))) pa_nil)) pe_int) pe_int)
        (pa_cons pe_int pa_nil))))))), ?_⟩
    have pk : ∀ (b : Bool) (c : Int), ∃ v : Int, atI [V.int 0, V.int c] (if b = true then 1 else 0) = some (V.int v) := fun b c => by
      cases b with
      | true => exact ⟨c, atI_nat (j := 1) rfl⟩
      | false => exact ⟨0, atI_nat (j := 0) rfl⟩
    have hget : ∀ (j : Int), 0 ≤ j → j < (ns.length : Int) → ∃ z : Int, atI (ns.map V.int) j = some (V.int z) := fun j h0 h1 => by
      have hj : j.toNat < ns.length := by omega
      exact ⟨ns[j.toNat], at_of (j := j.toNat) (by omega) (by rw [List.getElem?_map, List.getElem?_eq_getElem hj]; rfl)⟩
    have fin : ∀ (c x y : Int) (l p : Addr), H l = none → (upd H l (.lst [.int 0, .int c])) p = none → Q (.ref p) (upd (upd H l (.lst [.int 0, .int c])) p (.lst [.int x, .int y, .int 0])) := fun c x y l p hl hp =>
      q p _ ((same_new hl).trans (same_new hp)) ((same_new (o := HO.lst [.int 0, .int c]) hl).free hp) ⟨x, y, 0, upd_same⟩
    refine ⟨_, rfl, _, _, rfl, rfl, .inl ⟨by decide, by decide⟩, _, _, rfl, rfl, ?_⟩
    refine ⟨_, rfl, _, rfl, a, _, rfl, .inl (hS), _, _, rfl, rfl, _, rfl, ifD (fun e => ?_) fun e => ?_⟩
    · have e' : k < (ns.length : Int) := by
        have z := of_decide_eq_true e
        rw [List.length_map] at z
        exact z
      obtain ⟨z, hz⟩ := hget k k0 e'
      refine ⟨_, rfl, _, rfl, a, _, k, _, rfl, rfl, hS, hz, z, rfl, ?_⟩
      refine ⟨_, rfl, (by show 2 ≤ sizeLine; decide), fun l hl => ⟨_, rfl, _, _, rfl, rfl, ⟨by decide, by decide, by decide⟩, _, _, rfl, rfl, .inr ⟨_, rfl, l, _, _, .int (pk _ _).choose, rfl, rfl, SqL.of upd_same, (pk _ _).choose_spec, ?_⟩⟩⟩
      refine ⟨_, rfl, .inl ⟨_, rfl, _, _, rfl, rfl, (by decide : (0 : Int) < 2147483477), _, _, rfl, rfl, .inr ⟨by decide, by decide⟩, _, rfl, _, _, rfl, rfl, .inl ⟨by decide, by decide⟩, _, _, rfl, rfl, .inl ⟨_, rfl, _, _, rfl, rfl, (by decide : (0 : Int) < 2147483477), _, _, rfl, rfl, (by show 3 ≤ sizeLine; decide), fun p hp => ?_⟩⟩⟩
      exact fin _ _ _ l p hl hp
    · refine ⟨_, rfl, a, _, rfl, .inl hS, _, _, rfl, rfl, _, rfl, ifD (fun e => ?_) fun e => ?_⟩
      · have e' : 0 < (ns.length : Int) := by
          have z := of_decide_eq_true e
          rw [List.length_map] at z
          omega
        have em : (k % ((ns.map V.int).length : Int)) = k % (ns.length : Int) := by rw [List.length_map]
        obtain ⟨z, hz⟩ := hget (k % (ns.length : Int)) (Int.emod_nonneg _ (by omega)) (Int.emod_lt_of_pos _ e')
        refine ⟨_, rfl, _, rfl, _, rfl, .inl ⟨_, rfl, _, rfl, a, _, rfl, .inl hS, _, _, rfl, rfl, (by rw [List.length_map]; exact e'), a, _, _, _, rfl, rfl, hS, (by rw [em]; exact hz), z, rfl, .inl ⟨_, rfl, _, _, rfl, rfl, (by decide : (0 : Int) < 2147483477), _, _, rfl, rfl, .inr ⟨by decide, by decide⟩, _, _, rfl, rfl, ?_⟩⟩⟩
        refine ⟨_, rfl, (by show 2 ≤ sizeLine; decide), fun l hl => ⟨_, rfl, _, _, rfl, rfl, ⟨by decide, by decide, by decide⟩, _, _, rfl, rfl, .inr ⟨_, rfl, l, _, _, .int (pk _ _).choose, rfl, rfl, SqL.of upd_same, (pk _ _).choose_spec, ?_⟩⟩⟩
        refine ⟨_, rfl, .inl ⟨_, rfl, _, _, rfl, rfl, (by decide : (0 : Int) < 2147483477), _, _, rfl, rfl, .inr ⟨by decide, by decide⟩, _, rfl, _, _, rfl, rfl, .inl ⟨by decide, by decide⟩, _, _, rfl, rfl, .inl ⟨_, rfl, _, _, rfl, rfl, (by decide : (0 : Int) < 2147483477), _, _, rfl, rfl, (by show 3 ≤ sizeLine; decide), fun p hp => ?_⟩⟩⟩
        exact fin _ _ _ l p hl hp
      · refine ⟨_, rfl, (by show 2 ≤ sizeLine; decide), fun l hl => ⟨_, rfl, _, _, rfl, rfl, ⟨by decide, by decide, by decide⟩, _, _, rfl, rfl, .inr ⟨_, rfl, l, _, _, .int (pk _ _).choose, rfl, rfl, SqL.of upd_same, (pk _ _).choose_spec, ?_⟩⟩⟩
        refine ⟨_, rfl, .inl ⟨_, rfl, _, _, rfl, rfl, (by decide : (0 : Int) < 2147483477), _, _, rfl, rfl, .inr ⟨by decide, by decide⟩, _, rfl, _, _, rfl, rfl, .inl ⟨by decide, by decide⟩, _, _, rfl, rfl, .inl ⟨_, rfl, _, _, rfl, rfl, (by decide : (0 : Int) < 2147483477), _, _, rfl, rfl, (by show 3 ≤ sizeLine; decide), fun p hp => ?_⟩⟩⟩
        exact fin _ _ _ l p hl hp
end
end K1
namespace K1
open PySem PySem.Spec PyProof.Rows L2
/-- a statement and what follows: what follows is told once -/
theorem seqG {t u : TS} {D : Ends} {σ : L2.St} {H : Hp} (G : L2.St → Hp → Prop) (hu : ∀ σ H, G σ H → u D σ H) (ht : (∀ σ H, G σ H → u D σ H) → t { D with nx := u D } σ H) : tSeq t u D σ H := ht hu
theorem gn {i : Nat} {x : V} {σ : L2.St} {H : Hp} {Q : L2.St → Hp → Prop} (h : Q (σ.set i (some x)) H) : gName i x σ H Q := h
theorem BoxO.ne {H : Hp} {b c : Addr} {o : HO} (hb : BoxO H b) (h : H c = some o) (ho : ∀ xs, o ≠ .lst xs) : c ≠ b := fun e => by
  obtain ⟨x, y, z, e2⟩ := hb
  rw [e, e2] at h
  exact ho _ (Option.some.inj h).symm
theorem Bx.put {b D : Addr} {H H1 : Hp} {o : HO} (a : Bx b H H1) (hD : H D = none) (hn : D ≠ b) : Bx b H (upd H1 D o) :=
  ⟨let ⟨x, y, z, e⟩ := a.1; ⟨x, y, z, by rw [upd_ne hn.symm]; exact e⟩, fun c u e n => by
    rw [upd_ne (fun z => by rw [z, hD] at e; cases e)]
    exact a.2 c u e n⟩
theorem Bx.new {b D : Addr} {H H1 : Hp} {o : HO} (a : Bx b H H1) (hD : H1 D = none) : Bx b H (upd H1 D o) := a.same (same_new hD)
theorem Bx.ne {b D : Addr} {H H1 : Hp} (a : Bx b H H1) (hD : H1 D = none) : D ≠ b := fun e => by
  obtain ⟨x, y, z, e2⟩ := a.1
  rw [e, e2] at hD
  cases hD
/-- tables in a list at p -/
def TabL (H : Hp) (p : Addr) (ts : List (List V)) : Prop := ∃ as : List Addr, H p = some (.lst (as.map V.ref)) ∧ as.length = ts.length ∧ ∀ (i : Nat) a t, as[i]? = some a → ts[i]? = some t → H a = some (.tup t)
theorem TabL.same {H H' : Hp} {ta : Addr} {ts : List (List V)} (h : TabL H ta ts) (s : Same H H') : TabL H' ta ts := let ⟨as, h1, h2, h3⟩ := h; ⟨as, s _ _ h1, h2, fun i a t e1 e2 => s _ _ (h3 i a t e1 e2)⟩
theorem TabL.bx {b : Addr} {H H' : Hp} {p : Addr} {ts : List (List V)} (h : TabL H p ts) (n : p ≠ b) (hb : BoxO H b) (a : Bx b H H') : TabL H' p ts :=
  let ⟨as, h1, h2, h3⟩ := h
  ⟨as, a.2 _ _ h1 n, h2, fun i c t e1 e2 => a.2 _ _ (h3 i c t e1 e2) (hb.ne (h3 i c t e1 e2) fun xs => by intro z; cases z)⟩
theorem TabsAt.bx {b : Addr} {H H' : Hp} {p : Addr} {ts : List (List V)} (h : TabsAt H p ts) (hb : BoxO H b) (a : Bx b H H') : TabsAt H' p ts :=
  let ⟨as, h1, h2, h3⟩ := h
  ⟨as, a.2 _ _ h1 (hb.ne h1 fun xs => by intro z; cases z), h2, fun i c t e1 e2 => a.2 _ _ (h3 i c t e1 e2) (hb.ne (h3 i c t e1 e2) fun xs => by intro z; cases z)⟩
theorem MachAt.bx {M b : Addr} {H H' : Hp} {m ta : Addr} {ts : List (List V)} (h : MachAt M H m ta ts) (hb : BoxO H b) (a : Bx b H H') : MachAt M H' m ta ts :=
  let ⟨⟨dx, t0, h0, h1⟩, h2⟩ := h
  ⟨⟨dx, t0, h0, a.2 _ _ h1 (hb.ne h1 fun xs => by intro z; cases z)⟩, h2.bx hb a⟩
abbrev sizesV : List V := [.int 1, .int 2, .int 3, .int 4, .int 5]
abbrev kindsV : List V := [.int 1, .int 2, .int 2, .int 3, .int 4]
def spTabs : Sp := fun vs H Q _ => ∃ (b ps pk : Addr), vs = [.ref b, .ref ps, .ref pk] ∧ BoxO H b ∧ H ps = some (.lst sizesV) ∧ H pk = some (.lst kindsV) ∧ ps ≠ b ∧ pk ≠ b ∧
  ∀ p ts H', Bx b H H' → H p = none → p ≠ b → TabL H' p (vts ts) → Wf ts → nS ts ≤ 5 → ts.length ≤ 4 → Q (.ref p) H'
/-- the row that a comprehension makes: i ints below m so far -/
def Rg (b D : Addr) (H1 : Hp) (m : Int) (i : Nat) (H' : Hp) : Prop := ∃ ns : List Int, ns.length = i ∧ (∀ x ∈ ns, 0 ≤ x ∧ x < m) ∧ Bx b H1 H' ∧ H' D = some (.lst (vrow ns))
theorem Rg.nil {b D : Addr} {H1 : Hp} {m : Int} (hb : BoxO H1 b) (hD : H1 D = none) : Rg b D H1 m 0 (upd H1 D (.lst [])) := ⟨[], rfl, fun x hx => absurd hx (by simp), (Bx.refl hb).new hD, upd_same⟩
theorem Rg.box {b D : Addr} {H1 H' : Hp} {m : Int} {i : Nat} (g : Rg b D H1 m i H') : BoxO H' b := let ⟨_, _, _, a, _⟩ := g; a.1
theorem Rg.put {b D : Addr} {H1 H' H2 : Hp} {m x : Int} {i : Nat} (g : Rg b D H1 m i H') (hb : BoxO H1 b) (hD : H1 D = none) (a : Bx b H' H2) (hx : 0 ≤ x ∧ x < m) (hi : i < 1000) : ∃ acc, H2 D = some (.lst acc) ∧ acc.length < sizeLine ∧ Rg b D H1 m (i + 1) (upd H2 D (.lst (acc ++ [.int x]))) := by
  obtain ⟨ns, h1, h2, h3, h4⟩ := g
  have nD : D ≠ b := (Bx.refl hb).ne hD
  refine ⟨vrow ns, a.2 _ _ h4 nD, by rw [vrow, List.length_map, h1, sizeLine_eq]; omega, ns ++ [x], by rw [List.length_append, h1]; rfl, fun y hy => ?_, (h3.trans a).put hD nD, by rw [upd_same]; simp only [vrow, List.map_append]; rfl⟩
  rcases List.mem_append.mp hy with z | z
  · exact h2 y z
  · rw [List.mem_singleton.mp z]; exact hx
section
variable {P : Program} {w : World} {K : PySem.W.Frag} {mg : Str → Option Value} {base : Heap}
abbrev nTb : List Str := ["_law_box_here", "_law_sizes", "_law_kinds", "_law_many", "_law_found", "_law_deed", "_law_style", "_law_by", "_law_table", "_law_state"]
theorem scTb : FnScope nTb ["_law_box_here", "_law_sizes", "_law_kinds"] (defScope sTabs) := ⟨rfl, rfl, rfl, by decide +kernel, rfl, by decide +kernel, by decide +kernel⟩
theorem ok_tabs {f fT fP : Addr} {fd fdT fdP : FuncData} (D : Df K mg "_law_tables" sTabs ["_law_box_here", "_law_sizes", "_law_kinds"] f fd) (DT : Df K mg "_law_take" sTake ["_law_box_here", "_law_many"] fT fdT) (DP : Df K mg "_law_pick" sPick ["_law_box_here", "_law_some"] fP fdP) (B : Bt mg)
    (GT : FnOk P w K mg base CX0 1 fT fdT ["_law_box_here", "_law_many"] spTake) (GP : FnOk P w K mg base CX0 2 fP fdP ["_law_box_here", "_law_some"] spPick) :
    FnOk P w K mg base CX0 3 f fd ["_law_box_here", "_law_sizes", "_law_kinds"] spTabs := by
  refine D.F.ok scTb (fun vs H Q E h => ?_) (fun cdv A outer s H vs Q E hr h => ?_)
  · obtain ⟨b, ps, pk, rfl, _⟩ := h
    rfl
  · obtain ⟨b, ps, pk, rfl, hb, hps, hpk, nps, npk, q⟩ := h
    have hr1 := hr.mono (show 1 ≤ 2 by decide)
    refine ⟨_, pss_cons (ps_asg (pe_tup (pa_cons (pc DP GP hr pass0 (pa_cons (pv 0) (pa_cons (pv 1) pa_nil))) (pa_cons (pe_lst pa_nil) pa_nil))) (pg_tup rfl (pgs_cons (pg_name (i := 3) scTb.nd rfl (.inr rfl)) (pgs_cons (pg_name (i := 4) scTb.nd rfl (.inl rfl)) pgs_nil))))
      (pss_cons (ps_for PassesOwn.never rfl (pi_range1 (by rfl) B.range (pa_cons (pc DP GP hr pass0 (pa_cons (pv 0) (pa_cons (pv 2) pa_nil))) pa_nil)) (pg_name (i := 5) scTb.nd rfl (.inl rfl))
        (pss_cons (ps_asg (pe_tup (pa_cons (pc DT GT hr1 pass0 (pa_cons (pv 0) (pa_cons pe_int pa_nil))) (pa_cons (pc DT GT hr1 pass0 (pa_cons (pv 0) (pa_cons (pv 3) pa_nil))) pa_nil))) (pg_tup rfl (pgs_cons (pg_name (i := 6) scTb.nd rfl (.inl rfl)) (pgs_cons (pg_name (i := 7) scTb.nd rfl (.inr rfl)) pgs_nil))))
        (pss_cons (ps_setLc (i := 8) (own := [("_law_state", 9)]) (g := gName 9) (tt := tYes) rfl scTb.nd rfl rfl (sw_true rfl rfl rfl rfl) (pi_range1 (by rfl) B.range (pa_cons (pv 3) pa_nil)) (blkOk_by (N := nTb) (sc := defScope sTabs) (by decide +kernel)) (fun _ _ _ _ _ => pg_name (i := 9) scTb.nd rfl (Or.inl rfl)) (fun _ _ _ _ _ => pts_nil)
            (fun _ _ _ _ _ => pc DT GT hr1 pass0 (pa_cons (pv 0) (pa_cons (pv 3) pa_nil))))
        (pss_cons (ps_if (pt_cmpR op_eq (pv 6) pe_int (nomark _)) (pss_one
            (ps_setLc (i := 8) (own := [("_law_state", 9)]) (g := gName 9) (tt := tYes) rfl scTb.nd rfl rfl (sw_true rfl rfl rfl rfl) (pi_range1 (by rfl) B.range (pa_cons (pv 3) pa_nil)) (blkOk_by (N := nTb) (sc := defScope sTabs) (by decide +kernel)) (fun _ _ _ _ _ => pg_name (i := 9) scTb.nd rfl (Or.inl rfl)) (fun _ _ _ _ _ => pts_nil)
              (fun _ _ _ _ _ => pe_op op_mod (pe_callTy call_int1 (by rfl) B.int PyProof.Rows.boot_int (pa_cons (pe_op op_add (pv 9) (pv 7)) pa_nil)) (pv 3)))) pss_nil)
        (pss_cons (ps_if (pt_cmpR op_eq (pv 6) pe_int (nomark _)) (pss_one
            (ps_setLc (i := 8) (own := [("_law_state", 9)]) (g := gName 9) (tt := tYes) rfl scTb.nd rfl rfl (sw_true rfl rfl rfl rfl) (pi_range1 (by rfl) B.range (pa_cons (pv 3) pa_nil)) (blkOk_by (N := nTb) (sc := defScope sTabs) (by decide +kernel)) (fun _ _ _ _ _ => pg_name (i := 9) scTb.nd rfl (Or.inl rfl)) (fun _ _ _ _ _ => pts_nil)
              (fun _ _ _ _ _ => pe_callB (call_min2 rfl) (by rfl) B.min (by decide +kernel) (pa_cons (pe_op op_sub (pv 3) pe_int) (pa_cons (pe_op op_add (pv 9) pe_int) pa_nil))))) pss_nil)
        (pss_cons (ps_if (pt_cmpR op_eq (pv 6) pe_int (nomark _)) (pss_one
            (ps_set (i := 8) scTb.nd rfl (.inl rfl) (pe_op op_rep (pe_lst (pa_cons (pv 7) pa_nil)) (pv 3)))) pss_nil)
        (pss_cons (ps_if (pt_cmpR op_eq (pv 6) pe_int (nomark _)) (pss_one
            (ps_setLc (i := 8) (own := [("_law_state", 9)]) (g := gName 9) (tt := tYes) rfl scTb.nd rfl rfl (sw_true rfl rfl rfl rfl) (pi_range1 (by rfl) B.range (pa_cons (pv 3) pa_nil)) (blkOk_by (N := nTb) (sc := defScope sTabs) (by decide +kernel)) (fun _ _ _ _ _ => pg_name (i := 9) scTb.nd rfl (Or.inl rfl)) (fun _ _ _ _ _ => pts_nil)
              (fun _ _ _ _ _ => pe_callB (call_max2 rfl) (by rfl) B.max (by decide +kernel) (pa_cons (pv 9) (pa_cons (pv 7) pa_nil))))) pss_nil)
        (pss_one (ps_expr (pe_bm PySem.F.plainAttrs_list PySem.F.slot_list_append PySem.F.type_list_append mt_append (pv 4) (pa_cons (pe_callTy call_tuple_of (by rfl) B.tuple PyProof.Rows.boot_tuple (pa_cons (pv 8) pa_nil)) pa_nil)))))))))))
      (pss_one (ps_ret (pv 4)))), ?_⟩
    refine ⟨_, rfl, _, rfl, b, ps, sizesV, rfl, hb, hps, nps, by decide, by decide, fun i v H1 hv bx1 => ?_⟩
    obtain ⟨m, rfl, hm0, hm5⟩ : ∃ m : Int, v = .int m ∧ 1 ≤ m ∧ m ≤ 5 := by
      match i, hv with
      | 0, hv => exact ⟨1, (Option.some.inj hv).symm, by decide, by decide⟩
      | 1, hv => exact ⟨2, (Option.some.inj hv).symm, by decide, by decide⟩
      | 2, hv => exact ⟨3, (Option.some.inj hv).symm, by decide, by decide⟩
      | 3, hv => exact ⟨4, (Option.some.inj hv).symm, by decide, by decide⟩
      | 4, hv => exact ⟨5, (Option.some.inj hv).symm, by decide, by decide⟩
      | i + 5, hv => cases hv
    refine ⟨(by show 0 ≤ sizeLine; decide), fun p hp1 => ?_⟩
    have npb : p ≠ b := bx1.ne hp1
    have hp : H p = none := bx1.free npb hp1
    have bx2 : Bx b H (upd H1 p (.lst [])) := bx1.new hp1
    refine ⟨(by show 2 ≤ sizeLine; decide), fun T hT => ?_⟩
    have bx3 : Bx b H (upd (upd H1 p (.lst [])) T (.tup [.int m, .ref p])) := bx2.new hT
    have nTp : p ≠ T := fun z => by rw [← z, upd_same] at hT; cases hT
    refine ⟨T, _, rfl, SqT.of upd_same, rfl, _, _, rfl, _, _, rfl, rfl, ?_⟩
    have hp3 : upd (upd H1 p (.lst [])) T (.tup [.int m, .ref p]) p = some (.lst []) := by rw [upd_ne nTp, upd_same]
    generalize upd (upd H1 p (.lst [])) T (.tup [.int m, .ref p]) = H3 at bx3 hp3 ⊢
    refine ⟨_, rfl, _, rfl, b, pk, kindsV, rfl, bx3.1, bx3.2 _ _ hpk npk, npk, by decide, by decide, fun i2 v H4 hv bx4 => ?_⟩
    obtain ⟨n, rfl, hn0, hn4⟩ : ∃ n : Int, v = .int n ∧ 1 ≤ n ∧ n ≤ 4 := by
      match i2, hv with
      | 0, hv => exact ⟨1, (Option.some.inj hv).symm, by decide, by decide⟩
      | 1, hv => exact ⟨2, (Option.some.inj hv).symm, by decide, by decide⟩
      | 2, hv => exact ⟨2, (Option.some.inj hv).symm, by decide, by decide⟩
      | 3, hv => exact ⟨3, (Option.some.inj hv).symm, by decide, by decide⟩
      | 4, hv => exact ⟨4, (Option.some.inj hv).symm, by decide, by decide⟩
      | i + 5, hv => cases hv
    refine ⟨n, rfl, by omega, by omega, for_range (fun i σ H' => ∃ (ts : Ts) (v5 v6 v7 v8 : Option V), σ = [some (.ref b), some (.ref ps), some (.ref pk), some (.int m), some (.ref p), v5, v6, v7, v8, none] ∧ Bx b H H' ∧ TabL H' p (vts ts) ∧ ts.length = i ∧ ∀ t ∈ ts, t.length = m.toNat ∧ ∀ x ∈ t, 0 ≤ x ∧ x < m)
      ⟨[], none, none, none, none, rfl, bx3.trans bx4, ⟨[], bx4.2 _ _ hp3 npb, rfl, fun i a t h => by cases h⟩, rfl, fun t ht => absurd ht (by simp)⟩ ?_ ?_⟩
    · rintro i σ H5 hi ⟨ts, v5, v6, v7, v8, rfl, bx5, tl, hl5, hr5⟩
      have hbx := bx5.1
      refine ⟨_, rfl, b, 6, rfl, hbx, by decide, by decide, fun st H6 st0 st1 bx6 => ?_⟩
      refine ⟨_, rfl, _, rfl, b, m, rfl, bx6.1, by omega, by omega, fun y H7 y0 y1 bx7 => ?_⟩
      refine ⟨(by show 2 ≤ sizeLine; decide), fun T hT => ?_⟩
      refine ⟨T, _, rfl, SqT.of upd_same, rfl, _, _, rfl, _, _, rfl, rfl, ?_⟩
      have bx8 : Bx b H5 (upd H7 T (.tup [.int st, .int y])) := (bx6.trans bx7).new hT
      generalize upd H7 T (.tup [.int st, .int y]) = H8 at bx8 ⊢
      have hm : ((m.toNat : Nat) : Int) = m := by omega
      -- the first row
      refine ⟨_, rfl, m, rfl, by omega, by omega, fun D0 hD0 => lc_range (Rg b D0 H8 m) (Rg.nil bx8.1 hD0) ?_ ?_⟩
      · rintro i H9 hi9 g
        refine ⟨rfl, _, rfl, _, rfl, b, m, rfl, ?_, by omega, by omega, fun r H10 r0 r1 bx10 => g.put bx8.1 hD0 bx10 ⟨r0, r1⟩ (by omega)⟩
        obtain ⟨_, _, _, a, _⟩ := g
        exact a.1
      · rintro H9 g9
        obtain ⟨ns, hn1, hn2, bx9, hD9⟩ := g9
        have good0 : ∀ (D : Addr) (ns : List Int) (H' : Hp), Bx b H5 H' → H' D = some (.lst (vrow ns)) → ns.length = m.toNat → (∀ x ∈ ns, 0 ≤ x ∧ x < m) →
          (fun (σ : L2.St) H' => ∃ (D : Addr) (ns : List Int), σ = [some (.ref b), some (.ref ps), some (.ref pk), some (.int m), some (.ref p), some (.int (0 + (i : Int))), some (.int st), some (.int y), some (.ref D), none] ∧ Bx b H5 H' ∧ H' D = some (.lst (vrow ns)) ∧ ns.length = m.toNat ∧ ∀ x ∈ ns, 0 ≤ x ∧ x < m) [some (.ref b), some (.ref ps), some (.ref pk), some (.int m), some (.ref p), some (.int (0 + (i : Int))), some (.int st), some (.int y), some (.ref D), none] H' :=
          fun D ns H' h1 h2 h3 h4 => ⟨D, ns, rfl, h1, h2, h3, h4⟩
        generalize hG : (fun (σ : L2.St) H' => ∃ (D : Addr) (ns : List Int), σ = [some (.ref b), some (.ref ps), some (.ref pk), some (.int m), some (.ref p), some (.int (0 + (i : Int))), some (.int st), some (.int y), some (.ref D), none] ∧ Bx b H5 H' ∧ H' D = some (.lst (vrow ns)) ∧ ns.length = m.toNat ∧ ∀ x ∈ ns, 0 ≤ x ∧ x < m) = G at good0
        have bx9' : Bx b H5 H9 := bx8.trans bx9
        refine gn ?_
        dsimp only
        refine seqG G (fun σ H10 g => ?_) (fun k => ?_)
        · rw [← hG] at g
          obtain ⟨Dx, nx, rfl, bxx, hDx, lx, rx⟩ := g
          refine seqG G (fun σ H10 g => ?_) (fun k => ?_)
          · rw [← hG] at g
            obtain ⟨Dx, nx, rfl, bxx, hDx, lx, rx⟩ := g
            refine seqG G (fun σ H10 g => ?_) (fun k => ?_)
            · rw [← hG] at g
              obtain ⟨Dx, nx, rfl, bxx, hDx, lx, rx⟩ := g
              refine seqG G (fun σ H10 g => ?_) (fun k => ?_)
              · rw [← hG] at g
                obtain ⟨Dx, nx, rfl, bxx, hDx, lx, rx⟩ := g
                obtain ⟨as, t1, t2, t3⟩ := tl.bx npb hbx bxx
                refine ⟨_, rfl, .inl ⟨rfl, _, SqL.of t1⟩, _, rfl, Dx, _, rfl, .inl ⟨SqL.of hDx, fun l hl => ?_⟩⟩
                have sl := same_new (o := HO.tup (vrow nx)) hl
                have las : as.length = ts.length := by rw [t2, vts, List.length_map]
                refine ⟨p, _, _, rfl, rfl, sl _ _ t1, by rw [List.length_map, las, sizeLine_eq]; omega, ts ++ [nx], _, _, _, _, rfl, ?_, ⟨as ++ [l], ?_, ?_, ?_⟩, ?_, ?_⟩
                · exact ((bx5.trans bxx).new hl).put hp npb
                · rw [upd_same]; simp only [List.map_append]; rfl
                · simp only [vts, List.length_append, List.length_map, las]; rfl
                · intro j a t e1 e2
                  have hne : ∀ (c : Addr) (u : List V), H10 c = some (.tup u) → c ≠ p := fun c u e z => by rw [z, t1] at e; cases e
                  simp only [vts, List.map_append] at e2
                  by_cases hj : j < as.length
                  · rw [List.getElem?_append_left hj] at e1
                    rw [List.getElem?_append_left (by rw [List.length_map, ← las]; exact hj)] at e2
                    have z := t3 j a t e1 e2
                    rw [upd_ne (hne a t z)]
                    exact sl _ _ z
                  · have ej : j = as.length := by
                      have := (List.getElem?_eq_some_iff.mp e1).1
                      rw [List.length_append] at this
                      simp only [List.length_cons, List.length_nil] at this
                      omega
                    rw [ej, List.getElem?_append_right (Nat.le_refl _), Nat.sub_self] at e1
                    rw [ej, List.getElem?_append_right (by rw [List.length_map, las]; omega), List.length_map, las, Nat.sub_self] at e2
                    obtain rfl : l = a := Option.some.inj e1
                    obtain rfl : vrow nx = t := Option.some.inj e2
                    rw [upd_ne (fun z => by rw [z, t1] at hl; cases hl), upd_same]
                · rw [List.length_append, hl5]; rfl
                · intro t ht
                  rcases List.mem_append.mp ht with z | z
                  · exact hr5 t z
                  · rw [List.mem_singleton.mp z]; exact ⟨lx, rx⟩
              · refine ⟨_, rfl, rfl, _, rfl, ifD (fun e => ?_) fun e => k _ _ (good0 Dx nx _ bxx hDx lx rx)⟩
                refine ⟨_, rfl, m, rfl, by omega, by omega, fun D1 hD1 => lc_range (Rg b D1 _ m) (Rg.nil bxx.1 hD1) ?_ ?_⟩
                · rintro j Hj hj g
                  exact ⟨rfl, _, rfl, _, rfl, _, _, rfl, g.put bxx.1 hD1 (Bx.refl g.box) (by split <;> omega) (by omega)⟩
                · rintro Hj ⟨ms, k1, k2, bxj, hDj⟩
                  exact k _ _ (good0 D1 ms _ (bxx.trans bxj) hDj k1 k2)
            · refine ⟨_, rfl, rfl, _, rfl, ifD (fun e => ?_) fun e => k _ _ (good0 Dx nx _ bxx hDx lx rx)⟩
              refine ⟨_, rfl, (by show 1 ≤ sizeLine; decide), fun l hl => ⟨_, rfl, l, m, [V.int y], rfl, rfl, upd_same, by omega, by omega, (by show 1 * m.toNat ≤ sizeLine; rw [sizeLine_eq]; omega), fun p2 hp2 => ?_⟩⟩
              refine k _ _ (good0 p2 (List.replicate m.toNat y) _ ((bxx.new hl).new hp2) ?_ (by simp) fun x hx => ?_)
              · rw [upd_same, vrow, List.map_replicate]
                congr 2
                generalize m.toNat = c
                induction c with
                | zero => rfl
                | succ c ih => rw [List.replicate_succ, List.flatten_cons, ih]; rfl
              · rw [(List.mem_replicate.mp hx).2]; exact ⟨y0, y1⟩
          · refine ⟨_, rfl, rfl, _, rfl, ifD (fun e => ?_) fun e => k _ _ (good0 Dx nx _ bxx hDx lx rx)⟩
            refine ⟨_, rfl, m, rfl, by omega, by omega, fun D1 hD1 => lc_range (Rg b D1 _ m) (Rg.nil bxx.1 hD1) ?_ ?_⟩
            · rintro j Hj hj g
              exact ⟨rfl, _, rfl, _, _, rfl, rfl, _, rfl, _, _, rfl, rfl, _, _, rfl, g.put bxx.1 hD1 (Bx.refl g.box) (by split <;> omega) (by omega)⟩
            · rintro Hj ⟨ms, k1, k2, bxj, hDj⟩
              exact k _ _ (good0 D1 ms _ (bxx.trans bxj) hDj k1 k2)
        · refine ⟨_, rfl, rfl, _, rfl, ifD (fun e => ?_) fun e => k _ _ (good0 D0 ns _ bx9' hD9 hn1 hn2)⟩
          refine ⟨_, rfl, m, rfl, by omega, by omega, fun D1 hD1 => lc_range (Rg b D1 _ m) (Rg.nil bx9'.1 hD1) ?_ ?_⟩
          · rintro j Hj hj g
            exact ⟨rfl, _, rfl, _, rfl, _, _, rfl, rfl, .inl ⟨_, rfl, _, rfl, _, _, rfl, rfl, by omega, g.put bx9'.1 hD1 (Bx.refl g.box) ⟨Int.emod_nonneg _ (by omega), Int.emod_lt_of_pos _ (by omega)⟩ (by omega)⟩⟩
          · rintro Hj ⟨ms, k1, k2, bxj, hDj⟩
            exact k _ _ (good0 D1 ms _ (bx9'.trans bxj) hDj k1 k2)
    · rintro σ H5 ⟨ts, v5, v6, v7, v8, rfl, bx5, tl, hl, hr5⟩
      have h1 : 1 ≤ ts.length := by omega
      have e0 : nS ts = m.toNat := by
        cases ts with
        | nil => exact absurd h1 (by simp)
        | cons t r => exact (hr5 t List.mem_cons_self).1
      refine ⟨_, rfl, q p ts H5 bx5 hp npb tl ⟨h1, by omega, by omega, by omega, fun t ht => ⟨by rw [e0]; exact (hr5 t ht).1, fun x hx => by have := (hr5 t ht).2 x hx; omega⟩⟩ (by omega) (by omega)⟩
end
end K1
namespace K1
open PySem PySem.Spec PyProof.Rows L2
def spRun : Sp := fun vs H Q _ => ∃ (p r : Addr) (s : Int) (ts : Ts) (row : List Int), vs = [.ref p, .int s, .ref r] ∧ TabL H p (vts ts) ∧ Wf ts ∧ (0 ≤ s ∧ s < (nS ts : Int)) ∧ H r = some (.tup (vrow row)) ∧ (∀ d ∈ row, 0 ≤ d ∧ d < (ts.length : Int)) ∧ row.length ≤ 1000 ∧
  ∀ l ns H', Same H H' → H' l = some (.lst (ns ++ [.int (run ts s row)])) → Q (.ref l) H'
def spLog : Sp := fun vs H Q _ => ∃ (b p : Addr) (most : Int) (ts : Ts), vs = [.ref b, .ref p, .int most] ∧ BoxO H b ∧ TabL H p (vts ts) ∧ p ≠ b ∧ 1 ≤ ts.length ∧ ts.length ≤ 8 ∧ 0 ≤ most ∧ most ≤ 100 ∧
  ∀ r row H', Bx b H H' → H r = none → H' r = some (.tup (vrow row)) → (∀ d ∈ row, 0 ≤ d ∧ d < (ts.length : Int)) → (row.length : Int) ≤ most → Q (.ref r) H'
def rLen (K : PySem.W.Frag) : List V → Hp → VK → Prop := fun xs H Q => ∃ p ys, xs = [.ref p] ∧ (SqL K H p ys ∨ SqT K H p ys) ∧ Q (.int (ys.length : Nat)) H
theorem clen {X : Cx} {K : PySem.W.Frag} (h : X.K = K) : CallR X (.builtin "len") (rLen K) := by
  subst h
  exact call_len_seq
section
variable {P : Program} {w : World} {K : PySem.W.Frag} {mg : Str → Option Value} {base : Heap}
abbrev nRu : List Str := ["_law_tables_here", "_law_start", "_law_log_here", "_law_found", "_law_deed"]
theorem scRu : FnScope nRu ["_law_tables_here", "_law_start", "_law_log_here"] (defScope sRun) := ⟨rfl, rfl, rfl, by decide +kernel, rfl, by decide +kernel, by decide +kernel⟩
theorem ok_run {f : Addr} {fd : FuncData} (D : Df K mg "_law_run" sRun ["_law_tables_here", "_law_start", "_law_log_here"] f fd) : FnOk P w K mg base CX0 1 f fd ["_law_tables_here", "_law_start", "_law_log_here"] spRun := by
  refine D.F.ok scRu (fun vs H Q E h => ?_) (fun cdv A outer s H vs Q E hr h => ?_)
  · obtain ⟨p, r, s, ts, row, rfl, _⟩ := h
    rfl
  · obtain ⟨p, r, s0, ts, row, rfl, tl, hW, hs, hr0, hd, hl, q⟩ := h
    refine ⟨_, pss_cons (ps_set (i := 3) scRu.nd rfl (.inl rfl) (pe_lst (pa_cons (pv 1) pa_nil)))
      (pss_cons (ps_for PassesOwn.never rfl (pi_tup (pv 2)) (pg_name (i := 4) scRu.nd rfl (.inl rfl))
        (pss_one (ps_expr (pe_bm PySem.F.plainAttrs_list PySem.F.slot_list_append PySem.F.type_list_append mt_append (pv 3) (pa_cons (pe_ix ix_tup (pe_ix ix_list (pv 0) (pv 4) (fun _ _ => rfl)) (pe_ix ix_list (pv 3) (pe_un un_neg pe_int) (fun _ _ => rfl)) (fun _ _ => rfl)) pa_nil)))))
      (pss_one (ps_ret (pv 3)))), ?_⟩
    refine ⟨_, rfl, (by show 1 ≤ sizeLine; decide), fun l hl0 => ?_⟩
    have sm0 := same_new (o := HO.lst [.int s0]) hl0
    refine ⟨_, rfl, r, rfl, ⟨_, SqT.of (sm0 _ _ hr0)⟩, for_tup (K := K) (a := r) (xs := vrow row) (fun i σ H' => ∃ (v4 : Option V) (ns : List V), σ = [some (.ref p), some (.int s0), some (.ref r), some (.ref l), v4] ∧ Same H H' ∧ ns.length = i ∧ H' l = some (.lst (ns ++ [.int (run ts s0 (row.take i))])))
      ⟨none, [], rfl, sm0, rfl, upd_same⟩ (fun i σ H' _ ⟨_, _, _, sm, _⟩ => SqT.of (sm _ _ hr0)) ?_ ?_⟩
    · rintro i x σ H' hx ⟨v4, ns, rfl, sm, hn, hL⟩
      obtain ⟨d, hdx, rfl⟩ : ∃ d, row[i]? = some d ∧ x = V.int d := by
        rw [vrow, List.getElem?_map] at hx
        cases e : row[i]? with
        | none => rw [e] at hx; cases hx
        | some d => rw [e] at hx; exact ⟨d, rfl, (Option.some.inj hx).symm⟩
      have hdr := hd d (List.mem_of_getElem? hdx)
      have hi : i < row.length := (List.getElem?_eq_some_iff.mp hdx).1
      have hst := hW.run (row.take i) s0 (fun e he => hd e (List.mem_of_mem_take he)) hs
      obtain ⟨t, ht, h2, h3⟩ := hW.at_ hdr hst
      obtain ⟨as, a1, a2, a3⟩ := tl
      have htv : (vts ts)[d.toNat]? = some (vrow t) := by rw [vts, List.getElem?_map, ht]; rfl
      have hlen : d.toNat < as.length := by rw [a2]; exact (List.getElem?_eq_some_iff.mp htv).1
      obtain ⟨a, ha⟩ : ∃ a, as[d.toNat]? = some a := ⟨as[d.toNat], List.getElem?_eq_getElem hlen⟩
      have hA := a3 _ a _ ha htv
      have nl : ∀ c o, H c = some o → c ≠ l := fun c o e z => by rw [z, hl0] at e; cases e
      refine ⟨_, rfl, .inl ⟨rfl, _, SqL.of hL⟩, _, rfl, _, rfl, p, _, d, .ref a, rfl, rfl, SqL.of (sm _ _ a1), at_of (j := d.toNat) (by omega) (by rw [List.getElem?_map, ha]; rfl), ?_⟩
      refine ⟨_, rfl, 1, rfl, l, _, -1, _, rfl, rfl, SqL.of hL, atI_last _ _, a, vrow t, run ts s0 (row.take i), .int (stp ts (run ts s0 (row.take i)) d), rfl, rfl, SqT.of (sm _ _ hA), at_of (j := (run ts s0 (row.take i)).toNat) (by omega) (by rw [vrow, List.getElem?_map, h2]; rfl), ?_⟩
      refine ⟨l, _, _, rfl, rfl, hL, by rw [List.length_append, hn, sizeLine_eq]; simp only [List.length_cons, List.length_nil]; omega, _, ns ++ [.int (run ts s0 (row.take i))], rfl, fun c o e => by rw [upd_ne (nl c o e)]; exact sm _ _ e, by rw [List.length_append, hn]; rfl, ?_⟩
      rw [upd_same, take_succ hdx, run_snoc]
    · rintro σ H' ⟨v4, ns, rfl, sm, hn, hL⟩
      refine ⟨_, rfl, q l ns H' sm ?_⟩
      rw [hL, vrow, List.length_map, List.take_length]
abbrev nLo : List Str := ["_law_box_here", "_law_tables_here", "_law_most", "_law_deed"]
theorem scLo : FnScope nLo ["_law_box_here", "_law_tables_here", "_law_most"] (defScope sLog) := ⟨rfl, rfl, rfl, by decide +kernel, rfl, by decide +kernel, by decide +kernel⟩
theorem ok_log {f fT : Addr} {fd fdT : FuncData} (D : Df K mg "_law_log" sLog ["_law_box_here", "_law_tables_here", "_law_most"] f fd) (DT : Df K mg "_law_take" sTake ["_law_box_here", "_law_many"] fT fdT) (B : Bt mg)
    (GT : FnOk P w K mg base CX0 1 fT fdT ["_law_box_here", "_law_many"] spTake) : FnOk P w K mg base CX0 2 f fd ["_law_box_here", "_law_tables_here", "_law_most"] spLog := by
  refine D.F.ok scLo (fun vs H Q E h => ?_) (fun cdv A outer s H vs Q E hr h => ?_)
  · obtain ⟨b, p, most, ts, rfl, _⟩ := h
    rfl
  · obtain ⟨b, p, most, ts, rfl, hb, tl, npb, h1, h8, m0, m1, q⟩ := h
    refine ⟨_, pss_one (ps_ret (pe_callTy call_tuple_of (by rfl) B.tuple PyProof.Rows.boot_tuple (pa_cons
      (pe_lc (own := [("_law_deed", 3)]) (g := gName 3) (tt := tYes) rfl scLo.nd (pi_range1 (by rfl) B.range (pa_cons (pc DT GT hr pass0 (pa_cons (pv 0) (pa_cons (pe_op op_add (pv 2) pe_int) pa_nil))) pa_nil)) (blkOk_by (N := nLo) (sc := defScope sLog) (by decide +kernel)) (fun _ _ _ _ _ => pg_name (i := 3) scLo.nd rfl (Or.inl rfl)) (fun _ _ _ _ _ => pts_nil)
        (fun _ _ _ _ _ => pc DT GT hr pass0 (pa_cons (pv 0) (pa_cons (pe_callB (clen (K := K) rfl) (by rfl) B.len PySem.boot_len (pa_cons (pv 1) pa_nil)) pa_nil)))) pa_nil))), ?_⟩
    obtain ⟨as, a1, a2, a3⟩ := id tl
    have las : as.length = ts.length := by rw [a2, vts, List.length_map]
    refine ⟨_, rfl, _, rfl, _, _, rfl, rfl, b, _, rfl, hb, by omega, by omega, fun r H1 r0 r1 bx1 => ?_⟩
    refine ⟨r, rfl, by omega, by omega, fun D0 hD0 => lc_range (Rg b D0 H1 (ts.length : Int)) (Rg.nil bx1.1 hD0) ?_ ?_⟩
    · rintro j Hj hj g
      have bxj : Bx b H1 Hj := let ⟨_, _, _, a, _⟩ := g; a
      refine ⟨rfl, _, rfl, _, rfl, p, _, rfl, .inl (SqL.of (bxj.2 _ _ (bx1.2 _ _ a1 npb) npb)), b, _, rfl, g.box, by rw [List.length_map, las]; omega, by rw [List.length_map, las]; omega, fun x H2 x0 x1 bx2 => g.put bx1.1 hD0 bx2 ⟨x0, ?_⟩ (by omega)⟩
      rw [List.length_map, las] at x1
      exact x1
    · rintro Hj ⟨ms, k1, k2, bxj, hDj⟩
      refine ⟨D0, _, rfl, .inl ⟨SqL.of hDj, fun t ht => ?_⟩⟩
      have bx3 : Bx b H (upd Hj t (.tup (vrow ms))) := (bx1.trans bxj).new ht
      refine q t ms _ bx3 ((bx1.trans bxj).free ((bx1.trans bxj).ne ht) ht) upd_same k2 (by omega)
end
end K1
/-! several clauses 'except x as n', the same n -/
namespace K1
open PySem PySem.Spec PyProof.Rows L2
/-- what the clauses wish of an exception of the body, one after the other; slot i is the name's -/
def wAll (K : PySem.W.Frag) (i : Nat) (Wout : WX) (D : Ends) : List (Value × (Addr → Value → Option Addr → TS)) → WX
  | [] => Wout
  | (c, ts) :: r => fun cls d σ H => ∃ b, PySem.W.exmOne K cls c = some b ∧ (b = true → ∀ a, H a = none → ts a cls d { nx := fun σ' H' => D.nx (σ'.set i none) H', rt := D.rt, bk := fun σ' H' => D.bk (σ'.set i none) H', ct := fun σ' H' => D.ct (σ'.set i none) H' } (σ.set i (some (.ref a))) H) ∧
      (b = false → wAll K i Wout D r cls d σ H)
inductive HdsA (X : Cx) (n : Str) : List ExceptHandler → List (Value × (Addr → Value → Option Addr → TS)) → Prop
  | nil : HdsA X n [] []
  | cons {x : Str} {c : Value} {ts : Addr → Value → Option Addr → TS} {b₀ : Stmt} {suite : List Stmt} {np pos' : Pos} {hds : List ExceptHandler} {l : List (Value × (Addr → Value → Option Addr → TS))} (hc : Names X x c)
      (hsu : ∀ (a : Addr) (oe : Obj) (cls : Value) (d : Option Addr) (pn : List (Addr × Obj)), Zc cls d oe → (∃ vs, oe.data = .fields vs) → PSs (X.suite a ((a, oe) :: pn)) (b₀ :: suite) (ts a cls d)) (r : HdsA X n hds l) :
      HdsA X n (.ExceptHandler (some (.Name x np)) (some n) (b₀ :: suite) pos' :: hds) ((c, ts) :: l)
section
variable {X : Cx} {n : Str} {i : Nat} {body : List Stmt} {h₀ : ExceptHandler} {hds : List ExceptHandler} {l : List (Value × (Addr → Value → Option Addr → TS))} {pos : Pos} {tb : WX → TS} {Wout : WX}
theorem ps_try_all (hs : X.stack = X.env :: X.outer) (hf : X.env.frame = some X.env.locals) (hN : X.N.Nodup) (hi : X.N[i]? = some n) (hln : X.env.kindOf n = some .local) (tk : Takes X Wout)
    (hb : ∀ (W : WX) (pn : List (Addr × Obj)) (xe : Value → Shared → Prop), Takes (X.tr pn xe) W → PassesOwn (model X.prog X.w) X.A X.env xe → PSs (X.tr pn xe) body (tb W))
    (hh : HdsA X n (h₀ :: hds) l) : PS X (.Try body (h₀ :: hds) [] [] pos) (fun D σ H => tb (wAll X.K i Wout D l) D σ H) := by
  refine ⟨fun pins s σ H D I h => ?_⟩
  have ok := I.ok
  have hfr : X.A.frames = some (X.env :: X.outer) := by rw [ok.frames, hs]
  have hloc : Loc X.env.scope n := .inl hln
  refine wpAny_Try_except ?_
  refine wpAny_mono ((hb (wAll X.K i Wout D l) (X.pn ++ pins) (fun e s₁ => wpAny (model X.prog X.w) X.A (noteFrame e X.env) (fun _ s₂ => wpAny (model X.prog X.w) X.A (setFlight e none) (fun _ s₃ =>
    wpAny (model X.prog X.w) X.A (handleBy e X.env (h₀ :: hds)) (SP X pins D) X.xe s₃) X.xe s₂) X.xe s₁) (fun u s' xx => ?_) PassesOwn.looking).run [] s σ H D (I.toTry _) h) (fun f s1 hsp => ?_) (fun e s1 he => he)
  · -- the catch
    obtain ⟨a, B, sI, pins', σ', H', cls, d, rfl, J', nb, up, sky, na, os, ag, w⟩ := xx
    have J : Inv X pins σ' H' sI := J'.ofTry ok
    have sky' : Sky B (X.env :: X.outer) a (Zc cls d) X.env.locals s'.heap := by rw [← hs]; exact sky
    show wpAny (model X.prog X.w) X.A (noteFrame (.ref a) X.env) _ _ _
    refine Sky.land Zc.steady hfr hf sky' fun h3 fl3 up3 => ?_
    have J3 : Inv X pins σ' H' { s' with heap := h3 } := J.landed nb fl3.1 (up.trans up3) os ag
    obtain ⟨oe3, vs3, he3, hz3, hd3⟩ := fl3.there
    have notFr : ∀ {h : Heap} {o : Obj} {vs : Array Value}, h.FunFrames B (X.env :: X.outer) → h.get? a = some o → o.data = .fields vs → a ∉ frs (X.env :: X.outer) := fun {h o vs} ff e dd hm => by
      obtain ⟨_, o', e', hnf⟩ := ff.mem hm
      rw [e] at e'; cases e'
      exact hnf _ dd
    have nfr := notFr fl3.2.2.1 he3 hd3
    have nL : a ≠ X.env.locals := fun z => nfr (List.mem_filterMap.mpr ⟨X.env, List.mem_cons_self, by rw [hf, z]⟩)
    have nF : a ∉ X.fs := fun hm => by
      obtain ⟨e, he, q⟩ := List.mem_filterMap.mp hm
      exact nfr (List.mem_filterMap.mpr ⟨e, List.mem_cons_of_mem _ he, q⟩)
    have S3 := J3.suite he3 hd3 na nL nF
    have go : ∀ {hds' : List ExceptHandler} {l' : List (Value × (Addr → Value → Option Addr → TS))}, HdsA X n hds' l' → wAll X.K i Wout D l' cls d σ' H' →
        wpAny (model X.prog X.w) X.A (handleBy (.ref a) X.env hds') (SP X pins D) X.xe { s' with heap := h3 } := by
      intro hds' l' hk
      induction hk with
      | nil =>
        intro w
        refine wpAny_handleBy_nil ?_
        obtain ⟨k1, k2, k3, oe, vs, T, oT, ts', he, hz, hd, h1, hr⟩ := id fl3
        unfold PySem.passOn
        refine wpAny_bind (wpAny_field he hd h1 ?_)
        rw [if_neg (show ¬ ((Value.ref T == Value.none) = true) from by simp)]
        have fin : wpAny (model X.prog X.w) X.A (setFlight (.ref a) X.env.frame) (fun _ s4 => wpAny (model X.prog X.w) X.A (throw (.ref a) : Sem Flow) (SP X pins D) X.xe s4) X.xe { s' with heap := h3 } := by
          rw [hf]
          refine HandSPX.setFlight_upZ fl3 fun h4 hh4 up4 => wpAny_throw (tk _ _ ?_)
          exact ⟨a, B, sI, pins, σ', H', cls, d, rfl, J, nb, (up.trans up3).trans up4, .inr (.inr (by rw [hs]; exact hh4)), na, os, ag, w⟩
        first
          | exact wpAny_bind (wpAny_pure (wpAny_bind fin))
          | exact wpAny_bind fin
      | @cons x c ts b₀ suite np pos' hds2 l2 hc hsu r ih =>
        intro w
        obtain ⟨b, hb1, hyes, hno⟩ := w
        refine wpAny_handleBy_cons (codeAny_handlers_test ?_) (by intro q; cases q)
        have LT : PySem.W.Looks (model X.prog X.w) h3 (typeOf (.ref a)) cls := fun A Q E s k q => wpAny_typeOf_ref (k _ _ he3) (by rw [hz3.1]; exact q)
        have LM := PySem.W.exm_one (M := model X.prog X.w) (J3.kIn) LT hb1
        have test : ∀ {Q : Value → Shared → Prop} {E : Value → Shared → Prop}, Q c { s' with heap := h3 } → wpAny (model X.prog X.w) (X.A.mark (some (.ref a))) (eval (.Name x np) X.env) Q E { s' with heap := h3 } := fun {Q E} q => by
          obtain ⟨hg, hdbg, hm | ⟨hm, hv, hnn⟩⟩ := hc
          · exact ld_glob (X := X.suite a ((a, oe3) :: (X.pn ++ pins))) S3 hg hm q hdbg
          · exact ld_blt (X := X.suite a ((a, oe3) :: (X.pn ++ pins))) S3 hg hm hv q hnn hdbg
        refine test (LM.here ?_)
        cases b with
        | true =>
          refine codeAny_handlers_suite_as ?_
          refine HandSPX.lands_againZ fl3 fun h4 fl4 up4 => ?_
          have J4 : Inv X pins σ' H' { s' with heap := h4 } := J.landed nb fl4.1 ((up.trans up3).trans up4) os ag
          obtain ⟨oe4, vs4, he4, hz4, hd4⟩ := fl4.there
          have S4 := J4.suite he4 hd4 na nL nF
          refine store_ok (X := X.suite a ((a, oe4) :: (X.pn ++ pins))) (v := .ref a) S4 hN hi hloc rfl (fun s5 S5 => ?_) (.inr hln)
          refine wpAny_mono ((hsu a oe4 cls d (X.pn ++ pins) hz4 ⟨_, hd4⟩).run [] s5 _ H' _ S5 (hyes rfl a na)) (fun f s6 hsp => ?_) (fun _ _ z => False.elim z)
          have end_ : ∀ {σ6 : L2.St} {H6 : Hp} {Q : Shared → Prop}, Inv (X.suite a ((a, oe4) :: (X.pn ++ pins))) [] σ6 H6 s6 → (∀ s7, Inv X pins (σ6.set i none) H6 s7 → Q s7) →
              wpAny (model X.prog X.w) X.A (do bindName X.env n .none; unbindBehindTheSuite X.env n pos') (fun _ s7 => Q s7) X.xe s6 := fun {σ6 H6 Q} S6 hq => gone_ok (S6.unsuite ok) hN hi hln hq
          cases f with
          | next =>
            obtain ⟨σ6, H6, S6, q6⟩ := hsp
            exact end_ S6 fun s7 J7 => ⟨_, _, J7, q6⟩
          | brk =>
            obtain ⟨σ6, H6, S6, q6⟩ := hsp
            exact end_ S6 fun s7 J7 => ⟨_, _, J7, q6⟩
          | cont =>
            obtain ⟨σ6, H6, S6, q6⟩ := hsp
            exact end_ S6 fun s7 J7 => ⟨_, _, J7, q6⟩
          | ret u =>
            obtain ⟨v6, σ6, H6, S6, r6, q6⟩ := hsp
            exact end_ S6 fun s7 J7 => ⟨_, _, _, J7, r6, q6⟩
        | false =>
          show wpAny _ X.A (handleBy (.ref a) X.env hds2) _ _ _
          exact ih (hno rfl)
    exact go hh w
  · cases f with
    | next =>
      obtain ⟨σ', H', J', q⟩ := hsp
      exact wpAny_execs_nil ⟨σ', H', J'.ofTry ok, q⟩
    | brk =>
      obtain ⟨σ', H', J', q⟩ := hsp
      exact ⟨σ', H', J'.ofTry ok, q⟩
    | cont =>
      obtain ⟨σ', H', J', q⟩ := hsp
      exact ⟨σ', H', J'.ofTry ok, q⟩
    | ret u =>
      obtain ⟨v, σ', H', J', r, q⟩ := hsp
      exact ⟨v, σ', H', J'.ofTry ok, r, q⟩
end
end K1
namespace K1
open PySem PySem.Spec PyProof.Rows L2
theorem takes_len {X : Cx} {W : WX} (tk : Takes X W) : Takes X (fun cls d σ H => σ.length = X.N.length → W cls d σ H) := fun u s' ⟨a, B, sI, pins', σ', H', cls, d, e, J, nb, up, sky, na, os, ag, w⟩ =>
  tk u s' ⟨a, B, sI, pins', σ', H', cls, d, e, J, nb, up, sky, na, os, ag, w J.len⟩
/-- isinstance(e, N) in a suite, the exception's class and dict told by the reading -/
def rIsE (K : PySem.W.Frag) (C : Addr) (cls : Value) (d : Option Addr) (a : Addr) : List V → Hp → VK → Prop := fun xs H Q => ∃ dd : Addr, cls = .ref C ∧ d = some dd ∧ rIsD K C dd a xs H Q
theorem call_isE {X : Cx} {a C : Addr} {cls : Value} {d : Option Addr} {oe : Obj} {pn : List (Addr × Obj)} (T : ExcK X.K C) (hz : Zc cls d oe) (hf : ∃ vs, oe.data = .fields vs) : CallR (X.suite a ((a, oe) :: pn)) (.builtin "isinstance") (rIsE X.K C cls d a) := by
  intro pins s σ H xs us Q I r h
  obtain ⟨dd, rfl, rfl, h⟩ := h
  exact call_isD T hz hf pins s σ H xs us Q I r h
/-- what tells the four classes apart -/
structure Exm (K : PySem.W.Frag) (CM CR CS CD N : Addr) : Prop where
  mm : PySem.W.exmOne K (.ref CM) (.ref CM) = some true
  rm : PySem.W.exmOne K (.ref CR) (.ref CM) = some false
  rr : PySem.W.exmOne K (.ref CR) (.ref CR) = some true
  sm : PySem.W.exmOne K (.ref CS) (.ref CM) = some false
  sr : PySem.W.exmOne K (.ref CS) (.ref CR) = some false
  ss : PySem.W.exmOne K (.ref CS) (.ref CS) = some true
  dm : PySem.W.exmOne K (.ref CD) (.ref CM) = some false
  dr : PySem.W.exmOne K (.ref CD) (.ref CR) = some false
  ds : PySem.W.exmOne K (.ref CD) (.ref CS) = some false
  dd : PySem.W.exmOne K (.ref CD) (.ref CD) = some true
  im : PySem.W.kitOne K (.ref CM) (.ref N) = some true
  ir : PySem.W.kitOne K (.ref CR) (.ref N) = some true
  xm : ExcK K CM
  xr : ExcK K CR
/-- x is the text that repr gives for v -/
def RS (v : V) (x : Str) : Prop := ∀ (H : Hp) (Q : VK), Q (.str x) H → rReprS [v] H Q
/-- what the law hears of an error -/
def HE (CM CR CS CD : Addr) (Q : VK) : XK := fun cls d H => ∃ (dd : Addr) (f : Str) (v : V), d = some dd ∧ H dd = some (.xd [(f, v)]) ∧
  ((cls = .ref CM ∧ f = "at" ∧ ∀ p H', Same H H' → H' p = some (.tup [.str "machine", v, .bl true]) → Q (.ref p) H') ∨
   (cls = .ref CR ∧ f = "at" ∧ ∀ p H', Same H H' → H' p = some (.tup [.str "row", v, .bl true]) → Q (.ref p) H') ∨
   (cls = .ref CS ∧ f = "state" ∧ ∃ x, RS v x ∧ ∀ p H', Same H H' → H' p = some (.tup [.str "state", .str x]) → Q (.ref p) H') ∨
   (cls = .ref CD ∧ f = "deed" ∧ ∃ x, RS v x ∧ ∀ p H', Same H H' → H' p = some (.tup [.str "deed", .str x]) → Q (.ref p) H'))
def TTh (CM CR CS CD : Addr) : (XK → Hp → VK → Prop) → Hp → VK → Prop := fun tl H Q => tl (HE CM CR CS CD Q) H fun _ H' => Q .non H'
theorem scHe : FnScope ["_law_ask", "e"] ["_law_ask"] (defScope sHeard) := ⟨rfl, rfl, rfl, by decide +kernel, rfl, by decide +kernel, by decide +kernel⟩
theorem heard_gives {X : Cx} {CM CR CS CD N i1 i2 i3 i4 g : Addr} {b1 b2 b3 b4 : List Value} {q1 q2 q3 q4 : Str} {cdg : Value} {q : Str} (B : Bt X.mg) (T1 : LAt.Txt X.K X.mg "BadMachine" q1 b1 CM i1) (T2 : LAt.Txt X.K X.mg "BadRow" q2 b2 CR i2)
    (T3 : LState.Txt X.K X.mg "NoState" q3 b3 CS i3) (T4 : LDeed.Txt X.K X.mg "NoDeed" q4 b4 CD i4) (hN : X.mg "NetError" = some (.ref N)) (ex : Exm X.K CM CR CS CD N)
    (g1 : X.mg "BadMachine" = some (.ref CM)) (g2 : X.mg "BadRow" = some (.ref CR)) (g3 : X.mg "NoState" = some (.ref CS)) (g4 : X.mg "NoDeed" = some (.ref CD)) :
    LamX.GivesTo X ["_law_ask", "e"] "_law_heard" (defScope sHeard) g cdg (defBody sHeard) "_law_ask" q (TTh CM CR CS CD) := by
  intro f c' s H Q tl act hc h
  generalize hZ : (cxOf C8.CX0 X.prog X.w X.K X.mg X.base ["_law_ask", "e"] "_law_heard" (defScope sHeard) g cdg X.A X.stack s H C8.E0) = Z at act ⊢
  subst hZ
  refine ⟨_, pss_cons (ps_try_all (n := "e") (i := 1) (tb := fun W D σ H => ∃ Ech : XK, (∀ cls d (σ' : L2.St) H', σ'.length = 2 → Ech cls d H' → W cls d σ' H') ∧ σ[0]? = some (some (.ref f)) ∧ H c' = some (LamX.CodeO c' q) ∧ tl Ech H fun _ H1 => D.nx σ H1)
      rfl rfl scHe.nd rfl rfl LamX.takes0 (fun W pn xe tk _ => ?_)
      (.cons (c := .ref CM) ⟨rfl, by decide, .inl g1⟩ (fun a oe cls d pn hz hf => pss_one (ps_ret (pe_tup (pa_cons pe_str (pa_cons (pe_by_LAt T1 hz hf (pv 1)) (pa_cons (pe_callB (call_isE ex.xm hz hf) rfl B.isinstance (by decide +kernel) (pa_cons (pv 1) (pa_cons (pe_glob (v := .ref N) rfl hN rfl) pa_nil))) pa_nil))))))
      (.cons (c := .ref CR) ⟨rfl, by decide, .inl g2⟩ (fun a oe cls d pn hz hf => pss_one (ps_ret (pe_tup (pa_cons pe_str (pa_cons (pe_by_LAt T2 hz hf (pv 1)) (pa_cons (pe_callB (call_isE ex.xr hz hf) rfl B.isinstance (by decide +kernel) (pa_cons (pv 1) (pa_cons (pe_glob (v := .ref N) rfl hN rfl) pa_nil))) pa_nil))))))
      (.cons (c := .ref CS) ⟨rfl, by decide, .inl g3⟩ (fun a oe cls d pn hz hf => pss_one (ps_ret (pe_tup (pa_cons pe_str (pa_cons (pe_callB call_reprS rfl B.repr (by decide +kernel) (pa_cons (pe_by_LState T3 hz hf (pv 1)) pa_nil)) pa_nil)))))
      (.cons (c := .ref CD) ⟨rfl, by decide, .inl g4⟩ (fun a oe cls d pn hz hf => pss_one (ps_ret (pe_tup (pa_cons pe_str (pa_cons (pe_callB call_reprS rfl B.repr (by decide +kernel) (pa_cons (pe_by_LDeed T4 hz hf (pv 1)) pa_nil)) pa_nil))))) .nil)))))
    (pss_one (ps_ret pe_non)), ?_⟩
  · refine ⟨fun pins s' σ H' D I h' => ?_⟩
    obtain ⟨Ech, hW, h1, h2, h3⟩ := h'
    have hp := fun p1 p2 => act (fun cls d σ H => σ.length = 2 → W cls d σ H) pn xe Ech p1 p2 (takes_len tk) (fun cls d σ' H' e hl => hW cls d σ' H' hl e)
    exact (pss_one (ps_expr (hp _ _))).run pins s' σ H' D I ⟨h1, h2, h3⟩
  · refine ⟨HE CM CR CS CD Q, fun cls d σ' H' hl he => ?_, rfl, hc, h⟩
    obtain ⟨dd, fl, v, rfl, hx, k⟩ := he
    obtain ⟨v0, v1, rfl⟩ : ∃ v0 v1, σ' = [v0, v1] := by
      match σ', hl with
      | [v0, v1], _ => exact ⟨v0, v1, rfl⟩
    rcases k with ⟨rfl, rfl, k⟩ | ⟨rfl, rfl, k⟩ | ⟨rfl, rfl, x, rs, k⟩ | ⟨rfl, rfl, x, rs, k⟩
    · refine ⟨true, ex.mm, fun _ a na => ?_, fun z => (by cases z)⟩
      refine ⟨_, rfl, rfl, rfl, dd, v, rfl, hx, _, rfl, dd, rfl, rfl, N, _, _, true, rfl, hx, ex.im, (by show 3 ≤ sizeLine; decide), fun p hp => ?_⟩
      exact k p _ (same_new hp) upd_same
    · refine ⟨false, ex.rm, fun z => (by cases z), fun _ => ⟨true, ex.rr, fun _ a na => ?_, fun z => (by cases z)⟩⟩
      refine ⟨_, rfl, rfl, rfl, dd, v, rfl, hx, _, rfl, dd, rfl, rfl, N, _, _, true, rfl, hx, ex.ir, (by show 3 ≤ sizeLine; decide), fun p hp => ?_⟩
      exact k p _ (same_new hp) upd_same
    · refine ⟨false, ex.sm, fun z => (by cases z), fun _ => ⟨false, ex.sr, fun z => (by cases z), fun _ => ⟨true, ex.ss, fun _ a na => ?_, fun z => (by cases z)⟩⟩⟩
      refine ⟨_, rfl, rfl, rfl, dd, v, rfl, hx, ?_⟩
      unfold tNil
      dsimp only
      refine rs _ _ ⟨(by show 2 ≤ sizeLine; decide), fun p hp => ?_⟩
      exact k p _ (same_new hp) upd_same
    · refine ⟨false, ex.dm, fun z => (by cases z), fun _ => ⟨false, ex.dr, fun z => (by cases z), fun _ => ⟨false, ex.ds, fun z => (by cases z), fun _ => ⟨true, ex.dd, fun _ a na => ?_, fun z => (by cases z)⟩⟩⟩⟩
      refine ⟨_, rfl, rfl, rfl, dd, v, rfl, hx, ?_⟩
      unfold tNil
      dsimp only
      refine rs _ _ ⟨(by show 2 ≤ sizeLine; decide), fun p hp => ?_⟩
      exact k p _ (same_new hp) upd_same
end K1
namespace K1
open PySem PySem.Spec PyProof.Rows L2
/-! ### a text times an int -/
def rMulS : R2 := fun x y H Q => ∃ (z : Str) (k : Int), x = .str z ∧ y = .int k ∧ 1 ≤ k ∧ k ≤ 1000 ∧ z.length = 1 ∧ ∀ z' : Str, Q (.str z') H
theorem fold_size (xs : Array Nat) : ∀ (n : Nat) (acc : Array Nat), ((List.replicate n xs).foldl (· ++ ·) acc).size = acc.size + n * xs.size
  | 0, acc => by simp
  | n + 1, acc => by
    rw [List.replicate_succ, List.foldl_cons, fold_size xs n, Array.size_append, Nat.succ_mul]
    omega
theorem op_mulS {X : Cx} : OpR X (binaryOp .Mult) rMulS := by
  intro pins s σ H x y v u Q I rx ry h
  obtain ⟨z, k, rfl, rfl, h1, h2, hz, q⟩ := h
  obtain ⟨t, rfl⟩ := rx
  obtain ⟨t', rfl⟩ := ry
  refine PySem.P.mul_str (by rw [decide_eq_false (by omega), decide_eq_false (by omega)]; rfl) (fun _ e => ?_) (fun _ _ => ?_) ?_
  · rw [hz]
    simp only [Bool.or_eq_false_iff, beq_eq_false_iff_ne] at e
    have : (1 : Int) ≤ (2 ^ 63 - 1) / k := by
      have h3 : k * 1 ≤ 2 ^ 63 - 1 := by omega
      exact Int.le_ediv_of_mul_le (by omega) (by omega)
    omega
  · rw [hz]
    show decide (_ > sizeLine) = false
    exact decide_eq_false (by rw [sizeLine_eq]; omega)
  · rw [if_neg (by omega)]
    split
    · exact ⟨.str z, H, I, ⟨_, rfl⟩, q z⟩
    · refine ⟨?_, .str _, H, I.tok _, ⟨_, rfl⟩, q _⟩
      show ((List.replicate k.toNat z.cps).foldl (· ++ ·) #[]).size ≤ sizeLine
      rw [fold_size, sizeLine_eq]
      have hz' : z.cps.size = 1 := hz
      rw [hz']
      show 0 + k.toNat * 1 ≤ _
      omega
/-! ### a def whose code object is known -/
structure FunC (K : PySem.W.Frag) (x qual : Str) (st : Stmt) (f : Addr) (fd : FuncData) (cdv : Value) : Prop where
  ex : ∃ (oc : Value) (od : Option Addr) (kV doc pm : Value) (an : Option Addr) (ct : Value) (osl : Array (Option Value)),
    fd = PySem.W.fnOf x qual (defArgs st) (defBody st) (defScope st) .none kV doc pm an cdv ct ∧ K.lookup f = some ⟨oc, od, .func fd, osl⟩ ∧ PySem.W.codeIn K cdv qual = true
  kp : PySem.W.keepIn K (.ref f) = true
theorem FunC.fun {K : PySem.W.Frag} {x qual : Str} {st : Stmt} {f : Addr} {fd : FuncData} {cdv : Value} (F : FunC K x qual st f fd cdv) : Fun K x qual st f fd := by
  obtain ⟨⟨oc, od, kV, doc, pm, an, ct, osl, h1, h2, h3⟩, kp⟩ := F
  exact ⟨⟨oc, od, kV, doc, pm, an, cdv, ct, osl, h1, h2, h3⟩, kp⟩
section
variable {P : Program} {w : World} {K : PySem.W.Frag} {mg : Str → Option Value} {base : Heap}
theorem FunC.ok {x qual : Str} {st : Stmt} {f : Addr} {fd : FuncData} {cdv : Value} {N ps : List Str} {k : Nat} {sp : Sp} (F : FunC K x qual st f fd cdv) (S : FnScope N ps (defScope st)) (len : ∀ vs H Q E, sp vs H Q E → vs.length = ps.length)
    (hbody : ∀ (A : Around) (outer : List Env) (s : Shared) (H : Hp) (vs : List V) (Q : VK) (E : XK), Room k (A.deeper (envOfC qual (defScope st) s.heap.objs.size f cdv)) → sp vs H Q E →
      ∃ t, PSs (cxOf CX0 P w K mg base N qual (defScope st) f cdv A outer s H E).nox (defBody st) t ∧ t { nx := fun _ H' => Q .non H', rt := Q } (start N vs) H) : FnOk P w K mg base CX0 (k + 1) f fd ps sp := by
  obtain ⟨oc, od, kV, doc, pm, an, ct, osl, rfl, lk, hcd⟩ := F.ex
  refine fn_of lk hcd S len fun A outer s H vs Q E hr hsp => ?_
  obtain ⟨t, h, q⟩ := hbody A outer s H vs Q E hr hsp
  exact ⟨t, h.nox, q⟩
end
/-! ### the law's ear -/
structure Hd (K : PySem.W.Frag) (mg : Str → Option Value) (base : Heap) (c P : Addr) (CM CR CS CD : Addr) : Prop where
  B : Bt mg
  df : ∃ g fd, Df K mg "_law_heard" sHeard ["_law_ask"] g fd
  t1 : ∃ q b i, LAt.Txt K mg "BadMachine" q b CM i
  t2 : ∃ q b i, LAt.Txt K mg "BadRow" q b CR i
  t3 : ∃ q b i, LState.Txt K mg "NoState" q b CS i
  t4 : ∃ q b i, LDeed.Txt K mg "NoDeed" q b CD i
  ex : ∃ N, mg "NetError" = some (.ref N) ∧ Exm K CM CR CS CD N
  g1 : mg "BadMachine" = some (.ref CM)
  g2 : mg "BadRow" = some (.ref CR)
  g3 : mg "NoState" = some (.ref CS)
  g4 : mg "NoDeed" = some (.ref CD)
  TB : LamX.TabB base mg c P
theorem pHeard {X : Cx} {c P CM CR CS CD : Addr} {k : Nat} {qn : Str} {params : Arguments} {body : Expr} {scope : Scope} {t : XK → TE} {p lpos pos : Pos} (hd : Hd X.K X.mg X.base c P CM CR CS CD) (hr : Room (k + 2) X.A) (hcode : X.env.code = .ref c)
    (hq : X.env.qual ++ "<lambda>" = qn) (hg : Gl X "_law_heard") (L : LamX.LamS X.env.scope scope) (hdef : defaultsOf params X.env = ([], []))
    (hbind : ∀ (q : Str) (cl : List (Str × Addr)) (pm cv ctv : Value), bindArgs (PySem.W.kla_fn "<lambda>" q params body scope cl pm cv ctv) ⟨[], []⟩ = pure [])
    (hbody : ∀ (A : Around) (outer : List Env) (s : Shared) (H : Hp) (E : XK) (f c' : Addr), Room k (A.deeper (LamX.lamEnv X scope s.heap.objs.size f c')) → PE (LamX.lamCx X A outer s H E scope f c') body (t E)) :
    PE X (.Call (.Name "_law_heard" p) [.Lambda params body scope lpos] [] pos) (LamX.tLam [(P, qn)] (TTh CM CR CS CD) t) := by
  obtain ⟨g, fd, D⟩ := hd.df
  obtain ⟨q1, b1, i1, T1⟩ := hd.t1
  obtain ⟨q2, b2, i2, T2⟩ := hd.t2
  obtain ⟨q3, b3, i3, T3⟩ := hd.t3
  obtain ⟨q4, b4, i4, T4⟩ := hd.t4
  obtain ⟨N, hN, ex⟩ := hd.ex
  have hb := D.b
  obtain ⟨oc, od, kV, doc, pm, an, cdv, ct, osl, rfl, lk, hcd⟩ := D.F.ex
  exact LamX.pe_lamcall (a := "_law_ask") hg D.g D.F.kp lk hcd hb scHe rfl (.inl rfl) (heard_gives hd.B T1 T2 T3 T4 hN ex hd.g1 hd.g2 hd.g3 hd.g4) hd.TB hcode (by rw [hq]; exact List.mem_cons_self) (fun p hp _ => by rw [List.mem_singleton.mp hp, hq]) hr L hdef hbind hbody
end K1
namespace K1
open PySem PySem.Spec PyProof.Rows L2
/-! ### rules with the fragment told -/
theorem neD {X : Cx} {K : PySem.W.Frag} (h : X.K = K) (hu : X.A.units + 64 < cLine) : OpR X (compareOp .NotEq) (rNeD K) := by
  subst h
  exact op_neD hu
theorem eqD {X : Cx} {K : PySem.W.Frag} (h : X.K = K) (hu : X.A.units + 64 < cLine) : OpR X (compareOp .Eq) (rEqD K) := by
  subst h
  exact op_eqD hu
def rList (K : PySem.W.Frag) : List V → Hp → VK → Prop := fun xs H Q => ∃ p ys, xs = [.ref p] ∧ (SqL K H p ys ∨ SqT K H p ys) ∧ ∀ l, H l = none → Q (.ref l) (upd H l (.lst ys))
theorem clist {X : Cx} {K : PySem.W.Frag} (h : X.K = K) : CallR X (.type "list") (rList K) := by
  subst h
  exact call_list_of
theorem slL {X : Cx} {K : PySem.W.Frag} (h : X.K = K) : SlR X (rSlL K) := by
  subst h
  exact sl_list
theorem piL {X : Cx} {K : PySem.W.Frag} {tg l : Expr} {tl : TE} (h : X.K = K) (hl : PE X l tl) : PI X tg l (iList K tl) := by
  subst h
  exact pi_list hl
theorem cut_to {xs : List V} {k : Nat} (h : k ≤ xs.length) : cutV xs none (some (k : Int)) = xs.take k := by
  unfold cutV
  rw [HT.sIx_nat, HT.sIx_none, Nat.min_eq_left h]; rfl
theorem cut_from {xs : List V} {k : Nat} (h : k ≤ xs.length) : cutV xs (some (k : Int)) none = xs.drop k := by
  unfold cutV
  rw [HT.sIx_nat, HT.sIx_none, Nat.min_eq_left h, ← List.length_drop, List.take_length]
/-! ### what stays behind a heard call: all but the source and the tables of code -/
section
variable {b : Addr} {T : List (Addr × Str)} {H H1 H2 : Hp}
def Rl (b : Addr) (T : List (Addr × Str)) (H H' : Hp) : Prop := BoxO H' b ∧ LamX.Tabs T H' ∧ ∀ c o, H c = some o → c ≠ b → (∀ ps, o ≠ .tbl ps) → H' c = some o
theorem Rl.refl (hb : BoxO H b) (t : LamX.Tabs T H) : Rl b T H H := ⟨hb, t, fun _ _ e _ _ => e⟩
theorem Rl.trans (a : Rl b T H H1) (c : Rl b T H1 H2) : Rl b T H H2 := ⟨c.1, c.2.1, fun d o e n1 n2 => c.2.2 d o (a.2.2 d o e n1 n2) n1 n2⟩
theorem Rl.same (a : Rl b T H H1) (s : Same H1 H2) : Rl b T H H2 := ⟨a.1.same s, a.2.1.ext s, fun c o e n1 n2 => s _ _ (a.2.2 c o e n1 n2)⟩
theorem Rl.new {p : Addr} {o : HO} (a : Rl b T H H1) (hp : H1 p = none) : Rl b T H (upd H1 p o) := a.same (same_new hp)
theorem tabs_bx (t : LamX.Tabs T H1) (hb : BoxO H1 b) (x : Bx b H1 H2) : LamX.Tabs T H2 := fun p hp => by
  obtain ⟨ps, h1, h2, h3⟩ := t p hp
  refine ⟨ps, x.2 _ _ h1 (hb.ne h1 fun xs => by intro z; cases z), h2, fun pos cv hc => ?_⟩
  obtain ⟨c, e1, e2⟩ := h3 pos cv hc
  exact ⟨c, e1, x.2 _ _ e2 (hb.ne e2 fun xs => by intro z; unfold LamX.CodeO at z; cases z)⟩
theorem Rl.bx (a : Rl b T H H1) (x : Bx b H1 H2) : Rl b T H H2 := ⟨x.1, tabs_bx a.2.1 a.1 x, fun c o e n1 n2 => x.2 _ _ (a.2.2 c o e n1 n2) n1⟩
theorem BoxO.ext (h : BoxO H1 b) (e : LamX.ExtN H1 H2) : BoxO H2 b := let ⟨x, y, z, q⟩ := h; ⟨x, y, z, e _ _ q (fun ps z => by cases z)⟩
theorem Rl.ext (a : Rl b T H H1) (e : LamX.ExtN H1 H2) (t : LamX.Tabs T H2) : Rl b T H H2 := ⟨a.1.ext e, t, fun c o q n1 n2 => e _ _ (a.2.2 c o q n1 n2) n2⟩
theorem Rl.tup {c : Addr} {xs : List V} (a : Rl b T H H1) (hb : BoxO H b) (h : H c = some (.tup xs)) : H1 c = some (.tup xs) := a.2.2 _ _ h (hb.ne h fun xs => by intro z; cases z) (fun ps z => by cases z)
theorem Rl.lst {c : Addr} {xs : List V} (a : Rl b T H H1) (n : c ≠ b) (h : H c = some (.lst xs)) : H1 c = some (.lst xs) := a.2.2 _ _ h n (fun ps z => by cases z)
theorem Rl.tabL {p : Addr} {ts : List (List V)} (a : Rl b T H H1) (hb : BoxO H b) (n : p ≠ b) (h : TabL H p ts) : TabL H1 p ts :=
  let ⟨as, h1, h2, h3⟩ := h
  ⟨as, a.lst n h1, h2, fun i c t e1 e2 => a.tup hb (h3 i c t e1 e2)⟩
theorem Rl.mach {M m ta : Addr} {ts : List (List V)} (a : Rl b T H H1) (hb : BoxO H b) (h : MachAt M H m ta ts) : MachAt M H1 m ta ts :=
  let ⟨⟨dx, t0, h0, h1⟩, as, k1, k2, k3⟩ := h
  ⟨⟨dx, t0, h0, a.2.2 _ _ h1 (hb.ne h1 fun xs => by intro z; cases z) (fun ps z => by cases z)⟩, as, a.tup hb k1, k2, fun i c t e1 e2 => a.tup hb (k3 i c t e1 e2)⟩
theorem BoxO.nn {p : Addr} (h : BoxO H b) (hp : H p = none) : p ≠ b := (Bx.refl h).ne hp
end
/-! ### what the ear tells, compared -/
theorem ear {K : PySem.W.Frag} {Q : VK} {p p2 : Addr} {H : Hp} {vs : List V} {ds : List PyData} (h1 : H p = some (.tup vs)) (h2 : H p2 = some (.tup vs)) (hd : DpAll K H vs ds) (lay : PyData.canLay0 (.tuple ds) = true) (sh : SeqAt.shaped (.tuple ds) = true) (q : Q (.bl false) H) : rNeD K (.ref p) (.ref p2) H Q :=
  ⟨_, _, .tup (SqT.of h1) hd, .tup (SqT.of h2) hd, sh, sh, qbl (by rw [SeqAt.eqv_refl _ lay]; rfl) q⟩
theorem lay3 {x : Str} (hx : PyData.strOk x = true) (i : Int) (b : Bool) : PyData.canLay0 (.tuple [.str x, .int i, .bool b]) = true := by simp only [PyData.canLay0, PyData.canLayAll0, Bool.and_self, hx]
theorem sh3 {x : Str} (hx : PyData.strOk x = true) (i : Int) (b : Bool) : SeqAt.shaped (.tuple [.str x, .int i, .bool b]) = true := by
  unfold SeqAt.shaped
  rw [lay3 hx]
  simp only [PyData.depth, PyData.depthAll]
  exact (by decide : (true && decide (max 0 (max 0 (max 0 0)) + 1 ≤ 64)) = true)
theorem lay2 {x y : Str} (hx : PyData.strOk x = true) (hy : PyData.strOk y = true) : PyData.canLay0 (.tuple [.str x, .str y]) = true := by simp only [PyData.canLay0, PyData.canLayAll0, Bool.and_self, hx, hy]
theorem sh2 {x y : Str} (hx : PyData.strOk x = true) (hy : PyData.strOk y = true) : SeqAt.shaped (.tuple [.str x, .str y]) = true := by
  unfold SeqAt.shaped
  rw [lay2 hx hy]
  simp only [PyData.depth, PyData.depthAll]
  exact (by decide : (true && decide (max 0 (max 0 0) + 1 ≤ 64)) = true)
theorem ear3 {K : PySem.W.Frag} {Q : VK} {p p2 : Addr} {H : Hp} {x : Str} {i : Int} {b : Bool} (hx : PyData.strOk x = true) (h1 : H p = some (.tup [.str x, .int i, .bl b])) (h2 : H p2 = some (.tup [.str x, .int i, .bl b])) (q : Q (.bl false) H) : rNeD K (.ref p) (.ref p2) H Q :=
  ear h1 h2 (.cons (.str x) (.cons (.int i) (.cons (.bl b) .nil))) (lay3 hx i b) (sh3 hx i b) q
theorem ear2 {K : PySem.W.Frag} {Q : VK} {p p2 : Addr} {H : Hp} {x y : Str} (hx : PyData.strOk x = true) (hy : PyData.strOk y = true) (h1 : H p = some (.tup [.str x, .str y])) (h2 : H p2 = some (.tup [.str x, .str y])) (q : Q (.bl false) H) : rNeD K (.ref p) (.ref p2) H Q :=
  ear h1 h2 (.cons (.str x) (.cons (.str y) .nil)) (lay2 hx hy) (sh2 hx hy) q
/-! ### values that are no states, no deeds, no tables -/
def OdV (H : Hp) (lim : Int) (v : V) : Prop := belowB v lim = false ∧ ((∃ i, v = .int i) ∨ (∃ k, v = .bl k) ∨ v = .non ∨ (∃ x, v = .str x) ∨ ∃ t, v = .ref t ∧ H t = some (.tup [.int 0]))
theorem OdV.kv {K : PySem.W.Frag} {H : Hp} {lim : Int} {v : V} (h : OdV H lim v) : ∃ o, KV K H v o := by
  rcases h.2 with ⟨i, rfl⟩ | ⟨k, rfl⟩ | rfl | ⟨x, rfl⟩ | ⟨t, rfl, ht⟩
  · exact ⟨_, .int i⟩
  · exact ⟨_, .bl k⟩
  · exact ⟨_, .non⟩
  · exact ⟨_, .str x⟩
  · exact ⟨_, .tup ht⟩
theorem OdV.rl {b : Addr} {T : List (Addr × Str)} {H H1 : Hp} {lim : Int} {v : V} (h : OdV H lim v) (hb : BoxO H b) (a : Rl b T H H1) : OdV H1 lim v := ⟨h.1, by
  rcases h.2 with ⟨i, rfl⟩ | ⟨k, rfl⟩ | rfl | ⟨x, rfl⟩ | ⟨t, rfl, ht⟩
  · exact .inl ⟨i, rfl⟩
  · exact .inr (.inl ⟨k, rfl⟩)
  · exact .inr (.inr (.inl rfl))
  · exact .inr (.inr (.inr (.inl ⟨x, rfl⟩)))
  · exact .inr (.inr (.inr (.inr ⟨t, rfl, a.tup hb ht⟩)))⟩
/-- no state, no deed, as a text too -/
def OdS (lim : Int) (v : V) : Prop := belowB v lim = false ∧ (∀ (K : PySem.W.Frag) (H : Hp), KV K H v none) ∧ ∃ x, PyData.strOk x = true ∧ RS v x
theorem tx_ok : ∀ i : Fin 13, PyData.strOk (Str.ofString (toString ((i : Nat) : Int))) = true := by decide +kernel
theorem tx_lim {lim : Int} (h0 : 0 ≤ lim) (h1 : lim ≤ 12) : PyData.strOk (Str.ofString (toString lim)) = true := by
  have z := tx_ok ⟨lim.toNat, by omega⟩
  have e : ((lim.toNat : Nat) : Int) = lim := by omega
  simp only [e] at z
  exact z
theorem odS_of {lim : Int} {v : V} (h0 : 0 ≤ lim) (h1 : lim ≤ 12) (h : v ∈ [V.int lim, .int (-1), .bl true, .non, .str "0"]) : OdS lim v := by
  have si : ∀ i : Int, i.natAbs ≤ 1000 → PyData.strOk (Str.ofString (toString i)) = true → ∃ x, PyData.strOk x = true ∧ RS (.int i) x := fun i hi ok => ⟨toString i, ok, fun H Q q => ⟨_, rfl, .inr (.inr (.inl ⟨i, rfl, by
    by_cases z : i.natAbs = 0
    · rw [z]; decide
    · have : i.natAbs.log2 < 10 := (Nat.log2_lt z).mpr (by omega)
      omega, q⟩))⟩⟩
  simp only [List.mem_cons, List.mem_nil_iff, or_false] at h
  rcases h with rfl | rfl | rfl | rfl | rfl
  · exact ⟨by show (decide (0 ≤ lim) && decide (lim < lim)) = false; rw [decide_eq_false (show ¬ lim < lim by omega), Bool.and_false], fun K H => .int _, si _ (by omega) (tx_lim h0 h1)⟩
  · exact ⟨rfl, fun K H => .int _, si _ (by decide) (by decide +kernel)⟩
  · exact ⟨rfl, fun K H => .bl _, "True", by decide +kernel, fun H Q q => ⟨_, rfl, .inr (.inl ⟨true, rfl, q⟩)⟩⟩
  · exact ⟨rfl, fun K H => .non, "None", by decide +kernel, fun H Q q => ⟨_, rfl, .inl ⟨rfl, q⟩⟩⟩
  · exact ⟨rfl, fun K H => .str _, reprText "0", by decide +kernel, fun H Q q => ⟨_, rfl, .inr (.inr (.inr ⟨"0", rfl, by decide +kernel, q⟩))⟩⟩
theorem odV_of {H : Hp} {lim : Int} {v : V} {t : Addr} (h0 : 0 ≤ lim) (ht : H t = some (.tup [.int 0])) (h : v ∈ [V.int lim, .int (-1), .bl true, .non, .str "0", .ref t]) : OdV H lim v := by
  simp only [List.mem_cons, List.mem_nil_iff, or_false] at h
  rcases h with rfl | rfl | rfl | rfl | rfl | rfl
  · exact ⟨by show (decide (0 ≤ lim) && decide (lim < lim)) = false; rw [decide_eq_false (show ¬ lim < lim by omega), Bool.and_false], .inl ⟨_, rfl⟩⟩
  · exact ⟨rfl, .inl ⟨_, rfl⟩⟩
  · exact ⟨rfl, .inr (.inl ⟨_, rfl⟩)⟩
  · exact ⟨rfl, .inr (.inr (.inl rfl))⟩
  · exact ⟨rfl, .inr (.inr (.inr (.inl ⟨_, rfl⟩)))⟩
  · exact ⟨rfl, .inr (.inr (.inr (.inr ⟨t, rfl, ht⟩)))⟩
/-- a row that no first row of tables is -/
def BadFirst (r : Option (List V)) : Prop := ∀ y, r = some y → y.length < 1 ∨ 12 < y.length ∨ isTab (some y) (y.length : Int) = false
theorem chk_at {rs : List (Option (List V))} {a n : Nat} {r : Option (List V)} (h8 : rs.length ≤ 8) (hg : ∀ j, j < a → ∃ y : List V, rs[j]? = some (some y) ∧ y.length = n ∧ isTab (some y) (n : Int) = true) (n1 : 1 ≤ n) (n12 : n ≤ 12) (hr : rs[a]? = some r)
    (h0 : a = 0 → BadFirst r) (h1 : 0 < a → isTab r (n : Int) = false) : chkAt (some rs) = some (a : Int) := by
  have ha : a < rs.length := (List.getElem?_eq_some_iff.mp hr).1
  show (if rs.length < 1 ∨ 8 < rs.length then some (-1) else _) = _
  rw [if_neg (by omega)]
  cases a with
  | zero =>
    rw [hr]
    cases r with
    | none => rfl
    | some y0 =>
      show (if y0.length < 1 ∨ 12 < y0.length then some 0 else _) = _
      by_cases z : y0.length < 1 ∨ 12 < y0.length
      · rw [if_pos z]; rfl
      · rw [if_neg z]
        have hb : isTab (some y0) (y0.length : Int) = false := by
          rcases h0 rfl y0 rfl with e | e | e
          · exact absurd (.inl e) z
          · exact absurd (.inr e) z
          · exact e
        rw [find_at hr (by rw [hb]; rfl) (fun j y hj => absurd hj (Nat.not_lt_zero _))]; rfl
  | succ a =>
    obtain ⟨y0, e0, l0, _⟩ := hg 0 (Nat.succ_pos _)
    rw [e0]
    show (if y0.length < 1 ∨ 12 < y0.length then some 0 else _) = _
    rw [if_neg (by omega), l0, find_at hr (by rw [h1 (Nat.succ_pos _)]; rfl) (fun j y hj hy => ?_)]; rfl
    obtain ⟨y', e1, _, e2⟩ := hg j hj
    rw [e1] at hy
    rw [← Option.some.inj hy, e2]; rfl
/-! ### tables handed to Machine -/
theorem TabL.mv {K : PySem.W.Frag} {H : Hp} {p : Addr} {ts : Ts} (h : TabL H p (vts ts)) : Mv K H (.ref p) (some ((vts ts).map some)) := by
  obtain ⟨as, h1, h2, h3⟩ := h
  refine .yes (xs := as.map V.ref) (.lst h1) ⟨by rw [List.length_map, List.length_map, h2], fun i x r e1 e2 => ?_⟩
  rw [List.getElem?_map] at e1 e2
  cases ea : as[i]? with
  | none => rw [ea] at e1; cases e1
  | some a =>
    cases et : (vts ts)[i]? with
    | none => rw [et] at e2; cases e2
    | some t =>
      rw [ea] at e1
      rw [et] at e2
      obtain rfl : V.ref a = x := Option.some.inj e1
      obtain rfl : some t = r := Option.some.inj e2
      refine ⟨.tup (h3 i a t ea et), fun ys e y hy => ?_⟩
      obtain rfl : t = ys := Option.some.inj e
      rw [vts, List.getElem?_map] at et
      cases e3 : ts[i]? with
      | none => rw [e3] at et; cases et
      | some t' =>
        rw [e3] at et
        obtain rfl : vrow t' = t := Option.some.inj et
        obtain ⟨j, _, rfl⟩ := List.mem_map.mp hy
        exact ⟨_, .int j⟩
theorem isTab_row {t : List Int} {n : Nat} (hl : t.length = n) (h : ∀ i ∈ t, 0 ≤ i ∧ i < (n : Int)) : isTab (some (vrow t)) (n : Int) = true := by
  show (seqB (some (vrow t)) (n : Int) (n : Int) && decide (fnb (vrow t) (n : Int) = V.non)) = true
  have e1 : seqB (some (vrow t)) (n : Int) (n : Int) = true := by
    show (decide ((n : Int) ≤ ((vrow t).length : Int)) && decide (((vrow t).length : Int) ≤ (n : Int))) = true
    rw [vrow, List.length_map, hl]
    simp
  rw [e1, fnb_all fun x hx => ?_]; rfl
  obtain ⟨i, hi, rfl⟩ := List.mem_map.mp hx
  obtain ⟨h1, h2⟩ := h i hi
  show (decide (0 ≤ i) && decide (i < (n : Int))) = true
  rw [decide_eq_true h1, decide_eq_true h2]; rfl
theorem chk_wf {ts : Ts} (w : Wf ts) : chkAt (some ((vts ts).map some)) = none := by
  have h1 := w.t1; have h8 := w.t8; have s1 := w.s1; have s12 := w.s12
  have e0 : ((vts ts).map some)[0]? = some (some (vrow ts[0])) := by
    rw [vts, List.map_map, List.getElem?_map, List.getElem?_eq_getElem (by omega)]; rfl
  have el : (vrow ts[0]).length = nS ts := by
    rw [vrow, List.length_map]
    exact (w.row _ (List.getElem_mem _)).1
  show (if ((vts ts).map some).length < 1 ∨ 8 < ((vts ts).map some).length then some (-1) else _) = _
  rw [if_neg (by simp only [vts, List.length_map]; omega), e0]
  show (if (vrow ts[0]).length < 1 ∨ 12 < (vrow ts[0]).length then some 0 else _) = _
  rw [if_neg (by omega), find_none fun j y _ hy => ?_]; rfl
  rw [vts, List.map_map, List.getElem?_map] at hy
  cases e : ts[j]? with
  | none => rw [e] at hy; cases hy
  | some t =>
    rw [e] at hy
    obtain rfl : some (vrow t) = y := Option.some.inj hy
    obtain ⟨r1, r2⟩ := w.row t (List.mem_of_getElem? e)
    rw [el, isTab_row r1 r2]; rfl
theorem mkS {H H' : Hp} {m dx : Addr} {o1 o2 : HO} (hm : H m = none) (hd : H dx = none) (k : ∀ b u, (upd (upd H dx o1) m o2) b = some u → b ≠ m → H' b = some u) : Same H H' := fun c o e =>
  k c o (by rw [upd_ne (ne_of_none e hm), upd_ne (ne_of_none e hd)]; exact e) (ne_of_none e hm)
theorem TabL.row {H : Hp} {p : Addr} {ts : Ts} (h : TabL H p (vts ts)) {i : Nat} {t : List Int} (e : ts[i]? = some t) : ∃ (as : List Addr) (a : Addr), H p = some (.lst (as.map V.ref)) ∧ as.length = ts.length ∧ as[i]? = some a ∧ H a = some (.tup (vrow t)) := by
  obtain ⟨as, h1, h2, h3⟩ := h
  have la : as.length = ts.length := by rw [h2, vts, List.length_map]
  have hi : i < as.length := by rw [la]; exact (List.getElem?_eq_some_iff.mp e).1
  exact ⟨as, as[i], h1, la, List.getElem?_eq_getElem hi, h3 i _ _ (List.getElem?_eq_getElem hi) (by rw [vts, List.getElem?_map, e]; rfl)⟩
/-! ### rows that are no tables -/
theorem isTab_none (n : Int) : isTab none n = false := rfl
theorem isTab_len {ys : List V} {n : Nat} (h : ys.length ≠ n) : isTab (some ys) (n : Int) = false := by
  show ((decide ((n : Int) ≤ (ys.length : Int)) && decide ((ys.length : Int) ≤ (n : Int))) && _) = false
  by_cases z : (n : Int) ≤ (ys.length : Int)
  · rw [decide_eq_false (show ¬ (ys.length : Int) ≤ (n : Int) by omega), Bool.and_false]; rfl
  · rw [decide_eq_false z]; rfl
theorem isTab_bad {ys : List V} {n : Int} {v : V} (hv : v ∈ ys) (hb : belowB v n = false) : isTab (some ys) n = false := by
  show (_ && decide (fnb ys n = V.non)) = false
  rw [decide_eq_false (fun e => by rw [fnb_non e v hv] at hb; cases hb), Bool.and_false]
def BR (b : Addr) (H : Hp) (n a : Nat) (v : V) : Prop :=
  (∀ (K : PySem.W.Frag) (H : Hp), KV K H v none) ∨ ∃ (l : Addr) (ys : List V), v = .ref l ∧ l ≠ b ∧ H l = some (.lst ys) ∧ (∀ y ∈ ys, (∃ i : Int, y = .int i) ∨ ∃ lim, OdV H lim y) ∧ (a = 0 → BadFirst (some ys)) ∧ (0 < a → isTab (some ys) (n : Int) = false)
theorem BR.rl {b : Addr} {T : List (Addr × Str)} {H H1 : Hp} {n a : Nat} {v : V} (h : BR b H n a v) (hb : BoxO H b) (r : Rl b T H H1) : BR b H1 n a v := by
  rcases h with h | ⟨l, ys, rfl, nb, hl, hy, h0, h1⟩
  · exact .inl h
  · refine .inr ⟨l, ys, rfl, nb, r.lst nb hl, fun y hm => ?_, h0, h1⟩
    rcases hy y hm with z | ⟨lim, o⟩
    · exact .inl z
    · exact .inr ⟨lim, o.rl hb r⟩
theorem BR.rw {K : PySem.W.Frag} {b : Addr} {H : Hp} {n a : Nat} {v : V} (h : BR b H n a v) : ∃ r, Rw K H v r ∧ (a = 0 → BadFirst r) ∧ (0 < a → isTab r (n : Int) = false) := by
  rcases h with h | ⟨l, ys, rfl, nb, hl, hy, h0, h1⟩
  · exact ⟨none, ⟨h K H, fun ys e => (by cases e)⟩, fun _ y e => (by cases e), fun _ => rfl⟩
  · refine ⟨some ys, ⟨.lst hl, fun ys' e y hm => ?_⟩, h0, h1⟩
    obtain rfl : ys = ys' := Option.some.inj e
    rcases hy y hm with ⟨i, rfl⟩ | ⟨lim, o⟩
    · exact ⟨_, .int i⟩
    · exact o.kv
section
variable {K : PySem.W.Frag} {H : Hp} {as : List Addr} {ts : Ts} {a cnt : Nat} {v : V} {r : Option (List V)}
def mixV (as : List Addr) (a : Nat) (v : V) (cnt : Nat) : List V := ((as.map V.ref).take a ++ [v]) ++ List.replicate cnt V.non
def mixR (ts : Ts) (a : Nat) (r : Option (List V)) (cnt : Nat) : List (Option (List V)) := (((vts ts).map some).take a ++ [r]) ++ List.replicate cnt none
theorem get_mix {α : Type} {xs : List α} {a cnt : Nat} {x z : α} (ha : a ≤ xs.length) (i : Nat) : ((xs.take a ++ [x]) ++ List.replicate cnt z)[i]? = if i < a then xs[i]? else if i = a then some x else if i < a + 1 + cnt then some z else none := by
  have l1 : (xs.take a).length = a := by rw [List.length_take]; omega
  have l2 : (xs.take a ++ [x]).length = a + 1 := by rw [List.length_append, l1]; rfl
  by_cases h1 : i < a
  · rw [if_pos h1, List.getElem?_append_left (by omega), List.getElem?_append_left (by omega), List.getElem?_take_of_lt h1]
  · rw [if_neg h1]
    by_cases h2 : i = a
    · subst h2
      rw [if_pos rfl, List.getElem?_append_left (by omega), List.getElem?_append_right (by omega), l1, Nat.sub_self]; rfl
    · rw [if_neg h2, List.getElem?_append_right (by omega), l2, List.getElem?_replicate]
      by_cases h3 : i < a + 1 + cnt
      · rw [if_pos h3, if_pos (by omega)]
      · rw [if_neg h3, if_neg (by omega)]
theorem mix_rws (la : as.length = ts.length) (hrow : ∀ (i : Nat) aa t, as[i]? = some aa → ts[i]? = some t → H aa = some (.tup (vrow t))) (ha : a < ts.length) (hv : Rw K H v r) : Rws K H (mixV as a v cnt) (mixR ts a r cnt) := by
  have l1 : ((as.map V.ref).take a).length = a := by rw [List.length_take, List.length_map]; omega
  have l2 : (((vts ts).map some).take a).length = a := by rw [List.length_take, vts, List.length_map, List.length_map]; omega
  refine ⟨by simp only [mixV, mixR, List.length_append, l1, l2, List.length_replicate, List.length_cons, List.length_nil], fun i x r' e1 e2 => ?_⟩
  unfold mixV at e1
  unfold mixR at e2
  rw [get_mix (by rw [List.length_map]; omega)] at e1
  rw [get_mix (by rw [vts, List.length_map, List.length_map]; omega)] at e2
  by_cases h1 : i < a
  · rw [if_pos h1] at e1 e2
    have hi : i < as.length := by omega
    have hi2 : i < ts.length := by omega
    rw [List.getElem?_map, List.getElem?_eq_getElem hi] at e1
    rw [vts, List.map_map, List.getElem?_map, List.getElem?_eq_getElem hi2] at e2
    obtain rfl : V.ref as[i] = x := Option.some.inj e1
    obtain rfl : some (vrow ts[i]) = r' := Option.some.inj e2
    refine ⟨.tup (hrow i _ _ (List.getElem?_eq_getElem hi) (List.getElem?_eq_getElem hi2)), fun ys e y hy => ?_⟩
    obtain rfl : vrow ts[i] = ys := Option.some.inj e
    obtain ⟨j, _, rfl⟩ := List.mem_map.mp hy
    exact ⟨_, .int j⟩
  · rw [if_neg h1] at e1 e2
    by_cases h2 : i = a
    · rw [if_pos h2] at e1 e2
      obtain rfl := Option.some.inj e1
      obtain rfl := Option.some.inj e2
      exact hv
    · rw [if_neg h2] at e1 e2
      by_cases h3 : i < a + 1 + cnt
      · rw [if_pos h3] at e1 e2
        obtain rfl := Option.some.inj e1
        obtain rfl := Option.some.inj e2
        exact ⟨.non, fun ys e => by cases e⟩
      · rw [if_neg h3] at e1
        cases e1
theorem mix_chk (w : Wf ts) (ha : a < ts.length) (hc : a + 1 + cnt = ts.length) (h0 : a = 0 → BadFirst r) (h1 : 0 < a → isTab r (nS ts : Int) = false) : chkAt (some (mixR ts a r cnt)) = some (a : Int) := by
  have l2 : (((vts ts).map some).take a).length = a := by rw [List.length_take, vts, List.length_map, List.length_map]; omega
  have h8 := w.t8
  have gm := fun i => get_mix (xs := (vts ts).map some) (a := a) (cnt := cnt) (x := r) (z := none) (by rw [vts, List.length_map, List.length_map]; omega) i
  refine chk_at (n := nS ts) ?_ (fun j hj => ?_) w.s1 w.s12 ?_ h0 h1
  · simp only [mixR, List.length_append, l2, List.length_replicate, List.length_cons, List.length_nil]
    omega
  · have hj2 : j < ts.length := by omega
    obtain ⟨r1, r2⟩ := w.row _ (List.getElem_mem hj2)
    refine ⟨vrow ts[j], ?_, by rw [vrow, List.length_map]; exact r1, isTab_row r1 r2⟩
    show ((((vts ts).map some).take a ++ [r]) ++ List.replicate cnt none)[j]? = _
    rw [gm j, if_pos hj, vts, List.map_map, List.getElem?_map, List.getElem?_eq_getElem hj2]; rfl
  · show ((((vts ts).map some).take a ++ [r]) ++ List.replicate cnt none)[a]? = _
    rw [gm a, if_neg (Nat.lt_irrefl _), if_pos rfl]
end
theorem flat_rep {α : Type} (x : α) : ∀ n : Nat, (List.replicate n [x]).flatten = List.replicate n x
  | 0 => rfl
  | n + 1 => by rw [List.replicate_succ, List.flatten_cons, flat_rep x n]; rfl
/-- equal rows, any number of them -/
theorem rep_rws {K : PySem.W.Frag} {H : Hp} {v : V} {r : Option (List V)} (n : Nat) (h : Rw K H v r) : Rws K H (List.replicate n v) (List.replicate n r) :=
  ⟨by rw [List.length_replicate, List.length_replicate], fun i x r' e1 e2 => by
    obtain ⟨_, rfl⟩ := List.mem_replicate.mp (List.mem_of_getElem? e1)
    obtain ⟨_, rfl⟩ := List.mem_replicate.mp (List.mem_of_getElem? e2)
    exact h⟩
abbrev wts : Ts := List.replicate 8 (List.replicate 12 11)
theorem wts_wf : Wf wts := ⟨by decide, by decide, by decide, by decide, fun t ht => by
  rw [(List.mem_replicate.mp ht).2]
  refine ⟨by decide, fun i hi => ?_⟩
  rw [(List.mem_replicate.mp hi).2]
  decide⟩
end K1
namespace K1
open PySem PySem.Spec PyProof.Rows L2
theorem map_some : ∀ {a b : List (List V)}, a.map some = b.map some → a = b
  | [], [], _ => rfl
  | [], _ :: _, h => by cases h
  | _ :: _, [], h => by cases h
  | x :: a, y :: b, h => by
    rw [List.map_cons, List.map_cons] at h
    injection h with h1 h2
    rw [Option.some.inj h1, map_some h2]
theorem catA_by {K : PySem.W.Frag} {H : Hp} {Q : VK} {a b : Addr} {xs ys : List V} (ha : H a = some (.tup xs)) (hb : H b = some (.tup ys)) (hl : xs.length + ys.length ≤ sizeLine) (q : ∀ p H', Same H H' → H' p = some (.tup (xs ++ ys)) → Q (.ref p) H') : rCatA K (.ref a) (.ref b) H Q := by
  refine ⟨a, b, xs, ys, rfl, rfl, SqT.of ha, SqT.of hb, hl, fun e => ?_, fun _ e => ?_, fun _ _ p hp => q p _ (same_new hp) upd_same⟩
  · subst e
    exact q b H (fun _ _ e => e) hb
  · subst e
    exact q a H (fun _ _ e => e) (by rw [List.append_nil]; exact ha)
theorem slA_by {K : PySem.W.Frag} {H : Hp} {Q : VK} {a : Addr} {xs : List V} {lo hi : Option Int} (ha : H a = some (.tup xs)) (q : ∀ p H', Same H H' → H' p = some (.tup (cutV xs lo hi)) → Q (.ref p) H') : rSlA K (.ref a) lo hi H Q := by
  refine ⟨a, xs, rfl, SqT.of ha, fun e => ?_, fun _ p hp => q p _ (same_new hp) upd_same⟩
  refine q a H (fun _ _ e => e) ?_
  rw [ha]
  unfold cutV
  rw [e.1, e.2, List.drop_zero, Nat.sub_zero, List.take_length]
theorem Bx.tup {b c : Addr} {H H' : Hp} {xs : List V} (x : Bx b H H') (hb : BoxO H b) (h : H c = some (.tup xs)) : H' c = some (.tup xs) := x.2 _ _ h (hb.ne h fun xs => by intro z; cases z)
theorem noP {σ : L2.St} {H : Hp} {Q : Option Int → Hp → Prop} (h : Q none H) : tNoPart σ H Q := h
section
variable {CM CR CS CD : Addr} {Q : VK} {H : Hp} {v : V} {x : Str}
theorem heM (k : ∀ p H', Same H H' → H' p = some (.tup [.str "machine", v, .bl true]) → Q (.ref p) H') : Rz CM "at" v H (HE CM CR CS CD Q) := fun d H' sm hd hx => ⟨d, "at", v, rfl, hx, .inl ⟨rfl, rfl, fun p H'' s2 hp => k p H'' (sm.trans s2) hp⟩⟩
theorem heR (k : ∀ p H', Same H H' → H' p = some (.tup [.str "row", v, .bl true]) → Q (.ref p) H') : Rz CR "at" v H (HE CM CR CS CD Q) := fun d H' sm hd hx => ⟨d, "at", v, rfl, hx, .inr (.inl ⟨rfl, rfl, fun p H'' s2 hp => k p H'' (sm.trans s2) hp⟩)⟩
theorem heS (rs : RS v x) (k : ∀ p H', Same H H' → H' p = some (.tup [.str "state", .str x]) → Q (.ref p) H') : Rz CS "state" v H (HE CM CR CS CD Q) := fun d H' sm hd hx => ⟨d, "state", v, rfl, hx, .inr (.inr (.inl ⟨rfl, rfl, x, rs, fun p H'' s2 hp => k p H'' (sm.trans s2) hp⟩))⟩
theorem heD (rs : RS v x) (k : ∀ p H', Same H H' → H' p = some (.tup [.str "deed", .str x]) → Q (.ref p) H') : Rz CD "deed" v H (HE CM CR CS CD Q) := fun d H' sm hd hx => ⟨d, "deed", v, rfl, hx, .inr (.inr (.inr ⟨rfl, rfl, x, rs, fun p H'' s2 hp => k p H'' (sm.trans s2) hp⟩))⟩
end
theorem ear0 {K : PySem.W.Frag} {Q : VK} {p p2 : Addr} {H : Hp} (h1 : H p = some (.lst [])) (h2 : H p2 = some (.lst [])) (q : Q (.bl false) H) : rNeD K (.ref p) (.ref p2) H Q :=
  ⟨.list [], .list [], .lst (SqL.of h1) .nil, .lst (SqL.of h2) .nil, by decide +kernel, by decide +kernel, qbl (by decide +kernel) q⟩
theorem earI {K : PySem.W.Frag} {Q : VK} {p p2 : Addr} {H : Hp} {i j : Int} (h1 : H p = some (.tup [.int i, .int j])) (h2 : H p2 = some (.tup [.int i, .int j])) (q : Q (.bl false) H) : rNeD K (.ref p) (.ref p2) H Q :=
  ear h1 h2 (.cons (.int i) (.cons (.int j) .nil)) (by simp only [PyData.canLay0, PyData.canLayAll0, Bool.and_self]) (by
    unfold SeqAt.shaped
    rw [show PyData.canLay0 (.tuple [.int i, .int j]) = true by simp only [PyData.canLay0, PyData.canLayAll0, Bool.and_self]]
    simp only [PyData.depth, PyData.depthAll]
    exact (by decide : (true && decide (max 0 (max 0 0) + 1 ≤ 64)) = true)) q
theorem ear3E {K : PySem.W.Frag} {Q : VK} {p p2 : Addr} {H : Hp} {x : Str} {i : Int} {b : Bool} (hx : PyData.strOk x = true) (h1 : H p = some (.tup [.str x, .int i, .bl b])) (h2 : H p2 = some (.tup [.str x, .int i, .bl b])) (q : Q (.bl true) H) : rEqD K (.ref p) (.ref p2) H Q :=
  ⟨_, _, .tup (SqT.of h1) (.cons (.str x) (.cons (.int i) (.cons (.bl b) .nil))), .tup (SqT.of h2) (.cons (.str x) (.cons (.int i) (.cons (.bl b) .nil))), sh3 hx i b, sh3 hx i b, qbl (SeqAt.eqv_refl _ (lay3 hx i b)) q⟩
theorem rw_zeros {K : PySem.W.Frag} {H : Hp} {p : Addr} {n : Nat} (h : H p = some (.lst (List.replicate n (V.int 0)))) : Rw K H (.ref p) (some (List.replicate n (V.int 0))) := ⟨.lst h, fun ys e y hy => by
  obtain rfl := Option.some.inj e
  rw [(List.mem_replicate.mp hy).2]
  exact ⟨_, .int 0⟩⟩
theorem rowF_zeros {n : Nat} (h : n ≤ 10000) : rowF (some (List.replicate n (V.int 0))) 8 = .non := by
  unfold rowF
  rw [if_pos (by
    show (decide ((0 : Int) ≤ ((List.replicate n (V.int 0)).length : Int)) && decide (((List.replicate n (V.int 0)).length : Int) ≤ 10000)) = true
    rw [List.length_replicate, decide_eq_true (by omega), decide_eq_true (by omega)]; rfl)]
  exact fnb_all fun x hx => by rw [(List.mem_replicate.mp hx).2]; rfl
theorem rowF_many {n : Nat} (h : 10000 < n) : rowF (some (List.replicate n (V.int 0))) 8 = .int (-1) := by
  unfold rowF
  rw [if_neg]
  intro z
  have z' : (decide ((0 : Int) ≤ ((List.replicate n (V.int 0)).length : Int)) && decide (((List.replicate n (V.int 0)).length : Int) ≤ 10000)) = true := z
  rw [List.length_replicate, decide_eq_false (show ¬ ((n : Int) ≤ 10000) by omega), Bool.and_false] at z'
  cases z'
theorem rep_by {Q : VK} {H : Hp} {l : Addr} {x : V} (k : Nat) (h : H l = some (.lst [x])) (hk : k ≤ 100000) (q : ∀ p, H p = none → Q (.ref p) (upd H p (.lst (List.replicate k x)))) : rRep (.ref l) (.int (k : Int)) H Q :=
  ⟨l, k, [x], rfl, rfl, h, by omega, by omega, by rw [sizeLine_eq]; show 1 * (k : Int).toNat ≤ _; omega, fun p hp => by rw [flat_rep]; exact q p hp⟩
theorem cP {v : V} {σ : L2.St} {H : Hp} {Q : VK} (h : Q v H) : tC v σ H Q := h
theorem st_row : PyData.strOk "row" = true := by decide +kernel
theorem st_mac : PyData.strOk "machine" = true := by decide +kernel
theorem st_sta : PyData.strOk "state" = true := by decide +kernel
theorem st_dee : PyData.strOk "deed" = true := by decide +kernel
theorem nilP {σ : L2.St} {H : Hp} {Q : List V → Hp → Prop} (h : Q [] H) : tNil σ H Q := h
/-- nothing leaves -/
theorem passF {X : Cx} : Passes (L2.CX X.prog X.w) X (fun _ _ _ => False) := passes_call LamX.takes0 fun _ _ _ _ h => h
abbrev nNo : List Str := ["_law_box_here", "_law_tables_here", "_law_machine", "_law_many", "_law_deeds", "_law_row", "_law_at", "_law_bad", "_law_odd", "_law_none", "_law_table", "_law_spot", "_law_some", "_law_wide", "_law_value", "_law_one"]
theorem scNo : FnScope nNo ["_law_box_here", "_law_tables_here"] (defScope sNone) := ⟨rfl, rfl, rfl, by decide +kernel, rfl, by decide +kernel, by decide +kernel⟩
def qNo : Str := (envOfC "_law_none_right" (defScope sNone) 0 0 Value.none).qual ++ "<lambda>"
/-- the defs that the law calls, by their promises -/
structure Dn (P : Program) (w : World) (K : PySem.W.Frag) (mg : Str → Option Value) (base : Heap) (M CM CR CS CD : Addr) : Prop where
  take : ∃ f fd, Df K mg "_law_take" sTake ["_law_box_here", "_law_many"] f fd ∧ FnOk P w K mg base CX0 1 f fd ["_law_box_here", "_law_many"] spTake
  pick : ∃ f fd, Df K mg "_law_pick" sPick ["_law_box_here", "_law_some"] f fd ∧ FnOk P w K mg base CX0 2 f fd ["_law_box_here", "_law_some"] spPick
  log : ∃ f fd, Df K mg "_law_log" sLog ["_law_box_here", "_law_tables_here", "_law_most"] f fd ∧ FnOk P w K mg base CX0 2 f fd ["_law_box_here", "_law_tables_here", "_law_most"] spLog
  row : ∃ f fd, Df K mg "check_row" sRow ["machine", "value"] f fd ∧ FnOk P w K mg base (L2.CX P w) 5 f fd ["machine", "value"] (spRow K M CR)
  led : ∃ f fd, Df K mg "led" sLed ["machine", "state", "row"] f fd ∧ FnOk P w K mg base (L2.CX P w) 6 f fd ["machine", "state", "row"] (spLed K M CS CR)
  orbit : ∃ f fd, Df K mg "orbit" sOrbit ["machine", "state"] f fd ∧ FnOk P w K mg base (L2.CX P w) 4 f fd ["machine", "state"] (spOrbit K M CS)
  needS : ∃ f fd, Df K mg "need_state" sNeedS ["machine", "state"] f fd ∧ FnOk P w K mg base (L2.CX P w) 3 f fd ["machine", "state"] (spNeed M CS "state" nS)
  needD : ∃ f fd, Df K mg "need_deed" sNeedD ["machine", "deed"] f fd ∧ FnOk P w K mg base (L2.CX P w) 3 f fd ["machine", "deed"] (spNeed M CD "deed" List.length)
  init : ∃ f fd, Mk K M f ∧ Binds K fd ["self", "tables"] [] ∧ FnOk P w K mg base (L2.CX P w) 6 f fd ["self", "tables"] (spMInit K CM M)
  T : McT K mg M
def spNone (T : List (Addr × Str)) : Sp := fun vs H Q _ => ∃ (b p : Addr) (ts : Ts), vs = [.ref b, .ref p] ∧ BoxO H b ∧ LamX.Tabs T H ∧ TabL H p (vts ts) ∧ p ≠ b ∧ Wf ts ∧ nS ts ≤ 5 ∧ ts.length ≤ 4 ∧ ∀ H', Rl b T H H' → Q (.bl true) H'
section
variable {P : Program} {w : World} {K : PySem.W.Frag} {mg : Str → Option Value} {base : Heap}
theorem none_r3 {f M CM CR CS CD c Pt : Addr} {A : Around} {outer : List Env} {s : Shared} {H₀ : Hp} {E : XK} (hr : Room 9 (A.deeper (envOfC "_law_none_right" (defScope sNone) s.heap.objs.size f (.ref c)))) (hd : Hd K mg base c Pt CM CR CS CD) (dn : Dn P w K mg base M CM CR CS CD) :
    ∃ t, PSs (cxOf CX0 P w K mg base nNo "_law_none_right" (defScope sNone) f (.ref c) A outer s H₀ E).nox ((defBody sNone).drop 18) t ∧
      ∀ (D : Ends) (H : Hp) (b : Addr) (v1 v2 v3 v4 v5 v6 v7 v8 v9 v10 v11 v12 v13 v14 v15 : Option V), BoxO H b → LamX.Tabs [(Pt, qNo)] H → (∀ H', Rl b [(Pt, qNo)] H H' → D.rt (.bl true) H') →
        t D [some (.ref b), v1, v2, v3, v4, v5, v6, v7, v8, v9, v10, v11, v12, v13, v14, v15] H := by
  have B := hd.B
  have TM := dn.T
  obtain ⟨fT, fdT, DT, GT⟩ := dn.take
  obtain ⟨fP, fdP, DP, GP⟩ := dn.pick
  obtain ⟨fL, fdL, DL, GL⟩ := dn.log
  obtain ⟨fR, fdR, DR, GR⟩ := dn.row
  obtain ⟨fE, fdE, DE, GE⟩ := dn.led
  obtain ⟨fO, fdO, DO, GO⟩ := dn.orbit
  obtain ⟨fS, fdS, DS, GS⟩ := dn.needS
  obtain ⟨fD, fdD, DD, GD⟩ := dn.needD
  obtain ⟨fI, fdI, MI, BI, GI⟩ := dn.init
  have hu : (A.deeper (envOfC "_law_none_right" (defScope sNone) s.heap.objs.size f (.ref c))).units + 64 < cLine := hr.units
  have r1 := hr.mono (show 1 ≤ 9 by decide)
  have r2 := hr.mono (show 2 ≤ 9 by decide)
  have r5 := hr.mono (show 5 ≤ 9 by decide)
  have r7 := hr.mono (show 7 ≤ 9 by decide)
  refine ⟨_, pss_cons (ps_set (i := 13) scNo.nd rfl (.inr rfl) (pe_make MI GI r7 rfl TM.g BI .nil passF (pa_cons (pe_op op_rep (pe_lst (pa_cons (pe_op op_rep (pe_lst (pa_cons pe_int pa_nil)) pe_int) pa_nil)) pe_int) pa_nil)))
      (pss_cons (ps_if (pt_cmpR (neD (K := K) rfl hu) (pe_tup (pa_cons (pe_fld (pv 13) rfl) (pa_cons (pe_fld (pv 13) rfl) pa_nil))) (pe_tup (pa_cons pe_int (pa_cons pe_int pa_nil))) (nomark _)) (pss_one (ps_ret pe_bl)) pss_nil)
      (pss_cons (ps_if (pt_cmpR op_gt (pc DT GT r1 pass0 (pa_cons (pv 0) (pa_cons pe_int pa_nil))) pe_int (nomark _)) (pss_one (ps_ret pe_bl)) pss_nil)
      (pss_one (ps_ret (pe_and (pe_cmpR op_eq (pe_callB call_len_seq (by rfl) B.len PySem.boot_len (pa_cons (pc DR GR r5 passF (pa_cons (pv 13) (pa_cons (pe_op op_rep (pe_lst (pa_cons pe_int pa_nil)) pe_int) pa_nil))) pa_nil)) pe_int (nomark _)) (pe_one (pe_cmpR (eqD (K := K) rfl hu) (pHeard (qn := qNo) hd hr rfl rfl rfl (LamX.lamS_by (by rfl)) rfl (fun _ _ _ _ _ => rfl) (fun A outer s H E f c' hr2 => pc DR GR (hr2.mono (show 5 ≤ 7 by decide)) (pass1 (E := E) (takes_of rfl rfl rfl rfl)) (pa_cons (pv 13) (pa_cons (pe_op op_rep (pe_lst (pa_cons pe_int pa_nil)) pe_int) pa_nil)))) (pe_tup (pa_cons pe_str (pa_cons (pe_op op_sub pe_int pe_int) (pa_cons pe_bl pa_nil)))) (nomark _)))))))), fun D H b v1 v2 v3 v4 v5 v6 v7 v8 v9 v10 v11 v12 v13 v14 v15 hb hT q => ?_⟩
  have RK : Rl b [(Pt, qNo)] H H := Rl.refl hb hT
  -- the widest machine
  refine ⟨(by show 1 ≤ sizeLine; decide), fun l1 hl1 => cP (rep_by 12 upd_same (by decide) fun l2 hl2 => ⟨(by show 1 ≤ sizeLine; decide), fun l3 hl3 => cP (rep_by 8 upd_same (by decide) fun l4 hl4 => ?_)⟩)⟩
  have s4 : Same H (upd (upd (upd (upd H l1 (.lst [.int 11])) l2 (.lst (List.replicate 12 (V.int 11)))) l3 (.lst [.ref l2])) l4 (.lst (List.replicate 8 (V.ref l2)))) := (same_new hl1).trans ((same_new hl2).trans ((same_new hl3).trans (same_new hl4)))
  have h2 : (upd (upd (upd (upd H l1 (.lst [.int 11])) l2 (.lst (List.replicate 12 (V.int 11)))) l3 (.lst [.ref l2])) l4 (.lst (List.replicate 8 (V.ref l2)))) l2 = some (.lst (List.replicate 12 (V.int 11))) := (same_new hl4) _ _ ((same_new hl3) _ _ upd_same)
  have h4 : (upd (upd (upd (upd H l1 (.lst [.int 11])) l2 (.lst (List.replicate 12 (V.int 11)))) l3 (.lst [.ref l2])) l4 (.lst (List.replicate 8 (V.ref l2)))) l4 = some (.lst (List.replicate 8 (V.ref l2))) := upd_same
  generalize upd (upd (upd (upd H l1 (.lst [.int 11])) l2 (.lst (List.replicate 12 (V.int 11)))) l3 (.lst [.ref l2])) l4 (.lst (List.replicate 8 (V.ref l2))) = H4 at s4 h2 h4 ⊢
  refine fun m dx hm hdx ne => ?_
  have s5 : Same H4 (upd (upd H4 dx (.own m)) m (.ins M dx [])) := (same_new hdx).trans (same_new (by rw [upd_ne ne.symm]; exact hm))
  have ev : (vts wts).map some = List.replicate 8 (some (List.replicate 12 (V.int 11))) := by simp only [vts, vrow, wts, List.map_replicate]
  have mv : Mv K (upd (upd H4 dx (.own m)) m (.ins M dx [])) (.ref l4) (some ((vts wts).map some)) := by
    rw [ev]
    refine .yes (.lst (s5 _ _ h4)) (rep_rws 8 ⟨.lst (s5 _ _ h2), fun ys e y hy => ?_⟩)
    obtain rfl := Option.some.inj e
    rw [(List.mem_replicate.mp hy).2]
    exact ⟨_, .int 11⟩
  refine ⟨m, dx, _, _, rfl, upd_same, mv, fun z hz => (by rw [chk_wf wts_wf] at hz; cases hz), fun _ ts' ets ta H6 k6 hM => ⟨rfl, ?_⟩⟩
  obtain rfl : vts wts = ts' := map_some (Option.some.inj ets)
  have s6 := mkS hm hdx k6
  replace RK := (RK.same s4).same s6
  obtain ⟨dx6, hf6⟩ := hM.fs
  refine ⟨_, rfl, m, M, dx6, _, _, rfl, hf6, TM.cl, TM.nD, mf_d _ _ _, _, rfl, m, M, dx6, _, _, rfl, hf6, TM.cl, TM.nS, mf_s _ _ _, (by show 2 ≤ sizeLine; decide), fun q1 hq1 => ⟨(by show 2 ≤ sizeLine; decide), fun q2 hq2 => earI (i := 8) (j := 12) ((same_new hq2) _ _ upd_same) upd_same ⟨_, rfl, iteF ?_⟩⟩⟩
  have s7 := (same_new (o := HO.tup [.int (wts.length : Int), .int (nS wts : Int)]) hq1).trans (same_new (o := HO.tup [.int 8, .int 12]) hq2)
  replace RK := RK.same s7
  have hM7 := hM.same s7
  generalize upd (upd H6 q1 (.tup [.int (wts.length : Int), .int (nS wts : Int)])) q2 (.tup [.int 8, .int 12]) = H7 at RK hM7 ⊢
  clear s7 hq1 hq2 hf6 s6 k6 hM mv s5 h4 h2 s4
  refine ⟨_, rfl, b, 12, rfl, RK.1, by decide, by decide, fun r H8 r0 r1' bx8 => ⟨_, _, rfl, rfl, _, rfl, ifD (fun e => ?_) fun e => ?_⟩⟩
  · exact q _ (RK.bx bx8)
  · have hM8 := hM7.bx RK.1 bx8
    replace RK := RK.bx bx8
    refine ⟨_, rfl, (by show 1 ≤ sizeLine; decide), fun l hl => cP (rep_by 10000 upd_same (by decide) fun z hz => ?_)⟩
    have s9 := (same_new (o := HO.lst [V.int 0]) hl).trans (same_new (o := HO.lst (List.replicate 10000 (V.int 0))) hz)
    refine ⟨m, ta, wts, _, _, rfl, hM8.same s9, rw_zeros upd_same, fun hne => absurd (rowF_zeros (Nat.le_refl _)) hne, fun _ xs ex p H' sm hp => ?_⟩
    obtain rfl := Option.some.inj ex
    refine ⟨p, _, rfl, .inr (SqT.of hp), rfl, _, rfl, ifD (fun _ => ?_) fun e => (by
      have z := of_decide_eq_false e
      rw [List.length_replicate] at z
      exact absurd rfl z)⟩
    replace RK := (RK.same s9).same sm
    have hM9 := (hM8.same s9).same sm
    refine ⟨RK.2.1, fun G1 eN t1 => ?_⟩
    have RK1 := RK.ext eN t1
    have RM : Rl b [(Pt, qNo)] H' G1 := (Rl.refl RK.1 RK.2.1).ext eN t1
    refine ⟨_, rfl, (by show 1 ≤ sizeLine; decide), fun l' hl' => cP (rep_by 10001 upd_same (by decide) fun z' hz' => ?_)⟩
    have s10 := (same_new (o := HO.lst [V.int 0]) hl').trans (same_new (o := HO.lst (List.replicate 10001 (V.int 0))) hz')
    refine ⟨m, ta, wts, _, _, rfl, (RM.mach RK.1 hM9).same s10, rw_zeros upd_same, fun _ => heR fun p' G2 sm' hp' => ?_, fun e => ?_⟩
    · rw [show rowF (some (List.replicate 10001 (V.int 0))) ((wts.length : Nat) : Int) = .int (-1) from rowF_many (by decide)] at hp'
      refine ⟨_, _, rfl, rfl, (by show 3 ≤ sizeLine; decide), fun p2 hp2 => ear3E st_row ((same_new hp2) _ _ hp') upd_same (q _ ?_)⟩
      exact ((RK1.same s10).same sm').new hp2
    · have z := e.symm.trans (show rowF (some (List.replicate 10001 (V.int 0))) ((wts.length : Nat) : Int) = .int (-1) from rowF_many (by decide))
      cases z
end
end K1
namespace K1
open PySem PySem.Spec PyProof.Rows L2
section
variable {P : Program} {w : World} {K : PySem.W.Frag} {mg : Str → Option Value} {base : Heap}
theorem none_r2 {f M CM CR CS CD c Pt : Addr} {A : Around} {outer : List Env} {s : Shared} {H₀ : Hp} {E : XK} (hr : Room 9 (A.deeper (envOfC "_law_none_right" (defScope sNone) s.heap.objs.size f (.ref c)))) (hd : Hd K mg base c Pt CM CR CS CD) (dn : Dn P w K mg base M CM CR CS CD) :
    ∃ t, PSs (cxOf CX0 P w K mg base nNo "_law_none_right" (defScope sNone) f (.ref c) A outer s H₀ E).nox ((defBody sNone).drop 16) t ∧
      ∀ (D : Ends) (H : Hp) (b p l6 : Addr) (ts : Ts) (c2 : Nat) (xs : List V) (v2 v3 v4 v5 v7 v8 v9 v10 v11 v13 v14 v15 : Option V), BoxO H b → LamX.Tabs [(Pt, qNo)] H → TabL H p (vts ts) → p ≠ b → Wf ts → c2 < ts.length → H l6 = some (.lst xs) → l6 ≠ b → 1 ≤ xs.length → xs.length ≤ 1000 →
        (∀ v ∈ xs, BR b H (nS ts) c2 v) → (∀ H', Rl b [(Pt, qNo)] H H' → D.rt (.bl true) H') →
        t D [some (.ref b), some (.ref p), v2, v3, v4, v5, some (.int (c2 : Int)), v7, v8, v9, v10, v11, some (.ref l6), v13, v14, v15] H := by
  have B := hd.B
  have TM := dn.T
  obtain ⟨fT, fdT, DT, GT⟩ := dn.take
  obtain ⟨fP, fdP, DP, GP⟩ := dn.pick
  obtain ⟨fL, fdL, DL, GL⟩ := dn.log
  obtain ⟨fR, fdR, DR, GR⟩ := dn.row
  obtain ⟨fE, fdE, DE, GE⟩ := dn.led
  obtain ⟨fO, fdO, DO, GO⟩ := dn.orbit
  obtain ⟨fS, fdS, DS, GS⟩ := dn.needS
  obtain ⟨fD, fdD, DD, GD⟩ := dn.needD
  obtain ⟨fI, fdI, MI, BI, GI⟩ := dn.init
  have hu : (A.deeper (envOfC "_law_none_right" (defScope sNone) s.heap.objs.size f (.ref c))).units + 64 < cLine := hr.units
  have r1 := hr.mono (show 1 ≤ 9 by decide)
  have r2 := hr.mono (show 2 ≤ 9 by decide)
  have r5 := hr.mono (show 5 ≤ 9 by decide)
  have r7 := hr.mono (show 7 ≤ 9 by decide)
  obtain ⟨t3, ht3, q3⟩ := none_r3 (P := P) (w := w) (outer := outer) (H₀ := H₀) (E := E) hr hd dn
  refine ⟨_, pss_cons (ps_if (pt_cmpR (neD (K := K) rfl hu) (pHeard (qn := qNo) hd hr rfl rfl rfl (LamX.lamS_by (by rfl)) rfl (fun _ _ _ _ _ => rfl) (fun A outer s H E f c' hr2 => pe_make MI GI hr2 rfl TM.g BI .nil (pass1 (E := E) (takes_of rfl rfl rfl rfl)) (pa_cons (pe_op op_cat (pe_op op_cat (pe_callTy (clist (K := K) rfl) (by rfl) B.list PyProof.Rows.boot_list (pa_cons (pe_slice (slL (K := K) rfl) (pv 1) po_none (po_some (pv 6))) pa_nil)) (pe_lst (pa_cons (pc DP GP (hr2.mono (show 2 ≤ 7 by decide)) pass0 (pa_cons (pv 0) (pa_cons (pv 12) pa_nil))) pa_nil))) (pe_lc (own := [("_law_one", 15)]) (g := gName 15) (tt := tYes) rfl scNo.nd (piL (K := K) rfl (pe_slice (slL (K := K) rfl) (pv 1) (po_some (pe_op op_add (pv 6) pe_int)) po_none)) (blkOk_by (by rfl)) (fun _ _ _ _ _ => pg_name (i := 15) scNo.nd rfl (Or.inl rfl)) (fun _ _ _ _ _ => pts_nil) (fun _ _ _ _ _ => pe_non))) pa_nil))) (pe_tup (pa_cons pe_str (pa_cons (pv 6) (pa_cons pe_bl pa_nil)))) (nomark _)) (pss_one (ps_ret pe_bl)) pss_nil)
      (pss_cons (ps_if (pt_cmpR (neD (K := K) rfl hu) (pe_lc (own := [("_law_value", 14)]) (g := gName 14) rfl scNo.nd (pi_tup (pe_tup (pa_cons pe_non (pa_cons pe_int (pa_cons pe_str (pa_cons (pe_lst pa_nil) (pa_cons (pe_tup pa_nil) (pa_cons (pe_op op_rep (pe_lst (pa_cons (pe_tup (pa_cons pe_int pa_nil)) pa_nil)) pe_int) pa_nil)))))))) (blkOk_by (N := nNo) (sc := defScope sNone) (by decide +kernel)) (fun _ _ _ _ _ => pg_name (i := 14) scNo.nd rfl (Or.inr rfl)) (fun _ _ _ _ _ => pts_one (pt_cmpR (neD (K := K) rfl hu) (pHeard (qn := qNo) hd hr rfl rfl rfl (LamX.lamS_by (by rfl)) rfl (fun _ _ _ _ _ => rfl) (fun A outer s H E f c' hr2 => pe_make MI GI hr2 rfl TM.g BI .nil (pass1 (E := E) (takes_of rfl rfl rfl rfl)) (pa_cons (pv 14) pa_nil))) (pe_tup (pa_cons pe_str (pa_cons (pe_op op_sub pe_int pe_int) (pa_cons pe_bl pa_nil)))) (nomark _))) (fun _ _ _ _ _ => pv 14)) (pe_lst pa_nil) (nomark _)) (pss_one (ps_ret pe_bl)) pss_nil) ht3), fun D H b p l6 ts c2 xs v2 v3 v4 v5 v7 v8 v9 v10 v11 v13 v14 v15 hb hT tl npb hW hc2 hl6 nl6 x1 x2 hbr q => ?_⟩
  have RK : Rl b [(Pt, qNo)] H H := Rl.refl hb hT
  refine ⟨RK.2.1, fun G1 eN t1 => ?_⟩
  have RK1 := RK.ext eN t1
  obtain ⟨t0, et0⟩ : ∃ t0, ts[0]? = some t0 := ⟨ts[0]'(by have := hW.t1; omega), List.getElem?_eq_getElem _⟩
  obtain ⟨as, h1, h2, h3⟩ := RK1.tabL hb npb tl
  have la : as.length = ts.length := by rw [h2, vts, List.length_map]
  have hrow : ∀ (i : Nat) aa t, as[i]? = some aa → ts[i]? = some t → G1 aa = some (.tup (vrow t)) := fun i aa t e1 e2 => h3 i aa _ e1 (by rw [vts, List.getElem?_map, e2]; rfl)
  refine ⟨_, rfl, _, rfl, _, rfl, p, _, rfl, SqL.of h1, fun g1 hg1 => ?_⟩
  refine ⟨g1, _, rfl, .inl (SqL.of upd_same), fun g2 hg2 => ?_⟩
  have R2 := (RK1.new (o := HO.lst (cutV (as.map V.ref) none (some (c2 : Int)))) hg1).new (o := HO.lst (cutV (as.map V.ref) none (some (c2 : Int)))) hg2
  have ng2 : g2 ≠ b := (RK1.new (o := HO.lst (cutV (as.map V.ref) none (some (c2 : Int)))) hg1).1.nn hg2
  have hg2' : (upd (upd G1 g1 (.lst (cutV (as.map V.ref) none (some (c2 : Int))))) g2 (.lst (cutV (as.map V.ref) none (some (c2 : Int))))) g2 = some (.lst (cutV (as.map V.ref) none (some (c2 : Int)))) := upd_same
  have sG : Same G1 (upd (upd G1 g1 (.lst (cutV (as.map V.ref) none (some (c2 : Int))))) g2 (.lst (cutV (as.map V.ref) none (some (c2 : Int))))) := (same_new hg1).trans (same_new hg2)
  generalize upd (upd G1 g1 (.lst (cutV (as.map V.ref) none (some (c2 : Int))))) g2 (.lst (cutV (as.map V.ref) none (some (c2 : Int)))) = G2 at R2 hg2' sG ⊢
  refine ⟨_, rfl, _, rfl, b, l6, xs, rfl, R2.1, R2.lst nl6 hl6, nl6, x1, x2, fun i6 v6 G3 hv6 bx6 => ⟨(by show 1 ≤ sizeLine; decide), fun g3 hg3 => ?_⟩⟩
  have R3 := R2.bx bx6
  have br3 : BR b G3 (nS ts) c2 v6 := (hbr v6 (List.mem_of_getElem? hv6)).rl hb R3
  have hg23 := bx6.2 _ _ hg2' ng2
  have h13 := bx6.2 _ _ (sG _ _ h1) npb
  have hrow3 : ∀ (i : Nat) aa t, as[i]? = some aa → ts[i]? = some t → G3 aa = some (.tup (vrow t)) := fun i aa t e1 e2 => bx6.tup R2.1 (sG _ _ (hrow i aa t e1 e2))
  have c2l : c2 ≤ (as.map V.ref).length := by rw [List.length_map]; omega
  have hcut : cutV (as.map V.ref) none (some (c2 : Int)) = (as.map V.ref).take c2 := cut_to c2l
  have lcut : ((as.map V.ref).take c2).length = c2 := by rw [List.length_take]; omega
  rw [hcut] at hg23
  refine ⟨g2, g3, _, _, rfl, rfl, (same_new hg3) _ _ hg23, upd_same, by rw [lcut, sizeLine_eq]; show c2 + 1 ≤ _; have := hW.t8; omega, fun g4 hg4 => ?_⟩
  have s4 := (same_new (o := HO.lst [v6]) hg3).trans (same_new (o := HO.lst ((as.map V.ref).take c2 ++ [v6])) hg4)
  have hg44 : (upd (upd G3 g3 (.lst [v6])) g4 (.lst ((as.map V.ref).take c2 ++ [v6]))) g4 = some (.lst ((as.map V.ref).take c2 ++ [v6])) := upd_same
  generalize upd (upd G3 g3 (.lst [v6])) g4 (.lst ((as.map V.ref).take c2 ++ [v6])) = G4 at s4 hg44 ⊢
  refine ⟨_, rfl, _, rfl, _, _, rfl, rfl, _, rfl, noP ⟨p, _, rfl, SqL.of (s4 _ _ h13), fun g5 hg5 => ?_⟩⟩
  refine ⟨g5, rfl, ⟨_, SqL.of upd_same⟩, fun D0 hD0 => ?_⟩
  have hcd : (cutV (as.map V.ref) (some ((c2 : Int) + 1)) none).length = ts.length - (c2 + 1) := by
    rw [show ((c2 : Int) + 1) = ((c2 + 1 : Nat) : Int) by omega, cut_from (by rw [List.length_map]; omega), List.length_drop, List.length_map, la]
  have s5 := (same_new (o := HO.lst (cutV (as.map V.ref) (some ((c2 : Int) + 1)) none)) hg5).trans (same_new (o := HO.lst []) hD0)
  have ng5 : g5 ≠ D0 := fun z => by rw [← z, upd_same] at hD0; cases hD0
  have hg55 := (same_new (o := HO.lst []) hD0) _ _ (upd_same : (upd G4 g5 (.lst (cutV (as.map V.ref) (some ((c2 : Int) + 1)) none))) g5 = _)
  refine lc_list (K := K) (a := g5) (xs := cutV (as.map V.ref) (some ((c2 : Int) + 1)) none) (fun i H' => Same G4 H' ∧ H' g5 = some (.lst (cutV (as.map V.ref) (some ((c2 : Int) + 1)) none)) ∧ H' D0 = some (.lst (List.replicate i V.non)) ∧ H' D0 ≠ none) ⟨s5, hg55, upd_same, by rw [upd_same]; simp⟩ (fun i H' _ ⟨_, h, _⟩ => SqL.of h) ?_ ?_
  · rintro i x H' hx ⟨k1, k2, k3, k4⟩
    have hi : i < ts.length := by have := (List.getElem?_eq_some_iff.mp hx).1; omega
    refine ⟨rfl, _, k3, by rw [List.length_replicate, sizeLine_eq]; have := hW.t8; omega, fun cc o e => ?_, ?_, ?_, by rw [upd_same]; simp⟩
    · rw [upd_ne (fun z => by
        have := (same_new (o := HO.lst (cutV (as.map V.ref) (some ((c2 : Int) + 1)) none)) hg5) _ _ e
        rw [z, hD0] at this
        cases this)]
      exact k1 _ _ e
    · rw [upd_ne ng5]; exact k2
    · rw [upd_same, ← List.replicate_succ']
  · rintro G5 ⟨k1, k2, k3, _⟩
    rw [hcd] at k3
    refine ⟨g4, D0, _, _, rfl, rfl, k1 _ _ hg44, k3, by simp only [List.length_append, lcut, List.length_replicate, List.length_cons, List.length_nil]; rw [sizeLine_eq]; have := hW.t8; omega, fun g6 hg6 => ?_⟩
    refine fun m2 dx2 hm2 hdx2 ne2 => ?_
    have s6 : Same G3 (upd G5 g6 (.lst ((as.map V.ref).take c2 ++ [v6] ++ List.replicate (ts.length - (c2 + 1)) V.non))) := s4.trans (k1.trans (same_new hg6))
    have hg66 : (upd G5 g6 (.lst ((as.map V.ref).take c2 ++ [v6] ++ List.replicate (ts.length - (c2 + 1)) V.non))) g6 = some (.lst (mixV as c2 v6 (ts.length - (c2 + 1)))) := upd_same
    generalize upd G5 g6 (.lst ((as.map V.ref).take c2 ++ [v6] ++ List.replicate (ts.length - (c2 + 1)) V.non)) = G6 at s6 hg66 hm2 hdx2 ⊢
    have s7 : Same G6 (upd (upd G6 dx2 (.own m2)) m2 (.ins M dx2 [])) := (same_new hdx2).trans (same_new (by rw [upd_ne ne2.symm]; exact hm2))
    have s67 := s6.trans s7
    obtain ⟨r6, rw6, b0, b1⟩ := (br3.rl R3.1 ((Rl.refl R3.1 R3.2.1).same s67)).rw (K := K)
    have hchk := mix_chk (r := r6) hW hc2 (cnt := ts.length - (c2 + 1)) (by omega) b0 b1
    have mv := Mv.yes (.lst (s7 _ _ hg66)) (mix_rws (K := K) (cnt := ts.length - (c2 + 1)) la (fun i aa t e1 e2 => s67 _ _ (hrow3 i aa t e1 e2)) hc2 rw6)
    refine ⟨m2, dx2, .ref g6, _, rfl, upd_same, mv, fun z hz => heM fun p' G7 sm hp' => ?_, fun hn => (by rw [hchk] at hn; cases hn)⟩
    obtain rfl : (c2 : Int) = z := Option.some.inj (hchk.symm.trans hz)
    refine ⟨_, rfl, (by show 3 ≤ sizeLine; decide), fun p2 hp2 => ear3 st_mac ((same_new hp2) _ _ hp') upd_same ⟨_, rfl, iteF ?_⟩⟩
    replace RK := ((R3.same s67).same sm).new (o := HO.tup [.str "machine", .int (c2 : Int), .bl true]) hp2
    generalize upd G7 p2 (.tup [.str "machine", .int (c2 : Int), .bl true]) = K1 at RK ⊢
    clear hp2 hp' sm mv hchk b0 b1 rw6 s67 s7 hg66 s6 k1 k2 k3 hg6 s5 hg55 s4 hg44 hm2 hdx2 hD0 hg5 hg4 hg3 br3 bx6 hv6 R3 R2 hg2' sG hg1 hg2 hrow hrow3 h1 h2 h3 RK1 t1 eN
    -- values that are no machines
    refine ⟨(by show 0 ≤ sizeLine; decide), fun la1 hla => ⟨(by show 0 ≤ sizeLine; decide), fun tb htb => ⟨(by show 1 ≤ sizeLine; decide), fun tc htc => ⟨(by show 1 ≤ sizeLine; decide), fun ld hld => cP (rep_by 9 upd_same (by decide) fun le hle => ?_)⟩⟩⟩⟩
    have s1 : Same K1 (upd (upd (upd (upd (upd K1 la1 (.lst [])) tb (.tup [])) tc (.tup [.int 0])) ld (.lst [.ref tc])) le (.lst (List.replicate 9 (V.ref tc)))) := (same_new hla).trans ((same_new htb).trans ((same_new htc).trans ((same_new hld).trans (same_new hle))))
    have e1 : (upd (upd (upd (upd (upd K1 la1 (.lst [])) tb (.tup [])) tc (.tup [.int 0])) ld (.lst [.ref tc])) le (.lst (List.replicate 9 (V.ref tc)))) la1 = some (.lst []) := (same_new hle) _ _ ((same_new hld) _ _ ((same_new htc) _ _ ((same_new htb) _ _ upd_same)))
    have e2 : (upd (upd (upd (upd (upd K1 la1 (.lst [])) tb (.tup [])) tc (.tup [.int 0])) ld (.lst [.ref tc])) le (.lst (List.replicate 9 (V.ref tc)))) tb = some (.tup []) := (same_new hle) _ _ ((same_new hld) _ _ ((same_new htc) _ _ upd_same))
    have e3 : (upd (upd (upd (upd (upd K1 la1 (.lst [])) tb (.tup [])) tc (.tup [.int 0])) ld (.lst [.ref tc])) le (.lst (List.replicate 9 (V.ref tc)))) tc = some (.tup [.int 0]) := (same_new hle) _ _ ((same_new hld) _ _ upd_same)
    have e4 : (upd (upd (upd (upd (upd K1 la1 (.lst [])) tb (.tup [])) tc (.tup [.int 0])) ld (.lst [.ref tc])) le (.lst (List.replicate 9 (V.ref tc)))) le = some (.lst (List.replicate 9 (V.ref tc))) := upd_same
    have n1 : la1 ≠ b := RK.1.nn hla
    have n4 : le ≠ b := ((((RK.new hla).new htb).new htc).new hld).1.nn hle
    generalize upd (upd (upd (upd (upd K1 la1 (.lst [])) tb (.tup [])) tc (.tup [.int 0])) ld (.lst [.ref tc])) le (.lst (List.replicate 9 (V.ref tc))) = K2 at s1 e1 e2 e3 e4 ⊢
    replace RK := RK.same s1
    refine ⟨(by show 6 ≤ sizeLine; decide), fun tp htp => ⟨tp, rfl, ⟨_, SqT.of upd_same⟩, fun D1 hD1 => ?_⟩⟩
    have RT := (RK.new (o := HO.tup [.non, .int 0, .str "0", .ref la1, .ref tb, .ref le]) htp).new (o := HO.lst []) hD1
    have sT := (same_new (o := HO.tup [.non, .int 0, .str "0", .ref la1, .ref tb, .ref le]) htp).trans (same_new (o := HO.lst []) hD1)
    have nD1 : D1 ≠ b := (RK.new (o := HO.tup [.non, .int 0, .str "0", .ref la1, .ref tb, .ref le]) htp).1.nn hD1
    have htpT := (same_new (o := HO.lst []) hD1) _ _ (upd_same : (upd K2 tp (.tup [V.non, .int 0, .str "0", .ref la1, .ref tb, .ref le])) tp = _)
    have hDT : (upd (upd K2 tp (.tup [V.non, .int 0, .str "0", .ref la1, .ref tb, .ref le])) D1 (.lst [])) D1 = some (.lst []) := upd_same
    have f1 := sT _ _ e1
    have f2 := sT _ _ e2
    have f3 := sT _ _ e3
    have f4 := sT _ _ e4
    refine lc_tup (K := K) (a := tp) (xs := [V.non, .int 0, .str "0", .ref la1, .ref tb, .ref le]) (fun _ H' => Rl b [(Pt, qNo)] (upd (upd K2 tp (.tup [V.non, .int 0, .str "0", .ref la1, .ref tb, .ref le])) D1 (.lst [])) H') (Rl.refl RT.1 RT.2.1) (fun i H' _ rl => SqT.of (rl.tup RT.1 htpT)) ?_ ?_
    · rintro i x H' hx rl
      have hmv : ∀ H'', Rl b [(Pt, qNo)] (upd (upd K2 tp (.tup [V.non, .int 0, .str "0", .ref la1, .ref tb, .ref le])) D1 (.lst [])) H'' → ∃ o, Mv K H'' x o ∧ chkAt o = some (-1) := fun H'' r2 => by
        match i, hx with
        | 0, hx => cases hx; exact ⟨none, .no .non, rfl⟩
        | 1, hx => cases hx; exact ⟨none, .no (.int _), rfl⟩
        | 2, hx => cases hx; exact ⟨none, .no (.str _), rfl⟩
        | 3, hx => cases hx; exact ⟨some [], .yes (.lst (r2.lst n1 f1)) ⟨rfl, fun i x r e _ => by cases e⟩, rfl⟩
        | 4, hx => cases hx; exact ⟨some [], .yes (.tup (r2.tup RT.1 f2)) ⟨rfl, fun i x r e _ => by cases e⟩, rfl⟩
        | 5, hx =>
          cases hx
          refine ⟨some (List.replicate 9 (some [V.int 0])), .yes (.lst (r2.lst n4 f4)) (rep_rws 9 ⟨.tup (r2.tup RT.1 f3), fun ys e y hy => ?_⟩), rfl⟩
          obtain rfl := Option.some.inj e
          rw [List.mem_singleton.mp hy]
          exact ⟨_, .int 0⟩
        | i + 6, hx => cases hx
      refine ⟨rfl, rl.2.1, fun G1 eN t1 => ?_⟩
      have rl1 := rl.ext eN t1
      refine ⟨_, rfl, fun m2 dx2 hm2 hdx2 ne2 => ?_⟩
      have s7 : Same G1 (upd (upd G1 dx2 (.own m2)) m2 (.ins M dx2 [])) := (same_new hdx2).trans (same_new (by rw [upd_ne ne2.symm]; exact hm2))
      obtain ⟨o, mv, hc⟩ := hmv _ (rl1.same s7)
      refine ⟨m2, dx2, _, _, rfl, upd_same, mv, fun z hz => heM fun p' G2 sm hp' => ?_, fun hn => (by rw [hc] at hn; cases hn)⟩
      obtain rfl : (-1 : Int) = z := Option.some.inj (hc.symm.trans hz)
      refine ⟨_, _, rfl, rfl, (by show 3 ≤ sizeLine; decide), fun p2' hp2' => ear3 st_mac ((same_new hp2') _ _ hp') upd_same ⟨_, rfl, iteF ?_⟩⟩
      exact ((rl1.same s7).same sm).new hp2'
    · rintro H' rl
      refine ⟨(by show 0 ≤ sizeLine; decide), fun p2' hp2' => ear0 ((same_new hp2') _ _ (rl.lst nD1 hDT)) upd_same ⟨_, rfl, iteF ?_⟩⟩
      replace RK := (RT.trans rl).new (o := HO.lst []) hp2'
      exact q3 D _ b _ _ _ _ _ _ _ _ _ _ _ _ _ _ _ RK.1 RK.2.1 fun H'' r => q _ (RK.trans r)
end
end K1
namespace K1
open PySem PySem.Spec PyProof.Rows L2
section
variable {P : Program} {w : World} {K : PySem.W.Frag} {mg : Str → Option Value} {base : Heap}
theorem none_r1 {f M CM CR CS CD c Pt : Addr} {A : Around} {outer : List Env} {s : Shared} {H₀ : Hp} {E : XK} (hr : Room 9 (A.deeper (envOfC "_law_none_right" (defScope sNone) s.heap.objs.size f (.ref c)))) (hd : Hd K mg base c Pt CM CR CS CD) (dn : Dn P w K mg base M CM CR CS CD) :
    ∃ t, PSs (cxOf CX0 P w K mg base nNo "_law_none_right" (defScope sNone) f (.ref c) A outer s H₀ E).nox ((defBody sNone).drop 12) t ∧
      ∀ (D : Ends) (H : Hp) (b p : Addr) (ts : Ts) (v2 v5 v6 v7 v8 v9 v10 v11 v12 v13 v14 v15 : Option V), BoxO H b → LamX.Tabs [(Pt, qNo)] H → TabL H p (vts ts) → p ≠ b → Wf ts → nS ts ≤ 5 → ts.length ≤ 4 → (∀ H', Rl b [(Pt, qNo)] H H' → D.rt (.bl true) H') →
        t D [some (.ref b), some (.ref p), v2, some (.int (nS ts : Int)), some (.int (ts.length : Int)), v5, v6, v7, v8, v9, v10, v11, v12, v13, v14, v15] H := by
  have B := hd.B
  have TM := dn.T
  obtain ⟨fT, fdT, DT, GT⟩ := dn.take
  obtain ⟨fP, fdP, DP, GP⟩ := dn.pick
  obtain ⟨fL, fdL, DL, GL⟩ := dn.log
  obtain ⟨fR, fdR, DR, GR⟩ := dn.row
  obtain ⟨fE, fdE, DE, GE⟩ := dn.led
  obtain ⟨fO, fdO, DO, GO⟩ := dn.orbit
  obtain ⟨fS, fdS, DS, GS⟩ := dn.needS
  obtain ⟨fD, fdD, DD, GD⟩ := dn.needD
  obtain ⟨fI, fdI, MI, BI, GI⟩ := dn.init
  have hu : (A.deeper (envOfC "_law_none_right" (defScope sNone) s.heap.objs.size f (.ref c))).units + 64 < cLine := hr.units
  have r1 := hr.mono (show 1 ≤ 9 by decide)
  have r2 := hr.mono (show 2 ≤ 9 by decide)
  have r5 := hr.mono (show 5 ≤ 9 by decide)
  have r7 := hr.mono (show 7 ≤ 9 by decide)
  obtain ⟨t2', ht2', q2'⟩ := none_r2 (P := P) (w := w) (outer := outer) (H₀ := H₀) (E := E) hr hd dn
  refine ⟨_, pss_cons (ps_set (i := 6) scNo.nd rfl (.inr rfl) (pc DT GT r1 pass0 (pa_cons (pv 0) (pa_cons (pv 4) pa_nil))))
      (pss_cons (ps_par (i := 10) (j := 11) rfl scNo.nd rfl rfl (by decide) rfl rfl (pa_cons (pe_callTy call_list_of (by rfl) B.list PyProof.Rows.boot_list (pa_cons (pe_ix ix_list (pv 1) (pv 6) (fun _ _ => rfl)) pa_nil)) (pa_cons (pc DT GT r1 pass0 (pa_cons (pv 0) (pa_cons (pv 3) pa_nil))) pa_nil)) rfl)
      (pss_cons (ps_set (i := 12) scNo.nd rfl (.inr rfl) (pe_lst (pa_cons (pe_op op_cat (pe_op op_cat (pe_slice sl_list (pv 10) po_none (po_some (pv 11))) (pe_lst (pa_cons (pc DP GP r2 pass0 (pa_cons (pv 0) (pa_cons (pe_lst (pa_cons (pv 3) (pa_cons (pe_op op_sub pe_int pe_int) (pa_cons pe_bl (pa_cons pe_non (pa_cons pe_str (pa_cons (pe_tup (pa_cons pe_int pa_nil)) pa_nil))))))) pa_nil))) pa_nil))) (pe_slice sl_list (pv 10) (po_some (pe_op op_add (pv 11) pe_int)) po_none)) (pa_cons pe_non (pa_cons pe_int (pa_cons (pe_op op_mulS pe_str (pv 3)) pa_nil))))))
      (pss_cons (ps_set (i := 12) scNo.nd rfl (.inr rfl) (pe_op op_cat (pv 12) (pe_ifExp (pt_cmpR op_gt (pv 6) pe_int (nomark _)) (pe_lst (pa_cons (pe_op op_cat (pv 10) (pe_lst (pa_cons pe_int pa_nil))) (pa_cons (pe_slice sl_list (pv 10) (po_some pe_int) po_none) pa_nil))) (pe_lst (pa_cons (pe_lst pa_nil) (pa_cons (pe_op op_rep (pe_lst (pa_cons pe_int pa_nil)) pe_int) pa_nil)))))) ht2'))), fun D H b p ts v2 v5 v6 v7 v8 v9 v10 v11 v12 v13 v14 v15 hb hT tl npb hW hn5 hl4 q => ?_⟩
  have RK : Rl b [(Pt, qNo)] H H := Rl.refl hb hT
  -- another place, its table, a spot
  refine ⟨_, rfl, _, rfl, b, _, rfl, RK.1, by have := hW.t1; omega, by omega, fun a2 K1 a20 a21 bxa => ?_⟩
  replace RK := RK.bx bxa
  obtain ⟨c2, rfl⟩ : ∃ c2 : Nat, a2 = (c2 : Int) := ⟨a2.toNat, by omega⟩
  have hc2 : c2 < ts.length := by omega
  obtain ⟨t2, et2⟩ : ∃ t2, ts[c2]? = some t2 := ⟨ts[c2], List.getElem?_eq_getElem hc2⟩
  obtain ⟨as2, aa2, hp2, las2, eaa2, haa2⟩ := (RK.tabL hb npb tl).row et2
  obtain ⟨t2l, t2r⟩ := hW.row t2 (List.mem_of_getElem? et2)
  refine ⟨_, rfl, _, rfl, p, _, (c2 : Int), .ref aa2, rfl, rfl, SqL.of hp2, at_of (j := c2) (by omega) (by rw [List.getElem?_map, eaa2]; rfl), aa2, _, rfl, .inr (SqT.of haa2), fun tb htb => ?_⟩
  have ntb : tb ≠ b := RK.1.nn htb
  replace RK := RK.new (o := HO.lst (vrow t2)) htb
  have htb2 : (upd K1 tb (.lst (vrow t2))) tb = some (.lst (vrow t2)) := upd_same
  generalize upd K1 tb (.lst (vrow t2)) = K2 at RK htb2 ⊢
  refine ⟨_, rfl, _, rfl, b, _, rfl, RK.1, by have := hW.s1; omega, by omega, fun sp K3 sp0 sp1 bxs => ⟨_, _, rfl, ?_⟩⟩
  have htb3 := bxs.2 _ _ htb2 ntb
  replace RK := RK.bx bxs
  obtain ⟨d2, rfl⟩ : ∃ d2 : Nat, sp = (d2 : Int) := ⟨sp.toNat, by omega⟩
  have hd2 : d2 < nS ts := by omega
  have hvt2 : (vrow t2).length = nS ts := by rw [vrow, List.length_map, t2l]
  clear bxa bxs htb hp2 haa2 eaa2 las2 as2 aa2
  -- rows that are no tables
  refine ⟨_, rfl, _, rfl, _, rfl, tb, _, rfl, SqL.of htb3, fun p1 hp1 => ?_⟩
  have R1 := (Rl.refl RK.1 RK.2.1).new (o := HO.lst (cutV (vrow t2) none (some (d2 : Int)))) hp1
  have np1 : p1 ≠ b := RK.1.nn hp1
  have hp1' : (upd K3 p1 (.lst (cutV (vrow t2) none (some (d2 : Int))))) p1 = some (.lst (cutV (vrow t2) none (some (d2 : Int)))) := upd_same
  generalize upd K3 p1 (.lst (cutV (vrow t2) none (some (d2 : Int)))) = K4 at R1 hp1' ⊢
  refine ⟨_, rfl, _, rfl, _, _, rfl, rfl, (by show 1 ≤ sizeLine; decide), fun t4 ht4 => ⟨(by show 6 ≤ sizeLine; decide), fun l4 hl4 => ?_⟩⟩
  have R4 := (R1.new (o := HO.tup [.int 0]) ht4).new (o := HO.lst [.int (nS ts : Int), .int (0 - 1), .bl true, .non, .str "0", .ref t4]) hl4
  have nl4 : l4 ≠ b := (R1.new (o := HO.tup [.int 0]) ht4).1.nn hl4
  have ht44 := (same_new (o := HO.lst [.int (nS ts : Int), .int (0 - 1), .bl true, .non, .str "0", .ref t4]) hl4) _ _ (upd_same : (upd K4 t4 (.tup [V.int 0])) t4 = _)
  have hp14 := (same_new (o := HO.lst [.int (nS ts : Int), .int (0 - 1), .bl true, .non, .str "0", .ref t4]) hl4) _ _ ((same_new (o := HO.tup [.int 0]) ht4) _ _ hp1')
  refine ⟨b, l4, _, rfl, R4.1, upd_same, nl4, (by decide : 1 ≤ 6), (by decide : 6 ≤ 1000), fun i4 v4 K5 hv4 bx5 => ?_⟩
  have od4 : OdV K5 (nS ts : Int) v4 := odV_of (by omega) (bx5.tup R4.1 ht44) (List.mem_of_getElem? hv4)
  have R5 := R4.bx bx5
  have hp15 := bx5.2 _ _ hp14 np1
  have htb5 := R5.lst ntb htb3
  clear R4 R1 bx5 ht44 hp14 hl4 ht4 hp1' hv4
  have hcl1 : (cutV (vrow t2) none (some (d2 : Int))).length = d2 := by rw [cut_to (by omega), List.length_take]; omega
  have hcl2 : (cutV (vrow t2) (some ((d2 : Int) + 1)) none).length = nS ts - (d2 + 1) := by
    rw [show ((d2 : Int) + 1) = ((d2 + 1 : Nat) : Int) by omega, cut_from (by omega), List.length_drop, hvt2]
  refine ⟨(by show 1 ≤ sizeLine; decide), fun p2 hp2 => ⟨p1, p2, _, _, rfl, rfl, (same_new hp2) _ _ hp15, upd_same, by rw [hcl1, sizeLine_eq]; show d2 + 1 ≤ _; omega, fun p3 hp3 => ?_⟩⟩
  have R6 := (R5.new (o := HO.lst [v4]) hp2).new (o := HO.lst (cutV (vrow t2) none (some (d2 : Int)) ++ [v4])) hp3
  have hp36 : (upd (upd K5 p2 (.lst [v4])) p3 (.lst (cutV (vrow t2) none (some (d2 : Int)) ++ [v4]))) p3 = some (.lst (cutV (vrow t2) none (some (d2 : Int)) ++ [v4])) := upd_same
  have od6 := (od4.rl R5.1 ((((Rl.refl R5.1 R5.2.1).new (o := HO.lst [v4]) hp2).new (o := HO.lst (cutV (vrow t2) none (some (d2 : Int)) ++ [v4])) hp3)))
  have np3 : p3 ≠ b := (R5.new (o := HO.lst [v4]) hp2).1.nn hp3
  generalize upd (upd K5 p2 (.lst [v4])) p3 (.lst (cutV (vrow t2) none (some (d2 : Int)) ++ [v4])) = K6 at R6 hp36 od6 ⊢
  have htb6 := R6.lst ntb htb3
  refine ⟨_, rfl, _, rfl, _, _, rfl, rfl, _, rfl, noP ⟨tb, _, rfl, SqL.of htb6, fun p4 hp4 => ⟨p3, p4, _, _, rfl, rfl, (same_new hp4) _ _ hp36, upd_same, by rw [List.length_append, hcl1, hcl2, sizeLine_eq]; show d2 + 1 + _ ≤ _; omega, fun p5 hp5 => ?_⟩⟩⟩
  have R7 := (R6.new (o := HO.lst (cutV (vrow t2) (some ((d2 : Int) + 1)) none)) hp4).new (o := HO.lst (cutV (vrow t2) none (some (d2 : Int)) ++ [v4] ++ cutV (vrow t2) (some ((d2 : Int) + 1)) none)) hp5
  have np5 : p5 ≠ b := (R6.new (o := HO.lst (cutV (vrow t2) (some ((d2 : Int) + 1)) none)) hp4).1.nn hp5
  have od7 := od6.rl R6.1 (((Rl.refl R6.1 R6.2.1).new (o := HO.lst (cutV (vrow t2) (some ((d2 : Int) + 1)) none)) hp4).new (o := HO.lst (cutV (vrow t2) none (some (d2 : Int)) ++ [v4] ++ cutV (vrow t2) (some ((d2 : Int) + 1)) none)) hp5)
  have hp57 : (upd (upd K6 p4 (.lst (cutV (vrow t2) (some ((d2 : Int) + 1)) none))) p5 (.lst (cutV (vrow t2) none (some (d2 : Int)) ++ [v4] ++ cutV (vrow t2) (some ((d2 : Int) + 1)) none))) p5 = some (.lst (cutV (vrow t2) none (some (d2 : Int)) ++ [v4] ++ cutV (vrow t2) (some ((d2 : Int) + 1)) none)) := upd_same
  generalize upd (upd K6 p4 (.lst (cutV (vrow t2) (some ((d2 : Int) + 1)) none))) p5 (.lst (cutV (vrow t2) none (some (d2 : Int)) ++ [v4] ++ cutV (vrow t2) (some ((d2 : Int) + 1)) none)) = K7 at R7 hp57 od7 ⊢
  have hyl : (cutV (vrow t2) none (some (d2 : Int)) ++ [v4] ++ cutV (vrow t2) (some ((d2 : Int) + 1)) none).length = nS ts := by
    rw [List.length_append, List.length_append, hcl1, hcl2]
    show d2 + 1 + _ = _
    omega
  have hvi : ∀ z ∈ vrow t2, ∃ i : Int, z = .int i := fun z hz => by
    obtain ⟨i, _, e⟩ := List.mem_map.mp hz
    exact ⟨i, e.symm⟩
  have hym : v4 ∈ cutV (vrow t2) none (some (d2 : Int)) ++ [v4] ++ cutV (vrow t2) (some ((d2 : Int) + 1)) none := List.mem_append_left _ (List.mem_append_right _ (List.mem_singleton.mpr rfl))
  have hye : ∀ y ∈ cutV (vrow t2) none (some (d2 : Int)) ++ [v4] ++ cutV (vrow t2) (some ((d2 : Int) + 1)) none, (∃ i : Int, y = .int i) ∨ y = v4 := fun y hy => by
    rw [show ((d2 : Int) + 1) = ((d2 + 1 : Nat) : Int) by omega, cut_to (by omega), cut_from (by omega)] at hy
    simp only [List.mem_append, List.mem_singleton] at hy
    rcases hy with (z | z) | z
    · exact .inl (hvi y (List.mem_of_mem_take z))
    · exact .inr z
    · exact .inl (hvi y (List.mem_of_mem_drop z))
  have htb7 := R7.lst ntb htb3
  generalize cutV (vrow t2) none (some (d2 : Int)) ++ [v4] ++ cutV (vrow t2) (some ((d2 : Int) + 1)) none = ys1 at hp57 hyl hym hye
  have b1 : BR b K7 (nS ts) c2 (.ref p5) := .inr ⟨p5, ys1, rfl, np5, hp57, fun y hy => (hye y hy).imp id fun e => ⟨_, e ▸ od7⟩, fun _ y e => .inr (.inr (by
    obtain rfl := Option.some.inj e
    rw [hyl]
    exact isTab_bad hym od7.1)), fun _ => isTab_bad hym od7.1⟩
  clear hp5 hp4 hp36 od6 R6 hp2 hp3 hp15 htb5 R5 od4
  refine ⟨_, rfl, "0", _, rfl, rfl, by have := hW.s1; omega, by omega, by decide, fun z => ⟨(by show 4 ≤ sizeLine; decide), fun l5 hl5 => ?_⟩⟩
  have R8 := R7.new (o := HO.lst [.ref p5, .non, .int 0, .str z]) hl5
  have nl5 : l5 ≠ b := R7.1.nn hl5
  have hl58 : (upd K7 l5 (.lst [.ref p5, .non, .int 0, .str z])) l5 = some (.lst [.ref p5, .non, .int 0, .str z]) := upd_same
  have b8 := b1.rl R7.1 ((Rl.refl R7.1 R7.2.1).new (o := HO.lst [.ref p5, .non, .int 0, .str z]) hl5)
  have htb8 := (same_new (o := HO.lst [.ref p5, .non, .int 0, .str z]) hl5) _ _ htb7
  generalize upd K7 l5 (.lst [.ref p5, .non, .int 0, .str z]) = K8 at R8 hl58 b8 htb8 ⊢
  refine gn ?_
  dsimp only
  have RA := RK.trans R8
  have RB : Rl b [(Pt, qNo)] K8 K8 := Rl.refl R8.1 R8.2.1
  have four : ∀ H', Rl b [(Pt, qNo)] K8 H' → ∀ v ∈ [V.ref p5, .non, .int 0, .str z], BR b H' (nS ts) c2 v := fun H' r v hv => by
    simp only [List.mem_cons, List.mem_nil_iff, or_false] at hv
    rcases hv with rfl | rfl | rfl | rfl
    · exact b8.rl R8.1 r
    · exact .inl fun _ _ => .non
    · exact .inl fun _ _ => .int _
    · exact .inl fun _ _ => .str _
  refine seqG (fun σ H' => ∃ l6 xs, σ = [some (.ref b), some (.ref p), v2, some (.int (nS ts : Int)), some (.int (ts.length : Int)), v5, some (.int (c2 : Int)), v7, v8, v9, some (.ref tb), some (.int (d2 : Int)), some (.ref l6), v13, v14, v15] ∧ Rl b [(Pt, qNo)] K8 H' ∧ H' l6 = some (.lst xs) ∧ l6 ≠ b ∧ xs.length = 6 ∧ ∀ v ∈ xs, BR b H' (nS ts) c2 v) ?_ (fun k => ?_)
  · rintro σ H' ⟨l6, xs, rfl, r, h1, h2, h3, h4⟩
    have rr := RA.trans r
    exact q2' D H' b p l6 ts c2 xs _ _ _ _ _ _ _ _ _ _ _ _ rr.1 rr.2.1 (rr.tabL hb npb tl) npb hW hc2 h1 h2 (by omega) (by omega) h4 fun H'' r2 => q _ (rr.trans r2)
  · refine ⟨_, rfl, _, rfl, _, _, rfl, rfl, _, rfl, ifD (fun e => ?_) fun e => ?_⟩
    · have hc0 : 0 < c2 := by have := of_decide_eq_true e; omega
      refine ⟨_, rfl, (by show 1 ≤ sizeLine; decide), fun m1 hm1 => ⟨tb, m1, _, _, rfl, rfl, (same_new hm1) _ _ htb8, upd_same, by rw [hvt2, sizeLine_eq]; show nS ts + 1 ≤ _; omega, fun m2 hm2 => ?_⟩⟩
      have s2 := (same_new (o := HO.lst [V.int 0]) hm1).trans (same_new (o := HO.lst (vrow t2 ++ [V.int 0])) hm2)
      have R2 := RB.same s2
      have n2 : m2 ≠ b := (RB.new (o := HO.lst [V.int 0]) hm1).1.nn hm2
      have e2 : (upd (upd K8 m1 (.lst [.int 0])) m2 (.lst (vrow t2 ++ [.int 0]))) m2 = some (.lst (vrow t2 ++ [.int 0])) := upd_same
      generalize upd (upd K8 m1 (.lst [.int 0])) m2 (.lst (vrow t2 ++ [.int 0])) = K9 at s2 R2 e2 ⊢
      refine ⟨_, rfl, _, rfl, noP ⟨tb, _, rfl, SqL.of (s2 _ _ htb8), fun m3 hm3 => ⟨(by show 2 ≤ sizeLine; decide), fun m4 hm4 => ⟨l5, m4, _, _, rfl, rfl, (same_new hm4) _ _ ((same_new hm3) _ _ (s2 _ _ hl58)), upd_same, (by show 4 + 2 ≤ sizeLine; decide), fun l6 hl6 => ?_⟩⟩⟩⟩
      have R3 := ((R2.new (o := HO.lst (cutV (vrow t2) (some 1) none)) hm3).new (o := HO.lst [.ref m2, .ref m3]) hm4).new (o := HO.lst ([.ref p5, .non, .int 0, .str z] ++ [.ref m2, .ref m3])) hl6
      have s3 := (same_new (o := HO.lst [V.ref m2, .ref m3]) hm4).trans (same_new (o := HO.lst ([.ref p5, .non, .int 0, .str z] ++ [.ref m2, .ref m3])) hl6)
      have n3 : m3 ≠ b := R2.1.nn hm3
      refine k _ _ ⟨l6, _, rfl, R3, upd_same, ((R2.new (o := HO.lst (cutV (vrow t2) (some 1) none)) hm3).new (o := HO.lst [.ref m2, .ref m3]) hm4).1.nn hl6, rfl, fun v hv => ?_⟩
      rcases List.mem_append.mp hv with hv | hv
      · exact four _ R3 v hv
      · simp only [List.mem_cons, List.mem_nil_iff, or_false] at hv
        rcases hv with rfl | rfl
        · refine .inr ⟨m2, _, rfl, n2, s3 _ _ ((same_new hm3) _ _ e2), fun y hy => .inl ?_, fun z => absurd z (by omega), fun _ => isTab_len ?_⟩
          · rcases List.mem_append.mp hy with w | w
            · exact hvi y w
            · exact ⟨0, List.mem_singleton.mp w⟩
          · rw [List.length_append, hvt2]
            show nS ts + 1 ≠ nS ts
            omega
        · have hcf : cutV (vrow t2) (some 1) none = (vrow t2).drop 1 := cut_from (k := 1) (by have := hW.s1; omega)
          refine .inr ⟨m3, _, rfl, n3, s3 _ _ upd_same, fun y hy => .inl ?_, fun z => absurd z (by omega), fun _ => isTab_len ?_⟩
          · rw [hcf] at hy
            exact hvi y (List.mem_of_mem_drop hy)
          · rw [hcf, List.length_drop, hvt2]
            have := hW.s1
            omega
    · have hc0 : c2 = 0 := by have := of_decide_eq_false e; omega
      refine ⟨(by show 0 ≤ sizeLine; decide), fun m1 hm1 => ⟨(by show 1 ≤ sizeLine; decide), fun m2 hm2 => cP (rep_by 13 upd_same (by decide) fun m3 hm3 => ⟨(by show 2 ≤ sizeLine; decide), fun m4 hm4 => ⟨l5, m4, _, _, rfl, rfl, (same_new hm4) _ _ ((same_new hm3) _ _ ((same_new hm2) _ _ ((same_new hm1) _ _ hl58))), upd_same, (by show 4 + 2 ≤ sizeLine; decide), fun l6 hl6 => ?_⟩⟩)⟩⟩
      have R1 := RB.new (o := HO.lst []) hm1
      have R2 := R1.new (o := HO.lst [V.int 0]) hm2
      have R3 := ((R2.new (o := HO.lst (List.replicate 13 (V.int 0))) hm3).new (o := HO.lst [.ref m1, .ref m3]) hm4)
      have R4 := R3.new (o := HO.lst ([.ref p5, .non, .int 0, .str z] ++ [.ref m1, .ref m3])) hl6
      have s3 := (same_new (o := HO.lst [V.ref m1, .ref m3]) hm4).trans (same_new (o := HO.lst ([.ref p5, .non, .int 0, .str z] ++ [.ref m1, .ref m3])) hl6)
      refine k _ _ ⟨l6, _, rfl, R4, upd_same, R3.1.nn hl6, rfl, fun v hv => ?_⟩
      rcases List.mem_append.mp hv with hv | hv
      · exact four _ R4 v hv
      · simp only [List.mem_cons, List.mem_nil_iff, or_false] at hv
        rcases hv with rfl | rfl
        · exact .inr ⟨m1, [], rfl, RB.1.nn hm1, s3 _ _ ((same_new hm3) _ _ ((same_new hm2) _ _ upd_same)), fun y hy => absurd hy (by simp), fun _ y e => .inl (by obtain rfl := Option.some.inj e; decide), fun z => absurd z (by omega)⟩
        · exact .inr ⟨m3, _, rfl, R2.1.nn hm3, s3 _ _ upd_same, fun y hy => .inl ⟨0, (List.mem_replicate.mp hy).2⟩, fun _ y e => .inr (.inl (by obtain rfl := Option.some.inj e; rw [List.length_replicate]; decide)), fun z => absurd z (by omega)⟩
end
end K1
namespace K1
open PySem PySem.Spec PyProof.Rows L2
section
variable {P : Program} {w : World} {K : PySem.W.Frag} {mg : Str → Option Value} {base : Heap}
theorem ok_none {f M CM CR CS CD c Pt : Addr} {fd : FuncData} (F : FunC K "_law_none_right" "_law_none_right" sNone f fd (.ref c)) (hd : Hd K mg base c Pt CM CR CS CD) (dn : Dn P w K mg base M CM CR CS CD) :
    FnOk P w K mg base CX0 10 f fd ["_law_box_here", "_law_tables_here"] (spNone [(Pt, qNo)]) := by
  have B := hd.B
  have TM := dn.T
  obtain ⟨fT, fdT, DT, GT⟩ := dn.take
  obtain ⟨fP, fdP, DP, GP⟩ := dn.pick
  obtain ⟨fL, fdL, DL, GL⟩ := dn.log
  obtain ⟨fR, fdR, DR, GR⟩ := dn.row
  obtain ⟨fE, fdE, DE, GE⟩ := dn.led
  obtain ⟨fO, fdO, DO, GO⟩ := dn.orbit
  obtain ⟨fS, fdS, DS, GS⟩ := dn.needS
  obtain ⟨fD, fdD, DD, GD⟩ := dn.needD
  obtain ⟨fI, fdI, MI, BI, GI⟩ := dn.init
  refine F.ok scNo (fun vs H Q E h => ?_) (fun A outer s H vs Q E hr h => ?_)
  · obtain ⟨b, p, ts, rfl, _⟩ := h
    rfl
  · obtain ⟨b, p, ts, rfl, hb, hT, tl, npb, hW, hn5, hl4, q⟩ := h
    have hu : (A.deeper (envOfC "_law_none_right" (defScope sNone) s.heap.objs.size f (.ref c))).units + 64 < cLine := hr.units
    have r1 := hr.mono (show 1 ≤ 9 by decide)
    have r2 := hr.mono (show 2 ≤ 9 by decide)
    have r5 := hr.mono (show 5 ≤ 9 by decide)
    have r7 := hr.mono (show 7 ≤ 9 by decide)
    obtain ⟨t1', ht1', q1'⟩ := none_r1 (P := P) (w := w) (outer := outer) (H₀ := H) (E := E) hr hd dn
    refine ⟨_, pss_cons (ps_asg (pe_tup (pa_cons (pe_make MI GI r7 rfl TM.g BI .nil passF (pa_cons (pv 1) pa_nil)) (pa_cons (pe_callB call_len_seq (by rfl) B.len PySem.boot_len (pa_cons (pe_ix ix_list (pv 1) pe_int (fun _ _ => rfl)) pa_nil)) (pa_cons (pe_callB call_len_seq (by rfl) B.len PySem.boot_len (pa_cons (pv 1) pa_nil)) pa_nil))))
        (pg_tup rfl (pgs_cons (pg_name (i := 2) scNo.nd rfl (.inr rfl)) (pgs_cons (pg_name (i := 3) scNo.nd rfl (.inl rfl)) (pgs_cons (pg_name (i := 4) scNo.nd rfl (.inl rfl)) pgs_nil)))))
      (pss_cons (ps_set (i := 5) scNo.nd rfl (.inl rfl) (pc DL GL r2 pass0 (pa_cons (pv 0) (pa_cons (pv 1) (pa_cons pe_int pa_nil)))))
      (pss_cons (ps_set (i := 6) scNo.nd rfl (.inr rfl) (pc DT GT r1 pass0 (pa_cons (pv 0) (pa_cons (pe_op op_add (pe_callB call_len_seq (by rfl) B.len PySem.boot_len (pa_cons (pv 5) pa_nil)) pe_int) pa_nil))))
      (pss_cons (ps_set (i := 7) scNo.nd rfl (.inr rfl) (pe_op op_catA (pe_op op_catA (pe_op op_catA (pe_slice sl_tupA (pv 5) po_none (po_some (pv 6)))
          (pe_tup (pa_cons (pc DP GP r2 pass0 (pa_cons (pv 0) (pa_cons (pe_lst (pa_cons (pv 4) (pa_cons (pe_op op_sub pe_int pe_int) (pa_cons pe_bl (pa_cons pe_non (pa_cons pe_str (pa_cons (pe_tup (pa_cons pe_int pa_nil)) pa_nil))))))) pa_nil))) pa_nil)))
          (pe_slice sl_tupA (pv 5) (po_some (pv 6)) po_none)) (pe_tup (pa_cons pe_non pa_nil))))
      (pss_cons (ps_asg (pe_tup (pa_cons (pc DP GP r2 pass0 (pa_cons (pv 0) (pa_cons (pe_lst (pa_cons (pv 3) (pa_cons (pe_op op_sub pe_int pe_int) (pa_cons pe_bl (pa_cons pe_non (pa_cons pe_str pa_nil)))))) pa_nil)))
          (pa_cons (pc DP GP r2 pass0 (pa_cons (pv 0) (pa_cons (pe_lst (pa_cons (pv 4) (pa_cons (pe_op op_sub pe_int pe_int) (pa_cons pe_bl (pa_cons pe_non (pa_cons pe_str pa_nil)))))) pa_nil))) pa_nil)))
        (pg_tup rfl (pgs_cons (pg_name (i := 8) scNo.nd rfl (.inr rfl)) (pgs_cons (pg_name (i := 9) scNo.nd rfl (.inr rfl)) pgs_nil))))
      (pss_cons (ps_if (pt_cmpR (neD (K := K) rfl hu) (pHeard (qn := qNo) hd hr rfl rfl rfl (LamX.lamS_by (by rfl)) rfl (fun _ _ _ _ _ => rfl) (fun A outer s H E f c' hr2 => pc DR GR (hr2.mono (show 5 ≤ 7 by decide)) (pass1 (E := E) (takes_of rfl rfl rfl rfl)) (pa_cons (pv 2) (pa_cons (pv 7) pa_nil))))
          (pe_tup (pa_cons pe_str (pa_cons (pv 6) (pa_cons pe_bl pa_nil)))) (nomark _)) (pss_one (ps_ret pe_bl)) pss_nil)
      (pss_cons (ps_if (pt_cmpR (neD (K := K) rfl hu) (pHeard (qn := qNo) hd hr rfl rfl rfl (LamX.lamS_by (by rfl)) rfl (fun _ _ _ _ _ => rfl) (fun A outer s H E f c' hr2 => pc DE GE (hr2.mono (show 6 ≤ 7 by decide)) (pass1 (E := E) (takes_of rfl rfl rfl rfl)) (pa_cons (pv 2) (pa_cons pe_int (pa_cons (pv 7) pa_nil)))))
          (pe_tup (pa_cons pe_str (pa_cons (pv 6) (pa_cons pe_bl pa_nil)))) (nomark _)) (pss_one (ps_ret pe_bl)) pss_nil)
      (pss_cons (ps_if (pt_cmpR (neD (K := K) rfl hu) (pe_lc (own := [("_law_value", 14)]) (g := gName 14) rfl scNo.nd (pi_tup (pe_tup (pa_cons pe_non (pa_cons pe_int (pa_cons pe_str pa_nil))))) (blkOk_by (N := nNo) (sc := defScope sNone) (by decide +kernel)) (fun _ _ _ _ _ => pg_name (i := 14) scNo.nd rfl (Or.inr rfl)) (fun _ _ _ _ _ => pts_one (pt_cmpR (neD (K := K) rfl hu) (pHeard (qn := qNo) hd hr rfl rfl rfl (LamX.lamS_by (by rfl)) rfl (fun _ _ _ _ _ => rfl) (fun A outer s H E f c' hr2 => pc DR GR (hr2.mono (show 5 ≤ 7 by decide)) (pass1 (E := E) (takes_of rfl rfl rfl rfl)) (pa_cons (pv 2) (pa_cons (pv 14) pa_nil)))) (pe_tup (pa_cons pe_str (pa_cons (pe_op op_sub pe_int pe_int) (pa_cons pe_bl pa_nil)))) (nomark _))) (fun _ _ _ _ _ => pv 14)) (pe_lst pa_nil) (nomark _)) (pss_one (ps_ret pe_bl)) pss_nil)
      (pss_cons (ps_if (pt_cmpR (neD (K := K) rfl hu) (pHeard (qn := qNo) hd hr rfl rfl rfl (LamX.lamS_by (by rfl)) rfl (fun _ _ _ _ _ => rfl) (fun A outer s H E f c' hr2 => pc DE GE (hr2.mono (show 6 ≤ 7 by decide)) (pass1 (E := E) (takes_of rfl rfl rfl rfl)) (pa_cons (pv 2) (pa_cons (pv 8) (pa_cons pe_non pa_nil))))) (pe_tup (pa_cons pe_str (pa_cons (pe_callB call_reprS (by rfl) B.repr (by decide +kernel) (pa_cons (pv 8) pa_nil)) pa_nil))) (nomark _)) (pss_one (ps_ret pe_bl)) pss_nil)
      (pss_cons (ps_if (pt_cmpR (neD (K := K) rfl hu) (pHeard (qn := qNo) hd hr rfl rfl rfl (LamX.lamS_by (by rfl)) rfl (fun _ _ _ _ _ => rfl) (fun A outer s H E f c' hr2 => pc DO GO (hr2.mono (show 4 ≤ 7 by decide)) (pass1 (E := E) (takes_of rfl rfl rfl rfl)) (pa_cons (pv 2) (pa_cons (pv 8) pa_nil)))) (pe_tup (pa_cons pe_str (pa_cons (pe_callB call_reprS (by rfl) B.repr (by decide +kernel) (pa_cons (pv 8) pa_nil)) pa_nil))) (nomark _)) (pss_one (ps_ret pe_bl)) pss_nil)
      (pss_cons (ps_if (pt_cmpR (neD (K := K) rfl hu) (pHeard (qn := qNo) hd hr rfl rfl rfl (LamX.lamS_by (by rfl)) rfl (fun _ _ _ _ _ => rfl) (fun A outer s H E f c' hr2 => pc DS GS (hr2.mono (show 3 ≤ 7 by decide)) (pass1 (E := E) (takes_of rfl rfl rfl rfl)) (pa_cons (pv 2) (pa_cons (pv 8) pa_nil)))) (pe_tup (pa_cons pe_str (pa_cons (pe_callB call_reprS (by rfl) B.repr (by decide +kernel) (pa_cons (pv 8) pa_nil)) pa_nil))) (nomark _)) (pss_one (ps_ret pe_bl)) pss_nil)
      (pss_cons (ps_if (pt_cmpR (neD (K := K) rfl hu) (pHeard (qn := qNo) hd hr rfl rfl rfl (LamX.lamS_by (by rfl)) rfl (fun _ _ _ _ _ => rfl) (fun A outer s H E f c' hr2 => pc DD GD (hr2.mono (show 3 ≤ 7 by decide)) (pass1 (E := E) (takes_of rfl rfl rfl rfl)) (pa_cons (pv 2) (pa_cons (pv 9) pa_nil)))) (pe_tup (pa_cons pe_str (pa_cons (pe_callB call_reprS (by rfl) B.repr (by decide +kernel) (pa_cons (pv 9) pa_nil)) pa_nil))) (nomark _)) (pss_one (ps_ret pe_bl)) pss_nil) ht1'))))))))))), ?_⟩
    obtain ⟨t0, et0⟩ : ∃ t0, ts[0]? = some t0 := ⟨ts[0]'(by have := hW.t1; omega), List.getElem?_eq_getElem _⟩
    obtain ⟨as, a0, hp0, las, ea0, ha0⟩ := tl.row et0
    have ht0 : (vrow t0).length = nS ts := by rw [vrow, List.length_map]; exact (hW.row t0 (List.mem_of_getElem? et0)).1
    -- the machine
    refine ⟨_, rfl, fun m dx hm hdx ne => ?_⟩
    have s0 : Same H (upd (upd H dx (.own m)) m (.ins M dx [])) := (same_new hdx).trans (same_new (by rw [upd_ne ne.symm]; exact hm))
    refine ⟨m, dx, _, _, rfl, upd_same, (tl.same s0).mv, fun z hz => (by rw [chk_wf hW] at hz; cases hz), fun _ ts' ets ta H2 k2 hM => ⟨rfl, ?_⟩⟩
    obtain rfl : vts ts = ts' := by
      have z := Option.some.inj ets
      exact map_some z
    have s2 := mkS hm hdx k2
    refine ⟨_, rfl, p, _, 0, .ref a0, rfl, rfl, SqL.of (s2 _ _ hp0), at_of (j := 0) rfl (by rw [List.getElem?_map, ea0]; rfl), a0, _, rfl, .inr (SqT.of (s2 _ _ ha0)), ?_⟩
    refine ⟨_, rfl, p, _, rfl, .inl (SqL.of (s2 _ _ hp0)), ?_⟩
    rw [ht0, show ((as.map V.ref).length : Int) = (ts.length : Int) by rw [List.length_map, las]]
    refine ⟨(by show 3 ≤ sizeLine; decide), fun T0 hT0 => ?_⟩
    refine ⟨T0, _, rfl, SqT.of upd_same, rfl, _, _, rfl, _, _, rfl, _, _, rfl, rfl, ?_⟩
    have s3 := s2.trans (same_new (o := HO.tup [.ref m, .int (nS ts : Int), .int (ts.length : Int)]) hT0)
    have hM3 : MachAt M (upd H2 T0 (.tup [.ref m, .int (nS ts : Int), .int (ts.length : Int)])) m ta (vts ts) := hM.same (same_new hT0)
    generalize upd H2 T0 (.tup [.ref m, .int (nS ts : Int), .int (ts.length : Int)]) = H3 at s3 hM3 ⊢
    have R3 : Rl b [(Pt, qNo)] H H3 := (Rl.refl hb hT).same s3
    -- the row
    refine ⟨_, rfl, _, rfl, b, p, 6, ts, rfl, R3.1, R3.tabL hb npb tl, npb, hW.t1, hW.t8, by decide, by decide, fun r row H4 bx4 hr3 hr4 hrow hrl => ?_⟩
    have R4 := R3.bx bx4
    have hM4 := hM3.bx R3.1 bx4
    refine ⟨_, rfl, _, rfl, r, _, rfl, .inr (SqT.of hr4), _, _, rfl, rfl, b, _, rfl, R4.1, by omega, by rw [vrow, List.length_map]; omega, fun a H5 a0' a1' bx5 => ?_⟩
    have R5 := R4.bx bx5
    have hM5 := hM4.bx R4.1 bx5
    have hr5 := bx5.2 _ _ hr4 (R4.1.ne hr4 fun xs => by intro z; cases z)
    have hal : a.toNat ≤ row.length := by
      rw [vrow, List.length_map] at a1'
      omega
    obtain ⟨an, rfl⟩ : ∃ an : Nat, a = (an : Int) := ⟨a.toNat, by omega⟩
    have hal' : an ≤ row.length := by simpa using hal
    -- the bad row
    have hvl : (vrow row).length = row.length := by rw [vrow, List.length_map]
    refine ⟨_, rfl, _, rfl, _, rfl, slA_by hr5 fun p1 H6 s6 hp1 => ?_⟩
    have R6 := R5.same s6
    have hb6 := hp1
    refine ⟨_, rfl, _, rfl, _, _, rfl, rfl, (by show 1 ≤ sizeLine; decide), fun t1 ht1 => ⟨(by show 6 ≤ sizeLine; decide), fun l1 hl1 => ?_⟩⟩
    have s7 : Same H6 (upd (upd H6 t1 (.tup [.int 0])) l1 (.lst [.int (ts.length : Int), .int (0 - 1), .bl true, .non, .str "0", .ref t1])) := (same_new ht1).trans (same_new hl1)
    have R7 := R6.same s7
    have t1l : t1 ≠ l1 := fun z => by rw [← z, upd_same] at hl1; cases hl1
    have hl17 : (upd (upd H6 t1 (.tup [.int 0])) l1 (.lst [.int (ts.length : Int), .int (0 - 1), .bl true, .non, .str "0", .ref t1])) l1 = some (.lst [.int (ts.length : Int), .int (0 - 1), .bl true, .non, .str "0", .ref t1]) := upd_same
    have ht17 : (upd (upd H6 t1 (.tup [.int 0])) l1 (.lst [.int (ts.length : Int), .int (0 - 1), .bl true, .non, .str "0", .ref t1])) t1 = some (.tup [.int 0]) := by rw [upd_ne t1l, upd_same]
    refine ⟨b, l1, _, rfl, R7.1, hl17, (R6.1.same (same_new ht1)).nn hl1, (by decide : 1 ≤ 6), (by decide : 6 ≤ 1000), fun i1 v1 H8 hv1 bx8 => ?_⟩
    have R8 := R7.bx bx8
    have od1 : OdV H8 (ts.length : Int) v1 := odV_of (by omega) (bx8.2 _ _ ht17 (R7.1.ne ht17 fun xs => by intro z; cases z)) (List.mem_of_getElem? hv1)
    generalize upd (upd H6 t1 (.tup [.int 0])) l1 (.lst [.int (ts.length : Int), .int (0 - 1), .bl true, .non, .str "0", .ref t1]) = H7 at s7 R7 bx8 hl17 ht17
    have hp18 := bx8.tup R7.1 (s7 _ _ hp1)
    have hr8 := bx8.tup R7.1 (s7 _ _ (s6 _ _ hr5))
    have hl1' : (cutV (vrow row) none (some (an : Int))).length = an := by rw [cut_to (by omega), List.length_take]; omega
    have hl2' : (cutV (vrow row) (some (an : Int)) none).length = row.length - an := by rw [cut_from (by omega), List.length_drop, hvl]
    have hrow6 : row.length ≤ 6 := by omega
    refine ⟨(by show 1 ≤ sizeLine; decide), fun p2 hp2 => catA_by ((same_new hp2) _ _ hp18) upd_same (by rw [hl1', sizeLine_eq]; show an + 1 ≤ _; omega) fun p3 H9 s9 hp3 => ?_⟩
    have s89 := (same_new (o := HO.tup [v1]) hp2).trans s9
    refine ⟨_, rfl, _, rfl, _, rfl, noP (slA_by (s89 _ _ hr8) fun p4 H10 s10 hp4 => catA_by (s10 _ _ hp3) hp4 (by rw [List.length_append, hl1', hl2', sizeLine_eq]; show an + 1 + _ ≤ _; omega) fun p5 H11 s11 hp5 => ?_)⟩
    refine ⟨(by show 1 ≤ sizeLine; decide), fun p6 hp6 => catA_by ((same_new hp6) _ _ hp5) upd_same (by rw [List.length_append, List.length_append, hl1', hl2', sizeLine_eq]; show an + 1 + _ + 1 ≤ _; omega) fun bd H12 s12 hbd => ?_⟩
    have s8 : Same H8 H12 := s89.trans (s10.trans (s11.trans ((same_new (o := HO.tup [.non]) hp6).trans s12)))
    have R12 := R8.same s8
    have hM12 := ((hM5.same (s6.trans s7)).bx R7.1 bx8).same s8
    have od12 : OdV H12 (ts.length : Int) v1 := od1.rl R8.1 ((Rl.refl R8.1 R8.2.1).same s8)
    generalize hbr : cutV (vrow row) none (some (an : Int)) ++ [v1] ++ cutV (vrow row) (some (an : Int)) none ++ [.non] = br at hbd
    have hbr1 : br.length ≤ 10 := by
      rw [← hbr]
      simp only [List.length_append, hl1', hl2', List.length_cons, List.length_nil]
      omega
    have hbr2 : br[an]? = some v1 := by
      rw [← hbr, List.append_assoc, List.append_assoc, List.getElem?_append_right (by omega), hl1', Nat.sub_self]; rfl
    have hbr3 : ∀ (j : Nat) y, j < an → br[j]? = some y → belowB y (ts.length : Int) = true := fun j y hj e => by
      rw [← hbr, List.append_assoc, List.append_assoc, List.getElem?_append_left (by omega), cut_to (by omega), List.getElem?_take_of_lt hj, vrow, List.getElem?_map] at e
      cases er : row[j]? with
      | none => rw [er] at e; cases e
      | some d =>
        rw [er] at e
        obtain rfl : V.int d = y := Option.some.inj e
        obtain ⟨d1, d2⟩ := hrow d (List.mem_of_getElem? er)
        show (decide (0 ≤ d) && decide (d < (ts.length : Int))) = true
        rw [decide_eq_true d1, decide_eq_true d2]; rfl
    have hbr4 : ∀ y ∈ br, (∃ i : Int, y = .int i) ∨ y = v1 ∨ y = .non := fun y hy => by
      rw [← hbr] at hy
      have hv : ∀ z ∈ vrow row, ∃ i : Int, z = .int i := fun z hz => by
        obtain ⟨i, _, e⟩ := List.mem_map.mp hz
        exact ⟨i, e.symm⟩
      rw [cut_to (by omega), cut_from (by omega)] at hy
      simp only [List.mem_append, List.mem_singleton] at hy
      rcases hy with ((z | z) | z) | z
      · exact .inl (hv y (List.mem_of_mem_take z))
      · exact .inr (.inl z)
      · exact .inl (hv y (List.mem_of_mem_drop z))
      · exact .inr (.inr z)
    have hfn : rowF (some br) (ts.length : Int) = .int (an : Nat) := by
      unfold rowF
      rw [if_pos (by
        show (decide ((0 : Int) ≤ (br.length : Int)) && decide ((br.length : Int) ≤ 10000)) = true
        rw [decide_eq_true (by omega), decide_eq_true (by omega)]; rfl)]
      exact fnb_at hbr2 od1.1 hbr3
    -- odd and none
    refine ⟨_, rfl, _, rfl, _, _, rfl, rfl, (by show 5 ≤ sizeLine; decide), fun l2 hl2 => ⟨b, l2, _, rfl, (R12.new hl2).1, upd_same, R12.1.nn hl2, (by decide : 1 ≤ 5), (by decide : 5 ≤ 1000), fun i2 vo H13 hvo bx13 => ?_⟩⟩
    refine ⟨_, rfl, _, rfl, _, _, rfl, rfl, (by show 5 ≤ sizeLine; decide), fun l3 hl3 => ⟨b, l3, _, rfl, (((R12.new hl2).bx bx13).new hl3).1, upd_same, ((R12.new hl2).bx bx13).1.nn hl3, (by decide : 1 ≤ 5), (by decide : 5 ≤ 1000), fun i3 vn H14 hvn bx14 => ?_⟩⟩
    have odo : OdS (nS ts : Int) vo := odS_of (by omega) (by omega) (List.mem_of_getElem? hvo)
    have odn : OdS (ts.length : Int) vn := odS_of (by omega) (by omega) (List.mem_of_getElem? hvn)
    refine ⟨(by show 2 ≤ sizeLine; decide), fun T1 hT1 => ⟨T1, _, rfl, SqT.of upd_same, rfl, _, _, rfl, _, _, rfl, rfl, ?_⟩⟩
    have Rq := (((((Rl.refl R12.1 R12.2.1).new hl2).bx bx13).new hl3).bx bx14).new (o := HO.tup [vo, vn]) hT1
    generalize upd H14 T1 (.tup [vo, vn]) = G at Rq ⊢
    have RG := R12.trans Rq
    have hbG := RG.1
    have tlG := RG.tabL hb npb tl
    have hMG := Rq.mach R12.1 hM12
    have hbdG := Rq.tup R12.1 hbd
    have odG := od12.rl R12.1 Rq
    have RK : Rl b [(Pt, qNo)] G G := Rl.refl RG.1 RG.2.1
    obtain ⟨xo, sxo, rso⟩ := odo.2.2
    obtain ⟨xn, sxn, rsn⟩ := odn.2.2
    have rwb : ∀ H', Rl b [(Pt, qNo)] G H' → Rw K H' (.ref bd) (some br) := fun H' rl => ⟨.tup (rl.tup hbG hbdG), fun ys e y hy => by
      obtain rfl : br = ys := Option.some.inj e
      rcases hbr4 y hy with ⟨i, rfl⟩ | rfl | rfl
      · exact ⟨_, .int i⟩
      · exact (odG.rl hbG rl).kv
      · exact ⟨_, .non⟩⟩
    clear hvo hvn bx13 bx14 hl2 hl3 hT1
    -- check_row(machine, bad)
    refine ⟨RK.2.1, fun G1 eN t1 => ?_⟩
    have RK1 := RK.ext eN t1
    refine ⟨_, rfl, _, rfl, m, ta, ts, _, _, rfl, RK1.mach hbG hMG, rwb _ RK1, fun _ => heR fun p' G2 sm hp' => ?_, fun e => (by rw [hfn] at e; cases e)⟩
    rw [hfn] at hp'
    refine ⟨_, rfl, (by show 3 ≤ sizeLine; decide), fun p2' hp2' => ear3 st_row ((same_new hp2') _ _ hp') upd_same ⟨_, rfl, iteF ?_⟩⟩
    replace RK := (RK1.same sm).new (o := HO.tup [.str "row", .int (an : Int), .bl true]) hp2'
    generalize upd G2 p2' (.tup [.str "row", .int (an : Int), .bl true]) = Gk at RK ⊢
    clear hp2' hp' sm RK1 eN t1
    -- led(machine, 0, bad)
    refine ⟨RK.2.1, fun G1 eN t1 => ?_⟩
    have RK1 := RK.ext eN t1
    refine ⟨_, rfl, _, rfl, m, ta, ts, _, _, rfl, RK1.mach hbG hMG, hW, ⟨_, .int 0⟩, fun e => (by have := hW.s1; have z : (decide ((0 : Int) ≤ 0) && decide ((0 : Int) < (nS ts : Int))) = false := e; rw [decide_eq_true (by omega), decide_eq_true (by omega)] at z; cases z),
      fun _ => ⟨0, some br, rfl, rwb _ RK1, fun _ => heR fun p' G2 sm hp' => ?_, fun e => (by rw [hfn] at e; cases e)⟩⟩
    rw [hfn] at hp'
    refine ⟨_, rfl, (by show 3 ≤ sizeLine; decide), fun p2' hp2' => ear3 st_row ((same_new hp2') _ _ hp') upd_same ⟨_, rfl, iteF ?_⟩⟩
    replace RK := (RK1.same sm).new (o := HO.tup [.str "row", .int (an : Int), .bl true]) hp2'
    generalize upd G2 p2' (.tup [.str "row", .int (an : Int), .bl true]) = Gk at RK ⊢
    clear hp2' hp' sm RK1 eN t1
    -- check_row over values that are no rows
    refine ⟨(by show 3 ≤ sizeLine; decide), fun tp htp => ⟨tp, rfl, ⟨_, SqT.of upd_same⟩, fun D0 hD0 => ?_⟩⟩
    have RT := (RK.new (o := HO.tup [.non, .int 0, .str "0"]) htp).new (o := HO.lst []) hD0
    have hbT := RT.1
    have nD0 : D0 ≠ b := (RK.new (o := HO.tup [.non, .int 0, .str "0"]) htp).1.nn hD0
    have htpT := (same_new (o := HO.lst []) hD0) _ _ (upd_same : (upd Gk tp (.tup [V.non, .int 0, .str "0"])) tp = _)
    have hD0T : (upd (upd Gk tp (.tup [V.non, .int 0, .str "0"])) D0 (.lst [])) D0 = some (.lst []) := upd_same
    refine lc_tup (K := K) (a := tp) (xs := [V.non, .int 0, .str "0"]) (fun _ H' => Rl b [(Pt, qNo)] (upd (upd Gk tp (.tup [V.non, .int 0, .str "0"])) D0 (.lst [])) H') (Rl.refl RT.1 RT.2.1) (fun i H' _ rl => SqT.of (rl.tup hbT htpT)) ?_ ?_
    · rintro i x H' hx rl
      have hkv : ∀ H, KV K H x none := fun H => by
        match i, hx with
        | 0, hx => cases hx; exact .non
        | 1, hx => cases hx; exact .int _
        | 2, hx => cases hx; exact .str _
        | i + 3, hx => cases hx
      refine ⟨rfl, rl.2.1, fun G1 eN t1 => ?_⟩
      have rl1 := rl.ext eN t1
      refine ⟨_, rfl, _, rfl, m, ta, ts, _, none, rfl, (RT.trans rl1).mach hbG hMG, ⟨hkv _, fun ys e => by cases e⟩, fun _ => heR fun p' G2 sm hp' => ?_, fun e => (by cases (show V.int (-1) = V.non from e))⟩
      refine ⟨_, _, rfl, rfl, (by show 3 ≤ sizeLine; decide), fun p2' hp2' => ear3 st_row ((same_new hp2') _ _ hp') upd_same ⟨_, rfl, iteF ?_⟩⟩
      exact (rl1.same sm).new hp2'
    · rintro H' rl
      refine ⟨(by show 0 ≤ sizeLine; decide), fun p2' hp2' => ear0 ((same_new hp2') _ _ (rl.lst nD0 hD0T)) upd_same ⟨_, rfl, iteF ?_⟩⟩
      replace RK := (RT.trans rl).new (o := HO.lst []) hp2'
      generalize upd H' p2' (.lst []) = Gj at RK ⊢
      clear hp2' rl hD0T htpT hbT RT hD0 htp
      -- led, orbit, need_state, need_deed of what is none
      refine ⟨RK.2.1, fun G1 eN t1 => ?_⟩
      have RK1 := RK.ext eN t1
      refine ⟨_, rfl, _, rfl, m, ta, ts, vo, _, rfl, RK1.mach hbG hMG, hW, ⟨_, odo.2.1 K _⟩, fun _ => heS rso fun p' G2 sm hp' => ?_, fun e => (by rw [odo.1] at e; cases e)⟩
      refine ⟨_, rfl, nilP (rso _ _ ⟨(by show 2 ≤ sizeLine; decide), fun p2' hp2' => ear2 st_sta sxo ((same_new hp2') _ _ hp') upd_same ⟨_, rfl, iteF ?_⟩⟩)⟩
      replace RK := (RK1.same sm).new (o := HO.tup [.str "state", .str xo]) hp2'
      generalize upd G2 p2' (.tup [.str "state", .str xo]) = Gj at RK ⊢
      clear hp2' hp' sm RK1 eN t1
      refine ⟨RK.2.1, fun G1 eN t1 => ?_⟩
      have RK1 := RK.ext eN t1
      refine ⟨_, rfl, _, rfl, m, ta, ts, vo, rfl, RK1.mach hbG hMG, hW, ⟨_, odo.2.1 K _⟩, fun _ => heS rso fun p' G2 sm hp' => ?_, fun e => (by rw [odo.1] at e; cases e)⟩
      refine ⟨_, rfl, nilP (rso _ _ ⟨(by show 2 ≤ sizeLine; decide), fun p2' hp2' => ear2 st_sta sxo ((same_new hp2') _ _ hp') upd_same ⟨_, rfl, iteF ?_⟩⟩)⟩
      replace RK := (RK1.same sm).new (o := HO.tup [.str "state", .str xo]) hp2'
      generalize upd G2 p2' (.tup [.str "state", .str xo]) = Gj at RK ⊢
      clear hp2' hp' sm RK1 eN t1
      refine ⟨RK.2.1, fun G1 eN t1 => ?_⟩
      have RK1 := RK.ext eN t1
      refine ⟨_, rfl, _, rfl, m, ta, ts, vo, rfl, RK1.mach hbG hMG, ⟨K, _, odo.2.1 K _⟩, fun e => (by rw [odo.1] at e; cases e), fun _ => heS rso fun p' G2 sm hp' => ?_⟩
      refine ⟨_, rfl, nilP (rso _ _ ⟨(by show 2 ≤ sizeLine; decide), fun p2' hp2' => ear2 st_sta sxo ((same_new hp2') _ _ hp') upd_same ⟨_, rfl, iteF ?_⟩⟩)⟩
      replace RK := (RK1.same sm).new (o := HO.tup [.str "state", .str xo]) hp2'
      generalize upd G2 p2' (.tup [.str "state", .str xo]) = Gj at RK ⊢
      clear hp2' hp' sm RK1 eN t1
      refine ⟨RK.2.1, fun G1 eN t1 => ?_⟩
      have RK1 := RK.ext eN t1
      refine ⟨_, rfl, _, rfl, m, ta, ts, vn, rfl, RK1.mach hbG hMG, ⟨K, _, odn.2.1 K _⟩, fun e => (by rw [odn.1] at e; cases e), fun _ => heD rsn fun p' G2 sm hp' => ?_⟩
      refine ⟨_, rfl, nilP (rsn _ _ ⟨(by show 2 ≤ sizeLine; decide), fun p2' hp2' => ear2 st_dee sxn ((same_new hp2') _ _ hp') upd_same ⟨_, rfl, iteF ?_⟩⟩)⟩
      replace RK := (RK1.same sm).new (o := HO.tup [.str "deed", .str xn]) hp2'
      generalize upd G2 p2' (.tup [.str "deed", .str xn]) = Gj at RK ⊢
      clear hp2' hp' sm RK1 eN t1
      have RR := RG.trans RK
      exact q1' _ _ b p ts _ _ _ _ _ _ _ _ _ _ _ _ RR.1 RR.2.1 (RR.tabL hb npb tl) npb hW hn5 hl4 fun H'' r2 => q _ (RR.trans r2)
end
end K1
namespace K1
open PySem PySem.Spec PyProof.Rows L2
/-! ### defs told where nothing is being shown -/
section
variable {P : Program} {w : World} {K : PySem.W.Frag} {mg : Str → Option Value} {base : Heap}
theorem okG {x qual : Str} {st : Stmt} {f : Addr} {fd : FuncData} {N ps : List Str} {k : Nat} {sp : Sp} (F : Fun K x qual st f fd) (S : FnScope N ps (defScope st)) (len : ∀ vs H Q E, sp vs H Q E → vs.length = ps.length)
    (hbody : ∀ (cdv : Value) (A : Around) (outer : List Env) (s : Shared) (H : Hp) (vs : List V) (Q : VK) (E : XK), Room k (A.deeper (envOfC qual (defScope st) s.heap.objs.size f cdv)) → (A.deeper (envOfC qual (defScope st) s.heap.objs.size f cdv)).guards = some [] → sp vs H Q E →
      ∃ t, PSs (cxOf CX0 P w K mg base N qual (defScope st) f cdv A outer s H E).nox (defBody st) t ∧ t { nx := fun _ H' => Q .non H', rt := Q } (start N vs) H) : FnG P w K mg base (k + 1) f fd ps sp := by
  obtain ⟨oc, od, kV, doc, pm, an, cdv, ct, osl, rfl, lk, hcd⟩ := F.ex
  refine ⟨len, fun A outer s H args us vs Q E hr hgd e0 hb r hsp => ?_⟩
  refine LamX.run_ofS lk hcd S hr e0 hb r (len _ _ _ _ hsp) fun hr' => ?_
  obtain ⟨t, h, q⟩ := hbody cdv A outer s H vs Q E hr' hgd hsp
  exact ⟨t, h.nox, q⟩
end
section
variable {X : Cx} {k : Nat} {f : Addr} {fd : FuncData} {ps ks : List Str} {sp : Sp} {x : Str} {st : Stmt} {p pos : Pos} {e : Expr} {es : List Expr} {kws : List Keyword} {t tk : TA}
theorem pe_callG (D : Df X.K X.mg x st ps f fd) (G : FnG X.prog X.w X.K X.mg X.base k f fd ps sp) (hr : Room k X.A) (hgd : X.A.guards = some []) (ha : PA X (e :: es) t) (hg : Gl X x := by rfl)
    (hdb : (x == ("__debug__" : Str)) = false := by decide) (he : starEach (e :: es) X.env = (false, eval e X.env) :: starEach es X.env := by rfl) (hpl : (backTo pos (starEach es X.env)).any (·.1) = false := by rfl) :
    PE X (.Call (.Name x p) (e :: es) [] pos) (fun σ H Q => t σ H fun vs H1 => sp vs H1 Q fun _ _ _ => False) := by
  refine ⟨fun pins s σ H Q I h => ?_⟩
  refine wpAny_Call_Name_kw (ld_glob I hg D.g ?_ hdb)
  refine PySem.W.callWith_K (h₀ := X.base) I.ok.mod.kin D.F.kp (thn (ha.run pos pins s σ H _ I h) fun us s1 ⟨vs, H1, I1, r, q⟩ => ⟨I1.kIn, ?_⟩) he hpl
  have hl : us.length = ps.length := by rw [← r.length]; exact G.len _ _ _ _ q
  refine wpAny_call (codeAny_mono (G.run X.A X.stack s1 H1 ⟨us, []⟩ us vs Q (fun _ _ _ => False) hr hgd I1.env0 (by
    have z := D.b s1 us I1.kIn (by rw [List.append_nil]; exact hl)
    rw [List.append_nil] at z
    exact z) r q) fun r s' hq => ?_)
  cases r with
  | error e => exact (show False from hq).elim
  | ok fl =>
    cases fl with
    | ret u => exact I1.after hq
    | next => exact False.elim hq
    | brk => exact False.elim hq
    | cont => exact False.elim hq
/-! ### f(k = v, ..), every argument by its name -/
theorem pe_callW {CX : CXT} {E : XK} {g : List Value → List Value → List Value} {gV : List V → List V → List V} (D : Df X.K X.mg x st ps f fd) (G : FnOk X.prog X.w X.K X.mg X.base CX k f fd ps sp) (hr : Room k X.A) (hb : KBn X.K fd ps 0 ks g gV) (hx : Passes CX X E) (hkw : PK X kws tk) (hg : Gl X x := by rfl)
    (hall : (backToKw pos (keywordEach kws X.env)).all (·.1.isSome) = true := by rfl) (hks : (backToKw pos (keywordEach kws X.env)).filterMap (·.1) = ks := by rfl) (hdb : (x == ("__debug__" : Str)) = false := by decide)
    (hpl : ((backTo pos (starEach [] X.env)).any (·.1) || (backToKw pos (keywordEach kws X.env)).any (·.1.isNone)) = false := by rfl) :
    PE X (.Call (.Name x p) [] kws pos) (fun σ H Q => tk σ H fun zs H1 => zs.length = ks.length ∧ sp (gV [] zs) H1 Q E) := by
  refine ⟨fun pins s σ H Q I h => ?_⟩
  refine wpAny_Call_Name_kw (ld_glob I hg D.g ?_ hdb)
  refine PySem.W.callWith_KW0 (h₀ := X.base) I.ok.mod.kin D.F.kp hall ?_ hpl
  refine thn (hkw.run pos pins s σ H _ I h) fun ws s2 ⟨zs, H2, I2, rz, l2, q2⟩ => ⟨I2.kIn, ?_⟩
  rw [hks]
  exact run_fnN (us := []) (vs := []) G hr hb hx I2 .nil rz rfl l2 q2
end
abbrev gR : List Value → List Value → List Value := fun _ ws => ws.reverse
abbrev gRV : List V → List V → List V := fun _ zs => zs.reverse
section
variable {K : PySem.W.Frag} {f : Addr} {fd : FuncData}
theorem kb_led (F : Fun K "led" "led" sLed f fd) : KBn K fd ["machine", "state", "row"] 0 ["row", "state", "machine"] gR gRV := by
  obtain ⟨oc, od, kV, doc, pm, an, cdv, ct, osl, rfl, lk, hcd⟩ := F.ex
  refine ⟨fun s us ws _ h0 h1 => .of_eq ?_, fun _ r => r.reverse⟩
  match us, ws, h0, h1 with
  | [], [_, _, _], _, _ => rfl
theorem kb_row (F : Fun K "check_row" "check_row" sRow f fd) : KBn K fd ["machine", "value"] 0 ["value", "machine"] gR gRV := by
  obtain ⟨oc, od, kV, doc, pm, an, cdv, ct, osl, rfl, lk, hcd⟩ := F.ex
  refine ⟨fun s us ws _ h0 h1 => .of_eq ?_, fun _ r => r.reverse⟩
  match us, ws, h0, h1 with
  | [], [_, _], _, _ => rfl
theorem kb_orbit (F : Fun K "orbit" "orbit" sOrbit f fd) : KBn K fd ["machine", "state"] 0 ["state", "machine"] gR gRV := by
  obtain ⟨oc, od, kV, doc, pm, an, cdv, ct, osl, rfl, lk, hcd⟩ := F.ex
  refine ⟨fun s us ws _ h0 h1 => .of_eq ?_, fun _ r => r.reverse⟩
  match us, ws, h0, h1 with
  | [], [_, _], _, _ => rfl
theorem kb_needS (F : Fun K "need_state" "need_state" sNeedS f fd) : KBn K fd ["machine", "state"] 0 ["state", "machine"] gR gRV := by
  obtain ⟨oc, od, kV, doc, pm, an, cdv, ct, osl, rfl, lk, hcd⟩ := F.ex
  refine ⟨fun s us ws _ h0 h1 => .of_eq ?_, fun _ r => r.reverse⟩
  match us, ws, h0, h1 with
  | [], [_, _], _, _ => rfl
theorem kb_needD (F : Fun K "need_deed" "need_deed" sNeedD f fd) : KBn K fd ["machine", "deed"] 0 ["deed", "machine"] gR gRV := by
  obtain ⟨oc, od, kV, doc, pm, an, cdv, ct, osl, rfl, lk, hcd⟩ := F.ex
  refine ⟨fun s us ws _ h0 h1 => .of_eq ?_, fun _ r => r.reverse⟩
  match us, ws, h0, h1 with
  | [], [_, _], _, _ => rfl
theorem kb_init (F : Fun K "__init__" "Machine.__init__" sMInit f fd) : KBn K fd ["self", "tables"] 1 ["tables"] (fun us ws => us ++ ws) (fun vs zs => vs ++ zs) := by
  obtain ⟨oc, od, kV, doc, pm, an, cdv, ct, osl, rfl, lk, hcd⟩ := F.ex
  refine ⟨fun s us ws _ h0 h1 => .of_eq ?_, fun r1 r => r1.append r⟩
  match us, ws, h0, h1 with
  | [_], [_], _, _ => rfl
end
/-! ### what the law finds step by step, and the orbit -/
theorem sub_len {α : Type} [DecidableEq α] : ∀ {a b : List α}, a.Nodup → (∀ x ∈ a, x ∈ b) → a.length ≤ b.length
  | [], _, _, _ => Nat.zero_le _
  | x :: a, b, nd, h => by
    obtain ⟨nx, na⟩ := List.nodup_cons.mp nd
    have hx : x ∈ b := h x List.mem_cons_self
    have ih := sub_len (b := b.erase x) na fun y hy => by
      have : y ≠ x := fun e => nx (e ▸ hy)
      exact (List.mem_erase_of_ne this).mpr (h y (List.mem_cons_of_mem _ hy))
    rw [List.length_erase_of_mem hx] at ih
    have : 0 < b.length := List.length_pos_of_mem hx
    simp only [List.length_cons]
    omega
theorem asc_nodup {l : List Int} (h : l.Pairwise (· < ·)) : l.Nodup := h.imp fun {a b} h => by intro e; omega
theorem asc_eq : ∀ {a b : List Int}, a.Pairwise (· < ·) → b.Pairwise (· < ·) → (∀ x, x ∈ a ↔ x ∈ b) → a = b
  | [], [], _, _, _ => rfl
  | [], y :: b, _, _, h => absurd ((h y).mpr List.mem_cons_self) (by simp)
  | x :: a, [], _, _, h => absurd ((h x).mp List.mem_cons_self) (by simp)
  | x :: a, y :: b, ha, hb, h => by
    obtain ⟨ax, ha'⟩ := List.pairwise_cons.mp ha
    obtain ⟨bx, hb'⟩ := List.pairwise_cons.mp hb
    have e : x = y := by
      rcases List.mem_cons.mp ((h x).mp List.mem_cons_self) with z | z
      · exact z
      · rcases List.mem_cons.mp ((h y).mpr List.mem_cons_self) with z' | z'
        · exact z'.symm
        · have := ax y z'
          have := bx x z
          omega
    subst e
    refine congrArg (List.cons x) (asc_eq ha' hb' fun z => ⟨fun hz => ?_, fun hz => ?_⟩)
    · rcases List.mem_cons.mp ((h z).mp (List.mem_cons_of_mem _ hz)) with e | e
      · have := ax z hz; omega
      · exact e
    · rcases List.mem_cons.mp ((h z).mpr (List.mem_cons_of_mem _ hz)) with e | e
      · have := bx z hz; omega
      · exact e
def Cl (ts : Ts) (F : List Int) : Prop := ∀ x ∈ F, ∀ d : Int, 0 ≤ d ∧ d < (ts.length : Int) → stp ts x d ∈ F
/-- the states found by j rounds -/
structure Fd (ts : Ts) (s : Int) (F : List Int) : Prop where
  asc : F.Pairwise (· < ·)
  st : s ∈ F
  rc : ∀ x ∈ F, Reach ts s x
theorem Fd.few {ts : Ts} (w : Wf ts) {s : Int} {F : List Int} (hs : 0 ≤ s ∧ s < (nS ts : Int)) (h : Fd ts s F) : F.length ≤ nS ts := nodup_le _ _ (asc_nodup h.asc) fun x hx => (h.rc x hx).rng w hs
theorem Fd.done {ts : Ts} {s : Int} {F ns : List Int} (h : Fd ts s F) (c : Cl ts F) (h1 : ns.Pairwise (· < ·)) (h2 : ∀ x, x ∈ ns ↔ Reach ts s x) : ns = F := asc_eq h1 h.asc fun x => by
  rw [h2]
  exact ⟨reach_closed h.st c, h.rc x⟩
/-- a round: F before, L after the first i tables -/
structure Rd (ts : Ts) (s : Int) (F : List Int) (i : Nat) (L : List Int) : Prop where
  fd : Fd ts s L
  sub : ∀ x ∈ F, x ∈ L
  im : ∀ x ∈ F, ∀ d : Int, 0 ≤ d ∧ d < (i : Int) → stp ts x d ∈ L
  cl : Cl ts F → ∀ x ∈ L, x ∈ F
theorem Rd.nil {ts : Ts} {s : Int} {F : List Int} (h : Fd ts s F) : Rd ts s F 0 F := ⟨h, fun _ h => h, fun _ _ d hd => by omega, fun _ _ h => h⟩
theorem Rd.next {ts : Ts} {s : Int} {F L L' : List Int} {i : Nat} (h : Rd ts s F i L) (hi : i < ts.length) (a : L'.Pairwise (· < ·)) (hm : ∀ x, x ∈ L' ↔ x ∈ L ∨ ∃ y ∈ L, x = stp ts y (i : Int)) : Rd ts s F (i + 1) L' := by
  refine ⟨⟨a, (hm s).mpr (.inl h.fd.st), fun x hx => ?_⟩, fun x hx => (hm x).mpr (.inl (h.sub x hx)), fun x hx d hd => (hm _).mpr ?_, fun c x hx => ?_⟩
  · rcases (hm x).mp hx with z | ⟨y, hy, rfl⟩
    · exact h.fd.rc x z
    · exact .step (h.fd.rc y hy) (by omega)
  · by_cases e : d = (i : Int)
    · rw [e]; exact .inr ⟨x, h.sub x hx, rfl⟩
    · exact .inl (h.im x hx d (by omega))
  · rcases (hm x).mp hx with z | ⟨y, hy, rfl⟩
    · exact h.cl c x z
    · exact c y (h.cl c y hy) _ (by omega)
theorem Rd.round {ts : Ts} {s : Int} {F L : List Int} {j : Nat} (h0 : Fd ts s F) (h : Rd ts s F ts.length L) (hF : Cl ts F ∨ j + 1 ≤ F.length) : Cl ts L ∨ j + 2 ≤ L.length := by
  by_cases c : Cl ts F
  · exact .inl fun x hx d hd => h.sub _ (c x (h.cl c x hx) d hd)
  · have hj := hF.resolve_left c
    refine .inr ?_
    unfold Cl at c
    simp only [Classical.not_forall] at c
    obtain ⟨x, hx, d, hd, hn⟩ := c
    have h1 : stp ts x d ∈ L := h.im x hx d hd
    have := sub_len (a := stp ts x d :: F) (b := L) (List.nodup_cons.mpr ⟨hn, asc_nodup h0.asc⟩) fun y hy => by
      rcases List.mem_cons.mp hy with e | e
      · rw [e]; exact h1
      · exact h.sub y e
    simp only [List.length_cons] at this
    omega
end K1
namespace K1
open PySem PySem.Spec PyProof.Rows L2
structure Dt (P : Program) (w : World) (K : PySem.W.Frag) (mg : Str → Option Value) (base : Heap) (M CM CR CS CD : Addr) : Prop where
  dn : Dn P w K mg base M CM CR CS CD
  ini : ∃ f fd, Fun K "__init__" "Machine.__init__" sMInit f fd ∧ Mk K M f ∧ Binds K fd ["self", "tables"] [] ∧ FnOk P w K mg base (L2.CX P w) 6 f fd ["self", "tables"] (spMInit K CM M)
  run : ∃ f fd, Df K mg "_law_run" sRun ["_law_tables_here", "_law_start", "_law_log_here"] f fd ∧ FnOk P w K mg base CX0 1 f fd ["_law_tables_here", "_law_start", "_law_log_here"] spRun
  eq : ∃ f fd, PySem.W.findIn K (.ref M) "__eq__" = some (some (.ref f)) ∧ PySem.W.isFn K (.ref f) = true ∧ Binds K fd ["self", "other"] [] ∧ FnOk P w K mg base CX0 1 f fd ["self", "other"] (spMEq M)
  nf : PySem.W.notFirst K M (.type "tuple") = true
  B : Bt mg
def spTold : Sp := fun vs H Q _ => ∃ (b p : Addr) (ts : Ts), vs = [.ref b, .ref p] ∧ BoxO H b ∧ TabL H p (vts ts) ∧ p ≠ b ∧ Wf ts ∧ nS ts ≤ 5 ∧ ts.length ≤ 4 ∧ ∀ H', Bx b H H' → Q (.bl true) H'
abbrev nTo : List Str := ["_law_box_here", "_law_tables_here", "_law_table", "_law_handed", "_law_many", "_law_machine", "_law_first", "_law_turn", "_law_row", "_law_state", "_law_due", "_law_found", "_law_more", "_law_told", "_law_here"]
theorem scTo : FnScope nTo ["_law_box_here", "_law_tables_here"] (defScope sTold) := ⟨rfl, rfl, rfl, by decide +kernel, rfl, by decide +kernel, by decide +kernel⟩
def bodyOf : Stmt → List Stmt | .For _ _ b _ _ => b | _ => []
abbrev sTurn : List Stmt := bodyOf ((defBody sTold).getD 6 (.Pass ⟨0, 0, 0, 0⟩))
theorem neV {x : V} {Q : VK} {H : Hp} (hs : scal x x = true) (q : Q (.bl false) H) : rNe x x H Q := ⟨hs, qbl (by rw [decide_eq_true rfl]; rfl) q⟩
theorem log_sm {i : Int} (h0 : 0 ≤ i) (h1 : i ≤ 1000) : i.natAbs.log2 < 1920 := by
  by_cases z : i.natAbs = 0
  · rw [z]; decide
  · have : i.natAbs.log2 < 10 := (Nat.log2_lt z).mpr (by omega)
    omega
theorem reprI {i : Int} {H : Hp} {Q : VK} (h0 : 0 ≤ i) (h1 : i ≤ 1000) (q : Q (.str (toString i)) H) : rReprS [.int i] H Q := ⟨_, rfl, .inr (.inr (.inl ⟨i, rfl, log_sm h0 h1, q⟩))⟩
theorem pl_row {t : List Int} {n : Nat} (hl : t.length ≤ 1000) (h : ∀ i ∈ t, 0 ≤ i ∧ i < (n : Int)) (hn : n ≤ 1000) : Pl (.tuple (dI t)) 1 65000 :=
  (Pl.tuple (pla_ints t fun i hi => by have := h i hi; omega)).mono (Nat.le_refl _) (by have : t.length * 65 ≤ 1000 * 65 := Nat.mul_le_mul_right _ hl; omega)
theorem reprP {K : PySem.W.Frag} {p : Addr} {d : PyData} {n w : Nat} {H : Hp} {Q : VK} (hd : Dp K H (.ref p) d) (pl : Pl d n w) (hn : n ≤ 40) (hw : w ≤ 100000) (q : Q (.str d.shown) H) : rRepr K [.ref p] H Q := ⟨p, d, rfl, hd, pl.sh, pl.nd, Nat.le_trans pl.dp hn, pl.short hw, q⟩
theorem eqP {K : PySem.W.Frag} {p p2 : Addr} {d : PyData} {n w : Nat} {H : Hp} {Q : VK} (h1 : Dp K H (.ref p) d) (h2 : Dp K H (.ref p2) d) (pl : Pl d n w) (hn : n ≤ 40) (q : Q (.bl false) H) : rNeD K (.ref p) (.ref p2) H Q :=
  ⟨d, d, h1, h2, pl.shaped hn, pl.shaped hn, qbl (by rw [SeqAt.eqv_refl _ pl.lay]; rfl) q⟩
theorem rowF_in {row : List Int} {n : Nat} (hl : row.length ≤ 10000) (h : ∀ d ∈ row, 0 ≤ d ∧ d < (n : Int)) : rowF (some (vrow row)) (n : Int) = .non := by
  unfold rowF
  rw [if_pos (by
    show (decide ((0 : Int) ≤ ((vrow row).length : Int)) && decide (((vrow row).length : Int) ≤ 10000)) = true
    rw [vrow, List.length_map, decide_eq_true (by omega), decide_eq_true (by omega)]; rfl)]
  refine fnb_all fun x hx => ?_
  obtain ⟨i, hi, rfl⟩ := List.mem_map.mp hx
  obtain ⟨h1, h2⟩ := h i hi
  show (decide (0 ≤ i) && decide (i < (n : Int))) = true
  rw [decide_eq_true h1, decide_eq_true h2]; rfl
theorem kinds_row {K : PySem.W.Frag} {H : Hp} {row : List Int} : ∀ ys, some (vrow row) = some ys → Kinds K H ys := fun ys e y hy => by
  obtain rfl := Option.some.inj e
  obtain ⟨j, _, rfl⟩ := List.mem_map.mp hy
  exact ⟨_, .int j⟩
theorem below_in {i : Int} {n : Nat} (h : 0 ≤ i ∧ i < (n : Int)) : belowB (.int i) (n : Int) = true := by
  show (decide (0 ≤ i) && decide (i < (n : Int))) = true
  rw [decide_eq_true h.1, decide_eq_true h.2]; rfl
section
variable {P : Program} {w : World} {K : PySem.W.Frag} {mg : Str → Option Value} {base : Heap}
theorem told_turn {f M CM CR CS CD : Addr} {cdv : Value} {A : Around} {outer : List Env} {s : Shared} {H₀ : Hp} {E : XK} (hr : Room 7 (A.deeper (envOfC "_law_told_right" (defScope sTold) s.heap.objs.size f cdv))) (hgd : (A.deeper (envOfC "_law_told_right" (defScope sTold) s.heap.objs.size f cdv)).guards = some []) (dt : Dt P w K mg base M CM CR CS CD) :
    ∃ t, PSs (cxOf CX0 P w K mg base nTo "_law_told_right" (defScope sTold) f cdv A outer s H₀ E).nox sTurn t ∧
      ∀ (D : Ends) (H : Hp) (b p m ta : Addr) (ts : Ts) (v2 v3 v6 v7 v8 v9 v10 v11 v12 v13 v14 : Option V), BoxO H b → TabL H p (vts ts) → p ≠ b → Wf ts → nS ts ≤ 5 → ts.length ≤ 4 → MachAt M H m ta (vts ts) →
        (∀ H' w2 w8 w9 w10 w11 w12, Bx b H H' → D.nx [some (.ref b), some (.ref p), w2, v3, some (.int (nS ts : Int)), some (.ref m), v6, v7, w8, w9, w10, w11, w12, v13, v14] H') →
        t D [some (.ref b), some (.ref p), v2, v3, some (.int (nS ts : Int)), some (.ref m), v6, v7, v8, v9, v10, v11, v12, v13, v14] H := by
  have B := dt.B
  have dn := dt.dn
  have TM := dn.T
  obtain ⟨fT, fdT, DT, GT⟩ := dn.take
  obtain ⟨fL, fdL, DL, GL⟩ := dn.log
  obtain ⟨fR, fdR, DR, GR⟩ := dn.row
  obtain ⟨fE, fdE, DE, GE⟩ := dn.led
  obtain ⟨fO, fdO, DO, GO⟩ := dn.orbit
  obtain ⟨fS, fdS, DS, GS⟩ := dn.needS
  obtain ⟨fD, fdD, DD, GD⟩ := dn.needD
  obtain ⟨fI, fdI, FI, MI, BI, GI⟩ := dt.ini
  obtain ⟨fU, fdU, DU, GU⟩ := dt.run
  obtain ⟨fQ, fdQ, Q1, Q2, Q3, Q4⟩ := dt.eq
  have hu : (A.deeper (envOfC "_law_told_right" (defScope sTold) s.heap.objs.size f cdv)).units + 64 < cLine := hr.units
  have r1 := hr.mono (show 1 ≤ 7 by decide)
  have r2 := hr.mono (show 2 ≤ 7 by decide)
  have r3 := hr.mono (show 3 ≤ 7 by decide)
  have r4 := hr.mono (show 4 ≤ 7 by decide)
  have r5 := hr.mono (show 5 ≤ 7 by decide)
  have r6 := hr.mono (show 6 ≤ 7 by decide)
  refine ⟨_, pss_cons (ps_par (i := 8) (j := 9) rfl scTo.nd rfl rfl (by decide) rfl rfl (pa_cons (pc DL GL r2 pass0 (pa_cons (pv 0) (pa_cons (pv 1) (pa_cons pe_int pa_nil)))) (pa_cons (pc DT GT r1 pass0 (pa_cons (pv 0) (pa_cons (pv 4) pa_nil))) pa_nil)) rfl)
        (pss_cons (ps_set (i := 10) scTo.nd rfl (.inl rfl) (pe_ix ix_list (pc DU GU r1 pass0 (pa_cons (pv 1) (pa_cons (pv 9) (pa_cons (pv 8) pa_nil)))) (pe_un un_neg pe_int) (fun _ _ => rfl)))
        (pss_cons (ps_if (PW.pt (pw_or (pt_cmpR op_ne (pe_callB call_reprS (by rfl) B.repr (by decide +kernel) (pa_cons (pc DE GE r6 passF (pa_cons (pv 5) (pa_cons (pv 9) (pa_cons (pv 8) pa_nil)))) pa_nil)) (pe_callB call_reprS (by rfl) B.repr (by decide +kernel) (pa_cons (pv 10) pa_nil)) (nomark _))
            (pw_or1 (pt_cmpR op_ne (pe_callW DE GE r6 (kb_led DE.F) passF (pk_cons (pe_callTy call_list_of (by rfl) B.list PyProof.Rows.boot_list (pa_cons (pv 8) pa_nil)) (pk_cons (pv 9) (pk_cons (pv 5) pk_nil)))) (pv 10) (nomark _))))) (pss_one (ps_ret pe_bl)) pss_nil)
        (pss_cons (ps_if (PW.pt (pw_or (pt_cmpR op_ne (pe_callB (call_repr hgd hu) (by rfl) B.repr (by decide +kernel) (pa_cons (pc DR GR r5 passF (pa_cons (pv 5) (pa_cons (pe_callTy call_list_of (by rfl) B.list PyProof.Rows.boot_list (pa_cons (pv 8) pa_nil)) pa_nil))) pa_nil)) (pe_callB (call_repr hgd hu) (by rfl) B.repr (by decide +kernel) (pa_cons (pv 8) pa_nil)) (nomark _))
            (pw_or1 (pt_cmpR (neD (K := K) rfl hu) (pe_callW DR GR r5 (kb_row DR.F) passF (pk_cons (pv 8) (pk_cons (pv 5) pk_nil))) (pv 8) (nomark _))))) (pss_one (ps_ret pe_bl)) pss_nil)
        (pss_cons (ps_set (i := 11) scTo.nd rfl (.inl rfl) (pe_lst (pa_cons (pv 9) pa_nil)))
        (pss_cons (ps_for PassesOwn.never rfl (pi_range1 (by rfl) B.range (pa_cons (pv 4) pa_nil)) (pg_name (i := 12) scTo.nd rfl (.inl rfl))
          (pss_one (ps_for PassesOwn.never rfl (pi_list (pv 1)) (pg_name (i := 2) scTo.nd rfl (.inr rfl))
            (pss_one (ps_set (i := 11) scTo.nd rfl (.inl rfl) (pe_callB (cr_sortedSet rfl) (by rfl) B.sorted PyProof.Rows.boot_sorted (pa_cons (pe_callTy (cr_setI rfl) (by rfl) B.set (by decide +kernel) (pa_cons (pe_op op_cat (pv 11)
              (pe_lc (own := [("_law_here", 14)]) (g := gName 14) (tt := tYes) rfl scTo.nd (pi_list (pv 11)) (blkOk_by (N := nTo) (sc := defScope sTold) (by decide +kernel)) (fun _ _ _ _ _ => pg_name (i := 14) scTo.nd rfl (Or.inl rfl)) (fun _ _ _ _ _ => pts_nil)
                (fun _ _ _ _ _ => pe_ix (ixTK (K := K) rfl) (pv 2) (pv 14) (fun _ _ => rfl)))) pa_nil)) pa_nil)))))))
        (pss_one (ps_if (PW.pt (pw_or (pt_cmpR op_ne (pe_callB (call_repr hgd hu) (by rfl) B.repr (by decide +kernel) (pa_cons (pc DO GO r4 passF (pa_cons (pv 5) (pa_cons (pv 9) pa_nil))) pa_nil)) (pe_callB (call_repr hgd hu) (by rfl) B.repr (by decide +kernel) (pa_cons (pe_callTy call_tuple_of (by rfl) B.tuple PyProof.Rows.boot_tuple (pa_cons (pv 11) pa_nil)) pa_nil)) (nomark _))
            (pw_or1 (pt_cmpR (neD (K := K) rfl hu) (pe_callW DO GO r4 (kb_orbit DO.F) passF (pk_cons (pv 9) (pk_cons (pv 5) pk_nil))) (pe_callTy call_tuple_of (by rfl) B.tuple PyProof.Rows.boot_tuple (pa_cons (pv 11) pa_nil)) (nomark _))))) (pss_one (ps_ret pe_bl)) pss_nil))))))), fun D H b p m ta ts v2 v3 v6 v7 v8 v9 v10 v11 v12 v13 v14 hb tl npb hW hn5 hl4 hM q => ?_⟩
  refine ⟨_, rfl, _, rfl, b, p, 8, ts, rfl, hb, tl, npb, hW.t1, hW.t8, by decide, by decide, fun r row H1 bx1 _ hr1 hrow hrl => ?_⟩
  refine ⟨_, rfl, _, rfl, b, _, rfl, bx1.1, by have := hW.s1; omega, by omega, fun st H2 st0 st1 bx2 => ⟨_, _, rfl, ?_⟩⟩
  have hst : 0 ≤ st ∧ st < (nS ts : Int) := ⟨st0, st1⟩
  have bx := bx1.trans bx2
  have tl2 := tl.bx npb hb bx
  have hM2 := hM.bx hb bx
  have hr2 := bx2.tup bx1.1 hr1
  have hrl' : row.length ≤ 8 := by omega
  have hrun := hW.run row st hrow hst
  have rf := rowF_in (n := ts.length) (by omega) hrow
  refine ⟨_, rfl, _, rfl, _, rfl, p, r, st, ts, row, rfl, tl2, hW, hst, hr2, hrow, by omega, fun l ns H3 s3 hl3 => ⟨1, rfl, l, _, -1, _, rfl, rfl, SqL.of hl3, atI_last _ _, ?_⟩⟩
  have BX := bx.same s3
  have hr3 := s3 _ _ hr2
  have hM3 := hM2.same s3
  have tl3 := tl2.same s3
  clear bx1 bx2 hr1 hr2 hM2 tl2 bx
  -- led
  refine ⟨_, rfl, _, rfl, _, rfl, m, ta, ts, .int st, .ref r, rfl, hM3, hW, ⟨_, .int st⟩, fun e => (by rw [below_in hst] at e; cases e), fun _ => ⟨st, some (vrow row), rfl, ⟨.tup hr3, kinds_row⟩, fun hne => absurd rf hne, fun _ => ⟨row, rfl, fun H4 s4 => ?_⟩⟩⟩
  refine nilP (reprI hrun.1 (by omega) ⟨_, rfl, nilP (reprI hrun.1 (by omega) (neV rfl ⟨_, rfl, iteF ?_⟩))⟩)
  replace BX := BX.same s4
  have hr4 := s4 _ _ hr3
  have hM4 := hM3.same s4
  have tl4 := tl3.same s4
  clear hr3 hM3 tl3 s4 hl3 s3
  refine ⟨_, rfl, r, _, rfl, .inr (SqT.of hr4), fun l1 hl1 => ⟨_, rfl, _, rfl, rfl, m, ta, ts, .int st, .ref l1, rfl, hM4.same (same_new hl1), hW, ⟨_, .int st⟩, fun e => (by rw [below_in hst] at e; cases e), fun _ => ⟨st, some (vrow row), rfl, ⟨.lst upd_same, kinds_row⟩, fun hne => absurd rf hne, fun _ => ⟨row, rfl, fun H5 s5 => ?_⟩⟩⟩⟩
  refine ⟨_, rfl, neV rfl ⟨_, rfl, iteF ?_⟩⟩
  have s45 := (same_new (o := HO.lst (vrow row)) hl1).trans s5
  replace BX := BX.same s45
  have hr5 := s45 _ _ hr4
  have hM5 := hM4.same s45
  have tl5 := tl4.same s45
  clear hr4 hM4 tl4 s45 s5 hl1
  -- check_row
  have plr : Pl (.tuple (dI row)) 1 65000 := pl_row (n := ts.length) (by omega) hrow (by omega)
  refine ⟨_, rfl, _, rfl, r, _, rfl, .inr (SqT.of hr5), fun l2 hl2 => ⟨m, ta, ts, .ref l2, some (vrow row), rfl, hM5.same (same_new hl2), ⟨.lst upd_same, kinds_row⟩, fun hne => absurd rf hne, fun _ xs ex p1 H6 s6 hp1 => ?_⟩⟩
  obtain rfl := Option.some.inj ex
  have s56 := (same_new (o := HO.lst (vrow row)) hl2).trans s6
  replace BX := BX.same s56
  have hr6 := s56 _ _ hr5
  have hM6 := hM5.same s56
  have tl6 := tl5.same s56
  refine nilP (reprP (dp_tup hp1) plr (by decide) (by decide) ⟨_, rfl, nilP (reprP (dp_tup hr6) plr (by decide) (by decide) (neV rfl ⟨_, rfl, iteF ?_⟩))⟩)
  clear hr5 hM5 tl5 s56 s6 hl2
  refine ⟨_, rfl, _, rfl, rfl, m, ta, ts, .ref r, some (vrow row), rfl, hM6, ⟨.tup hr6, kinds_row⟩, fun hne => absurd rf hne, fun _ xs ex p2 H7 s7 hp2 => ⟨_, rfl, ?_⟩⟩
  obtain rfl := Option.some.inj ex
  refine eqP (dp_tup hp2) (dp_tup (s7 _ _ hr6)) plr (by decide) ⟨_, rfl, iteF ?_⟩
  replace BX := BX.same s7
  have hM7 := hM6.same s7
  have tl7 := tl6.same s7
  clear hr6 hM6 tl6 s7
  -- found
  refine ⟨_, rfl, (by show 1 ≤ sizeLine; decide), fun fl hfl => ?_⟩
  have bb : BoxO (upd H7 fl (.lst [.int st])) b := BX.1.same (same_new hfl)
  have nfl : fl ≠ b := BX.ne hfl
  have sF := same_new (o := HO.lst [V.int st]) hfl
  have hM8 := hM7.same sF
  have tl8 := tl7.same sF
  have BX8 := BX.same sF
  have hfl8 : (upd H7 fl (.lst [.int st])) fl = some (.lst ([st].map V.int)) := upd_same
  generalize upd H7 fl (.lst [.int st]) = H8 at bb hM8 tl8 BX8 hfl8 ⊢
  obtain ⟨as, h1, h2, h3⟩ := id tl8
  have las : as.length = ts.length := by rw [h2, vts, List.length_map]
  have fd0 : Fd ts st [st] := ⟨List.pairwise_singleton _ _, List.mem_singleton.mpr rfl, fun x hx => by rw [List.mem_singleton.mp hx]; exact .refl⟩
  refine ⟨_, rfl, (nS ts : Int), rfl, by omega, by omega, for_range (fun j σ H' => ∃ (fa : Addr) (F : List Int) (w2 w12 : Option V), σ = [some (.ref b), some (.ref p), w2, v3, some (.int (nS ts : Int)), some (.ref m), v6, v7, some (.ref r), some (.int st), some (.int (run ts st row)), some (.ref fa), w12, v13, v14] ∧ Same H8 H' ∧ H' fa = some (.lst (F.map V.int)) ∧ Fd ts st F ∧ (Cl ts F ∨ j + 1 ≤ F.length))
    ⟨fl, [st], v2, v12, rfl, fun _ _ e => e, hfl8, fd0, .inr (Nat.le_refl _)⟩ ?_ ?_⟩
  · rintro j σ H9 hj ⟨fa, F, w2, w12, rfl, s9, hfa, fdF, hF⟩
    refine ⟨_, rfl, p, rfl, ⟨_, SqL.of (s9 _ _ h1)⟩, for_list (K := K) (a := p) (xs := as.map V.ref) (fun i σ H' => ∃ (fa : Addr) (L : List Int) (w2 : Option V), σ = [some (.ref b), some (.ref p), w2, v3, some (.int (nS ts : Int)), some (.ref m), v6, v7, some (.ref r), some (.int st), some (.int (run ts st row)), some (.ref fa), some (.int (0 + (j : Int))), v13, v14] ∧ Same H8 H' ∧ H' fa = some (.lst (L.map V.int)) ∧ Rd ts st F i L)
      ⟨fa, F, w2, rfl, s9, hfa, .nil fdF⟩ (fun i σ H' _ ⟨_, _, _, _, s, _⟩ => SqL.of (s _ _ h1)) ?_ ?_⟩
    · rintro i x σ H10 hx ⟨fb, L, w2', rfl, s10, hfb, rd⟩
      have hi : i < as.length := by have := (List.getElem?_eq_some_iff.mp hx).1; rw [List.length_map] at this; exact this
      have hx' : x = V.ref as[i] := by
        rw [List.getElem?_map, List.getElem?_eq_getElem hi] at hx
        exact (Option.some.inj hx).symm
      subst hx'
      obtain ⟨t, et⟩ : ∃ t, ts[i]? = some t := ⟨ts[i]'(by omega), List.getElem?_eq_getElem _⟩
      have hta := s10 _ _ (h3 i as[i] (vrow t) (List.getElem?_eq_getElem hi) (by rw [vts, List.getElem?_map, et]; rfl))
      have hL5 : L.length ≤ 5 := Nat.le_trans (rd.fd.few hW hst) hn5
      refine ⟨_, rfl, _, rfl, fb, rfl, ⟨_, SqL.of hfb⟩, fun D0 hD0 => lc_list (K := K) (a := fb) (xs := L.map V.int) (fun k H' => Same H10 H' ∧ H' D0 = some (.lst (((L.take k).map fun y => stp ts y (i : Int)).map V.int))) ⟨same_new hD0, upd_same⟩ (fun k H' _ ⟨s, _⟩ => SqL.of (s _ _ hfb)) ?_ ?_⟩
      · rintro k y H11 hy ⟨s11, hD⟩
        obtain ⟨z, hz, rfl⟩ : ∃ z, L[k]? = some z ∧ y = V.int z := by
          rw [List.getElem?_map] at hy
          cases e : L[k]? with
          | none => rw [e] at hy; cases hy
          | some z => rw [e] at hy; exact ⟨z, rfl, (Option.some.inj hy).symm⟩
        have hzr := (rd.fd.rc z (List.mem_of_getElem? hz)).rng hW hst
        obtain ⟨t', e1, e2, _⟩ := hW.at_ (d := (i : Int)) (by omega) hzr
        obtain rfl : t = t' := by
          have e1' : ts[i]? = some t' := by simpa using e1
          rw [et] at e1'
          exact Option.some.inj e1'
        refine ⟨rfl, _, rfl, _, rfl, as[i], _, z, .int (stp ts z (i : Int)), rfl, rfl, SqT.of (s11 _ _ hta), at_of (j := z.toNat) (by omega) (by rw [vrow, List.getElem?_map, e2]; rfl), _, hD, by rw [List.length_map, List.length_map, List.length_take, sizeLine_eq]; omega, ?_, ?_⟩
        · intro c o e
          rw [upd_ne (ne_of_none e hD0)]
          exact s11 _ _ e
        · rw [upd_same, take_succ hz, List.map_append, List.map_append]; rfl
      · rintro H11 ⟨s11, hD⟩
        rw [List.length_map, List.take_length] at hD
        refine ⟨fb, D0, _, _, rfl, rfl, s11 _ _ hfb, hD, by rw [List.length_map, List.length_map, List.length_map, sizeLine_eq]; omega, fun c1 hc1 => ?_⟩
        refine ⟨c1, L ++ L.map (fun y => stp ts y (i : Int)), rfl, SqL.of (by rw [upd_same, List.map_append]), by rw [List.length_append, List.length_map]; omega, fun s1 c hs1 hc => ?_⟩
        refine ⟨s1, _, c, rfl, upd_same, by rw [List.length_append, List.length_map] at hc; omega, fun ns p3 asc mem len hp3 => ?_⟩
        refine ⟨p3, ns, _, rfl, s10.trans (s11.trans ((same_new hc1).trans ((same_new hs1).trans (same_new hp3)))), upd_same, rd.next (by omega) asc fun x => ?_⟩
        rw [mem, decide_eq_true_iff, List.mem_append, List.mem_map]
        constructor
        · rintro (z | ⟨y, hy, e⟩)
          · exact .inl z
          · exact .inr ⟨y, hy, e.symm⟩
        · rintro (z | ⟨y, hy, e⟩)
          · exact .inl z
          · exact .inr ⟨y, hy, e.symm⟩
    · rintro σ H10 ⟨fb, L, w2', rfl, s10, hfb, rd⟩
      rw [List.length_map, las] at rd
      exact ⟨fb, L, w2', _, rfl, s10, hfb, rd.fd, Rd.round fdF rd hF⟩
  · rintro σ H9 ⟨fa, F, w2, w12, rfl, s9, hfa, fdF, hF⟩
    have hcl : Cl ts F := hF.resolve_right fun z => by
      have := fdF.few hW hst
      simp only [Int.toNat_natCast] at z
      omega
    replace BX := BX8.same s9
    have hM9 := hM8.same s9
    have hF5 : F.length ≤ 5 := Nat.le_trans (fdF.few hW hst) hn5
    have plF : Pl (.tuple (dI F)) 1 65000 := pl_row (n := nS ts) (by omega) (fun i hi => (fdF.rc i hi).rng hW hst) (by omega)
    refine ⟨_, rfl, _, rfl, m, ta, ts, .int st, rfl, hM9, hW, ⟨_, .int st⟩, fun e => (by rw [below_in hst] at e; cases e), fun _ => ⟨st, rfl, fun ns p1 H10 s10 asc mem hp1 => ?_⟩⟩
    obtain rfl := fdF.done hcl asc mem
    refine nilP (reprP (dp_tup hp1) plF (by decide) (by decide) ⟨_, rfl, fa, _, rfl, .inl ⟨SqL.of (s10 _ _ hfa), fun t1 ht1 => nilP (reprP (dp_tup upd_same) plF (by decide) (by decide) (neV rfl ⟨_, rfl, iteF ?_⟩))⟩⟩)
    have s11 := s10.trans (same_new (o := HO.tup (vrow ns)) ht1)
    refine ⟨_, rfl, _, rfl, rfl, m, ta, ts, .int st, rfl, hM9.same s11, hW, ⟨_, .int st⟩, fun e => (by rw [below_in hst] at e; cases e), fun _ => ⟨st, rfl, fun ns2 p2 H12 s12 asc2 mem2 hp2 => ?_⟩⟩
    obtain rfl := fdF.done hcl asc2 mem2
    refine ⟨_, rfl, fa, _, rfl, .inl ⟨SqL.of (s12 _ _ (s11 _ _ hfa)), fun t2 ht2 => eqP (dp_tup ((same_new ht2) _ _ hp2)) (dp_tup upd_same) plF (by decide) ⟨_, rfl, iteF ?_⟩⟩⟩
    exact q _ _ _ _ _ _ _ (BX.same (s11.trans (s12.trans (same_new ht2))))
end
end K1
namespace K1
open PySem PySem.Spec PyProof.Rows L2
theorem MachAt.putL {M : Addr} {H : Hp} {m ta l : Addr} {o : HO} {xs : List V} {ts : List (List V)} (h : MachAt M H m ta ts) (hl : H l = some (.lst xs)) : MachAt M (upd H l o) m ta ts := by
  obtain ⟨⟨dx, t0, h0, h1⟩, as, k1, k2, k3⟩ := h
  have ne : ∀ c u, H c = some u → (∀ ys, u ≠ .lst ys) → c ≠ l := fun c u e n z => by
    rw [z, hl] at e
    exact n _ (Option.some.inj e).symm
  refine ⟨⟨dx, t0, h0, by rw [upd_ne (ne _ _ h1 fun ys => by intro z; cases z)]; exact h1⟩, as, by rw [upd_ne (ne _ _ k1 fun ys => by intro z; cases z)]; exact k1, k2, fun i a t e1 e2 => ?_⟩
  have k := k3 i a t e1 e2
  rw [upd_ne (ne _ _ k fun ys => by intro z; cases z)]
  exact k
/-- the rows handed over: new lists -/
structure HL (H H' : Hp) (hd : Addr) (ts : Ts) (n : Nat) (ls : List Addr) : Prop where
  at_ : H' hd = some (.lst (ls.map V.ref))
  fr : H hd = none
  len : ls.length = n
  row : ∀ (i : Nat) l t, ls[i]? = some l → ts[i]? = some t → H' l = some (.lst (vrow t))
  new : ∀ l ∈ ls, H l = none
theorem HL.same {H H' H2 : Hp} {hd : Addr} {ts : Ts} {n : Nat} {ls : List Addr} (h : HL H H' hd ts n ls) (s : Same H' H2) : HL H H2 hd ts n ls := ⟨s _ _ h.at_, h.fr, h.len, fun i l t e1 e2 => s _ _ (h.row i l t e1 e2), h.new⟩
theorem HL.bx {b : Addr} {H H' H2 : Hp} {hd : Addr} {ts : Ts} {n : Nat} {ls : List Addr} (h : HL H H' hd ts n ls) (hb : BoxO H b) (s : Bx b H' H2) : HL H H2 hd ts n ls :=
  ⟨s.2 _ _ h.at_ (hb.nn h.fr), h.fr, h.len, fun i l t e1 e2 => s.2 _ _ (h.row i l t e1 e2) (hb.nn (h.new l (List.mem_of_getElem? e1))), h.new⟩
theorem HL.rws {K : PySem.W.Frag} {H H' : Hp} {hd : Addr} {ts : Ts} {ls : List Addr} (h : HL H H' hd ts ts.length ls) : Rws K H' (ls.map V.ref) ((vts ts).map some) := by
  refine ⟨by rw [List.length_map, List.length_map, vts, List.length_map, h.len], fun i x r e1 e2 => ?_⟩
  have hi : i < ls.length := by have := (List.getElem?_eq_some_iff.mp e1).1; rw [List.length_map] at this; exact this
  have hi2 : i < ts.length := by rw [← h.len]; exact hi
  rw [List.getElem?_map, List.getElem?_eq_getElem hi] at e1
  rw [vts, List.map_map, List.getElem?_map, List.getElem?_eq_getElem hi2] at e2
  obtain rfl : V.ref ls[i] = x := Option.some.inj e1
  obtain rfl : some (vrow ts[i]) = r := Option.some.inj e2
  exact ⟨.lst (h.row i _ _ (List.getElem?_eq_getElem hi) (List.getElem?_eq_getElem hi2)), fun ys e => kinds_row ys e⟩
theorem ixN0 {n : Nat} (h : 0 < n) : ixN n 0 = some 0 := by
  unfold ixN
  simp [h]
def dMa (ts : Ts) : PyData := .list [.int (ts.length : Int), .int (nS ts : Int), dT ts]
theorem pl_dMa {ts : Ts} (w : Wf ts) : Pl (dMa ts) 3 20000 :=
  (Pl.list (PlA.cons (Pl.int (by have := w.t8; omega)) (PlA.cons (Pl.int (by have := w.s12; omega)) (PlA.cons w.few.pl PlA.nil)))).mono (by decide) (by decide)
theorem pl_tf : Pl (.list [.bool true, .bool false]) 1 20 := (Pl.list (PlA.cons (Pl.bl true) (PlA.cons (Pl.bl false) PlA.nil))).mono (by decide) (by decide)
section
variable {P : Program} {w : World} {K : PySem.W.Frag} {mg : Str → Option Value} {base : Heap}
theorem ok_told {f M CM CR CS CD : Addr} {fd : FuncData} (D : Df K mg "_law_told_right" sTold ["_law_box_here", "_law_tables_here"] f fd) (dt : Dt P w K mg base M CM CR CS CD) :
    FnG P w K mg base 8 f fd ["_law_box_here", "_law_tables_here"] spTold := by
  have B := dt.B
  have dn := dt.dn
  have TM := dn.T
  obtain ⟨fT, fdT, DT, GT⟩ := dn.take
  obtain ⟨fL, fdL, DL, GL⟩ := dn.log
  obtain ⟨fR, fdR, DR, GR⟩ := dn.row
  obtain ⟨fE, fdE, DE, GE⟩ := dn.led
  obtain ⟨fO, fdO, DO, GO⟩ := dn.orbit
  obtain ⟨fS, fdS, DS, GS⟩ := dn.needS
  obtain ⟨fD, fdD, DD, GD⟩ := dn.needD
  obtain ⟨fI, fdI, FI, MI, BI, GI⟩ := dt.ini
  obtain ⟨fU, fdU, DU, GU⟩ := dt.run
  obtain ⟨fQ, fdQ, Q1, Q2, Q3, Q4⟩ := dt.eq

  refine okG D.F scTo (fun vs H Q E h => ?_) (fun cdv A outer s H vs Q E hr hgd h => ?_)
  · obtain ⟨b, p, ts, rfl, _⟩ := h
    rfl
  · obtain ⟨b, p, ts, rfl, hb, tl, npb, hW, hn5, hl4, q⟩ := h
    have hu : (A.deeper (envOfC "_law_told_right" (defScope sTold) s.heap.objs.size f cdv)).units + 64 < cLine := hr.units
    have r1 := hr.mono (show 1 ≤ 7 by decide)
    have r2 := hr.mono (show 2 ≤ 7 by decide)
    have r3 := hr.mono (show 3 ≤ 7 by decide)
    have r4 := hr.mono (show 4 ≤ 7 by decide)
    have r5 := hr.mono (show 5 ≤ 7 by decide)
    have r6 := hr.mono (show 6 ≤ 7 by decide)
    obtain ⟨tt, ht, qt⟩ := told_turn (P := P) (w := w) (outer := outer) (H₀ := H) (E := E) hr hgd dt
    refine ⟨_, pss_cons (ps_par (i := 3) (j := 4) rfl scTo.nd rfl rfl (by decide) rfl rfl (pa_cons (pe_lc (own := [("_law_table", 2)]) (g := gName 2) (tt := tYes) rfl scTo.nd (pi_list (pv 1)) (blkOk_by (N := nTo) (sc := defScope sTold) (by decide +kernel)) (fun _ _ _ _ _ => pg_name (i := 2) scTo.nd rfl (Or.inl rfl)) (fun _ _ _ _ _ => pts_nil)
            (fun _ _ _ _ _ => pe_callTy (clist (K := K) rfl) (by rfl) B.list PyProof.Rows.boot_list (pa_cons (pv 2) pa_nil)))
          (pa_cons (pe_callB call_len_seq (by rfl) B.len PySem.boot_len (pa_cons (pe_ix ix_list (pv 1) pe_int (fun _ _ => rfl)) pa_nil)) pa_nil)) rfl)
      (pss_cons (ps_set (i := 5) scTo.nd rfl (.inl rfl) (pe_ifExp (pt_cmpR op_eq (pc DT GT r1 pass0 (pa_cons (pv 0) (pa_cons pe_int pa_nil))) pe_int (nomark _)) (pe_make MI GI hr (by rfl) TM.g BI .nil passF (pa_cons (pv 3) pa_nil))
          (pe_makeK0 MI GI hr (by rfl) TM.g (kb_init FI) passF (pk_cons (pe_callTy call_tuple_of (by rfl) B.tuple PyProof.Rows.boot_tuple (pa_cons (pv 3) pa_nil)) pk_nil))))
      (pss_cons (ps_set (i := 6) scTo.nd rfl (.inl rfl) (pe_ix ix_list (pv 3) pe_int (fun _ _ => rfl)))
      (pss_cons (ps_asg pe_int (pg_sub (pv 6) pe_int set_list))
      (pss_cons (ps_if (pt_cmpR op_ne (pe_callB (call_repr hgd hu) (by rfl) B.repr (by decide +kernel) (pa_cons (pe_lst (pa_cons (pe_fld (pv 5) rfl) (pa_cons (pe_fld (pv 5) rfl) (pa_cons (pe_fld (pv 5) rfl) pa_nil)))) pa_nil))
          (pe_callB (call_repr hgd hu) (by rfl) B.repr (by decide +kernel) (pa_cons (pe_lst (pa_cons (pe_callB call_len_seq (by rfl) B.len PySem.boot_len (pa_cons (pv 1) pa_nil)) (pa_cons (pv 4) (pa_cons (pe_callTy call_tuple_of (by rfl) B.tuple PyProof.Rows.boot_tuple (pa_cons (pv 1) pa_nil)) pa_nil)))) pa_nil)) (nomark _)) (pss_one (ps_ret pe_bl)) pss_nil)
      (pss_cons (ps_if (pt_cmpR op_ne (pe_callB (call_repr hgd hu) (by rfl) B.repr (by decide +kernel) (pa_cons (pe_lst (pa_cons (pe_cmpR (op_eqOwn Q4 r1 Q1 Q2 Q3 dt.nf) (pv 5) (pe_make MI GI hr (by rfl) TM.g BI .nil passF (pa_cons (pv 1) pa_nil)) (nomark _))
            (pa_cons (pe_cmpR (op_eqOwn Q4 r1 Q1 Q2 Q3 dt.nf) (pv 5) (pe_callTy call_tuple_of (by rfl) B.tuple PyProof.Rows.boot_tuple (pa_cons (pv 1) pa_nil)) (nomark _)) pa_nil))) pa_nil))
          (pe_callB (call_repr hgd hu) (by rfl) B.repr (by decide +kernel) (pa_cons (pe_lst (pa_cons pe_bl (pa_cons pe_bl pa_nil))) pa_nil)) (nomark _)) (pss_one (ps_ret pe_bl)) pss_nil)
      (pss_cons (ps_for PassesOwn.never rfl (pi_range1 (by rfl) B.range (pa_cons pe_int pa_nil)) (pg_name (i := 7) scTo.nd rfl (.inl rfl)) ht)
      (pss_cons (ps_set (i := 13) scTo.nd rfl (.inl rfl) (pe_lst (pa_cons (pc DS GS r3 passF (pa_cons (pv 5) (pa_cons (pe_op op_sub (pv 4) pe_int) pa_nil))) (pa_cons (pe_callW DS GS r3 (kb_needS DS.F) passF (pk_cons pe_int (pk_cons (pv 5) pk_nil)))
          (pa_cons (pc DD GD r3 passF (pa_cons (pv 5) (pa_cons (pe_op op_sub (pe_callB call_len_seq (by rfl) B.len PySem.boot_len (pa_cons (pv 1) pa_nil)) pe_int) pa_nil))) (pa_cons (pe_callW DD GD r3 (kb_needD DD.F) passF (pk_cons pe_int (pk_cons (pv 5) pk_nil))) pa_nil))))))
      (pss_one (ps_ret (pe_cmpR op_eq (pe_callB (call_repr hgd hu) (by rfl) B.repr (by decide +kernel) (pa_cons (pv 13) pa_nil))
          (pe_callB (call_repr hgd hu) (by rfl) B.repr (by decide +kernel) (pa_cons (pe_lst (pa_cons (pe_op op_sub (pv 4) pe_int) (pa_cons pe_int (pa_cons (pe_op op_sub (pe_callB call_len_seq (by rfl) B.len PySem.boot_len (pa_cons (pv 1) pa_nil)) pe_int) (pa_cons pe_int pa_nil))))) pa_nil)) (nomark _))))))))))), ?_⟩
    obtain ⟨t0, et0⟩ : ∃ t0, ts[0]? = some t0 := ⟨ts[0]'(by have := hW.t1; omega), List.getElem?_eq_getElem _⟩
    obtain ⟨as, a0, hp0, las, ea0, ha0⟩ := tl.row et0
    have ht0 : (vrow t0).length = nS ts := by rw [vrow, List.length_map]; exact (hW.row t0 (List.mem_of_getElem? et0)).1
    obtain ⟨as', h1, h2, h3⟩ := id tl
    obtain rfl : as = as' := by
      rw [hp0] at h1
      have z : as.map V.ref = as'.map V.ref := by injection (Option.some.inj h1)
      exact List.map_inj_right (fun a b e => by injection e) |>.mp z
    -- the rows handed over
    refine ⟨_, rfl, p, rfl, ⟨_, SqL.of hp0⟩, fun D0 hD0 => lc_list (K := K) (a := p) (xs := as.map V.ref) (fun i H' => Same H H' ∧ ∃ ls, HL H H' D0 ts i ls ∧ ∀ l ∈ ls, l ≠ D0) ⟨same_new hD0, [], ⟨upd_same, hD0, rfl, fun i l t e => (by cases e), fun l hl => absurd hl (by simp)⟩, fun l hl => absurd hl (by simp)⟩ (fun i H' _ ⟨s, _⟩ => SqL.of (s _ _ hp0)) ?_ ?_⟩
    · rintro i x H' hx ⟨s1, ls, hl, nD⟩
      have hi : i < as.length := by have := (List.getElem?_eq_some_iff.mp hx).1; rw [List.length_map] at this; exact this
      obtain rfl : V.ref as[i] = x := by
        rw [List.getElem?_map, List.getElem?_eq_getElem hi] at hx
        exact Option.some.inj hx
      obtain ⟨t, et⟩ : ∃ t, ts[i]? = some t := ⟨ts[i]'(by omega), List.getElem?_eq_getElem _⟩
      have hta := s1 _ _ (h3 i as[i] (vrow t) (List.getElem?_eq_getElem hi) (by rw [vts, List.getElem?_map, et]; rfl))
      refine ⟨rfl, _, rfl, as[i], _, rfl, .inr (SqT.of hta), fun l hln => ?_⟩
      have s2 := same_new (o := HO.lst (vrow t)) hln
      have nlD : l ≠ D0 := fun z => by rw [z, hl.at_] at hln; cases hln
      refine ⟨ls.map V.ref, s2 _ _ hl.at_, by rw [List.length_map, hl.len, sizeLine_eq]; omega, fun c o e => ?_, ls ++ [l], ⟨by rw [upd_same, List.map_append]; rfl, hD0, by rw [List.length_append, hl.len]; rfl, fun j l' t' e1 e2 => ?_, fun l' hl' => ?_⟩, fun l' hl' => ?_⟩
      · rw [upd_ne (ne_of_none e hD0)]
        exact s2 _ _ (s1 _ _ e)
      · by_cases hj : j < ls.length
        · rw [List.getElem?_append_left hj] at e1
          rw [upd_ne (nD _ (List.mem_of_getElem? e1))]
          exact s2 _ _ (hl.row j l' t' e1 e2)
        · have hj2 : j = ls.length := by
            have := (List.getElem?_eq_some_iff.mp e1).1
            rw [List.length_append] at this
            simp only [List.length_cons, List.length_nil] at this
            omega
          subst hj2
          rw [List.getElem?_append_right (Nat.le_refl _), Nat.sub_self] at e1
          obtain rfl : l = l' := Option.some.inj e1
          rw [hl.len, et] at e2
          obtain rfl := Option.some.inj e2
          rw [upd_ne nlD, upd_same]
      · rcases List.mem_append.mp hl' with z | z
        · exact hl.new l' z
        · rw [List.mem_singleton.mp z]; exact s1.free hln
      · rcases List.mem_append.mp hl' with z | z
        · exact nD l' z
        · rw [List.mem_singleton.mp z]; exact nlD
    · rintro H1 ⟨s1, ls, hl, nD⟩
      rw [List.length_map, las] at hl
      refine ⟨_, rfl, p, _, 0, .ref a0, rfl, rfl, SqL.of (s1 _ _ hp0), at_of (j := 0) rfl (by rw [List.getElem?_map, ea0]; rfl), a0, _, rfl, .inr (SqT.of (s1 _ _ ha0)), _, _, rfl, ?_⟩
      rw [ht0]
      dsimp only
      -- the machine
      refine seqG (fun σ H' => ∃ m ta, σ = [some (.ref b), some (.ref p), none, some (.ref D0), some (.int (nS ts : Int)), some (.ref m), none, none, none, none, none, none, none, none, none] ∧ Bx b H H' ∧ HL H H' D0 ts ts.length ls ∧ MachAt M H' m ta (vts ts)) ?_ (fun k => ?_)
      · rintro σ H2 ⟨m, ta, rfl, bx, hl2, hM⟩
        have hl0 : 0 < ls.length := by rw [hl2.len]; exact hW.t1
        have el0 : ls[0]? = some ls[0] := List.getElem?_eq_getElem hl0
        have hr0 := hl2.row 0 _ t0 el0 et0
        have nl0 : H ls[0] = none := hl2.new _ (List.getElem_mem hl0)
        refine ⟨_, rfl, D0, _, 0, .ref ls[0], rfl, rfl, SqL.of hl2.at_, at_of (j := 0) rfl (by rw [List.getElem?_map, el0]; rfl), ?_⟩
        refine ⟨_, rfl, ls[0], _, 0, 0, rfl, rfl, hr0, ixN0 (by rw [ht0]; exact hW.s1), ?_⟩
        have BX : Bx b H (upd H2 ls[0] (.lst ((vrow t0).set 0 (.int 99)))) := bx.put nl0 (hb.nn nl0)
        replace hM := hM.putL (o := HO.lst ((vrow t0).set 0 (.int 99))) hr0
        generalize upd H2 ls[0] (.lst ((vrow t0).set 0 (.int 99))) = G at BX hM ⊢
        have tlG := tl.bx npb hb BX
        have hpG := BX.2 _ _ hp0 npb
        obtain ⟨dx, hf⟩ := hM.fs
        -- what it tells of itself
        have plM := pl_dMa hW
        refine ⟨_, rfl, m, M, dx, _, _, rfl, hf, TM.cl, TM.nD, mf_d _ _ _, _, rfl, m, M, dx, _, _, rfl, hf, TM.cl, TM.nS, mf_s _ _ _, _, rfl, m, M, dx, _, _, rfl, hf, TM.cl, TM.nT, mf_t _ _ _, (by show 3 ≤ sizeLine; decide), fun q1 hq1 => nilP (reprP (d := dMa ts) (.lst (SqL.of upd_same) (.cons (.int _) (.cons (.int _) (.cons (hM.2.same (same_new hq1)).dp .nil)))) plM (by decide) (by decide) ?_)⟩
        have s1' := same_new (o := HO.lst [.int (ts.length : Int), .int (nS ts : Int), .ref ta]) hq1
        generalize upd G q1 (.lst [.int (ts.length : Int), .int (nS ts : Int), .ref ta]) = G1 at s1' ⊢
        refine ⟨_, rfl, p, _, rfl, .inl (SqL.of (s1' _ _ hpG)), _, rfl, _, rfl, p, _, rfl, .inl ⟨SqL.of (s1' _ _ hpG), fun q2 hq2 => ⟨(by show 3 ≤ sizeLine; decide), fun q3 hq3 => ?_⟩⟩⟩
        rw [show ((as.map V.ref).length : Int) = (ts.length : Int) by rw [List.length_map, las]]
        have s2' := s1'.trans ((same_new (o := HO.tup (as.map V.ref)) hq2).trans (same_new (o := HO.lst [.int (ts.length : Int), .int (nS ts : Int), .ref q2]) hq3))
        obtain ⟨as2, k1, k2, k3⟩ := tlG
        obtain rfl : as = as2 := by
          rw [hpG] at k1
          have z : as.map V.ref = as2.map V.ref := by injection (Option.some.inj k1)
          exact List.map_inj_right (fun a b e => by injection e) |>.mp z
        have tq2 : TabsAt (upd (upd G1 q2 (.tup (as.map V.ref))) q3 (.lst [.int (ts.length : Int), .int (nS ts : Int), .ref q2])) q2 (vts ts) := ⟨as, (same_new hq3) _ _ upd_same, k2, fun i a t e1 e2 => s2' _ _ (k3 i a t e1 e2)⟩
        refine nilP (reprP (d := dMa ts) (.lst (SqL.of upd_same) (.cons (.int _) (.cons (.int _) (.cons tq2.dp .nil)))) plM (by decide) (by decide) (neV rfl ⟨_, rfl, iteF ?_⟩))
        replace BX := BX.same s2'
        have hM2 := hM.same s2'
        generalize upd (upd G1 q2 (.tup (as.map V.ref))) q3 (.lst [.int (ts.length : Int), .int (nS ts : Int), .ref q2]) = G2 at BX hM2 ⊢
        clear tq2 s2' hq3 hq2 s1' hq1 hf hM hpG k1 k3 hr0
        have tlG := tl.bx npb hb BX
        have hpG := BX.2 _ _ hp0 npb
        -- equal to its like alone
        refine ⟨_, rfl, _, rfl, fun m2 dx2 hm2 hdx2 ne2 => ?_⟩
        have s0 : Same G2 (upd (upd G2 dx2 (.own m2)) m2 (.ins M dx2 [])) := (same_new hdx2).trans (same_new (by rw [upd_ne ne2.symm]; exact hm2))
        refine ⟨m2, dx2, _, _, rfl, upd_same, (tlG.same s0).mv, fun z hz => (by rw [chk_wf hW] at hz; cases hz), fun _ ts' ets ta2 G3 k3' hMb => ⟨rfl, ?_⟩⟩
        obtain rfl : vts ts = ts' := map_some (Option.some.inj ets)
        have s3 := mkS hm2 hdx2 k3'
        replace BX := BX.same s3
        have hM3 := hM2.same s3
        have hp3 := s3 _ _ hpG
        obtain ⟨dxa, hfa⟩ := hM3.fs
        obtain ⟨dxb, hfb⟩ := hMb.fs
        refine ⟨m, dxa, _, rfl, hfa, .inl ⟨m2, dxb, _, rfl, hfb⟩, m, ta, ts, _, rfl, hM3, hW.few, .inl ⟨m2, ta2, rfl, hMb, true, rfl, ?_⟩⟩
        refine ⟨_, rfl, _, rfl, p, _, rfl, .inl ⟨SqL.of hp3, fun q4 hq4 => ?_⟩⟩
        have s4 := same_new (o := HO.tup (as.map V.ref)) hq4
        refine ⟨m, dxa, _, rfl, s4 _ _ hfa, .inr ⟨q4, _, rfl, upd_same⟩, m, ta, ts, _, rfl, hM3.same s4, hW.few, .inr ⟨q4, _, rfl, upd_same, false, rfl, ?_⟩⟩
        refine ⟨(by show 2 ≤ sizeLine; decide), fun q5 hq5 => nilP (reprP (.lst (SqL.of upd_same) (.cons (.bl true) (.cons (.bl false) .nil))) pl_tf (by decide) (by decide) ⟨(by show 2 ≤ sizeLine; decide), fun q6 hq6 => nilP (reprP (.lst (SqL.of upd_same) (.cons (.bl true) (.cons (.bl false) .nil))) pl_tf (by decide) (by decide) (neV rfl ⟨_, rfl, iteF ?_⟩))⟩)⟩
        have s56 := s4.trans ((same_new (o := HO.lst [.bl true, .bl false]) hq5).trans (same_new (o := HO.lst [.bl true, .bl false]) hq6))
        replace BX := BX.same s56
        have hM5 := hM3.same s56
        generalize upd (upd (upd G3 q4 (.tup (as.map V.ref))) q5 (.lst [.bl true, .bl false])) q6 (.lst [.bl true, .bl false]) = G5 at BX hM5 ⊢
        clear s56 hq6 hq5 s4 hq4 hfb hfa hp3 hM3 s3 k3' hMb s0 hm2 hdx2 tlG hpG hM2
        -- three turns
        refine ⟨3, rfl, by decide, by decide, for_range (fun _ σ H' => ∃ (w2 w7 w8 w9 w10 w11 w12 : Option V), σ = [some (.ref b), some (.ref p), w2, some (.ref D0), some (.int (nS ts : Int)), some (.ref m), some (.ref ls[0]), w7, w8, w9, w10, w11, w12, none, none] ∧ Bx b G5 H') ⟨_, _, _, _, _, _, _, rfl, Bx.refl BX.1⟩ ?_ ?_⟩
        · rintro i σ H' hi ⟨w2, w7, w8, w9, w10, w11, w12, rfl, r⟩
          exact qt _ H' b p m ta ts _ _ _ _ _ _ _ _ _ _ _ r.1 (tl.bx npb hb (BX.trans r)) npb hW hn5 hl4 (hM5.bx BX.1 r) fun H'' _ _ _ _ _ _ r2 => ⟨_, _, _, _, _, _, _, rfl, r.trans r2⟩
        · rintro σ H' ⟨w2, w7, w8, w9, w10, w11, w12, rfl, r⟩
          have hM6 := hM5.bx BX.1 r
          have BX6 := BX.trans r
          have hp6 := BX6.2 _ _ hp0 npb
          have s1n := hW.s1
          have t1n := hW.t1
          refine ⟨_, rfl, _, rfl, _, _, rfl, rfl, m, ta, ts, _, rfl, hM6, ⟨K, _, .int _⟩, fun _ => ?_, fun e => (by rw [below_in (n := nS ts) (by omega)] at e; cases e)⟩
          refine ⟨_, rfl, rfl, m, ta, ts, _, rfl, hM6, ⟨K, _, .int _⟩, fun _ => ?_, fun e => (by rw [below_in (n := nS ts) (by omega)] at e; cases e)⟩
          refine ⟨_, rfl, _, rfl, p, _, rfl, .inl (SqL.of hp6), _, _, rfl, rfl, m, ta, ts, _, rfl, hM6, ⟨K, _, .int _⟩, fun _ => ?_, fun e => (by
            have z := below_in (i := ((as.map V.ref).length : Int) - 1) (n := ts.length) (by rw [List.length_map, las]; omega)
            exact absurd (e.symm.trans z) (by decide))⟩
          refine ⟨_, rfl, rfl, m, ta, ts, _, rfl, hM6, ⟨K, _, .int _⟩, fun _ => ?_, fun e => (by
            have z := below_in (i := 0) (n := ts.length) (by omega)
            exact absurd (e.symm.trans z) (by decide))⟩
          have plE : Pl (.list (dI [(nS ts : Int) - 1, 0, ((as.map V.ref).length : Int) - 1, 0])) 1 400 := (Pl.list (pla_ints _ fun i hi => by
            simp only [List.mem_cons, List.mem_nil_iff, or_false] at hi
            rw [List.length_map, las] at hi
            rcases hi with rfl | rfl | rfl | rfl <;> omega)).mono (by decide) (by show 4 * 65 ≤ 400; decide)
          refine ⟨(by show 4 ≤ sizeLine; decide), fun q7 hq7 => ⟨_, rfl, nilP (reprP (.lst (SqL.of upd_same) (dp_ints [(nS ts : Int) - 1, 0, ((as.map V.ref).length : Int) - 1, 0])) plE (by decide) (by decide) ?_)⟩⟩
          have s7 := same_new (o := HO.lst [.int ((nS ts : Int) - 1), .int 0, .int (((as.map V.ref).length : Int) - 1), .int 0]) hq7
          refine ⟨_, rfl, _, _, rfl, rfl, _, rfl, p, _, rfl, .inl (SqL.of (s7 _ _ hp6)), _, _, rfl, rfl, (by show 4 ≤ sizeLine; decide), fun q8 hq8 => nilP (reprP (.lst (SqL.of upd_same) (dp_ints [(nS ts : Int) - 1, 0, ((as.map V.ref).length : Int) - 1, 0])) plE (by decide) (by decide) ⟨rfl, ?_⟩)⟩
          rw [decide_eq_true rfl]
          exact q _ (BX6.same (s7.trans (same_new hq8)))
      · refine ⟨_, rfl, b, 2, rfl, hb.same s1, by decide, by decide, fun r H2 r0 r1' bx2 => ?_⟩
        have bx := (Bx.refl hb).same s1 |>.trans bx2
        have hl2 := hl.bx hb bx2
        refine ⟨rfl, _, rfl, ifD (fun e => ?_) fun e => ?_⟩
        · refine ⟨_, rfl, fun m dx hm hdx ne => ?_⟩
          have s0 : Same H2 (upd (upd H2 dx (.own m)) m (.ins M dx [])) := (same_new hdx).trans (same_new (by rw [upd_ne ne.symm]; exact hm))
          refine ⟨m, dx, _, _, rfl, upd_same, .yes (.lst (hl2.same s0).at_) (hl2.same s0).rws, fun z hz => (by rw [chk_wf hW] at hz; cases hz), fun _ ts' ets ta H3 k3 hM => ⟨rfl, ?_⟩⟩
          obtain rfl : vts ts = ts' := map_some (Option.some.inj ets)
          exact k _ _ ⟨m, ta, rfl, bx.same (mkS hm hdx k3), hl2.same (mkS hm hdx k3), hM⟩
        · refine ⟨_, rfl, D0, _, rfl, .inl ⟨SqL.of hl2.at_, fun t1 ht1 => ⟨rfl, rfl, fun m dx hm hdx ne => ?_⟩⟩⟩
          have s0 : Same (upd H2 t1 (.tup (ls.map V.ref))) (upd (upd (upd H2 t1 (.tup (ls.map V.ref))) dx (.own m)) m (.ins M dx [])) := (same_new hdx).trans (same_new (by rw [upd_ne ne.symm]; exact hm))
          have s01 := (same_new (o := HO.tup (ls.map V.ref)) ht1).trans s0
          refine ⟨m, dx, _, _, rfl, upd_same, .yes (.tup (s0 _ _ upd_same)) (hl2.same s01).rws, fun z hz => (by rw [chk_wf hW] at hz; cases hz), fun _ ts' ets ta H3 k3 hM => ⟨rfl, ?_⟩⟩
          obtain rfl : vts ts = ts' := map_some (Option.some.inj ets)
          have s3 := (same_new (o := HO.tup (ls.map V.ref)) ht1).trans (mkS hm hdx k3)
          exact k _ _ ⟨m, ta, rfl, bx.same s3, hl2.same s3, hM⟩
end
end K1
namespace K1
open PySem PySem.Spec PyProof.Rows L2
theorem sqL_rl {K : PySem.W.Frag} {H H1 H2 : Hp} {a b : Addr} {T : List (Addr × Str)} {xs : List V} (h : SqL K H a xs) (hb : H b = none) (s : Same H H1) (r : Rl b T H1 H2) : SqL K H2 a xs := by
  rcases h with (h | ⟨ob, h⟩) | h
  · exact .inl (.inl (r.2.2 _ _ (s _ _ h) (ne_of_none h hb) fun ps z => by cases z))
  · exact .inl (.inr ⟨ob, r.2.2 _ _ (s _ _ h) (ne_of_none h hb) fun ps z => by cases z⟩)
  · exact .inr h
theorem sqL_same {K : PySem.W.Frag} {H H1 : Hp} {a : Addr} {xs : List V} (h : SqL K H a xs) (s : Same H H1) : SqL K H1 a xs := by
  rcases h with (h | ⟨ob, h⟩) | h
  · exact .inl (.inl (s _ _ h))
  · exact .inl (.inr ⟨ob, s _ _ h⟩)
  · exact .inr h
def spLaw (K : PySem.W.Frag) (T : List (Addr × Str)) : Sp := fun vs H Q _ => ∃ (a : Addr) (ns : List Int), vs = [.ref a] ∧ SqL K H a (ns.map V.int) ∧ ns.length ≤ 63 ∧ LamX.Tabs T H ∧ ∀ H', Q (.bl true) H'
section
variable {P : Program} {w : World} {K : PySem.W.Frag} {mg : Str → Option Value} {base : Heap}
abbrev nLa : List Str := ["_law_script", "_law_k", "_law_box_here", "_law_tables_here"]
theorem scLa : FnScope nLa ["_law_script"] (defScope sLaw) := ⟨rfl, rfl, rfl, by decide +kernel, rfl, by decide +kernel, by decide +kernel⟩
theorem ok_law {f fB fA fO fN : Addr} {fd fdB fdA fdO fdN : FuncData} {T : List (Addr × Str)} (F : Fun K "law" "law" sLaw f fd) (DB : Df K mg "_law_box" sBox ["_law_script", "_law_k"] fB fdB) (DA : Df K mg "_law_tables" sTabs ["_law_box_here", "_law_sizes", "_law_kinds"] fA fdA)
    (DO : Df K mg "_law_told_right" sTold ["_law_box_here", "_law_tables_here"] fO fdO) (DN : Df K mg "_law_none_right" sNone ["_law_box_here", "_law_tables_here"] fN fdN) (B : Bt mg)
    (GB : FnOk P w K mg base CX0 1 fB fdB ["_law_script", "_law_k"] (spBox K)) (GA : FnOk P w K mg base CX0 3 fA fdA ["_law_box_here", "_law_sizes", "_law_kinds"] spTabs) (GO : FnG P w K mg base 8 fO fdO ["_law_box_here", "_law_tables_here"] spTold)
    (GN : FnOk P w K mg base CX0 10 fN fdN ["_law_box_here", "_law_tables_here"] (spNone T)) : FnG P w K mg base 11 f fd ["_law_script"] (spLaw K T) := by
  refine okG F scLa (fun vs H Q E h => ?_) (fun cdv A outer s H vs Q E hr hgd h => ?_)
  · obtain ⟨a, ns, rfl, _⟩ := h
    rfl
  · obtain ⟨a, ns, rfl, hS, hn, hT, q⟩ := h
    refine ⟨_, pss_cons (ps_for PassesOwn.never rfl (pi_range1 (by rfl) B.range (pa_cons pe_int pa_nil)) (pg_name (i := 1) scLa.nd rfl (.inl rfl))
        (pss_cons (ps_set (i := 2) scLa.nd rfl (.inl rfl) (pc DB GB (hr.mono (by decide)) pass0 (pa_cons (pv 0) (pa_cons (pv 1) pa_nil))))
        (pss_cons (ps_set (i := 3) scLa.nd rfl (.inl rfl) (pc DA GA (hr.mono (by decide)) pass0 (pa_cons (pv 2) (pa_cons (pe_lst (pa_cons pe_int (pa_cons pe_int (pa_cons pe_int (pa_cons pe_int (pa_cons pe_int pa_nil)))))) (pa_cons (pe_lst (pa_cons pe_int (pa_cons pe_int (pa_cons pe_int (pa_cons pe_int (pa_cons pe_int pa_nil)))))) pa_nil)))))
        (pss_one (ps_if (PW.pt (pw_or (pt_not (pt_val (pe_callG DO GO (hr.mono (by decide)) hgd (pa_cons (pv 2) (pa_cons (pv 3) pa_nil))))) (pw_or1 (pt_not (pt_val (pc DN GN hr pass0 (pa_cons (pv 2) (pa_cons (pv 3) pa_nil)))))))) (pss_one (ps_ret pe_bl)) pss_nil)))))
      (pss_one (ps_ret pe_bl)), ?_⟩
    refine ⟨3, rfl, by decide, by decide, for_range (fun _ σ H' => ∃ (v1 v2 v3 : Option V), σ = [some (.ref a), v1, v2, v3] ∧ SqL K H' a (ns.map V.int) ∧ LamX.Tabs T H') ⟨none, none, none, rfl, hS, hT⟩ ?_ ?_⟩
    · rintro i σ H1 hi ⟨v1, v2, v3, rfl, hS1, hT1⟩
      refine ⟨_, rfl, _, rfl, a, ns, _, rfl, hS1, hn, by omega, by omega, fun b H2 s2 nb bo => ?_⟩
      have hT2 := hT1.ext s2
      refine ⟨_, rfl, (by show 5 ≤ sizeLine; decide), fun l1 hl1 => ⟨(by show 5 ≤ sizeLine; decide), fun l2 hl2 => ?_⟩⟩
      have R2 : Rl b T H2 H2 := Rl.refl bo hT2
      have R3 := R2.new (o := HO.lst sizesV) hl1
      have R4 := R3.new (o := HO.lst kindsV) hl2
      refine ⟨b, l1, l2, rfl, R4.1, (same_new hl2) _ _ upd_same, upd_same, bo.nn hl1, R3.1.nn hl2, fun p ts H5 bx5 _ npb tl hW hn5 hl4 => ?_⟩
      have R5 := R4.bx bx5
      refine ⟨_, rfl, _, rfl, b, p, ts, rfl, R5.1, tl, npb, hW, hn5, hl4, fun H6 bx6 => ⟨true, rfl, iteF ?_⟩⟩
      have R6 := R5.bx bx6
      refine ⟨_, rfl, _, rfl, b, p, ts, rfl, R6.1, R6.2.1, tl.bx npb R5.1 bx6, npb, hW, hn5, hl4, fun H7 r7 => ⟨true, rfl, iteF ?_⟩⟩
      have R7 := R6.trans r7
      exact ⟨_, _, _, rfl, sqL_rl hS1 nb s2 R7, R7.2.1⟩
    · rintro σ H1 ⟨v1, v2, v3, rfl, hS1, hT1⟩
      exact q _
end
end K1
namespace K1
open PySem PySem.Spec PyProof.Rows L2
/-- the caller's call of a law that is told where nothing is being shown; one table of code objects stands by -/
theorem call_law {P : Program} {w : World} {K : PySem.W.Frag} {mg mb : Str → Option Value} {k : Nat} {fa a c Pt : Addr} {fd : FuncData} {x : Str} {sp : Sp} {s : Shared} {vs : List Value} {ns : List Int}
    (KX : K.In s.heap) (hmg : s.heap.Ns mainGlobals mg) (hmb : s.heap.Ns builtinsNs mb) (hbb : ∀ x : Str, x ≠ "__name__" → mb x = bootBuiltins x) (hlim : s.heap.NoLimit) (hg : s.gens = #[])
    (hT : s.heap.get? Pt = some { cls := .none, data := .fields #[] }) (nT : K.lookup Pt = none) (hC : PySem.W.CodeHd s.heap c Pt)
    (hbm : ∃ (bm : Addr) (ob : Obj), mg "__builtins__" = some (.ref bm) ∧ bm ≠ builtinsNs ∧ s.heap.get? bm = some ob ∧ ob.cls = .type "module" ∧ ob.dict = some builtinsNs ∧ ob.data = .plain)
    (ha : s.heap.get? a = some { cls := .type "list", data := .seq vs.toArray }) (hi : IntsAre vs ns) (hl : ns.length ≤ sizeLine) (hr : Room k callerA)
    (F : ∀ base : Heap, K.In base → base.Ns mainGlobals mg → LamX.TabB base mg c Pt → FnG P w K mg base k fa fd [x] sp) (hbind : ∀ (s : Shared) (u : Value), BindsTo s fd ⟨[u], []⟩ [(x, u)])
    (hsp : ∀ H : Hp, H Pt = some (.tbl #[]) → SqL K H a (ns.map V.int) → sp [.ref a] H (fun v _ => v = .bl true) fun _ _ _ => False) :
    codeAny (model P w) callerA (.call (.ref fa) ⟨[.ref a], []⟩) (fun r s' => r = .ok (.ret (.bool true)) ∧ OldK s.heap s'.heap ∧ s'.os = s.os ∧ AllBare s'.gens) s := by
  have nPa : Pt ≠ a := fun z => by
    rw [z, ha] at hT
    cases Option.some.inj hT
  -- told of any way to follow the script
  have told : ∀ H : Hp, H Pt = some (.tbl #[]) → (∀ b, b ≠ Pt → H b = none ∨ (b = a ∧ K.lookup a = none ∧ ∃ o xs, H a = some (.frz o (.lst xs)))) → SqL K H a (ns.map V.int) → HOk P w H s.heap →
      codeAny (model P w) callerA (.call (.ref fa) ⟨[.ref a], []⟩) (fun r s' => r = .ok (.ret (.bool true)) ∧ OldK s.heap s'.heap ∧ s'.os = s.os ∧ AllBare s'.gens) s := by
    intro H hP hO hS hok
    have out : ∀ {b : Addr} {o : Obj}, s.heap.get? b = some o → b ≠ Pt → b ≠ a → (hidT s.heap H).get? b = some o := fun {b o} e n1 n2 => hidT_get e ((hO b n1).resolve_right fun z => n2 z.1)
    have neD : ∀ {b : Addr} {o : Obj}, s.heap.get? b = some o → (∀ v n, o.data ≠ .seq v n) → (o.data ≠ .fields #[]) → b ≠ Pt ∧ b ≠ a := fun {b o} e h1 h2 => ⟨fun z => by
      rw [z, hT] at e
      cases Option.some.inj e
      exact h2 rfl, fun z => by
      rw [z, ha] at e
      cases Option.some.inj e
      exact h1 _ _ rfl⟩
    have ns_ : ∀ {b : Addr} {m : Str → Option Value}, s.heap.Ns b m → (hidT s.heap H).Ns b m := fun {b m} ⟨o, es, ep, e, d, r⟩ => by
      have n := neD e (fun v n z => by rw [d] at z; cases z) (fun z => by rw [d] at z; cases z)
      exact ⟨o, es, ep, out e n.1 n.2, d, r⟩
    have kin : K.In (hidT s.heap H) := fun b o e => by
      refine hidT_get (KX b o e) ?_
      by_cases z : b = Pt
      · rw [z, nT] at e; cases e
      · refine (hO b z).resolve_right fun ⟨z1, z2, _⟩ => ?_
        rw [z1, z2] at e
        cases e
    have hM : L2.Mod K mg (hidT s.heap H) := ⟨kin, ns_ hmg, ⟨mb, ns_ hmb, hbb⟩, let ⟨mc, h1, h2⟩ := hlim; ⟨mc, ns_ h1, h2⟩⟩
    have TB : LamX.TabB (hidT s.heap H) mg c Pt := by
      refine ⟨?_, ?_, fun z => ?_⟩
      · obtain ⟨o, us, file, tf, flags, tg, inF, text, tt, e, e2, e3, r⟩ := hC
        have n := neD e (fun v n z => by rw [e3] at z; cases z) (fun z => by
          rw [e3] at z
          cases z
          have := r.1
          simp at this)
        exact ⟨o, us, file, tf, flags, tg, inF, text, tt, out e n.1 n.2, e2, e3, r⟩
      · obtain ⟨bm, ob, b1, b2, b3, b4, b5, b6⟩ := hbm
        have n := neD b3 (fun v n z => by rw [b6] at z; cases z) (fun z => by rw [b6] at z; cases z)
        refine ⟨bm, ob, b1, b2, fun z => ?_, n.1, out b3 n.1 n.2, b4, b5, b6⟩
        obtain ⟨o, es, ep, e, d, _⟩ := hmg
        rw [z, e] at b3
        cases Option.some.inj b3
        rw [d] at b6
        cases b6
      · obtain ⟨o, es, ep, e, d, _⟩ := hmg
        rw [z, hT] at e
        cases Option.some.inj e
        cases d
    have e0 : Env0 P w K mg (hidT s.heap H) callerA [] s H := ⟨rfl, hM, fun b o e => of_hidT e, Nat.le_of_eq (hidT_size _ _), trivial, fun b hb => absurd (show b ∈ ([] : List Addr) from hb) (by simp), hok, .of_eq hg⟩
    refine codeAny_mono ((F _ kin (ns_ hmg) TB).run callerA [] s H ⟨[.ref a], []⟩ [.ref a] [.ref a] _ _ hr rfl e0 (hbind s (.ref a)) (.cons rfl .nil) (hsp H hP hS)) fun r s' h => ?_
    cases r with
    | error e => exact (show False from h).elim
    | ok fl =>
      cases fl with
      | next => exact False.elim h
      | brk => exact False.elim h
      | cont => exact False.elim h
      | ret u =>
        obtain ⟨v, H', os, bare, un, hok', r', q⟩ := h
        obtain rfl : v = V.bl true := q
        obtain rfl : u = Value.bool true := r'
        obtain ⟨more, hm⟩ := un.tbls Pt #[] hP
        have hm' : s'.heap.get? Pt = some { cls := .none, data := .fields more } := by
          have z := hok' Pt _ hm
          rw [Array.empty_append] at z
          exact z
        have rest : ∀ b o, b ≠ Pt → s.heap.get? b = some o → s'.heap.get? b = some o := fun b o n e => by
          rcases hO b n with z | ⟨z, _, ob, xs, hf⟩
          · exact un.keep b o e z (fun w => absurd (show b ∈ ([] : List Addr) from w) (by simp)) (by simp)
          · rw [z] at e ⊢
            have e1 := (hok a _ hf).1
            rw [e] at e1
            rw [Option.some.inj e1]
            exact (hok' a _ (un.frzs a ob _ hf)).1
        refine ⟨rfl, ⟨fun b o e => ?_, fun b o e => ?_⟩, os, bare⟩
        · by_cases z : b = Pt
          · rw [z] at e ⊢
            rw [hT] at e
            cases Option.some.inj e
            exact .inr (.inl ⟨(hC.tab hT).isCodeTable, rfl, #[], more, rfl, by rw [Array.empty_append]; exact hm'⟩)
          · exact .inl (rest b o z e)
        · by_cases z : b = Pt
          · rw [z]; exact ⟨_, hm'⟩
          · exact ⟨o, rest b o z e⟩
  have rv := vals_ints hi
  cases hk : K.lookup a with
  | some o =>
    have e := KX a o hk
    rw [ha] at e
    cases Option.some.inj e
    refine told (fun b => if b = Pt then some (.tbl #[]) else none) (if_pos rfl) (fun b n => .inl (if_neg n)) (.inr ⟨_, vs.toArray, _, hk, rfl, rfl, rfl, by rw [List.size_toArray, hi.length]; exact hl, by simpa using rv⟩) fun b u z => ?_
    by_cases n : b = Pt
    · have z' : some (HO.tbl #[]) = some u := (if_pos n).symm.trans z
      cases z'
      rw [n]
      exact hT
    · have z' : (none : Option HO) = some u := (if_neg n).symm.trans z
      cases z'
  | none =>
    refine told (fun b => if b = Pt then some (.tbl #[]) else if b = a then some (.frz { cls := .type "list", data := .seq vs.toArray } (.lst (ns.map V.int))) else none) (if_pos rfl) (fun b n => ?_) (.inl (.inr ⟨_, (if_neg nPa.symm).trans (if_pos rfl)⟩)) fun b u z => ?_
    · by_cases n2 : b = a
      · exact .inr ⟨n2, hk, _, _, (if_neg nPa.symm).trans (if_pos rfl)⟩
      · exact .inl ((if_neg n).trans (if_neg n2))
    · by_cases n : b = Pt
      · have z' : some (HO.tbl #[]) = some u := (if_pos n).symm.trans z
        cases z'
        rw [n]
        exact hT
      · by_cases n2 : b = a
        · have z' := ((if_neg n).trans (if_pos n2)).symm.trans z
          cases z'
          rw [n2]
          exact ⟨ha, by rw [List.length_map]; exact hl, vs, _, rv, ha⟩
        · have z' := ((if_neg n).trans (if_neg n2)).symm.trans z
          cases z'
end K1
namespace K1
open PySem PySem.Spec PyProof.Rows L2
/-- what the top has left -/
structure Tp (K : PySem.W.Frag) (mg : Str → Option Value) (M CM CR CS CD c Pt fa : Addr) (fd : FuncData) : Prop where
  B : Bt mg
  ct : Ct mg
  whole : ∃ f fd, Df K mg "is_whole" sWhole ["value"] f fd
  below : ∃ f fd, Df K mg "is_below" sBelow ["value", "limit"] f fd
  seq : ∃ f fd, Df K mg "is_sequence" sSeq ["value", "least", "most"] f fd
  fnb : ∃ f fd, Df K mg "first_not_below" sFnb ["items", "limit"] f fd
  istab : ∃ f fd, Df K mg "is_table" sIsTab ["value", "states"] f fd
  chk : ∃ f fd, Df K mg "checked_tables" sChk ["value"] f fd
  needS : ∃ f fd, Df K mg "need_state" sNeedS ["machine", "state"] f fd
  needD : ∃ f fd, Df K mg "need_deed" sNeedD ["machine", "deed"] f fd
  fault : ∃ f fd, Df K mg "row_fault" sFault ["machine", "value"] f fd
  row : ∃ f fd, Df K mg "check_row" sRow ["machine", "value"] f fd
  moved : ∃ f fd, Df K mg "moved" sMoved ["machine", "state", "row"] f fd
  led : ∃ f fd, Df K mg "led" sLed ["machine", "state", "row"] f fd
  first : ∃ f fd, DfF K mg f fd
  orbit : ∃ f fd, Df K mg "orbit" sOrbit ["machine", "state"] f fd
  box : ∃ f fd, Df K mg "_law_box" sBox ["_law_script", "_law_k"] f fd
  take : ∃ f fd, Df K mg "_law_take" sTake ["_law_box_here", "_law_many"] f fd
  pick : ∃ f fd, Df K mg "_law_pick" sPick ["_law_box_here", "_law_some"] f fd
  tabs : ∃ f fd, Df K mg "_law_tables" sTabs ["_law_box_here", "_law_sizes", "_law_kinds"] f fd
  run : ∃ f fd, Df K mg "_law_run" sRun ["_law_tables_here", "_law_start", "_law_log_here"] f fd
  log : ∃ f fd, Df K mg "_law_log" sLog ["_law_box_here", "_law_tables_here", "_law_most"] f fd
  heard : ∃ f fd, Df K mg "_law_heard" sHeard ["_law_ask"] f fd
  told : ∃ f fd, Df K mg "_law_told_right" sTold ["_law_box_here", "_law_tables_here"] f fd
  none : ∃ f fd, Df K mg "_law_none_right" sNone ["_law_box_here", "_law_tables_here"] f fd ∧ FunC K "_law_none_right" "_law_none_right" sNone f fd (.ref c)
  law : Fun K "law" "law" sLaw fa fd
  lawb : ∀ (s : Shared) (u : Value), BindsTo s fd ⟨[u], []⟩ [("_law_script", u)]
  init : ∃ f fd, Fun K "__init__" "Machine.__init__" sMInit f fd ∧ Mk K M f ∧ Binds K fd ["self", "tables"] []
  eq : ∃ f fd, Fun K "__eq__" "Machine.__eq__" sMEq f fd ∧ PySem.W.findIn K (.ref M) "__eq__" = some (some (.ref f)) ∧ PySem.W.isFn K (.ref f) = true ∧ Binds K fd ["self", "other"] []
  nf : PySem.W.notFirst K M (.type "tuple") = true
  T : McT K mg M
  I : McI K M
  t1 : ∃ q b i, LAt.Txt K mg "BadMachine" q b CM i
  t2 : ∃ q b i, LAt.Txt K mg "BadRow" q b CR i
  t3 : ∃ q b i, LState.Txt K mg "NoState" q b CS i
  t4 : ∃ q b i, LDeed.Txt K mg "NoDeed" q b CD i
  ex : ∃ N, mg "NetError" = some (.ref N) ∧ Exm K CM CR CS CD N
  tab : PySem.W.tabIn K "_law_none_right" = some (c, Pt)
  nP : K.lookup Pt = Option.none
section
variable {P : Program} {w : World} {K : PySem.W.Frag} {mg : Str → Option Value} {base : Heap}
theorem asm {M CM CR CS CD c Pt fa : Addr} {fd : FuncData} (t : Tp K mg M CM CR CS CD c Pt fa fd) (TB : LamX.TabB base mg c Pt) : FnG P w K mg base 11 fa fd ["_law_script"] (spLaw K [(Pt, qNo)]) := by
  have B := t.B
  have ct := t.ct
  have T := t.T
  obtain ⟨_, _, dWhole⟩ := t.whole
  obtain ⟨_, _, dBelow⟩ := t.below
  obtain ⟨_, _, dSeq⟩ := t.seq
  obtain ⟨_, _, dFnb⟩ := t.fnb
  obtain ⟨_, _, dIsTab⟩ := t.istab
  obtain ⟨_, _, dChk⟩ := t.chk
  obtain ⟨_, _, dNeedS⟩ := t.needS
  obtain ⟨_, _, dNeedD⟩ := t.needD
  obtain ⟨_, _, dFault⟩ := t.fault
  obtain ⟨_, _, dRow⟩ := t.row
  obtain ⟨_, _, dMoved⟩ := t.moved
  obtain ⟨_, _, dLed⟩ := t.led
  obtain ⟨_, _, dFirst⟩ := t.first
  obtain ⟨_, _, dOrbit⟩ := t.orbit
  obtain ⟨_, _, dBox⟩ := t.box
  obtain ⟨_, _, dTake⟩ := t.take
  obtain ⟨_, _, dPick⟩ := t.pick
  obtain ⟨_, _, dTabs⟩ := t.tabs
  obtain ⟨_, _, dRun⟩ := t.run
  obtain ⟨_, _, dLog⟩ := t.log
  obtain ⟨_, _, dTold⟩ := t.told
  obtain ⟨_, _, dNone, fNone⟩ := t.none
  obtain ⟨_, _, fInit, mk, bInit⟩ := t.init
  obtain ⟨_, _, fEq, e1, e2, bEq⟩ := t.eq
  obtain ⟨_, _, _, x1⟩ := id t.t1
  obtain ⟨_, _, _, x2⟩ := id t.t2
  obtain ⟨_, _, _, x3⟩ := id t.t3
  obtain ⟨_, _, _, x4⟩ := id t.t4
  have gWhole := ok_whole (P := P) (w := w) (base := base) dWhole B
  have gBelow := ok_below (P := P) (w := w) (base := base) dBelow dWhole B
  have gSeq := ok_seq (P := P) (w := w) (base := base) dSeq B
  have gFnb := ok_fnb (P := P) (w := w) (base := base) dFnb dBelow B gBelow
  have gIsTab := ok_istab (P := P) (w := w) (base := base) dIsTab dSeq dFnb gSeq gFnb
  have gChk := ok_chk (P := P) (w := w) (base := base) dChk dSeq dIsTab B ct x1 gSeq gIsTab
  have gInit := ok_minit (P := P) (w := w) (base := base) fInit dChk B T gChk
  have gEq := ok_meq (P := P) (w := w) (base := base) fEq B T t.I
  have gNeedS := ok_needS (P := P) (w := w) (base := base) dNeedS dBelow T x3 gBelow
  have gNeedD := ok_needD (P := P) (w := w) (base := base) dNeedD dBelow T x4 gBelow
  have gFault := ok_fault (P := P) (w := w) (base := base) dFault dSeq dFnb ct T gSeq gFnb
  have gRow := ok_row (P := P) (w := w) (base := base) dRow dFault B x2 gFault
  have gMoved := ok_moved (P := P) (w := w) (base := base) dMoved T
  have gLed := ok_led (P := P) (w := w) (base := base) dLed dNeedS dMoved dRow gNeedS gMoved gRow
  have gFirst := ok_first (P := P) (w := w) (base := base) dFirst B T
  have gOrbit := ok_orbit (P := P) (w := w) (base := base) dOrbit dNeedS dFirst B gNeedS gFirst
  have gTake := ok_take (P := P) (w := w) (base := base) dTake B
  have gPick := ok_pick (P := P) (w := w) (base := base) dPick dTake B gTake
  have gBox := ok_box (P := P) (w := w) (base := base) dBox B
  have gTabs := ok_tabs (P := P) (w := w) (base := base) dTabs dTake dPick B gTake gPick
  have gRun := ok_run (P := P) (w := w) (base := base) dRun
  have gLog := ok_log (P := P) (w := w) (base := base) dLog dTake B gTake
  have dn : Dn P w K mg base M CM CR CS CD := ⟨⟨_, _, dTake, gTake⟩, ⟨_, _, dPick, gPick⟩, ⟨_, _, dLog, gLog⟩, ⟨_, _, dRow, gRow⟩, ⟨_, _, dLed, gLed⟩, ⟨_, _, dOrbit, gOrbit⟩, ⟨_, _, dNeedS, gNeedS⟩, ⟨_, _, dNeedD, gNeedD⟩, ⟨_, _, mk, bInit, gInit⟩, T⟩
  have hd : Hd K mg base c Pt CM CR CS CD := ⟨B, t.heard, t.t1, t.t2, t.t3, t.t4, t.ex, x1.gC, x2.gC, x3.gC, x4.gC, TB⟩
  have dt : Dt P w K mg base M CM CR CS CD := ⟨dn, ⟨_, _, fInit, mk, bInit, gInit⟩, ⟨_, _, dRun, gRun⟩, ⟨_, _, e1, e2, bEq, gEq⟩, t.nf, B⟩
  exact ok_law t.law dBox dTabs dTold dNone B gBox gTabs (ok_told dTold dt) (ok_none fNone hd dn)
end
/-- the end: from what the top has left -/
theorem walkK {l : PySem.W.OpenLaw} {q : Program} {loose : List Str} {XP : (Str → Option Value) → Heap → Prop} {YP : World → Heap → Prop} {d : DefRec} {K : Params → PySem.W.Frag} (hn : l.most = some 63) (hdf : d.params.defaults = []) (hY : ∀ (w : World) (h : Heap), YP w h → (K w.params).In h)
    (hr : ∃ d', (recsOf q).find? (fun e => e.name == ("_law_none_right" : Str)) = some d')
    (F : ∀ (w : World) (mg : Str → Option Value) (fa : Addr) (h : Heap), (K w.params).In h → h.Ns mainGlobals mg → mg d.name = some (.ref fa) → ∃ (M CM CR CS CD c Pt : Addr) (fd : FuncData), Tp (K w.params) mg M CM CR CS CD c Pt fa fd) :
    PySem.W.WalkO q loose XP YP l.row.toRowW d [] (fun f vs => PySem.call f vs) := by
  refine Att.attach_callB hn hdf fun w s₀ s₁ mg mb fa o pm cd doc a vs ns G Y ho hd hcd hmg hobj hints hlen hbits hg => ?_
  have KX := hY w _ Y
  obtain ⟨M, CM, CR, CS, CD, c, Pt, fd, t⟩ := F w mg fa _ KX G.T.g hmg
  obtain ⟨d', hr⟩ := hr
  obtain ⟨C, hT⟩ := PySem.W.tab_of G.T KX hr t.tab
  exact call_law (k := 11) (x := "_law_script") (sp := spLaw (K w.params) [(Pt, qNo)]) KX G.T.g G.T.b G.T.builtins G.T.nolimit hg hT t.nP C G.T.bmain hobj hints (Nat.le_trans hlen (by decide)) ⟨rfl, by decide, by decide⟩ (fun base _ _ TB => asm t TB) t.lawb
    fun H hP hS => ⟨a, ns, rfl, hS, hlen, fun p hp => by rw [List.mem_singleton.mp hp]; exact .nil hP, fun _ => rfl⟩
end K1
namespace K1
open PySem PySem.Spec PyProof.Rows L2
section
variable {K : PySem.W.Frag} {h : Heap} {mg : Str → Option Value} {x qual : Str} {st : Stmt} {ps : List Str} {f C : Addr} {oc kV doc pm cdv ct : Value} {od an : Option Addr} {osl : Array (Option Value)}
theorem df_of (X : K.In h) (G : h.Ns mainGlobals mg) (a : PySem.W.nsIn K mainGlobals x = some (some (.ref f))) (l : K.lookup f = some ⟨oc, od, .func (PySem.W.fnOf x x (defArgs st) (defBody st) (defScope st) .none kV doc pm an cdv ct), osl⟩)
    (c : PySem.W.codeIn K cdv x = true) (k : PySem.W.keepIn K (.ref f) = true)
    (b : ∀ (kV doc pm : Value) (an : Option Addr) (cdv ct : Value) (us : List Value), us.length = ps.length → bindArgs (PySem.W.fnOf x x (defArgs st) (defBody st) (defScope st) .none kV doc pm an cdv ct) ⟨us, []⟩ = pure (ps.zip us)) : ∃ f fd, Df K mg x st ps f fd :=
  ⟨f, _, ⟨fun_mk l c k, PySem.W.mg_of X G a, (fun_mk l c k).binds b⟩⟩
theorem dfc_of {cc : Addr} (X : K.In h) (G : h.Ns mainGlobals mg) (a : PySem.W.nsIn K mainGlobals x = some (some (.ref f))) (l : K.lookup f = some ⟨oc, od, .func (PySem.W.fnOf x x (defArgs st) (defBody st) (defScope st) .none kV doc pm an (.ref cc) ct), osl⟩)
    (c : PySem.W.codeIn K (.ref cc) x = true) (k : PySem.W.keepIn K (.ref f) = true)
    (b : ∀ (kV doc pm : Value) (an : Option Addr) (cdv ct : Value) (us : List Value), us.length = ps.length → bindArgs (PySem.W.fnOf x x (defArgs st) (defBody st) (defScope st) .none kV doc pm an cdv ct) ⟨us, []⟩ = pure (ps.zip us)) : ∃ f fd, Df K mg x st ps f fd ∧ FunC K x x st f fd (.ref cc) :=
  ⟨f, _, ⟨fun_mk l c k, PySem.W.mg_of X G a, (fun_mk l c k).binds b⟩, ⟨oc, od, kV, doc, pm, an, ct, osl, rfl, l, c⟩, k⟩
theorem dfF_of {T : Addr} {o1 : Value} {o2 : Option Addr} {n : Nat} {o4 : Array (Option Value)} (X : K.In h) (G : h.Ns mainGlobals mg) (a : PySem.W.nsIn K mainGlobals "first_rows" = some (some (.ref f)))
    (l : K.lookup f = some ⟨oc, od, .func (PySem.W.fnOf "first_rows" "first_rows" (defArgs sFirst) (defBody sFirst) (defScope sFirst) (.ref T) kV doc pm an cdv ct), osl⟩)
    (c : PySem.W.codeIn K cdv "first_rows" = true) (k : PySem.W.keepIn K (.ref f) = true) (lT : K.lookup T = some ⟨o1, o2, .seq #[.none, .none] n, o4⟩) : ∃ f fd, DfF K mg f fd :=
  ⟨f, _, ⟨⟨⟨oc, od, .ref T, kV, doc, pm, an, cdv, ct, osl, rfl, l, c, .inr ⟨by simp, T, _, [.none, .none], n, rfl, lT, rfl, .cons rfl (.cons rfl .nil)⟩, .inl rfl⟩, k⟩, PySem.W.mg_of X G a⟩⟩
theorem law_of {fa : Addr} (X : K.In h) (G : h.Ns mainGlobals mg) (e : mg "law" = some (.ref fa)) (a : PySem.W.nsIn K mainGlobals "law" = some (some (.ref f))) (l : K.lookup f = some ⟨oc, od, .func (PySem.W.fnOf "law" "law" (defArgs sLaw) (defBody sLaw) (defScope sLaw) .none kV doc pm an cdv ct), osl⟩)
    (c : PySem.W.codeIn K cdv "law" = true) (k : PySem.W.keepIn K (.ref f) = true) : ∃ fd, Fun K "law" "law" sLaw fa fd ∧ ∀ (s : Shared) (u : Value), BindsTo s fd ⟨[u], []⟩ [("_law_script", u)] := by
  have z := e.symm.trans (PySem.W.mg_of X G a)
  cases Option.some.inj z
  exact ⟨_, fun_mk l c k, fun s u => .of_eq rfl⟩
theorem init_of {M : Addr} (a : PySem.W.findIn K (.ref M) "__init__" = some (some (.ref f))) (i : PySem.W.isFn K (.ref f) = true) (m : PySem.W.makesIn K M = true) (kM : PySem.W.keepIn K (.ref M) = true)
    (l : K.lookup f = some ⟨oc, od, .func (PySem.W.fnOf "__init__" "Machine.__init__" (defArgs sMInit) (defBody sMInit) (defScope sMInit) .none kV doc pm an cdv ct), osl⟩) (c : PySem.W.codeIn K cdv "Machine.__init__" = true) (k : PySem.W.keepIn K (.ref f) = true) :
    ∃ f fd, Fun K "__init__" "Machine.__init__" sMInit f fd ∧ Mk K M f ∧ Binds K fd ["self", "tables"] [] :=
  ⟨f, _, fun_mk l c k, ⟨m, a, i, kM⟩, (fun_mk l c k).binds fun _ _ _ _ _ _ us hl => match us, hl with | [_, _], _ => rfl⟩
theorem eq_of {M : Addr} (a : PySem.W.findIn K (.ref M) "__eq__" = some (some (.ref f))) (i : PySem.W.isFn K (.ref f) = true)
    (l : K.lookup f = some ⟨oc, od, .func (PySem.W.fnOf "__eq__" "Machine.__eq__" (defArgs sMEq) (defBody sMEq) (defScope sMEq) .none kV doc pm an cdv ct), osl⟩) (c : PySem.W.codeIn K cdv "Machine.__eq__" = true) (k : PySem.W.keepIn K (.ref f) = true) :
    ∃ f fd, Fun K "__eq__" "Machine.__eq__" sMEq f fd ∧ PySem.W.findIn K (.ref M) "__eq__" = some (some (.ref f)) ∧ PySem.W.isFn K (.ref f) = true ∧ Binds K fd ["self", "other"] [] :=
  ⟨f, _, fun_mk l c k, a, i, (fun_mk l c k).binds fun _ _ _ _ _ _ us hl => match us, hl with | [_, _], _ => rfl⟩
end
section
variable {K : PySem.W.Frag} {h : Heap} {mg : Str → Option Value} {cn ql nm q : Str} {C N0 N fI : Addr} {bs sub : List Value} {sn : List Str} {ab : Bool} {col : Option Bool} {dd : Option Addr} {k0 k1 k2 k3 k5 : Option Value} {oc doc pm cdv ct : Value} {od an : Option Addr} {osl : Array (Option Value)} {p1 p2 q1 q2 q3 q4 : Pos}
theorem at_of_ (X : K.In h) (G : h.Ns mainGlobals mg) (a : PySem.W.nsIn K mainGlobals cn = some (some (.ref C))) (xl : K.lookup C = some (excClassObj nm q C N bs (.ref N0 :: veT) true sn sub ab col dd k0 k1 k2 k3 k5 "ValueError.__new__"))
    (sa : PySem.W.findIn K (.ref C) "__setattr__" = some (some (.builtin "object.__setattr__"))) (ga : PySem.W.findIn K (.ref C) "__getattribute__" = some (some (.builtin "BaseException.__getattribute__"))) (gg : PySem.W.findIn K (.ref C) "__getattr__" = some none) (no : PySem.W.findIn K (.ref C) "at" = some none)
    (ic : PySem.W.findIn K (.ref C) "__init__" = some (some (.ref fI))) (tc : PySem.W.typeIn K (.ref fI) = some (.type "function")) (kc : PySem.W.keepIn K (.ref C) = true) (ec : PySem.W.subIn K (.ref C) (.type "BaseException") = some true) (ty : PySem.W.typeIn K (.ref C) = some (.type "type")) (hc : PySem.W.hasDictIn K C = true)
    (l : K.lookup fI = some ⟨oc, od, .func (PySem.W.fnOf "__init__" ql (LAt.iA p1 p2) (LAt.iB q1 q2 q3 q4) LAt.iS .none .none doc pm an cdv ct), osl⟩) (c : PySem.W.codeIn K cdv ql = true) : ∃ q b i, LAt.Txt K mg cn q b C i :=
  ⟨ql, _, fI, ⟨PySem.W.mg_of X G a, ⟨nm, q, N, bs, sn, sub, ab, col, dd, k0, k1, k2, k3, k5, xl⟩, mro_ve N0, sa, ga, gg, no, ic, tc, kc, ec, ty, hc, ⟨oc, od, doc, pm, an, cdv, ct, osl, p1, p2, q1, q2, q3, q4, l, c⟩⟩⟩
theorem state_of_ (X : K.In h) (G : h.Ns mainGlobals mg) (a : PySem.W.nsIn K mainGlobals cn = some (some (.ref C))) (xl : K.lookup C = some (excClassObj nm q C N bs keT true sn sub ab col dd k0 k1 k2 k3 k5 "LookupError.__new__"))
    (sa : PySem.W.findIn K (.ref C) "__setattr__" = some (some (.builtin "object.__setattr__"))) (ga : PySem.W.findIn K (.ref C) "__getattribute__" = some (some (.builtin "BaseException.__getattribute__"))) (gg : PySem.W.findIn K (.ref C) "__getattr__" = some none) (no : PySem.W.findIn K (.ref C) "state" = some none)
    (ic : PySem.W.findIn K (.ref C) "__init__" = some (some (.ref fI))) (tc : PySem.W.typeIn K (.ref fI) = some (.type "function")) (kc : PySem.W.keepIn K (.ref C) = true) (ec : PySem.W.subIn K (.ref C) (.type "BaseException") = some true) (ty : PySem.W.typeIn K (.ref C) = some (.type "type")) (hc : PySem.W.hasDictIn K C = true)
    (l : K.lookup fI = some ⟨oc, od, .func (PySem.W.fnOf "__init__" ql (LState.iA p1 p2) (LState.iB q1 q2 q3 q4) LState.iS .none .none doc pm an cdv ct), osl⟩) (c : PySem.W.codeIn K cdv ql = true) : ∃ q b i, LState.Txt K mg cn q b C i :=
  ⟨ql, _, fI, ⟨PySem.W.mg_of X G a, ⟨nm, q, N, bs, sn, sub, ab, col, dd, k0, k1, k2, k3, k5, xl⟩, mro_ke, sa, ga, gg, no, ic, tc, kc, ec, ty, hc, ⟨oc, od, doc, pm, an, cdv, ct, osl, p1, p2, q1, q2, q3, q4, l, c⟩⟩⟩
theorem deed_of_ (X : K.In h) (G : h.Ns mainGlobals mg) (a : PySem.W.nsIn K mainGlobals cn = some (some (.ref C))) (xl : K.lookup C = some (excClassObj nm q C N bs keT true sn sub ab col dd k0 k1 k2 k3 k5 "LookupError.__new__"))
    (sa : PySem.W.findIn K (.ref C) "__setattr__" = some (some (.builtin "object.__setattr__"))) (ga : PySem.W.findIn K (.ref C) "__getattribute__" = some (some (.builtin "BaseException.__getattribute__"))) (gg : PySem.W.findIn K (.ref C) "__getattr__" = some none) (no : PySem.W.findIn K (.ref C) "deed" = some none)
    (ic : PySem.W.findIn K (.ref C) "__init__" = some (some (.ref fI))) (tc : PySem.W.typeIn K (.ref fI) = some (.type "function")) (kc : PySem.W.keepIn K (.ref C) = true) (ec : PySem.W.subIn K (.ref C) (.type "BaseException") = some true) (ty : PySem.W.typeIn K (.ref C) = some (.type "type")) (hc : PySem.W.hasDictIn K C = true)
    (l : K.lookup fI = some ⟨oc, od, .func (PySem.W.fnOf "__init__" ql (LDeed.iA p1 p2) (LDeed.iB q1 q2 q3 q4) LDeed.iS .none .none doc pm an cdv ct), osl⟩) (c : PySem.W.codeIn K cdv ql = true) : ∃ q b i, LDeed.Txt K mg cn q b C i :=
  ⟨ql, _, fI, ⟨PySem.W.mg_of X G a, ⟨nm, q, N, bs, sn, sub, ab, col, dd, k0, k1, k2, k3, k5, xl⟩, mro_ke, sa, ga, gg, no, ic, tc, kc, ec, ty, hc, ⟨oc, od, doc, pm, an, cdv, ct, osl, p1, p2, q1, q2, q3, q4, l, c⟩⟩⟩
theorem exm_of {CM CR CS CD : Addr} (X : K.In h) (G : h.Ns mainGlobals mg) (a : PySem.W.nsIn K mainGlobals "NetError" = some (some (.ref N))) (e : Exm K CM CR CS CD N) : ∃ N, mg "NetError" = some (.ref N) ∧ Exm K CM CR CS CD N := ⟨N, PySem.W.mg_of X G a, e⟩
end
theorem ct_of {K : PySem.W.Frag} {h : Heap} {mg : Str → Option Value} {t1 t2 t3 : Tok} (X : K.In h) (G : h.Ns mainGlobals mg) (a : PySem.W.nsIn K mainGlobals "MOST_TABLES" = some (some (.int 8 t1))) (b : PySem.W.nsIn K mainGlobals "MOST_STATES" = some (some (.int 12 t2))) (c : PySem.W.nsIn K mainGlobals "MOST_ROW" = some (some (.int 10000 t3))) : Ct mg :=
  ⟨⟨_, PySem.W.mg_of X G a⟩, ⟨_, PySem.W.mg_of X G b⟩, ⟨_, PySem.W.mg_of X G c⟩⟩
theorem bt_of {K : PySem.W.Frag} {h : Heap} {mg : Str → Option Value} (X : K.In h) (G : h.Ns mainGlobals mg) (z : ∀ x ∈ ([("isinstance" : Str), "int", "bool", "list", "tuple", "len", "enumerate", "range", "sorted", "set", "repr", "abs", "min", "max"]), PySem.W.nsIn K mainGlobals x = some none) : Bt mg := by
  have n := fun x hx => PySem.W.mg_none_of X G (z x hx)
  exact ⟨n _ (by decide), n _ (by decide), n _ (by decide), n _ (by decide), n _ (by decide), n _ (by decide), n _ (by decide), n _ (by decide), n _ (by decide), n _ (by decide), n _ (by decide), n _ (by decide), n _ (by decide), n _ (by decide)⟩
theorem tab_mk {K : PySem.W.Frag} {x : Str} {f c Pt : Addr} {oc o1 : Value} {od o2 : Option Addr} {fd : FuncData} {osl o4 : Array (Option Value)} {vs : Array Value} (a : PySem.W.nsIn K mainGlobals x = some (some (.ref f))) (l : K.lookup f = some ⟨oc, od, .func fd, osl⟩) (hc : fd.code = .ref c)
    (lc : K.lookup c = some ⟨o1, o2, .fields vs, o4⟩) (hv : (vs[11]? : Option Value) = some (.ref Pt)) : PySem.W.tabIn K x = some (c, Pt) := by
  unfold PySem.W.tabIn
  rw [a]
  dsimp only
  rw [l]
  dsimp only
  rw [hc]
  dsimp only
  rw [lc]
  dsimp only
  rw [hv]
/-- the facts of the head, by the words that k_is answers -/
theorem tp_of {K : PySem.W.Frag} {h : Heap} {mg : Str → Option Value} {fa M CM CR CS CD N c Pt fN : Addr} {oc kV doc pm ct o1 : Value} {od an o2 : Option Addr} {osl o4 : Array (Option Value)} {vs : Array Value} (X : K.In h) (G : h.Ns mainGlobals mg)
    (B : Bt mg) (c_ : Ct mg)
    (whole : ∃ f fd, Df K mg "is_whole" sWhole ["value"] f fd)
    (below : ∃ f fd, Df K mg "is_below" sBelow ["value", "limit"] f fd)
    (seq : ∃ f fd, Df K mg "is_sequence" sSeq ["value", "least", "most"] f fd)
    (fnb : ∃ f fd, Df K mg "first_not_below" sFnb ["items", "limit"] f fd)
    (istab : ∃ f fd, Df K mg "is_table" sIsTab ["value", "states"] f fd)
    (chk : ∃ f fd, Df K mg "checked_tables" sChk ["value"] f fd)
    (needS : ∃ f fd, Df K mg "need_state" sNeedS ["machine", "state"] f fd)
    (needD : ∃ f fd, Df K mg "need_deed" sNeedD ["machine", "deed"] f fd)
    (fault : ∃ f fd, Df K mg "row_fault" sFault ["machine", "value"] f fd)
    (row : ∃ f fd, Df K mg "check_row" sRow ["machine", "value"] f fd)
    (moved : ∃ f fd, Df K mg "moved" sMoved ["machine", "state", "row"] f fd)
    (led : ∃ f fd, Df K mg "led" sLed ["machine", "state", "row"] f fd)
    (first : ∃ f fd, DfF K mg f fd)
    (orbit : ∃ f fd, Df K mg "orbit" sOrbit ["machine", "state"] f fd)
    (box : ∃ f fd, Df K mg "_law_box" sBox ["_law_script", "_law_k"] f fd)
    (take : ∃ f fd, Df K mg "_law_take" sTake ["_law_box_here", "_law_many"] f fd)
    (pick : ∃ f fd, Df K mg "_law_pick" sPick ["_law_box_here", "_law_some"] f fd)
    (tabs : ∃ f fd, Df K mg "_law_tables" sTabs ["_law_box_here", "_law_sizes", "_law_kinds"] f fd)
    (run : ∃ f fd, Df K mg "_law_run" sRun ["_law_tables_here", "_law_start", "_law_log_here"] f fd)
    (log : ∃ f fd, Df K mg "_law_log" sLog ["_law_box_here", "_law_tables_here", "_law_most"] f fd)
    (heard : ∃ f fd, Df K mg "_law_heard" sHeard ["_law_ask"] f fd)
    (told : ∃ f fd, Df K mg "_law_told_right" sTold ["_law_box_here", "_law_tables_here"] f fd)
    (law : ∃ fd, Fun K "law" "law" sLaw fa fd ∧ ∀ (s : Shared) (u : Value), BindsTo s fd ⟨[u], []⟩ [("_law_script", u)])
    (aN : PySem.W.nsIn K mainGlobals "_law_none_right" = some (some (.ref fN))) (lN : K.lookup fN = some ⟨oc, od, .func (PySem.W.fnOf "_law_none_right" "_law_none_right" (defArgs sNone) (defBody sNone) (defScope sNone) .none kV doc pm an (.ref c) ct), osl⟩)
    (cN : PySem.W.codeIn K (.ref c) "_law_none_right" = true) (kN : PySem.W.keepIn K (.ref fN) = true) (lc : K.lookup c = some ⟨o1, o2, .fields vs, o4⟩) (hv : (vs[11]? : Option Value) = some (.ref Pt)) (nP : K.lookup Pt = Option.none)
    (aM : PySem.W.nsIn K mainGlobals "Machine" = some (some (.ref M))) (pg : PySem.W.plainGet K M Str.empty = true) (hd : PySem.W.hasDictIn K M = true) (po : PySem.W.plainOver K M = true) (sa : PySem.W.findIn K (.ref M) "__setattr__" = some (some (.builtin "object.__setattr__")))
    (n1 : PySem.W.findIn K (.ref M) "tables" = some Option.none) (n2 : PySem.W.findIn K (.ref M) "deeds" = some Option.none) (n3 : PySem.W.findIn K (.ref M) "states" = some Option.none)
    (ca : PySem.W.findIn K (.ref M) "__class__" = some (some (.builtin "object.__class__"))) (sp : PySem.W.specialIn K (.builtin "object.__class__") "__get__" = some (some (.builtin "getset_descriptor.__get__"))) (tk : PySem.W.takesIn K (.builtin "object.__class__") = some true) (mo : PySem.W.mroIn K M (.type "object") = some true)
    (y : PySem.W.kitOne K (.ref M) (.ref M) = some true) (n : PySem.W.kitOne K (.type "tuple") (.ref M) = some false) (nf : PySem.W.notFirst K M (.type "tuple") = true)
    (init : ∃ f fd, Fun K "__init__" "Machine.__init__" sMInit f fd ∧ Mk K M f ∧ Binds K fd ["self", "tables"] [])
    (eq : ∃ f fd, Fun K "__eq__" "Machine.__eq__" sMEq f fd ∧ PySem.W.findIn K (.ref M) "__eq__" = some (some (.ref f)) ∧ PySem.W.isFn K (.ref f) = true ∧ Binds K fd ["self", "other"] [])
    (aCM : PySem.W.nsIn K mainGlobals "BadMachine" = some (some (.ref CM))) (aCR : PySem.W.nsIn K mainGlobals "BadRow" = some (some (.ref CR))) (aCS : PySem.W.nsIn K mainGlobals "NoState" = some (some (.ref CS))) (aCD : PySem.W.nsIn K mainGlobals "NoDeed" = some (some (.ref CD))) (aNE : PySem.W.nsIn K mainGlobals "NetError" = some (some (.ref N)))
    (t1 : ∃ q b i, LAt.Txt K mg "BadMachine" q b CM i) (t2 : ∃ q b i, LAt.Txt K mg "BadRow" q b CR i) (t3 : ∃ q b i, LState.Txt K mg "NoState" q b CS i) (t4 : ∃ q b i, LDeed.Txt K mg "NoDeed" q b CD i)
    (ex : Exm K CM CR CS CD N) : ∃ (M CM CR CS CD c Pt : Addr) (fd : FuncData), Tp K mg M CM CR CS CD c Pt fa fd := by
  obtain ⟨fd, l1, l2⟩ := law
  refine ⟨M, CM, CR, CS, CD, c, Pt, fd, ⟨B, c_, whole, below, seq, fnb, istab, chk, needS, needD, fault, row, moved, led, first, orbit, box, take, pick, tabs, run, log, heard, told, ?_, l1, l2, init, eq, nf, ⟨⟨pg, hd, po, sa⟩, n1, n2, n3, PySem.W.mg_of X G aM, ca, sp, tk, mo⟩, ⟨y, n⟩, t1, t2, t3, t4, ⟨N, PySem.W.mg_of X G aNE, ex⟩, tab_mk aN lN rfl lc hv, nP⟩⟩
  exact dfc_of X G aN lN cN kN fun _ _ _ _ _ _ us hl => match us, hl with | [_, _], _ => rfl
end K1
open PySem PySem.W PyProof.Rows
set_option maxRecDepth 100000 in
set_option maxHeartbeats 0 in
theorem PySem.Challenge.cw_houseslessties_k01_machines_rows_and_wha_holds : PySem.Challenge.rw_houseslessties_k01_machines_rows_and_wha.Holds := by
  w_on; o_law; k_head; (case hw => w_witness2)
  k_fill
  refine K1.walkK (l := PySem.Challenge.rw_houseslessties_k01_machines_rows_and_wha) rfl rfl (fun w h Y => PySem.W.km_in_of Y) ?hr ?F
  case hr => exact ⟨_, rfl⟩
  case F =>
    intro w mg fa h KX G hmg
    refine' K1.tp_of KX G ?B ?c_ ?whole ?below ?seq ?fnb ?istab ?chk ?needS ?needD ?fault ?row ?moved ?led ?first ?orbit ?box ?take ?pick ?tabs ?zrun ?log ?heard ?told ?law ?aN ?lN ?cN ?kN ?lc ?hv ?nP ?aM ?pg ?hd ?po ?sa ?n1 ?n2 ?n3 ?ca ?sp ?tk ?mo ?y ?n ?nf ?init ?eq ?aCM ?aCR ?aCS ?aCD ?aNE ?t1 ?t2 ?t3 ?t4 ?ex
    case B =>
      refine K1.bt_of KX G fun x hx => ?_
      simp only [List.mem_cons, List.mem_nil_iff, or_false] at hx
      rcases hx with rfl | rfl | rfl | rfl | rfl | rfl | rfl | rfl | rfl | rfl | rfl | rfl | rfl | rfl <;> k_is
    case c_ => refine' K1.ct_of KX G ?a_1 ?b_1 ?c_1; (case a_1 => k_is); (case b_1 => k_is); (case c_1 => k_is)
    case whole =>
      (refine' K1.df_of (by assumption) (by assumption) ?a_2 ?l_2 ?c_2 ?k_2 ?b_2; (case a_2 => k_is); (case l_2 => k_is); (case c_2 => k_is); (case k_2 => k_is))
      case b_2 => exact fun _ _ _ _ _ _ us hl => match us, hl with | [_], _ => rfl
    case below =>
      (refine' K1.df_of (by assumption) (by assumption) ?a_3 ?l_3 ?c_3 ?k_3 ?b_3; (case a_3 => k_is); (case l_3 => k_is); (case c_3 => k_is); (case k_3 => k_is))
      case b_3 => exact fun _ _ _ _ _ _ us hl => match us, hl with | [_, _], _ => rfl
    case seq =>
      (refine' K1.df_of (by assumption) (by assumption) ?a_4 ?l_4 ?c_4 ?k_4 ?b_4; (case a_4 => k_is); (case l_4 => k_is); (case c_4 => k_is); (case k_4 => k_is))
      case b_4 => exact fun _ _ _ _ _ _ us hl => match us, hl with | [_, _, _], _ => rfl
    case fnb =>
      (refine' K1.df_of (by assumption) (by assumption) ?a_5 ?l_5 ?c_5 ?k_5 ?b_5; (case a_5 => k_is); (case l_5 => k_is); (case c_5 => k_is); (case k_5 => k_is))
      case b_5 => exact fun _ _ _ _ _ _ us hl => match us, hl with | [_, _], _ => rfl
    case istab =>
      (refine' K1.df_of (by assumption) (by assumption) ?a_6 ?l_6 ?c_6 ?k_6 ?b_6; (case a_6 => k_is); (case l_6 => k_is); (case c_6 => k_is); (case k_6 => k_is))
      case b_6 => exact fun _ _ _ _ _ _ us hl => match us, hl with | [_, _], _ => rfl
    case chk =>
      (refine' K1.df_of (by assumption) (by assumption) ?a_7 ?l_7 ?c_7 ?k_7 ?b_7; (case a_7 => k_is); (case l_7 => k_is); (case c_7 => k_is); (case k_7 => k_is))
      case b_7 => exact fun _ _ _ _ _ _ us hl => match us, hl with | [_], _ => rfl
    case needS =>
      (refine' K1.df_of (by assumption) (by assumption) ?a_8 ?l_8 ?c_8 ?k_8 ?b_8; (case a_8 => k_is); (case l_8 => k_is); (case c_8 => k_is); (case k_8 => k_is))
      case b_8 => exact fun _ _ _ _ _ _ us hl => match us, hl with | [_, _], _ => rfl
    case needD =>
      (refine' K1.df_of (by assumption) (by assumption) ?a_9 ?l_9 ?c_9 ?k_9 ?b_9; (case a_9 => k_is); (case l_9 => k_is); (case c_9 => k_is); (case k_9 => k_is))
      case b_9 => exact fun _ _ _ _ _ _ us hl => match us, hl with | [_, _], _ => rfl
    case fault =>
      (refine' K1.df_of (by assumption) (by assumption) ?a_10 ?l_10 ?c_10 ?k_10 ?b_10; (case a_10 => k_is); (case l_10 => k_is); (case c_10 => k_is); (case k_10 => k_is))
      case b_10 => exact fun _ _ _ _ _ _ us hl => match us, hl with | [_, _], _ => rfl
    case row =>
      (refine' K1.df_of (by assumption) (by assumption) ?a_11 ?l_11 ?c_11 ?k_11 ?b_11; (case a_11 => k_is); (case l_11 => k_is); (case c_11 => k_is); (case k_11 => k_is))
      case b_11 => exact fun _ _ _ _ _ _ us hl => match us, hl with | [_, _], _ => rfl
    case moved =>
      (refine' K1.df_of (by assumption) (by assumption) ?a_12 ?l_12 ?c_12 ?k_12 ?b_12; (case a_12 => k_is); (case l_12 => k_is); (case c_12 => k_is); (case k_12 => k_is))
      case b_12 => exact fun _ _ _ _ _ _ us hl => match us, hl with | [_, _, _], _ => rfl
    case led =>
      (refine' K1.df_of (by assumption) (by assumption) ?a_13 ?l_13 ?c_13 ?k_13 ?b_13; (case a_13 => k_is); (case l_13 => k_is); (case c_13 => k_is); (case k_13 => k_is))
      case b_13 => exact fun _ _ _ _ _ _ us hl => match us, hl with | [_, _, _], _ => rfl
    case first =>
      (refine' K1.dfF_of (by assumption) (by assumption) ?a_14 ?l_14 ?c_14 ?k_14 ?lT_14; (case a_14 => k_is); (case l_14 => k_is); (case c_14 => k_is); (case k_14 => k_is); (case lT_14 => k_is))
    case orbit =>
      (refine' K1.df_of (by assumption) (by assumption) ?a_15 ?l_15 ?c_15 ?k_15 ?b_15; (case a_15 => k_is); (case l_15 => k_is); (case c_15 => k_is); (case k_15 => k_is))
      case b_15 => exact fun _ _ _ _ _ _ us hl => match us, hl with | [_, _], _ => rfl
    case box =>
      (refine' K1.df_of (by assumption) (by assumption) ?a_16 ?l_16 ?c_16 ?k_16 ?b_16; (case a_16 => k_is); (case l_16 => k_is); (case c_16 => k_is); (case k_16 => k_is))
      case b_16 => exact fun _ _ _ _ _ _ us hl => match us, hl with | [_, _], _ => rfl
    case take =>
      (refine' K1.df_of (by assumption) (by assumption) ?a_17 ?l_17 ?c_17 ?k_17 ?b_17; (case a_17 => k_is); (case l_17 => k_is); (case c_17 => k_is); (case k_17 => k_is))
      case b_17 => exact fun _ _ _ _ _ _ us hl => match us, hl with | [_, _], _ => rfl
    case pick =>
      (refine' K1.df_of (by assumption) (by assumption) ?a_18 ?l_18 ?c_18 ?k_18 ?b_18; (case a_18 => k_is); (case l_18 => k_is); (case c_18 => k_is); (case k_18 => k_is))
      case b_18 => exact fun _ _ _ _ _ _ us hl => match us, hl with | [_, _], _ => rfl
    case tabs =>
      (refine' K1.df_of (by assumption) (by assumption) ?a_19 ?l_19 ?c_19 ?k_19 ?b_19; (case a_19 => k_is); (case l_19 => k_is); (case c_19 => k_is); (case k_19 => k_is))
      case b_19 => exact fun _ _ _ _ _ _ us hl => match us, hl with | [_, _, _], _ => rfl
    case zrun =>
      (refine' K1.df_of (by assumption) (by assumption) ?a_20 ?l_20 ?c_20 ?k_20 ?b_20; (case a_20 => k_is); (case l_20 => k_is); (case c_20 => k_is); (case k_20 => k_is))
      case b_20 => exact fun _ _ _ _ _ _ us hl => match us, hl with | [_, _, _], _ => rfl
    case log =>
      (refine' K1.df_of (by assumption) (by assumption) ?a_21 ?l_21 ?c_21 ?k_21 ?b_21; (case a_21 => k_is); (case l_21 => k_is); (case c_21 => k_is); (case k_21 => k_is))
      case b_21 => exact fun _ _ _ _ _ _ us hl => match us, hl with | [_, _, _], _ => rfl
    case heard =>
      (refine' K1.df_of (by assumption) (by assumption) ?a_22 ?l_22 ?c_22 ?k_22 ?b_22; (case a_22 => k_is); (case l_22 => k_is); (case c_22 => k_is); (case k_22 => k_is))
      case b_22 => exact fun _ _ _ _ _ _ us hl => match us, hl with | [_], _ => rfl
    case told =>
      (refine' K1.df_of (by assumption) (by assumption) ?a_23 ?l_23 ?c_23 ?k_23 ?b_23; (case a_23 => k_is); (case l_23 => k_is); (case c_23 => k_is); (case k_23 => k_is))
      case b_23 => exact fun _ _ _ _ _ _ us hl => match us, hl with | [_, _], _ => rfl
    case law => refine' K1.law_of KX G hmg ?a_24 ?l_24 ?c_24 ?k_24; (case a_24 => k_is); (case l_24 => k_is); (case c_24 => k_is); (case k_24 => k_is)
    (case aN => k_is); (case lN => k_is); (case cN => k_is); (case kN => k_is); (case lc => k_is); (case hv => rfl); (case nP => kernel_rfl)
    (case aM => k_is); (case pg => k_is); (case hd => k_is); (case po => k_is); (case sa => k_is); (case n1 => k_is); (case n2 => k_is); (case n3 => k_is); (case ca => k_is); (case sp => k_is); (case tk => k_is); (case mo => k_is)
    (case y => kernel_rfl); (case n => kernel_rfl); (case nf => k_is)
    case init => refine' K1.init_of ?a_25 ?i_25 ?m_25 ?kM_25 ?l_25 ?c_25 ?k_25; (case a_25 => k_is); (case i_25 => k_is); (case m_25 => k_is); (case kM_25 => k_is); (case l_25 => k_is); (case c_25 => k_is); (case k_25 => k_is)
    case eq => refine' K1.eq_of ?a_26 ?i_26 ?l_26 ?c_26 ?k_26; (case a_26 => k_is); (case i_26 => k_is); (case l_26 => k_is); (case c_26 => k_is); (case k_26 => k_is)
    (case aCM => k_is); (case aCR => k_is); (case aCS => k_is); (case aCD => k_is); (case aNE => k_is)
    case t1 => (refine' K1.at_of_ (by assumption) (by assumption) ?a_27 ?xl_27 ?sa_27 ?ga_27 ?gg_27 ?no_27 ?ic_27 ?tc_27 ?kc_27 ?ec_27 ?ty_27 ?hc_27 ?l_27 ?c_27; (case a_27 => k_is); (case xl_27 => k_is); (case sa_27 => k_is); (case ga_27 => k_is); (case gg_27 => k_is); (case no_27 => k_is); (case ic_27 => k_is); (case tc_27 => k_is); (case kc_27 => k_is); (case ec_27 => k_is); (case ty_27 => k_is); (case hc_27 => k_is); (case l_27 => k_is); (case c_27 => k_is))
    case t2 => (refine' K1.at_of_ (by assumption) (by assumption) ?a_28 ?xl_28 ?sa_28 ?ga_28 ?gg_28 ?no_28 ?ic_28 ?tc_28 ?kc_28 ?ec_28 ?ty_28 ?hc_28 ?l_28 ?c_28; (case a_28 => k_is); (case xl_28 => k_is); (case sa_28 => k_is); (case ga_28 => k_is); (case gg_28 => k_is); (case no_28 => k_is); (case ic_28 => k_is); (case tc_28 => k_is); (case kc_28 => k_is); (case ec_28 => k_is); (case ty_28 => k_is); (case hc_28 => k_is); (case l_28 => k_is); (case c_28 => k_is))
    case t3 => (refine' K1.state_of_ (by assumption) (by assumption) ?a_29 ?xl_29 ?sa_29 ?ga_29 ?gg_29 ?no_29 ?ic_29 ?tc_29 ?kc_29 ?ec_29 ?ty_29 ?hc_29 ?l_29 ?c_29; (case a_29 => k_is); (case xl_29 => k_is); (case sa_29 => k_is); (case ga_29 => k_is); (case gg_29 => k_is); (case no_29 => k_is); (case ic_29 => k_is); (case tc_29 => k_is); (case kc_29 => k_is); (case ec_29 => k_is); (case ty_29 => k_is); (case hc_29 => k_is); (case l_29 => k_is); (case c_29 => k_is))
    case t4 => (refine' K1.deed_of_ (by assumption) (by assumption) ?a_30 ?xl_30 ?sa_30 ?ga_30 ?gg_30 ?no_30 ?ic_30 ?tc_30 ?kc_30 ?ec_30 ?ty_30 ?hc_30 ?l_30 ?c_30; (case a_30 => k_is); (case xl_30 => k_is); (case sa_30 => k_is); (case ga_30 => k_is); (case gg_30 => k_is); (case no_30 => k_is); (case ic_30 => k_is); (case tc_30 => k_is); (case kc_30 => k_is); (case ec_30 => k_is); (case ty_30 => k_is); (case hc_30 => k_is); (case l_30 => k_is); (case c_30 => k_is))
    case ex =>
      refine' ⟨?e1, ?e2, ?e3, ?e4, ?e5, ?e6, ?e7, ?e8, ?e9, ?e10, ?e11, ?e12, ⟨?x1, ?x2, ?x3, ?x4, ?x5, ?x6, ?x7, ?x8⟩, ⟨?y1, ?y2, ?y3, ?y4, ?y5, ?y6, ?y7, ?y8⟩⟩
      all_goals first | k_is | kernel_rfl
