import PyProof.Rows.All
import Wide.All
import OpenK.AllK
import Wide.FinOn
import HandS.ForMost
import HandS.ForExc
import HandS.ExcInit
import PyProof.ExcBaseAll.LookupError
import KE.KExcIs
import HandS.IsInst
import KE.GoesEnum
import PyProof.ReprRoads
import PySem.Challenge.RW_houseslessties_k24_whole_sums_of_walks_e
import HandS.TryMany
import HandS.Lambda
import HandS.Nested
import HandS.EndTab
import HandS.DictTup
import HandS.OwnEq
import HandS.Strs
import HandS.Conv
import HandS.TupAny
import HandS.TupMul
import HandS.SortInts
import HandS.Style
import HandS.MakeKw
import HandS.Defaults
import HandS.TupLe
import HandS.SetKeys
import HandS.SetFor
import HandS.RaiseMore
import HandS.CallLocal
import HandS.Zip
import HandS.Flow
import KE.GoesZip
import KE.GoesMore
import HandS.Gcd
import HandS.Base
import HandS.Call
import HandS.Exc
import HandS.MakeKwOnly
import HandS.TryOnly
import HandS.EndBits
set_option Elab.async false
set_option linter.all false
set_option maxRecDepth 100000
set_option maxHeartbeats 16000000
/-! exceptions of own classes whose base may be ValueError or KeyError: what is asked of the chain of classes stands as premises -/
namespace K1
open PySem PySem.HandSPX Builtin Builtin.ObjectAttr
/-- what the chain of classes behind the own one must be -/
structure Mro (B : String) (bm : List Value) : Prop where
  b : bm.contains (.type B) = true
  a : bm.contains (.type "AttributeError") = false
  n : bm.contains (.type "NameError") = false
  o : bm.contains (.type "object") = true
  p : ∀ self : Value, refuseLoop self "__setattr__" bm = pure ()
section
variable {prog : Program} {w : World} {A : Around} {E : Value → Shared → Prop} {R : Result → Shared → Prop} {h : Heap} {g : Array GenState} {d : Drawn} {t : Nat} {os : OsState}
variable {nm q : Str} {C N : Addr} {bs bm bmB : List Value} {hdct : Bool} {sn : List Str} {sub : List Value} {ab : Bool} {col : Option Bool} {dd : Option Addr} {k0 k1 k2 k3 k5 : Option Value} {B newId initId : String}
theorem check_newG {M : Model} (F : ExcBaseFacts B newId initId bmB) (T : Mro B bm) {rest : List Value} {Q : Unit → Shared → Prop}
    (hC : h.get? C = some (excClassObj nm q C N bs bm hdct sn sub ab col dd k0 k1 k2 k3 k5 newId)) (hq : Q () ⟨h, g, d, t, os⟩) : wpAny M A (checkBuiltinCall newId ⟨.ref C :: rest, []⟩) Q E ⟨h, g, d, t, os⟩ := by
  have hcont : (Value.ref C :: bm).contains (.type B) = true := by rw [List.contains_cons, T.b, Bool.or_true]
  have hstar := F.noStar
  simp only [checkBuiltinCall, F.newKind, F.newSplit, F.newRow]
  repeat (first | refine wpAny_loadPart_at hC ?_ | (refine wpAny_isSubtype_exc hC ?_; rw [hcont]) | refine wpAny_staticBase_exc hC ?_ | refine wpAny_madeBy_exc hC ?_ | simp only [bne_self_eq_false, Bool.false_eq_true, if_false] | wp_step)
  exact hq
theorem newG (F : ExcBaseFacts B newId initId bmB) (T : Mro B bm) {rest : List Value}
    (hC : h.get? C = some (excClassObj nm q C N bs bm hdct sn sub ab col dd k0 k1 k2 k3 k5 newId))
    (hq : R (.ok (.ret (.ref (h.objs.size + 1)))) ⟨(h.push { cls := .type "tuple", data := .seq rest.toArray }).push
      { cls := .ref C, data := .fields #[.ref h.objs.size, .none, .none, .none, .bool false, .none] }, g, d, t, os⟩) (hrest : rest.length ≤ sizeLine) :
    codeAny (model prog w) A (.builtin newId ⟨.ref C :: rest, []⟩) R ⟨h, g, d, t, os⟩ := by
  have hends := F.ends
  have hcB : (Value.ref C :: bm).contains (.type B) = true := by rw [List.contains_cons, T.b, Bool.or_true]
  have hcA : (Value.ref C :: bm).contains (.type "AttributeError") = false := by rw [List.contains_cons, T.a]; rfl
  have hcN : (Value.ref C :: bm).contains (.type "NameError") = false := by rw [List.contains_cons, T.n]; rfl
  refine codeAny_builtinAt F.entry ?_
  unfold Builtin.«BaseException.__new__»
  refine wpAt_bind ?_
  show wpAt _ _ _ (stack >>= _) _ _ _
  refine wpAt_bind (wpAt_stack fun p below => wpAt_of_wpAny ?_)
  wp_walk
  refine wpAt_of_wpAny ?_
  rw [F.owner]
  repeat (first | with_reducible refine wpAny_madeHere_exc F.canon hC ?_ | with_reducible refine wpAny_loadPart_at hC ?_ | (with_reducible refine wpAny_isSubtype_exc hC ?_; first | rw [hcB] | rw [hcA] | rw [hcN]) | wp_step)
  show R _ _
  rw [Heap.size_push]
  exact hq
theorem type_callG (F : ExcBaseFacts B newId initId bmB) (T : Mro B bm) {rest : List Value} {fI : Addr} {Q : Fin → Shared → Prop}
    (hC : h.get? C = some (excClassObj nm q C N bs bm hdct sn sub ab col dd k0 k1 k2 k3 k5 newId))
    (hi : W.Looks (model prog w) h (typeLookup (.ref C) "__init__") (some (.ref fI))) (hb : ∀ self, W.Looks (model prog w) h (bindSpecial (.ref fI) self) (.ref fI, [self])) (hrest : rest.length ≤ sizeLine)
    (hq : codeAny (model prog w) A (.call (.ref fI) ⟨.ref (h.objs.size + 1) :: rest, []⟩)
      (fun r s' => match r with | .ok (.ret v) => v = .none ∧ Q (.done (.ret (.ref (h.objs.size + 1)))) s' | .ok _ => False | .error e => E e s')
      ⟨(h.push (W.kdv_tup rest)).push (excO C h.objs.size), g, d, t, os⟩) :
    wpAny (model prog w) A (Builtin.«type.__call__» ⟨.ref C :: rest, []⟩) Q E ⟨h, g, d, t, os⟩ := by
  repeat (first | with_reducible refine wpAny_loadPart_at hC ?_ | with_reducible refine wpAny_madeBy_exc hC ?_ | wp_step)
  refine codeAny_call_builtin_code (Code.quiet_builtin _ F.quiet) (check_newG F T hC ?_)
  refine newG F T hC ?_ hrest
  show wpAny _ _ _ _ _ _
  have k : ∀ b o, h.get? b = some o → ((h.push (W.kdv_tup rest)).push (excO C h.objs.size)).get? b = some o := fun b o e => Heap.get?_push_of_some _ (Heap.get?_push_of_some _ e)
  have hC₁ := k _ _ hC
  have hget : ((h.push (W.kdv_tup rest)).push (excO C h.objs.size)).get? (h.objs.size + 1) = some (excO C h.objs.size) := by heap_get
  have hcC : (Value.ref C :: bm).contains (.ref C) = true := by simp
  have i1 := hi.keeps k
  have b1 := (hb (.ref (h.objs.size + 1))).keeps k
  unfold isInstance
  repeat (first | with_reducible refine wpAny_loadPart_at hget ?_ | (with_reducible refine wpAny_isSubtype_exc hC₁ ?_; rw [hcC]) | wp_step)
  show wpAny _ _ (typeLookup (.ref C) _) _ _ _
  refine i1.at ?_
  refine wpAny_holding (wpAny_bind (b1.at ?_))
  refine wpAny_bind (wpAny_call (codeAny_mono hq fun r s' z => ?_))
  rcases r with e | (v | _ | _ | _) <;> first | exact z | exact z.elim | skip
  obtain ⟨rfl, z⟩ := z
  first
    | exact wpAny_pure (wpAny_pure z)
    | (wp_walk; exact z)
theorem call_ownG (F : ExcBaseFacts B newId initId bmB) (T : Mro B bm) {rest : List Value} {fI : Addr}
    (hC : h.get? C = some (excClassObj nm q C N bs bm hdct sn sub ab col dd k0 k1 k2 k3 k5 newId))
    (hi : W.Looks (model prog w) h (typeLookup (.ref C) "__init__") (some (.ref fI))) (hb : ∀ self, W.Looks (model prog w) h (bindSpecial (.ref fI) self) (.ref fI, [self])) (hrest : rest.length ≤ sizeLine)
    (hq : codeAny (model prog w) (A.under (.builtin "type.__call__" ⟨.ref C :: rest, []⟩)) (.call (.ref fI) ⟨.ref (h.objs.size + 1) :: rest, []⟩) (W.InitBack (h.objs.size + 1) R)
      ⟨(h.push (W.kdv_tup rest)).push (excO C h.objs.size), g, d, t, os⟩) :
    codeAny (model prog w) A (.call (.ref C) ⟨rest, []⟩) R ⟨h, g, d, t, os⟩ := by
  have f1 := tc_lookup
  have f2 := tc_bind (.ref C)
  have hTy : (⟨h, g, d, t, os⟩ : Shared).TypeIs (.ref C) "type" := ⟨_, hC, rfl⟩
  refine codeAny_of_tree ?_
  show wpAny _ _ (callAny (.ref C) _) _ _ _
  repeat (any_goals (first | assumption | with_reducible refine wpAny_loadPart_at hC ?_ | wp_step))
  refine ⟨rfl, ?_⟩
  refine codeAny_call_builtin_at (Code.quiet_builtin _ (by decide +kernel)) entry_typeCall (wpAny_check_type_call_sub hC (type_callG F T hC hi hb hrest ?_))
  refine codeAny_mono hq fun r s' z => ?_
  rcases r with e | (v | _ | _ | _) <;> exact z
end
section
variable {prog : Program} {w : World} {A : Around} {E : Value → Shared → Prop} {R : Result → Shared → Prop} {hp : Heap} {g : Array GenState} {d : Drawn} {t : Nat} {os : OsState}
theorem exc_osaG {K : W.Frag} {name : Str} {tk : Tok} {v : Value} {x C : Addr} {fv : Array Value} {cd : ClassData} {B : String} {bm : List Value}
    (X : K.In hp) (hx : hp.get? x = some { cls := .ref C, data := .fields fv }) (hcd : W.clsIn K C = some cd) (hm : cd.mro = .ref C :: bm) (T : Mro B bm) (hh : cd.hasDict = true) (ha : W.findIn K (.ref C) name = some none)
    (hq : ∀ h' tk' dx, (∀ b o, b ≠ x → hp.get? b = some o → h'.get? b = some o) → hp.objs.size ≤ dx → dx ≠ x → h'.get? x = some { cls := .ref C, dict := some dx, data := .fields fv } →
      h'.Ns1 dx (fun y => if y = name then some v else none) → R (.ok (.ret .none)) ⟨h', g, d, tk', os⟩) :
    codeAny (model prog w) A (.call (.builtin "object.__setattr__") ⟨[.ref x, .str name tk, v], []⟩) R ⟨hp, g, d, t, os⟩ := by
  have I : W.InstAt hp x { cls := .ref C, data := .fields fv } C none := ⟨hx, rfl, rfl, trivial⟩
  have SF := F.store_object
  have ne : cd.mro.isEmpty = false := by rw [hm]; rfl
  have hob : cd.mro.contains (.type "object") = true := by rw [hm, List.contains_cons, T.o, Bool.or_true]
  have hxs : x ≠ hp.objs.size := Nat.ne_of_lt (Heap.lt_size hx)
  have sub : W.Looks (model prog w) hp (isInstance (.ref x) (.type "object")) true := I.type.andThen (W.looks_mroIn X (by unfold W.mroIn; rw [hcd, Option.bind_some, if_neg (by rw [ne]; decide), hob]))
  refine codeAny_call_builtin SF.slot.plain SF.entry (@W.check_slot (model prog w) _ _ ⟨hp, g, d, t, os⟩ "object.__setattr__" "object" "__setattr__" (.ref x) [.str name tk, v] [] _ SF.kind SF.split sub (SF.args (.ref x) (.str name tk) v) ?_)
  have hmr : W.Looks (model prog w) hp (mroOf (.ref C)) cd.mro := (W.looks_clsIn X hcd).andThen .now
  have L3 : W.Looks (model prog w) hp (storeTaker? none) none := .now
  have hcls : W.Looks (model prog w) hp (classData C) cd := W.looks_clsIn X hcd
  rw [W.osa_eq, refuse_eq]
  refine wpAny_bind (wpAny_bind (I.type.at (wpAny_bind (hmr.at ?_))))
  rw [hm, refuseLoop_ref, T.p]
  refine wpAny_pure (wpAny_bind (I.type.at (wpAny_bind ((W.looks_findIn X ha).at (wpAny_bind (L3.at ?_))))))
  show wpAny _ _ (storeInOwnDict (.ref x) (.ref C) (.str name tk) name v false) _ _ _
  obtain ⟨nm, bs, mro, ns, qn, hd, sn, sb, ab, col, del⟩ := cd
  dsimp only at hh
  subst hh
  unfold storeInOwnDict ownDictForStores
  repeat (first | with_reducible refine store_in_new ?_ ?_ | with_reducible refine wpAny_loadPart_at hx ?_ | with_reducible refine hcls.at ?_ | wp_step)
  · exact ⟨_, #[], _, (Heap.get?_update_ne _ _ _ _ hxs.symm).trans (Heap.get?_push_at rfl rfl), rfl, fun e he => absurd he (by simp), fun _ => rfl⟩
  · intro h' tk' hn' hs
    have hx₁ : (hp.push { cls := .type "dict", data := .dict #[] }).get? x = some { cls := .ref C, data := .fields fv } := Heap.get?_push_of_some _ hx
    refine hq h' tk' hp.objs.size (fun b o hb ho => ?_) (Nat.le_refl _) hxs.symm ?_ hn'
    · exact (hs.2 b (Nat.ne_of_lt (Heap.lt_size ho))).trans ((Heap.get?_update_ne _ _ _ _ hb).trans (Heap.get?_push_of_some _ ho))
    · exact (hs.2 x hxs).trans (Heap.get?_update_self _ hx₁ rfl)
end
abbrev veT : List Value := [.type "ValueError", .type "Exception", .type "BaseException", .type "object"]
abbrev keT : List Value := [.type "KeyError", .type "LookupError", .type "Exception", .type "BaseException", .type "object"]
theorem mro_ve (c : Addr) : Mro "ValueError" (.ref c :: veT) := ⟨rfl, rfl, rfl, rfl, fun self => by rw [refuseLoop_ref]; exact F.store_ValueError.passes self⟩
theorem ke_pass (self : Value) : refuseLoop self "__setattr__" keT = pure () := by kernel_rfl
theorem mro_ke : Mro "LookupError" keT := ⟨by decide +kernel, by decide +kernel, by decide +kernel, by decide +kernel, ke_pass⟩
end K1
/-! own exception classes whose __init__ stores one field -/

namespace K1
open PySem PySem.W PySem.Calls PyProof.Rows PySem.HandSPX
theorem one_le (v : Value) : [v].length ≤ sizeLine := by
  rw [sizeLine_eq]
  exact (by decide : 1 ≤ 16777216)
theorem ldE {M : Model} {s : Shared} {name : Str} {scope : Scope} {L a : Addr} {cd : Value} {m : Str → Option Value} {x : Str} {pos : Pos} {v : Value} {Q : Value → Shared → Prop} {A : Around} {E : Value → Shared → Prop} (hn : s.heap.Ns L m) (hv : m x = some v) (h : Q v s)
    (hk : scope.kind = .function := by rfl) (hl : (envOfC name scope L a cd).kindOf x = some .local := by rfl) (hd : (x == ("__debug__" : Str)) = false := by decide) :
    wpAny M A (eval (.Name x pos) (envOfC name scope L a cd)) Q E s := wpAny_Name (wpAny_loadName_local hk hl hn hv h) hd
end K1
namespace K1
open PySem PySem.Spec PyProof.Rows L2
theorem relO_one {v : V} {v' : Value} {g : Str} (r : RelV v v') (f : Str) : RelO (List.lookup f [(g, v)]) (if f = g then some v' else none) := by
  by_cases hw : f = g
  · subst hw
    rw [if_pos rfl]
    have q : List.lookup f [(f, v)] = some v := by simp [List.lookup]
    rw [q]
    exact r
  · rw [if_neg hw]
    have qw : (f == g) = false := by simpa using hw
    have q2 : List.lookup f [(g, v)] = none := by simp [List.lookup, qw]
    rw [q2]
    trivial
/-- C(e), C's __init__ storing e as the field g -/
def tMkF (g : Str) (C : Addr) (ta : TA) : L2.St → Hp → XK → Prop := fun σ H Q => ta σ H fun vs H1 => ∃ v, vs = [v] ∧ ∀ d, H1 d = none → Q (.ref C) (some d) (upd H1 d (.xd [(g, v)]))
def tRaiseF (g : Str) (C : Addr) (W : WX) (ta : TA) : TS := fun _ σ H => tMkF g C ta σ H fun cls d H' => W cls d σ H'
def tByF (g : Str) (C : Addr) (a : Addr) (cls : Value) (d : Option Addr) (te : TE) : TE := fun σ H Q => te σ H fun x H1 => x = .ref a ∧ cls = .ref C ∧ ∃ (dd : Addr) (v : V), d = some dd ∧ H1 dd = some (.xd [(g, v)]) ∧ Q v H1
end K1

namespace K1
namespace LAt
open PySem PySem.W PySem.Calls PyProof.Rows PySem.HandSPX
/-- the text of __init__ -/
def iA (p1 p2 : Pos) : Arguments := { posonlyargs := [], args := [{ arg := "self", annotation := none, pos := p1 }, { arg := "at", annotation := none, pos := p2 }], vararg := none, kwonlyargs := [], kw_defaults := [], kwarg := none, defaults := [] }
def iB (q1 q2 q3 q4 : Pos) : List Stmt := [.Assign [.Attribute (.Name "self" q1) "at" q2] (.Name "at" q3) q4]
def iS : Scope := { kind := .function, names := [(PySem.Str.ofString "self", .local), (PySem.Str.ofString "at", .local)], isGenerator := false, isCoroutine := false, more := [] }
/-- what the written part says of the class at C (named cn), of its chain bm, and of its __init__, at fI -/
structure Txt (K : Frag) (mg : Str → Option Value) (cn ql : Str) (bm : List Value) (C fI : Addr) : Prop where
  gC : mg cn = some (.ref C)
  cls : ∃ nm q N bs sn sub ab col dd k0 k1 k2 k3 k5, K.lookup C = some (excClassObj nm q C N bs bm true sn sub ab col dd k0 k1 k2 k3 k5 "ValueError.__new__")
  mr : Mro "ValueError" bm
  sa : findIn K (.ref C) "__setattr__" = some (some (.builtin "object.__setattr__"))
  ga : findIn K (.ref C) "__getattribute__" = some (some (.builtin "BaseException.__getattribute__"))
  gg : findIn K (.ref C) "__getattr__" = some none
  noN : findIn K (.ref C) "at" = some none
  iC : findIn K (.ref C) "__init__" = some (some (.ref fI))
  tC : typeIn K (.ref fI) = some (.type "function")
  kC : keepIn K (.ref C) = true
  exC : subIn K (.ref C) (.type "BaseException") = some true
  tyC : typeIn K (.ref C) = some (.type "type")
  hdC : hasDictIn K C = true
  fn : ∃ (oc : Value) (od : Option Addr) (doc pm : Value) (an : Option Addr) (cdv ct : Value) (osl : Array (Option Value)) (p1 p2 q1 q2 q3 q4 : Pos),
    K.lookup fI = some ⟨oc, od, .func (fnOf "__init__" ql (iA p1 p2) (iB q1 q2 q3 q4) iS .none .none doc pm an cdv ct), osl⟩ ∧ codeIn K cdv ql = true
/-- what __init__ leaves of a fresh exception at x -/
structure InitEnd (h h' : Heap) (x C dx t1 : Addr) (v : Value) : Prop where
  keep : ∀ b o, b ≠ x → h.get? b = some o → h'.get? b = some o
  obj : h'.get? x = some { cls := .ref C, dict := some dx, data := .fields #[.ref t1, .none, .none, .none, .bool false, .none] }
  dbig : h.objs.size ≤ dx
  dne : dx ≠ x
  ns : h'.Ns1 dx (fun y => if y = "at" then some v else none)
structure OwnMade (h h' : Heap) (e C d : Addr) (v : Value) : Prop where
  keep : ∀ b o, h.get? b = some o → h'.get? b = some o
  new : h.objs.size ≤ e
  obj : ∃ oe vs, h'.get? e = some oe ∧ oe.cls = .ref C ∧ oe.dict = some d ∧ oe.data = .fields vs ∧ vs[1]? = some .none
  dbig : h.objs.size ≤ d
  dne : d ≠ e
  ns : h'.Ns1 d (fun y => if y = "at" then some v else none)
section
variable {prog : Program} {w : World} {A : Around} {E : Value → Shared → Prop} {R : Result → Shared → Prop} {s : Shared} {K : Frag} {mg : Str → Option Value} {cn ql : Str} {bm : List Value} {C fI : Addr}
theorem init (T : Txt K mg cn ql bm C fI) {x t0 : Addr} {v : Value} (X : K.In s.heap) (hlim : s.heap.NoLimit) (hx : s.heap.get? x = some (excO C t0)) (hnx : K.lookup x = none) (hroom : A.depth < recursionLimit)
    (hq : ∀ h' tk dx, InitEnd s.heap h' x C dx t0 v → R (.ok (.ret .none)) { s with heap := h', toks := tk }) :
    codeAny (model prog w) A (.call (.ref fI) ⟨[.ref x, v], []⟩) R s := by
  obtain ⟨oc, od, doc, pm, an, cdv, ct, osl, p1, p2, q1, q2, q3, q4, ho, hcd⟩ := T.fn
  obtain ⟨nm, q, N, bs, sn, sub, ab, col, dd, k0, k1, k2, k3, k5, hC⟩ := T.cls
  have hcl : clsIn K C = some { name := nm, bases := bs, mro := .ref C :: bm, ns := N, qualname := q, hasDict := true, slotNames := sn, subclasses := sub, abstract := ab, collection := col, hasDel := false } := by unfold clsIn; rw [hC] <;> rfl
  refine Att.call_fn (binds := [("self", .ref x), ("at", v)]) X hlim ho hcd hroom (BindsTo.of_eq (by first | rfl | with_unfolding_all rfl)) (by first | rfl | decide | with_unfolding_all rfl) (fun s₁ IC => ?_) rfl rfl rfl
  obtain ⟨h₁, tk₁, rfl⟩ := IC.toInCall.same
  have k : ∀ b o, s.heap.get? b = some o → h₁.get? b = some o := IC.toInCall.keep
  have hn := IC.toInCall.ns
  have X₁ : K.In h₁ := X.keeps k
  have hx₁ := k _ _ hx
  show wpAny _ _ (execs _ _) _ _ _
  refine wpAny_execs_cons (plainObj_wpAny_Assign_Attribute ?_)
  refine ldE (v := v) hn (by first | rfl | with_unfolding_all rfl | kernel_rfl) (ldE (v := .ref x) hn (by first | rfl | with_unfolding_all rfl | kernel_rfl) ?_)
  refine set_plain X₁ (ox := excO C t0) (od := none) ⟨hx₁, rfl, rfl, trivial⟩ T.sa ?_
  refine exc_osaG X₁ hx₁ hcl rfl T.mr rfl T.noN (fun h₃ tk₃ dx k₃ dn dne hx₃ hn₃ => ?_)
  show wpAny _ _ (execs _ _) _ _ _
  have z : s.heap.objs.size < h₁.objs.size := hn.lt
  exact wpAny_execs_nil (hq h₃ tk₃ dx ⟨fun b o hb e => k₃ b o hb (k b o e), hx₃, Nat.le_of_lt (Nat.lt_of_lt_of_le z dn), dne, hn₃⟩)
theorem made (T : Txt K mg cn ql bm C fI) {v : Value} (X : K.In s.heap) (hlim : s.heap.NoLimit) (hroom : A.depth + 1 < recursionLimit)
    (hq : ∀ h' tk e d, OwnMade s.heap h' e C d v → R (.ok (.ret (.ref e))) { s with heap := h', toks := tk }) :
    codeAny (model prog w) A (.call (.ref C) ⟨[v], []⟩) R s := by
  obtain ⟨nm, q, N, bs, sn, sub, ab, col, dd, k0, k1, k2, k3, k5, hC⟩ := T.cls
  obtain ⟨hp, g, dr, tk, os⟩ := s
  have k : ∀ b o, hp.get? b = some o → ((hp.push (kdv_tup [v])).push (excO C hp.objs.size)).get? b = some o := fun b o e => Heap.get?_push_of_some _ (Heap.get?_push_of_some _ e)
  have hget : ((hp.push (kdv_tup [v])).push (excO C hp.objs.size)).get? (hp.objs.size + 1) = some (excO C hp.objs.size) := by heap_get
  have hnx : K.lookup (hp.objs.size + 1) = none := by
    cases e : K.lookup (hp.objs.size + 1) with
    | none => rfl
    | some o =>
      have z : hp.get? (hp.objs.size + 1) = some o := X _ _ e
      exact absurd (Nat.lt_of_succ_lt (Heap.lt_size z)) (Nat.lt_irrefl _)
  refine call_ownG F.excBase_ValueError T.mr (X _ _ hC) (looks_findIn X T.iC) (fun self => bind_fn X self T.tC) (one_le v) ?_
  refine init (s := ⟨(hp.push (kdv_tup [v])).push (excO C hp.objs.size), g, dr, tk, os⟩) T (X.keeps k) (hlim.keeps k) hget hnx ?_ fun h' tk' dx ⟨k', hx, dn, dne, hns⟩ => ?_
  · show A.depth + 1 < recursionLimit
    exact hroom
  · have old : ∀ b o, hp.get? b = some o → h'.get? b = some o := fun b o e => k' b o (Nat.ne_of_lt (Nat.lt_succ_of_lt (Heap.lt_size e))) (k b o e)
    have z : hp.objs.size + 1 + 1 ≤ dx := by
      first
        | (simpa only [Heap.size_push] using dn)
        | exact dn
        | (have q := dn; rw [Heap.size_push, Heap.size_push] at q; exact q)
    exact ⟨rfl, hq h' tk' (hp.objs.size + 1) dx ⟨old, Nat.le_succ _, ⟨_, _, hx, rfl, rfl, rfl, rfl⟩, Nat.le_trans (Nat.le_trans (Nat.le_succ _) (Nat.le_succ _)) z, dne, hns⟩⟩
end
end LAt
end K1
namespace K1
open PySem PySem.Spec PyProof.Rows L2
section
variable {X : Cx} {cn ql : Str} {bm : List Value} {C fI : Addr}
theorem pmk_LAt {a : Expr} {ta : TA} {p pos : Pos} {k : Nat} (T : LAt.Txt X.K X.mg cn ql bm C fI) (hr : Room k X.A) (ha : PA X [a] ta) (hg : Gl X cn := by rfl)
    (he : starEach (a :: []) X.env = (false, eval a X.env) :: starEach [] X.env := by rfl) (hpl : (backTo pos (starEach [] X.env)).any (·.1) = false := by rfl) (hdb : (cn == ("__debug__" : Str)) = false := by decide) :
    PMk X (.Call (.Name cn p) [a] [] pos) (tMkF "at" C ta) := by
  intro pins s σ H Q I h
  refine wpAny_Call_Name_kw (ld_glob I hg T.gC ?_ hdb)
  refine PySem.W.callWith_K (h₀ := X.base) I.ok.mod.kin T.kC (thn (ha.run pos pins s σ H _ I h) fun us s1 hh => ?_) he hpl
  obtain ⟨vs, H1, I1, r1, v, ev, q1⟩ := hh
  subst ev
  refine ⟨I1.kIn, ?_⟩
  cases r1 with
  | cons rv rn =>
    rename_i v' us'
    cases rn
    show wpAny _ _ (call (.ref C) [v']) _ _ _
    have hlim := I1.nolimit
    obtain ⟨hp, g, dr, tk, os⟩ := s1
    refine wpAny_call (LAt.made T I1.kIn hlim (by have := hr.dp; omega) fun h' tk' e d M => ?_)
    show MkP X pins σ Q (.ref e) ⟨h', g, dr, tk', os⟩
    obtain ⟨oe, fv, hoe, hc, hd, hdat, h1⟩ := M.obj
    have hns := M.ns
    obtain ⟨G', g1, g2⟩ := restrict h' fun b => decide (b ≠ e)
    have gk : ∀ b, b ≠ e → G'.get? b = h'.get? b := fun b hb => g1 b (decide_eq_true hb)
    have ge : G'.get? e = none := g2 e (by simp)
    have old : ∀ b o, hp.get? b = some o → G'.get? b = some o := fun b o q => (gk b (Nat.ne_of_lt (Nat.lt_of_lt_of_le (Heap.lt_size q) M.new))).trans (M.keep b o q)
    have ob : ObjOk X.prog X.w (upd H1 d (.xd [(("at" : Str), v)])) G' d (.xd [(("at" : Str), v)]) :=
      ⟨_, hns.at (fun o q => (gk d M.dne).trans q), fun f => relO_one rv f⟩
    have J : Inv X pins σ (upd H1 d (.xd [(("at" : Str), v)])) ⟨G', g, dr, tk', os⟩ := I1.laid (t' := tk') old M.dbig ob
    refine ⟨e, oe, fv, ⟨G', g, dr, tk', os⟩, _, .ref C, some d, rfl, J, fun b o q => ?_, ge, hoe, ⟨hc, hd⟩, hdat, h1, ?_, rfl, I1.bare, raises_own T.exC T.tyC, q1 d (I1.hok.fresh M.dbig)⟩
    · by_cases hb : b = e
      · have q' : G'.get? b = some o := q
        rw [hb, ge] at q'; cases q'
      · exact (gk b hb).symm.trans q
    · rw [upd_ne (Ne.symm M.dne)]
      exact I1.hok.fresh M.new
theorem ps_raise_LAt {a : Expr} {ta : TA} {W : WX} {p pos pos2 : Pos} {k : Nat} (hc : X.calm = true) (T : LAt.Txt X.K X.mg cn ql bm C fI) (hr : Room k X.A) (tk : Takes X W) (ha : PA X [a] ta) (hg : Gl X cn := by rfl)
    (he : starEach (a :: []) X.env = (false, eval a X.env) :: starEach [] X.env := by rfl) (hpl : (backTo pos (starEach [] X.env)).any (·.1) = false := by rfl) (hdb : (cn == ("__debug__" : Str)) = false := by decide) :
    PS X (.Raise (some (.Call (.Name cn p) [a] [] pos)) none pos2) (tRaiseF "at" C W ta) := ps_raise hc tk (pmk_LAt T hr ha hg he hpl hdb)
theorem pe_by_LAt {a : Addr} {oe : Obj} {cls : Value} {d : Option Addr} {pn : List (Addr × Obj)} {e : Expr} {te : TE} {pos : Pos} (T : LAt.Txt X.K X.mg cn ql bm C fI) (hz : Zc cls d oe) (hf : ∃ vs, oe.data = .fields vs) (he : PE (X.suite a ((a, oe) :: pn)) e te)
    (hb : attributeBase e "at" X.env (eval e X.env) = eval e X.env := by rfl) :
    PE (X.suite a ((a, oe) :: pn)) (.Attribute e "at" pos) (tByF "at" C a cls d te) := by
  refine ⟨fun pins s σ H Q I h => ?_⟩
  refine attr_of hb (thn (he.run pins s σ H _ I h) fun u s1 hh => ?_)
  obtain ⟨x, H1, I1, rx, ex, ec, dd, v, ed, ea, q⟩ := hh
  subst ex
  obtain rfl : u = Value.ref a := rx
  subst ec
  subst ed
  obtain ⟨ha, _⟩ := I1.pin (a, oe) (List.mem_append_left _ List.mem_cons_self)
  obtain ⟨vs, hd⟩ := hf
  have hx : ObjOk X.prog X.w H1 s1.heap dd (.xd [(("at" : Str), v)]) := I1.hok dd _ ea
  obtain ⟨mA, hns, hr⟩ := hx
  obtain ⟨od, ho, hl⟩ := lookIn_ns hns
  have l : List.lookup ("at" : Str) [(("at" : Str), v)] = some v := by simp [List.lookup]
  obtain ⟨u, hu, ru⟩ := RelO.some_of (v := v) (o := mA "at") (by rw [← l]; exact hr "at")
  have J : PySem.W.InstAt s1.heap a oe C (some od) := ⟨ha, hz.1, by unfold PySem.W.notCls; rw [hd] <;> rfl, by rw [hz.2]; exact ho⟩
  exact HandSPX.exc_get I1.kIn J T.ga T.gg T.exC (PySem.W.findObj_own T.hdC T.noN rfl (by rw [hl, hu])) (handed_of ru) ⟨v, H1, I1.tok _, ru, q⟩
end
end K1

namespace K1
namespace LState
open PySem PySem.W PySem.Calls PyProof.Rows PySem.HandSPX
/-- the text of __init__ -/
def iA (p1 p2 : Pos) : Arguments := { posonlyargs := [], args := [{ arg := "self", annotation := none, pos := p1 }, { arg := "state", annotation := none, pos := p2 }], vararg := none, kwonlyargs := [], kw_defaults := [], kwarg := none, defaults := [] }
def iB (q1 q2 q3 q4 : Pos) : List Stmt := [.Assign [.Attribute (.Name "self" q1) "state" q2] (.Name "state" q3) q4]
def iS : Scope := { kind := .function, names := [(PySem.Str.ofString "self", .local), (PySem.Str.ofString "state", .local)], isGenerator := false, isCoroutine := false, more := [] }
/-- what the written part says of the class at C (named cn), of its chain bm, and of its __init__, at fI -/
structure Txt (K : Frag) (mg : Str → Option Value) (cn ql : Str) (bm : List Value) (C fI : Addr) : Prop where
  gC : mg cn = some (.ref C)
  cls : ∃ nm q N bs sn sub ab col dd k0 k1 k2 k3 k5, K.lookup C = some (excClassObj nm q C N bs bm true sn sub ab col dd k0 k1 k2 k3 k5 "LookupError.__new__")
  mr : Mro "LookupError" bm
  sa : findIn K (.ref C) "__setattr__" = some (some (.builtin "object.__setattr__"))
  ga : findIn K (.ref C) "__getattribute__" = some (some (.builtin "BaseException.__getattribute__"))
  gg : findIn K (.ref C) "__getattr__" = some none
  noN : findIn K (.ref C) "state" = some none
  iC : findIn K (.ref C) "__init__" = some (some (.ref fI))
  tC : typeIn K (.ref fI) = some (.type "function")
  kC : keepIn K (.ref C) = true
  exC : subIn K (.ref C) (.type "BaseException") = some true
  tyC : typeIn K (.ref C) = some (.type "type")
  hdC : hasDictIn K C = true
  fn : ∃ (oc : Value) (od : Option Addr) (doc pm : Value) (an : Option Addr) (cdv ct : Value) (osl : Array (Option Value)) (p1 p2 q1 q2 q3 q4 : Pos),
    K.lookup fI = some ⟨oc, od, .func (fnOf "__init__" ql (iA p1 p2) (iB q1 q2 q3 q4) iS .none .none doc pm an cdv ct), osl⟩ ∧ codeIn K cdv ql = true
/-- what __init__ leaves of a fresh exception at x -/
structure InitEnd (h h' : Heap) (x C dx t1 : Addr) (v : Value) : Prop where
  keep : ∀ b o, b ≠ x → h.get? b = some o → h'.get? b = some o
  obj : h'.get? x = some { cls := .ref C, dict := some dx, data := .fields #[.ref t1, .none, .none, .none, .bool false, .none] }
  dbig : h.objs.size ≤ dx
  dne : dx ≠ x
  ns : h'.Ns1 dx (fun y => if y = "state" then some v else none)
structure OwnMade (h h' : Heap) (e C d : Addr) (v : Value) : Prop where
  keep : ∀ b o, h.get? b = some o → h'.get? b = some o
  new : h.objs.size ≤ e
  obj : ∃ oe vs, h'.get? e = some oe ∧ oe.cls = .ref C ∧ oe.dict = some d ∧ oe.data = .fields vs ∧ vs[1]? = some .none
  dbig : h.objs.size ≤ d
  dne : d ≠ e
  ns : h'.Ns1 d (fun y => if y = "state" then some v else none)
section
variable {prog : Program} {w : World} {A : Around} {E : Value → Shared → Prop} {R : Result → Shared → Prop} {s : Shared} {K : Frag} {mg : Str → Option Value} {cn ql : Str} {bm : List Value} {C fI : Addr}
theorem init (T : Txt K mg cn ql bm C fI) {x t0 : Addr} {v : Value} (X : K.In s.heap) (hlim : s.heap.NoLimit) (hx : s.heap.get? x = some (excO C t0)) (hnx : K.lookup x = none) (hroom : A.depth < recursionLimit)
    (hq : ∀ h' tk dx, InitEnd s.heap h' x C dx t0 v → R (.ok (.ret .none)) { s with heap := h', toks := tk }) :
    codeAny (model prog w) A (.call (.ref fI) ⟨[.ref x, v], []⟩) R s := by
  obtain ⟨oc, od, doc, pm, an, cdv, ct, osl, p1, p2, q1, q2, q3, q4, ho, hcd⟩ := T.fn
  obtain ⟨nm, q, N, bs, sn, sub, ab, col, dd, k0, k1, k2, k3, k5, hC⟩ := T.cls
  have hcl : clsIn K C = some { name := nm, bases := bs, mro := .ref C :: bm, ns := N, qualname := q, hasDict := true, slotNames := sn, subclasses := sub, abstract := ab, collection := col, hasDel := false } := by unfold clsIn; rw [hC] <;> rfl
  refine Att.call_fn (binds := [("self", .ref x), ("state", v)]) X hlim ho hcd hroom (BindsTo.of_eq (by first | rfl | with_unfolding_all rfl)) (by first | rfl | decide | with_unfolding_all rfl) (fun s₁ IC => ?_) rfl rfl rfl
  obtain ⟨h₁, tk₁, rfl⟩ := IC.toInCall.same
  have k : ∀ b o, s.heap.get? b = some o → h₁.get? b = some o := IC.toInCall.keep
  have hn := IC.toInCall.ns
  have X₁ : K.In h₁ := X.keeps k
  have hx₁ := k _ _ hx
  show wpAny _ _ (execs _ _) _ _ _
  refine wpAny_execs_cons (plainObj_wpAny_Assign_Attribute ?_)
  refine ldE (v := v) hn (by first | rfl | with_unfolding_all rfl | kernel_rfl) (ldE (v := .ref x) hn (by first | rfl | with_unfolding_all rfl | kernel_rfl) ?_)
  refine set_plain X₁ (ox := excO C t0) (od := none) ⟨hx₁, rfl, rfl, trivial⟩ T.sa ?_
  refine exc_osaG X₁ hx₁ hcl rfl T.mr rfl T.noN (fun h₃ tk₃ dx k₃ dn dne hx₃ hn₃ => ?_)
  show wpAny _ _ (execs _ _) _ _ _
  have z : s.heap.objs.size < h₁.objs.size := hn.lt
  exact wpAny_execs_nil (hq h₃ tk₃ dx ⟨fun b o hb e => k₃ b o hb (k b o e), hx₃, Nat.le_of_lt (Nat.lt_of_lt_of_le z dn), dne, hn₃⟩)
theorem made (T : Txt K mg cn ql bm C fI) {v : Value} (X : K.In s.heap) (hlim : s.heap.NoLimit) (hroom : A.depth + 1 < recursionLimit)
    (hq : ∀ h' tk e d, OwnMade s.heap h' e C d v → R (.ok (.ret (.ref e))) { s with heap := h', toks := tk }) :
    codeAny (model prog w) A (.call (.ref C) ⟨[v], []⟩) R s := by
  obtain ⟨nm, q, N, bs, sn, sub, ab, col, dd, k0, k1, k2, k3, k5, hC⟩ := T.cls
  obtain ⟨hp, g, dr, tk, os⟩ := s
  have k : ∀ b o, hp.get? b = some o → ((hp.push (kdv_tup [v])).push (excO C hp.objs.size)).get? b = some o := fun b o e => Heap.get?_push_of_some _ (Heap.get?_push_of_some _ e)
  have hget : ((hp.push (kdv_tup [v])).push (excO C hp.objs.size)).get? (hp.objs.size + 1) = some (excO C hp.objs.size) := by heap_get
  have hnx : K.lookup (hp.objs.size + 1) = none := by
    cases e : K.lookup (hp.objs.size + 1) with
    | none => rfl
    | some o =>
      have z : hp.get? (hp.objs.size + 1) = some o := X _ _ e
      exact absurd (Nat.lt_of_succ_lt (Heap.lt_size z)) (Nat.lt_irrefl _)
  refine call_ownG F.excBase_LookupError T.mr (X _ _ hC) (looks_findIn X T.iC) (fun self => bind_fn X self T.tC) (one_le v) ?_
  refine init (s := ⟨(hp.push (kdv_tup [v])).push (excO C hp.objs.size), g, dr, tk, os⟩) T (X.keeps k) (hlim.keeps k) hget hnx ?_ fun h' tk' dx ⟨k', hx, dn, dne, hns⟩ => ?_
  · show A.depth + 1 < recursionLimit
    exact hroom
  · have old : ∀ b o, hp.get? b = some o → h'.get? b = some o := fun b o e => k' b o (Nat.ne_of_lt (Nat.lt_succ_of_lt (Heap.lt_size e))) (k b o e)
    have z : hp.objs.size + 1 + 1 ≤ dx := by
      first
        | (simpa only [Heap.size_push] using dn)
        | exact dn
        | (have q := dn; rw [Heap.size_push, Heap.size_push] at q; exact q)
    exact ⟨rfl, hq h' tk' (hp.objs.size + 1) dx ⟨old, Nat.le_succ _, ⟨_, _, hx, rfl, rfl, rfl, rfl⟩, Nat.le_trans (Nat.le_trans (Nat.le_succ _) (Nat.le_succ _)) z, dne, hns⟩⟩
end
end LState
end K1
namespace K1
open PySem PySem.Spec PyProof.Rows L2
section
variable {X : Cx} {cn ql : Str} {bm : List Value} {C fI : Addr}
theorem pmk_LState {a : Expr} {ta : TA} {p pos : Pos} {k : Nat} (T : LState.Txt X.K X.mg cn ql bm C fI) (hr : Room k X.A) (ha : PA X [a] ta) (hg : Gl X cn := by rfl)
    (he : starEach (a :: []) X.env = (false, eval a X.env) :: starEach [] X.env := by rfl) (hpl : (backTo pos (starEach [] X.env)).any (·.1) = false := by rfl) (hdb : (cn == ("__debug__" : Str)) = false := by decide) :
    PMk X (.Call (.Name cn p) [a] [] pos) (tMkF "state" C ta) := by
  intro pins s σ H Q I h
  refine wpAny_Call_Name_kw (ld_glob I hg T.gC ?_ hdb)
  refine PySem.W.callWith_K (h₀ := X.base) I.ok.mod.kin T.kC (thn (ha.run pos pins s σ H _ I h) fun us s1 hh => ?_) he hpl
  obtain ⟨vs, H1, I1, r1, v, ev, q1⟩ := hh
  subst ev
  refine ⟨I1.kIn, ?_⟩
  cases r1 with
  | cons rv rn =>
    rename_i v' us'
    cases rn
    show wpAny _ _ (call (.ref C) [v']) _ _ _
    have hlim := I1.nolimit
    obtain ⟨hp, g, dr, tk, os⟩ := s1
    refine wpAny_call (LState.made T I1.kIn hlim (by have := hr.dp; omega) fun h' tk' e d M => ?_)
    show MkP X pins σ Q (.ref e) ⟨h', g, dr, tk', os⟩
    obtain ⟨oe, fv, hoe, hc, hd, hdat, h1⟩ := M.obj
    have hns := M.ns
    obtain ⟨G', g1, g2⟩ := restrict h' fun b => decide (b ≠ e)
    have gk : ∀ b, b ≠ e → G'.get? b = h'.get? b := fun b hb => g1 b (decide_eq_true hb)
    have ge : G'.get? e = none := g2 e (by simp)
    have old : ∀ b o, hp.get? b = some o → G'.get? b = some o := fun b o q => (gk b (Nat.ne_of_lt (Nat.lt_of_lt_of_le (Heap.lt_size q) M.new))).trans (M.keep b o q)
    have ob : ObjOk X.prog X.w (upd H1 d (.xd [(("state" : Str), v)])) G' d (.xd [(("state" : Str), v)]) :=
      ⟨_, hns.at (fun o q => (gk d M.dne).trans q), fun f => relO_one rv f⟩
    have J : Inv X pins σ (upd H1 d (.xd [(("state" : Str), v)])) ⟨G', g, dr, tk', os⟩ := I1.laid (t' := tk') old M.dbig ob
    refine ⟨e, oe, fv, ⟨G', g, dr, tk', os⟩, _, .ref C, some d, rfl, J, fun b o q => ?_, ge, hoe, ⟨hc, hd⟩, hdat, h1, ?_, rfl, I1.bare, raises_own T.exC T.tyC, q1 d (I1.hok.fresh M.dbig)⟩
    · by_cases hb : b = e
      · have q' : G'.get? b = some o := q
        rw [hb, ge] at q'; cases q'
      · exact (gk b hb).symm.trans q
    · rw [upd_ne (Ne.symm M.dne)]
      exact I1.hok.fresh M.new
theorem ps_raise_LState {a : Expr} {ta : TA} {W : WX} {p pos pos2 : Pos} {k : Nat} (hc : X.calm = true) (T : LState.Txt X.K X.mg cn ql bm C fI) (hr : Room k X.A) (tk : Takes X W) (ha : PA X [a] ta) (hg : Gl X cn := by rfl)
    (he : starEach (a :: []) X.env = (false, eval a X.env) :: starEach [] X.env := by rfl) (hpl : (backTo pos (starEach [] X.env)).any (·.1) = false := by rfl) (hdb : (cn == ("__debug__" : Str)) = false := by decide) :
    PS X (.Raise (some (.Call (.Name cn p) [a] [] pos)) none pos2) (tRaiseF "state" C W ta) := ps_raise hc tk (pmk_LState T hr ha hg he hpl hdb)
theorem pe_by_LState {a : Addr} {oe : Obj} {cls : Value} {d : Option Addr} {pn : List (Addr × Obj)} {e : Expr} {te : TE} {pos : Pos} (T : LState.Txt X.K X.mg cn ql bm C fI) (hz : Zc cls d oe) (hf : ∃ vs, oe.data = .fields vs) (he : PE (X.suite a ((a, oe) :: pn)) e te)
    (hb : attributeBase e "state" X.env (eval e X.env) = eval e X.env := by rfl) :
    PE (X.suite a ((a, oe) :: pn)) (.Attribute e "state" pos) (tByF "state" C a cls d te) := by
  refine ⟨fun pins s σ H Q I h => ?_⟩
  refine attr_of hb (thn (he.run pins s σ H _ I h) fun u s1 hh => ?_)
  obtain ⟨x, H1, I1, rx, ex, ec, dd, v, ed, ea, q⟩ := hh
  subst ex
  obtain rfl : u = Value.ref a := rx
  subst ec
  subst ed
  obtain ⟨ha, _⟩ := I1.pin (a, oe) (List.mem_append_left _ List.mem_cons_self)
  obtain ⟨vs, hd⟩ := hf
  have hx : ObjOk X.prog X.w H1 s1.heap dd (.xd [(("state" : Str), v)]) := I1.hok dd _ ea
  obtain ⟨mA, hns, hr⟩ := hx
  obtain ⟨od, ho, hl⟩ := lookIn_ns hns
  have l : List.lookup ("state" : Str) [(("state" : Str), v)] = some v := by simp [List.lookup]
  obtain ⟨u, hu, ru⟩ := RelO.some_of (v := v) (o := mA "state") (by rw [← l]; exact hr "state")
  have J : PySem.W.InstAt s1.heap a oe C (some od) := ⟨ha, hz.1, by unfold PySem.W.notCls; rw [hd] <;> rfl, by rw [hz.2]; exact ho⟩
  exact HandSPX.exc_get I1.kIn J T.ga T.gg T.exC (PySem.W.findObj_own T.hdC T.noN rfl (by rw [hl, hu])) (handed_of ru) ⟨v, H1, I1.tok _, ru, q⟩
end
end K1

namespace K1
namespace LDeed
open PySem PySem.W PySem.Calls PyProof.Rows PySem.HandSPX
/-- the text of __init__ -/
def iA (p1 p2 : Pos) : Arguments := { posonlyargs := [], args := [{ arg := "self", annotation := none, pos := p1 }, { arg := "deed", annotation := none, pos := p2 }], vararg := none, kwonlyargs := [], kw_defaults := [], kwarg := none, defaults := [] }
def iB (q1 q2 q3 q4 : Pos) : List Stmt := [.Assign [.Attribute (.Name "self" q1) "deed" q2] (.Name "deed" q3) q4]
def iS : Scope := { kind := .function, names := [(PySem.Str.ofString "self", .local), (PySem.Str.ofString "deed", .local)], isGenerator := false, isCoroutine := false, more := [] }
/-- what the written part says of the class at C (named cn), of its chain bm, and of its __init__, at fI -/
structure Txt (K : Frag) (mg : Str → Option Value) (cn ql : Str) (bm : List Value) (C fI : Addr) : Prop where
  gC : mg cn = some (.ref C)
  cls : ∃ nm q N bs sn sub ab col dd k0 k1 k2 k3 k5, K.lookup C = some (excClassObj nm q C N bs bm true sn sub ab col dd k0 k1 k2 k3 k5 "LookupError.__new__")
  mr : Mro "LookupError" bm
  sa : findIn K (.ref C) "__setattr__" = some (some (.builtin "object.__setattr__"))
  ga : findIn K (.ref C) "__getattribute__" = some (some (.builtin "BaseException.__getattribute__"))
  gg : findIn K (.ref C) "__getattr__" = some none
  noN : findIn K (.ref C) "deed" = some none
  iC : findIn K (.ref C) "__init__" = some (some (.ref fI))
  tC : typeIn K (.ref fI) = some (.type "function")
  kC : keepIn K (.ref C) = true
  exC : subIn K (.ref C) (.type "BaseException") = some true
  tyC : typeIn K (.ref C) = some (.type "type")
  hdC : hasDictIn K C = true
  fn : ∃ (oc : Value) (od : Option Addr) (doc pm : Value) (an : Option Addr) (cdv ct : Value) (osl : Array (Option Value)) (p1 p2 q1 q2 q3 q4 : Pos),
    K.lookup fI = some ⟨oc, od, .func (fnOf "__init__" ql (iA p1 p2) (iB q1 q2 q3 q4) iS .none .none doc pm an cdv ct), osl⟩ ∧ codeIn K cdv ql = true
/-- what __init__ leaves of a fresh exception at x -/
structure InitEnd (h h' : Heap) (x C dx t1 : Addr) (v : Value) : Prop where
  keep : ∀ b o, b ≠ x → h.get? b = some o → h'.get? b = some o
  obj : h'.get? x = some { cls := .ref C, dict := some dx, data := .fields #[.ref t1, .none, .none, .none, .bool false, .none] }
  dbig : h.objs.size ≤ dx
  dne : dx ≠ x
  ns : h'.Ns1 dx (fun y => if y = "deed" then some v else none)
structure OwnMade (h h' : Heap) (e C d : Addr) (v : Value) : Prop where
  keep : ∀ b o, h.get? b = some o → h'.get? b = some o
  new : h.objs.size ≤ e
  obj : ∃ oe vs, h'.get? e = some oe ∧ oe.cls = .ref C ∧ oe.dict = some d ∧ oe.data = .fields vs ∧ vs[1]? = some .none
  dbig : h.objs.size ≤ d
  dne : d ≠ e
  ns : h'.Ns1 d (fun y => if y = "deed" then some v else none)
section
variable {prog : Program} {w : World} {A : Around} {E : Value → Shared → Prop} {R : Result → Shared → Prop} {s : Shared} {K : Frag} {mg : Str → Option Value} {cn ql : Str} {bm : List Value} {C fI : Addr}
theorem init (T : Txt K mg cn ql bm C fI) {x t0 : Addr} {v : Value} (X : K.In s.heap) (hlim : s.heap.NoLimit) (hx : s.heap.get? x = some (excO C t0)) (hnx : K.lookup x = none) (hroom : A.depth < recursionLimit)
    (hq : ∀ h' tk dx, InitEnd s.heap h' x C dx t0 v → R (.ok (.ret .none)) { s with heap := h', toks := tk }) :
    codeAny (model prog w) A (.call (.ref fI) ⟨[.ref x, v], []⟩) R s := by
  obtain ⟨oc, od, doc, pm, an, cdv, ct, osl, p1, p2, q1, q2, q3, q4, ho, hcd⟩ := T.fn
  obtain ⟨nm, q, N, bs, sn, sub, ab, col, dd, k0, k1, k2, k3, k5, hC⟩ := T.cls
  have hcl : clsIn K C = some { name := nm, bases := bs, mro := .ref C :: bm, ns := N, qualname := q, hasDict := true, slotNames := sn, subclasses := sub, abstract := ab, collection := col, hasDel := false } := by unfold clsIn; rw [hC] <;> rfl
  refine Att.call_fn (binds := [("self", .ref x), ("deed", v)]) X hlim ho hcd hroom (BindsTo.of_eq (by first | rfl | with_unfolding_all rfl)) (by first | rfl | decide | with_unfolding_all rfl) (fun s₁ IC => ?_) rfl rfl rfl
  obtain ⟨h₁, tk₁, rfl⟩ := IC.toInCall.same
  have k : ∀ b o, s.heap.get? b = some o → h₁.get? b = some o := IC.toInCall.keep
  have hn := IC.toInCall.ns
  have X₁ : K.In h₁ := X.keeps k
  have hx₁ := k _ _ hx
  show wpAny _ _ (execs _ _) _ _ _
  refine wpAny_execs_cons (plainObj_wpAny_Assign_Attribute ?_)
  refine ldE (v := v) hn (by first | rfl | with_unfolding_all rfl | kernel_rfl) (ldE (v := .ref x) hn (by first | rfl | with_unfolding_all rfl | kernel_rfl) ?_)
  refine set_plain X₁ (ox := excO C t0) (od := none) ⟨hx₁, rfl, rfl, trivial⟩ T.sa ?_
  refine exc_osaG X₁ hx₁ hcl rfl T.mr rfl T.noN (fun h₃ tk₃ dx k₃ dn dne hx₃ hn₃ => ?_)
  show wpAny _ _ (execs _ _) _ _ _
  have z : s.heap.objs.size < h₁.objs.size := hn.lt
  exact wpAny_execs_nil (hq h₃ tk₃ dx ⟨fun b o hb e => k₃ b o hb (k b o e), hx₃, Nat.le_of_lt (Nat.lt_of_lt_of_le z dn), dne, hn₃⟩)
theorem made (T : Txt K mg cn ql bm C fI) {v : Value} (X : K.In s.heap) (hlim : s.heap.NoLimit) (hroom : A.depth + 1 < recursionLimit)
    (hq : ∀ h' tk e d, OwnMade s.heap h' e C d v → R (.ok (.ret (.ref e))) { s with heap := h', toks := tk }) :
    codeAny (model prog w) A (.call (.ref C) ⟨[v], []⟩) R s := by
  obtain ⟨nm, q, N, bs, sn, sub, ab, col, dd, k0, k1, k2, k3, k5, hC⟩ := T.cls
  obtain ⟨hp, g, dr, tk, os⟩ := s
  have k : ∀ b o, hp.get? b = some o → ((hp.push (kdv_tup [v])).push (excO C hp.objs.size)).get? b = some o := fun b o e => Heap.get?_push_of_some _ (Heap.get?_push_of_some _ e)
  have hget : ((hp.push (kdv_tup [v])).push (excO C hp.objs.size)).get? (hp.objs.size + 1) = some (excO C hp.objs.size) := by heap_get
  have hnx : K.lookup (hp.objs.size + 1) = none := by
    cases e : K.lookup (hp.objs.size + 1) with
    | none => rfl
    | some o =>
      have z : hp.get? (hp.objs.size + 1) = some o := X _ _ e
      exact absurd (Nat.lt_of_succ_lt (Heap.lt_size z)) (Nat.lt_irrefl _)
  refine call_ownG F.excBase_LookupError T.mr (X _ _ hC) (looks_findIn X T.iC) (fun self => bind_fn X self T.tC) (one_le v) ?_
  refine init (s := ⟨(hp.push (kdv_tup [v])).push (excO C hp.objs.size), g, dr, tk, os⟩) T (X.keeps k) (hlim.keeps k) hget hnx ?_ fun h' tk' dx ⟨k', hx, dn, dne, hns⟩ => ?_
  · show A.depth + 1 < recursionLimit
    exact hroom
  · have old : ∀ b o, hp.get? b = some o → h'.get? b = some o := fun b o e => k' b o (Nat.ne_of_lt (Nat.lt_succ_of_lt (Heap.lt_size e))) (k b o e)
    have z : hp.objs.size + 1 + 1 ≤ dx := by
      first
        | (simpa only [Heap.size_push] using dn)
        | exact dn
        | (have q := dn; rw [Heap.size_push, Heap.size_push] at q; exact q)
    exact ⟨rfl, hq h' tk' (hp.objs.size + 1) dx ⟨old, Nat.le_succ _, ⟨_, _, hx, rfl, rfl, rfl, rfl⟩, Nat.le_trans (Nat.le_trans (Nat.le_succ _) (Nat.le_succ _)) z, dne, hns⟩⟩
end
end LDeed
end K1
namespace K1
open PySem PySem.Spec PyProof.Rows L2
section
variable {X : Cx} {cn ql : Str} {bm : List Value} {C fI : Addr}
theorem pmk_LDeed {a : Expr} {ta : TA} {p pos : Pos} {k : Nat} (T : LDeed.Txt X.K X.mg cn ql bm C fI) (hr : Room k X.A) (ha : PA X [a] ta) (hg : Gl X cn := by rfl)
    (he : starEach (a :: []) X.env = (false, eval a X.env) :: starEach [] X.env := by rfl) (hpl : (backTo pos (starEach [] X.env)).any (·.1) = false := by rfl) (hdb : (cn == ("__debug__" : Str)) = false := by decide) :
    PMk X (.Call (.Name cn p) [a] [] pos) (tMkF "deed" C ta) := by
  intro pins s σ H Q I h
  refine wpAny_Call_Name_kw (ld_glob I hg T.gC ?_ hdb)
  refine PySem.W.callWith_K (h₀ := X.base) I.ok.mod.kin T.kC (thn (ha.run pos pins s σ H _ I h) fun us s1 hh => ?_) he hpl
  obtain ⟨vs, H1, I1, r1, v, ev, q1⟩ := hh
  subst ev
  refine ⟨I1.kIn, ?_⟩
  cases r1 with
  | cons rv rn =>
    rename_i v' us'
    cases rn
    show wpAny _ _ (call (.ref C) [v']) _ _ _
    have hlim := I1.nolimit
    obtain ⟨hp, g, dr, tk, os⟩ := s1
    refine wpAny_call (LDeed.made T I1.kIn hlim (by have := hr.dp; omega) fun h' tk' e d M => ?_)
    show MkP X pins σ Q (.ref e) ⟨h', g, dr, tk', os⟩
    obtain ⟨oe, fv, hoe, hc, hd, hdat, h1⟩ := M.obj
    have hns := M.ns
    obtain ⟨G', g1, g2⟩ := restrict h' fun b => decide (b ≠ e)
    have gk : ∀ b, b ≠ e → G'.get? b = h'.get? b := fun b hb => g1 b (decide_eq_true hb)
    have ge : G'.get? e = none := g2 e (by simp)
    have old : ∀ b o, hp.get? b = some o → G'.get? b = some o := fun b o q => (gk b (Nat.ne_of_lt (Nat.lt_of_lt_of_le (Heap.lt_size q) M.new))).trans (M.keep b o q)
    have ob : ObjOk X.prog X.w (upd H1 d (.xd [(("deed" : Str), v)])) G' d (.xd [(("deed" : Str), v)]) :=
      ⟨_, hns.at (fun o q => (gk d M.dne).trans q), fun f => relO_one rv f⟩
    have J : Inv X pins σ (upd H1 d (.xd [(("deed" : Str), v)])) ⟨G', g, dr, tk', os⟩ := I1.laid (t' := tk') old M.dbig ob
    refine ⟨e, oe, fv, ⟨G', g, dr, tk', os⟩, _, .ref C, some d, rfl, J, fun b o q => ?_, ge, hoe, ⟨hc, hd⟩, hdat, h1, ?_, rfl, I1.bare, raises_own T.exC T.tyC, q1 d (I1.hok.fresh M.dbig)⟩
    · by_cases hb : b = e
      · have q' : G'.get? b = some o := q
        rw [hb, ge] at q'; cases q'
      · exact (gk b hb).symm.trans q
    · rw [upd_ne (Ne.symm M.dne)]
      exact I1.hok.fresh M.new
theorem ps_raise_LDeed {a : Expr} {ta : TA} {W : WX} {p pos pos2 : Pos} {k : Nat} (hc : X.calm = true) (T : LDeed.Txt X.K X.mg cn ql bm C fI) (hr : Room k X.A) (tk : Takes X W) (ha : PA X [a] ta) (hg : Gl X cn := by rfl)
    (he : starEach (a :: []) X.env = (false, eval a X.env) :: starEach [] X.env := by rfl) (hpl : (backTo pos (starEach [] X.env)).any (·.1) = false := by rfl) (hdb : (cn == ("__debug__" : Str)) = false := by decide) :
    PS X (.Raise (some (.Call (.Name cn p) [a] [] pos)) none pos2) (tRaiseF "deed" C W ta) := ps_raise hc tk (pmk_LDeed T hr ha hg he hpl hdb)
theorem pe_by_LDeed {a : Addr} {oe : Obj} {cls : Value} {d : Option Addr} {pn : List (Addr × Obj)} {e : Expr} {te : TE} {pos : Pos} (T : LDeed.Txt X.K X.mg cn ql bm C fI) (hz : Zc cls d oe) (hf : ∃ vs, oe.data = .fields vs) (he : PE (X.suite a ((a, oe) :: pn)) e te)
    (hb : attributeBase e "deed" X.env (eval e X.env) = eval e X.env := by rfl) :
    PE (X.suite a ((a, oe) :: pn)) (.Attribute e "deed" pos) (tByF "deed" C a cls d te) := by
  refine ⟨fun pins s σ H Q I h => ?_⟩
  refine attr_of hb (thn (he.run pins s σ H _ I h) fun u s1 hh => ?_)
  obtain ⟨x, H1, I1, rx, ex, ec, dd, v, ed, ea, q⟩ := hh
  subst ex
  obtain rfl : u = Value.ref a := rx
  subst ec
  subst ed
  obtain ⟨ha, _⟩ := I1.pin (a, oe) (List.mem_append_left _ List.mem_cons_self)
  obtain ⟨vs, hd⟩ := hf
  have hx : ObjOk X.prog X.w H1 s1.heap dd (.xd [(("deed" : Str), v)]) := I1.hok dd _ ea
  obtain ⟨mA, hns, hr⟩ := hx
  obtain ⟨od, ho, hl⟩ := lookIn_ns hns
  have l : List.lookup ("deed" : Str) [(("deed" : Str), v)] = some v := by simp [List.lookup]
  obtain ⟨u, hu, ru⟩ := RelO.some_of (v := v) (o := mA "deed") (by rw [← l]; exact hr "deed")
  have J : PySem.W.InstAt s1.heap a oe C (some od) := ⟨ha, hz.1, by unfold PySem.W.notCls; rw [hd] <;> rfl, by rw [hz.2]; exact ho⟩
  exact HandSPX.exc_get I1.kIn J T.ga T.gg T.exC (PySem.W.findObj_own T.hdC T.noN rfl (by rw [hl, hu])) (handed_of ru) ⟨v, H1, I1.tok _, ru, q⟩
end
end K1

namespace K1
namespace LHouse
open PySem PySem.W PySem.Calls PyProof.Rows PySem.HandSPX
/-- the text of __init__ -/
def iA (p1 p2 : Pos) : Arguments := { posonlyargs := [], args := [{ arg := "self", annotation := none, pos := p1 }, { arg := "house", annotation := none, pos := p2 }], vararg := none, kwonlyargs := [], kw_defaults := [], kwarg := none, defaults := [] }
def iB (q1 q2 q3 q4 : Pos) : List Stmt := [.Assign [.Attribute (.Name "self" q1) "house" q2] (.Name "house" q3) q4]
def iS : Scope := { kind := .function, names := [(PySem.Str.ofString "self", .local), (PySem.Str.ofString "house", .local)], isGenerator := false, isCoroutine := false, more := [] }
/-- what the written part says of the class at C (named cn), of its chain bm, and of its __init__, at fI -/
structure Txt (K : Frag) (mg : Str → Option Value) (cn ql : Str) (bm : List Value) (C fI : Addr) : Prop where
  gC : mg cn = some (.ref C)
  cls : ∃ nm q N bs sn sub ab col dd k0 k1 k2 k3 k5, K.lookup C = some (excClassObj nm q C N bs bm true sn sub ab col dd k0 k1 k2 k3 k5 "LookupError.__new__")
  mr : Mro "LookupError" bm
  sa : findIn K (.ref C) "__setattr__" = some (some (.builtin "object.__setattr__"))
  ga : findIn K (.ref C) "__getattribute__" = some (some (.builtin "BaseException.__getattribute__"))
  gg : findIn K (.ref C) "__getattr__" = some none
  noN : findIn K (.ref C) "house" = some none
  iC : findIn K (.ref C) "__init__" = some (some (.ref fI))
  tC : typeIn K (.ref fI) = some (.type "function")
  kC : keepIn K (.ref C) = true
  exC : subIn K (.ref C) (.type "BaseException") = some true
  tyC : typeIn K (.ref C) = some (.type "type")
  hdC : hasDictIn K C = true
  fn : ∃ (oc : Value) (od : Option Addr) (doc pm : Value) (an : Option Addr) (cdv ct : Value) (osl : Array (Option Value)) (p1 p2 q1 q2 q3 q4 : Pos),
    K.lookup fI = some ⟨oc, od, .func (fnOf "__init__" ql (iA p1 p2) (iB q1 q2 q3 q4) iS .none .none doc pm an cdv ct), osl⟩ ∧ codeIn K cdv ql = true
/-- what __init__ leaves of a fresh exception at x -/
structure InitEnd (h h' : Heap) (x C dx t1 : Addr) (v : Value) : Prop where
  keep : ∀ b o, b ≠ x → h.get? b = some o → h'.get? b = some o
  obj : h'.get? x = some { cls := .ref C, dict := some dx, data := .fields #[.ref t1, .none, .none, .none, .bool false, .none] }
  dbig : h.objs.size ≤ dx
  dne : dx ≠ x
  ns : h'.Ns1 dx (fun y => if y = "house" then some v else none)
structure OwnMade (h h' : Heap) (e C d : Addr) (v : Value) : Prop where
  keep : ∀ b o, h.get? b = some o → h'.get? b = some o
  new : h.objs.size ≤ e
  obj : ∃ oe vs, h'.get? e = some oe ∧ oe.cls = .ref C ∧ oe.dict = some d ∧ oe.data = .fields vs ∧ vs[1]? = some .none
  dbig : h.objs.size ≤ d
  dne : d ≠ e
  ns : h'.Ns1 d (fun y => if y = "house" then some v else none)
section
variable {prog : Program} {w : World} {A : Around} {E : Value → Shared → Prop} {R : Result → Shared → Prop} {s : Shared} {K : Frag} {mg : Str → Option Value} {cn ql : Str} {bm : List Value} {C fI : Addr}
theorem init (T : Txt K mg cn ql bm C fI) {x t0 : Addr} {v : Value} (X : K.In s.heap) (hlim : s.heap.NoLimit) (hx : s.heap.get? x = some (excO C t0)) (hnx : K.lookup x = none) (hroom : A.depth < recursionLimit)
    (hq : ∀ h' tk dx, InitEnd s.heap h' x C dx t0 v → R (.ok (.ret .none)) { s with heap := h', toks := tk }) :
    codeAny (model prog w) A (.call (.ref fI) ⟨[.ref x, v], []⟩) R s := by
  obtain ⟨oc, od, doc, pm, an, cdv, ct, osl, p1, p2, q1, q2, q3, q4, ho, hcd⟩ := T.fn
  obtain ⟨nm, q, N, bs, sn, sub, ab, col, dd, k0, k1, k2, k3, k5, hC⟩ := T.cls
  have hcl : clsIn K C = some { name := nm, bases := bs, mro := .ref C :: bm, ns := N, qualname := q, hasDict := true, slotNames := sn, subclasses := sub, abstract := ab, collection := col, hasDel := false } := by unfold clsIn; rw [hC] <;> rfl
  refine Att.call_fn (binds := [("self", .ref x), ("house", v)]) X hlim ho hcd hroom (BindsTo.of_eq (by first | rfl | with_unfolding_all rfl)) (by first | rfl | decide | with_unfolding_all rfl) (fun s₁ IC => ?_) rfl rfl rfl
  obtain ⟨h₁, tk₁, rfl⟩ := IC.toInCall.same
  have k : ∀ b o, s.heap.get? b = some o → h₁.get? b = some o := IC.toInCall.keep
  have hn := IC.toInCall.ns
  have X₁ : K.In h₁ := X.keeps k
  have hx₁ := k _ _ hx
  show wpAny _ _ (execs _ _) _ _ _
  refine wpAny_execs_cons (plainObj_wpAny_Assign_Attribute ?_)
  refine ldE (v := v) hn (by first | rfl | with_unfolding_all rfl | kernel_rfl) (ldE (v := .ref x) hn (by first | rfl | with_unfolding_all rfl | kernel_rfl) ?_)
  refine set_plain X₁ (ox := excO C t0) (od := none) ⟨hx₁, rfl, rfl, trivial⟩ T.sa ?_
  refine exc_osaG X₁ hx₁ hcl rfl T.mr rfl T.noN (fun h₃ tk₃ dx k₃ dn dne hx₃ hn₃ => ?_)
  show wpAny _ _ (execs _ _) _ _ _
  have z : s.heap.objs.size < h₁.objs.size := hn.lt
  exact wpAny_execs_nil (hq h₃ tk₃ dx ⟨fun b o hb e => k₃ b o hb (k b o e), hx₃, Nat.le_of_lt (Nat.lt_of_lt_of_le z dn), dne, hn₃⟩)
theorem made (T : Txt K mg cn ql bm C fI) {v : Value} (X : K.In s.heap) (hlim : s.heap.NoLimit) (hroom : A.depth + 1 < recursionLimit)
    (hq : ∀ h' tk e d, OwnMade s.heap h' e C d v → R (.ok (.ret (.ref e))) { s with heap := h', toks := tk }) :
    codeAny (model prog w) A (.call (.ref C) ⟨[v], []⟩) R s := by
  obtain ⟨nm, q, N, bs, sn, sub, ab, col, dd, k0, k1, k2, k3, k5, hC⟩ := T.cls
  obtain ⟨hp, g, dr, tk, os⟩ := s
  have k : ∀ b o, hp.get? b = some o → ((hp.push (kdv_tup [v])).push (excO C hp.objs.size)).get? b = some o := fun b o e => Heap.get?_push_of_some _ (Heap.get?_push_of_some _ e)
  have hget : ((hp.push (kdv_tup [v])).push (excO C hp.objs.size)).get? (hp.objs.size + 1) = some (excO C hp.objs.size) := by heap_get
  have hnx : K.lookup (hp.objs.size + 1) = none := by
    cases e : K.lookup (hp.objs.size + 1) with
    | none => rfl
    | some o =>
      have z : hp.get? (hp.objs.size + 1) = some o := X _ _ e
      exact absurd (Nat.lt_of_succ_lt (Heap.lt_size z)) (Nat.lt_irrefl _)
  refine call_ownG F.excBase_LookupError T.mr (X _ _ hC) (looks_findIn X T.iC) (fun self => bind_fn X self T.tC) (one_le v) ?_
  refine init (s := ⟨(hp.push (kdv_tup [v])).push (excO C hp.objs.size), g, dr, tk, os⟩) T (X.keeps k) (hlim.keeps k) hget hnx ?_ fun h' tk' dx ⟨k', hx, dn, dne, hns⟩ => ?_
  · show A.depth + 1 < recursionLimit
    exact hroom
  · have old : ∀ b o, hp.get? b = some o → h'.get? b = some o := fun b o e => k' b o (Nat.ne_of_lt (Nat.lt_succ_of_lt (Heap.lt_size e))) (k b o e)
    have z : hp.objs.size + 1 + 1 ≤ dx := by
      first
        | (simpa only [Heap.size_push] using dn)
        | exact dn
        | (have q := dn; rw [Heap.size_push, Heap.size_push] at q; exact q)
    exact ⟨rfl, hq h' tk' (hp.objs.size + 1) dx ⟨old, Nat.le_succ _, ⟨_, _, hx, rfl, rfl, rfl, rfl⟩, Nat.le_trans (Nat.le_trans (Nat.le_succ _) (Nat.le_succ _)) z, dne, hns⟩⟩
end
end LHouse
end K1
namespace K1
open PySem PySem.Spec PyProof.Rows L2
section
variable {X : Cx} {cn ql : Str} {bm : List Value} {C fI : Addr}
theorem pmk_LHouse {a : Expr} {ta : TA} {p pos : Pos} {k : Nat} (T : LHouse.Txt X.K X.mg cn ql bm C fI) (hr : Room k X.A) (ha : PA X [a] ta) (hg : Gl X cn := by rfl)
    (he : starEach (a :: []) X.env = (false, eval a X.env) :: starEach [] X.env := by rfl) (hpl : (backTo pos (starEach [] X.env)).any (·.1) = false := by rfl) (hdb : (cn == ("__debug__" : Str)) = false := by decide) :
    PMk X (.Call (.Name cn p) [a] [] pos) (tMkF "house" C ta) := by
  intro pins s σ H Q I h
  refine wpAny_Call_Name_kw (ld_glob I hg T.gC ?_ hdb)
  refine PySem.W.callWith_K (h₀ := X.base) I.ok.mod.kin T.kC (thn (ha.run pos pins s σ H _ I h) fun us s1 hh => ?_) he hpl
  obtain ⟨vs, H1, I1, r1, v, ev, q1⟩ := hh
  subst ev
  refine ⟨I1.kIn, ?_⟩
  cases r1 with
  | cons rv rn =>
    rename_i v' us'
    cases rn
    show wpAny _ _ (call (.ref C) [v']) _ _ _
    have hlim := I1.nolimit
    obtain ⟨hp, g, dr, tk, os⟩ := s1
    refine wpAny_call (LHouse.made T I1.kIn hlim (by have := hr.dp; omega) fun h' tk' e d M => ?_)
    show MkP X pins σ Q (.ref e) ⟨h', g, dr, tk', os⟩
    obtain ⟨oe, fv, hoe, hc, hd, hdat, h1⟩ := M.obj
    have hns := M.ns
    obtain ⟨G', g1, g2⟩ := restrict h' fun b => decide (b ≠ e)
    have gk : ∀ b, b ≠ e → G'.get? b = h'.get? b := fun b hb => g1 b (decide_eq_true hb)
    have ge : G'.get? e = none := g2 e (by simp)
    have old : ∀ b o, hp.get? b = some o → G'.get? b = some o := fun b o q => (gk b (Nat.ne_of_lt (Nat.lt_of_lt_of_le (Heap.lt_size q) M.new))).trans (M.keep b o q)
    have ob : ObjOk X.prog X.w (upd H1 d (.xd [(("house" : Str), v)])) G' d (.xd [(("house" : Str), v)]) :=
      ⟨_, hns.at (fun o q => (gk d M.dne).trans q), fun f => relO_one rv f⟩
    have J : Inv X pins σ (upd H1 d (.xd [(("house" : Str), v)])) ⟨G', g, dr, tk', os⟩ := I1.laid (t' := tk') old M.dbig ob
    refine ⟨e, oe, fv, ⟨G', g, dr, tk', os⟩, _, .ref C, some d, rfl, J, fun b o q => ?_, ge, hoe, ⟨hc, hd⟩, hdat, h1, ?_, rfl, I1.bare, raises_own T.exC T.tyC, q1 d (I1.hok.fresh M.dbig)⟩
    · by_cases hb : b = e
      · have q' : G'.get? b = some o := q
        rw [hb, ge] at q'; cases q'
      · exact (gk b hb).symm.trans q
    · rw [upd_ne (Ne.symm M.dne)]
      exact I1.hok.fresh M.new
theorem ps_raise_LHouse {a : Expr} {ta : TA} {W : WX} {p pos pos2 : Pos} {k : Nat} (hc : X.calm = true) (T : LHouse.Txt X.K X.mg cn ql bm C fI) (hr : Room k X.A) (tk : Takes X W) (ha : PA X [a] ta) (hg : Gl X cn := by rfl)
    (he : starEach (a :: []) X.env = (false, eval a X.env) :: starEach [] X.env := by rfl) (hpl : (backTo pos (starEach [] X.env)).any (·.1) = false := by rfl) (hdb : (cn == ("__debug__" : Str)) = false := by decide) :
    PS X (.Raise (some (.Call (.Name cn p) [a] [] pos)) none pos2) (tRaiseF "house" C W ta) := ps_raise hc tk (pmk_LHouse T hr ha hg he hpl hdb)
theorem pe_by_LHouse {a : Addr} {oe : Obj} {cls : Value} {d : Option Addr} {pn : List (Addr × Obj)} {e : Expr} {te : TE} {pos : Pos} (T : LHouse.Txt X.K X.mg cn ql bm C fI) (hz : Zc cls d oe) (hf : ∃ vs, oe.data = .fields vs) (he : PE (X.suite a ((a, oe) :: pn)) e te)
    (hb : attributeBase e "house" X.env (eval e X.env) = eval e X.env := by rfl) :
    PE (X.suite a ((a, oe) :: pn)) (.Attribute e "house" pos) (tByF "house" C a cls d te) := by
  refine ⟨fun pins s σ H Q I h => ?_⟩
  refine attr_of hb (thn (he.run pins s σ H _ I h) fun u s1 hh => ?_)
  obtain ⟨x, H1, I1, rx, ex, ec, dd, v, ed, ea, q⟩ := hh
  subst ex
  obtain rfl : u = Value.ref a := rx
  subst ec
  subst ed
  obtain ⟨ha, _⟩ := I1.pin (a, oe) (List.mem_append_left _ List.mem_cons_self)
  obtain ⟨vs, hd⟩ := hf
  have hx : ObjOk X.prog X.w H1 s1.heap dd (.xd [(("house" : Str), v)]) := I1.hok dd _ ea
  obtain ⟨mA, hns, hr⟩ := hx
  obtain ⟨od, ho, hl⟩ := lookIn_ns hns
  have l : List.lookup ("house" : Str) [(("house" : Str), v)] = some v := by simp [List.lookup]
  obtain ⟨u, hu, ru⟩ := RelO.some_of (v := v) (o := mA "house") (by rw [← l]; exact hr "house")
  have J : PySem.W.InstAt s1.heap a oe C (some od) := ⟨ha, hz.1, by unfold PySem.W.notCls; rw [hd] <;> rfl, by rw [hz.2]; exact ho⟩
  exact HandSPX.exc_get I1.kIn J T.ga T.gg T.exC (PySem.W.findObj_own T.hdC T.noN rfl (by rw [hl, hu])) (handed_of ru) ⟨v, H1, I1.tok _, ru, q⟩
end
end K1

namespace K1
namespace LTie
open PySem PySem.W PySem.Calls PyProof.Rows PySem.HandSPX
/-- the text of __init__ -/
def iA (p1 p2 : Pos) : Arguments := { posonlyargs := [], args := [{ arg := "self", annotation := none, pos := p1 }, { arg := "tie", annotation := none, pos := p2 }], vararg := none, kwonlyargs := [], kw_defaults := [], kwarg := none, defaults := [] }
def iB (q1 q2 q3 q4 : Pos) : List Stmt := [.Assign [.Attribute (.Name "self" q1) "tie" q2] (.Name "tie" q3) q4]
def iS : Scope := { kind := .function, names := [(PySem.Str.ofString "self", .local), (PySem.Str.ofString "tie", .local)], isGenerator := false, isCoroutine := false, more := [] }
/-- what the written part says of the class at C (named cn), of its chain bm, and of its __init__, at fI -/
structure Txt (K : Frag) (mg : Str → Option Value) (cn ql : Str) (bm : List Value) (C fI : Addr) : Prop where
  gC : mg cn = some (.ref C)
  cls : ∃ nm q N bs sn sub ab col dd k0 k1 k2 k3 k5, K.lookup C = some (excClassObj nm q C N bs bm true sn sub ab col dd k0 k1 k2 k3 k5 "LookupError.__new__")
  mr : Mro "LookupError" bm
  sa : findIn K (.ref C) "__setattr__" = some (some (.builtin "object.__setattr__"))
  ga : findIn K (.ref C) "__getattribute__" = some (some (.builtin "BaseException.__getattribute__"))
  gg : findIn K (.ref C) "__getattr__" = some none
  noN : findIn K (.ref C) "tie" = some none
  iC : findIn K (.ref C) "__init__" = some (some (.ref fI))
  tC : typeIn K (.ref fI) = some (.type "function")
  kC : keepIn K (.ref C) = true
  exC : subIn K (.ref C) (.type "BaseException") = some true
  tyC : typeIn K (.ref C) = some (.type "type")
  hdC : hasDictIn K C = true
  fn : ∃ (oc : Value) (od : Option Addr) (doc pm : Value) (an : Option Addr) (cdv ct : Value) (osl : Array (Option Value)) (p1 p2 q1 q2 q3 q4 : Pos),
    K.lookup fI = some ⟨oc, od, .func (fnOf "__init__" ql (iA p1 p2) (iB q1 q2 q3 q4) iS .none .none doc pm an cdv ct), osl⟩ ∧ codeIn K cdv ql = true
/-- what __init__ leaves of a fresh exception at x -/
structure InitEnd (h h' : Heap) (x C dx t1 : Addr) (v : Value) : Prop where
  keep : ∀ b o, b ≠ x → h.get? b = some o → h'.get? b = some o
  obj : h'.get? x = some { cls := .ref C, dict := some dx, data := .fields #[.ref t1, .none, .none, .none, .bool false, .none] }
  dbig : h.objs.size ≤ dx
  dne : dx ≠ x
  ns : h'.Ns1 dx (fun y => if y = "tie" then some v else none)
structure OwnMade (h h' : Heap) (e C d : Addr) (v : Value) : Prop where
  keep : ∀ b o, h.get? b = some o → h'.get? b = some o
  new : h.objs.size ≤ e
  obj : ∃ oe vs, h'.get? e = some oe ∧ oe.cls = .ref C ∧ oe.dict = some d ∧ oe.data = .fields vs ∧ vs[1]? = some .none
  dbig : h.objs.size ≤ d
  dne : d ≠ e
  ns : h'.Ns1 d (fun y => if y = "tie" then some v else none)
section
variable {prog : Program} {w : World} {A : Around} {E : Value → Shared → Prop} {R : Result → Shared → Prop} {s : Shared} {K : Frag} {mg : Str → Option Value} {cn ql : Str} {bm : List Value} {C fI : Addr}
theorem init (T : Txt K mg cn ql bm C fI) {x t0 : Addr} {v : Value} (X : K.In s.heap) (hlim : s.heap.NoLimit) (hx : s.heap.get? x = some (excO C t0)) (hnx : K.lookup x = none) (hroom : A.depth < recursionLimit)
    (hq : ∀ h' tk dx, InitEnd s.heap h' x C dx t0 v → R (.ok (.ret .none)) { s with heap := h', toks := tk }) :
    codeAny (model prog w) A (.call (.ref fI) ⟨[.ref x, v], []⟩) R s := by
  obtain ⟨oc, od, doc, pm, an, cdv, ct, osl, p1, p2, q1, q2, q3, q4, ho, hcd⟩ := T.fn
  obtain ⟨nm, q, N, bs, sn, sub, ab, col, dd, k0, k1, k2, k3, k5, hC⟩ := T.cls
  have hcl : clsIn K C = some { name := nm, bases := bs, mro := .ref C :: bm, ns := N, qualname := q, hasDict := true, slotNames := sn, subclasses := sub, abstract := ab, collection := col, hasDel := false } := by unfold clsIn; rw [hC] <;> rfl
  refine Att.call_fn (binds := [("self", .ref x), ("tie", v)]) X hlim ho hcd hroom (BindsTo.of_eq (by first | rfl | with_unfolding_all rfl)) (by first | rfl | decide | with_unfolding_all rfl) (fun s₁ IC => ?_) rfl rfl rfl
  obtain ⟨h₁, tk₁, rfl⟩ := IC.toInCall.same
  have k : ∀ b o, s.heap.get? b = some o → h₁.get? b = some o := IC.toInCall.keep
  have hn := IC.toInCall.ns
  have X₁ : K.In h₁ := X.keeps k
  have hx₁ := k _ _ hx
  show wpAny _ _ (execs _ _) _ _ _
  refine wpAny_execs_cons (plainObj_wpAny_Assign_Attribute ?_)
  refine ldE (v := v) hn (by first | rfl | with_unfolding_all rfl | kernel_rfl) (ldE (v := .ref x) hn (by first | rfl | with_unfolding_all rfl | kernel_rfl) ?_)
  refine set_plain X₁ (ox := excO C t0) (od := none) ⟨hx₁, rfl, rfl, trivial⟩ T.sa ?_
  refine exc_osaG X₁ hx₁ hcl rfl T.mr rfl T.noN (fun h₃ tk₃ dx k₃ dn dne hx₃ hn₃ => ?_)
  show wpAny _ _ (execs _ _) _ _ _
  have z : s.heap.objs.size < h₁.objs.size := hn.lt
  exact wpAny_execs_nil (hq h₃ tk₃ dx ⟨fun b o hb e => k₃ b o hb (k b o e), hx₃, Nat.le_of_lt (Nat.lt_of_lt_of_le z dn), dne, hn₃⟩)
theorem made (T : Txt K mg cn ql bm C fI) {v : Value} (X : K.In s.heap) (hlim : s.heap.NoLimit) (hroom : A.depth + 1 < recursionLimit)
    (hq : ∀ h' tk e d, OwnMade s.heap h' e C d v → R (.ok (.ret (.ref e))) { s with heap := h', toks := tk }) :
    codeAny (model prog w) A (.call (.ref C) ⟨[v], []⟩) R s := by
  obtain ⟨nm, q, N, bs, sn, sub, ab, col, dd, k0, k1, k2, k3, k5, hC⟩ := T.cls
  obtain ⟨hp, g, dr, tk, os⟩ := s
  have k : ∀ b o, hp.get? b = some o → ((hp.push (kdv_tup [v])).push (excO C hp.objs.size)).get? b = some o := fun b o e => Heap.get?_push_of_some _ (Heap.get?_push_of_some _ e)
  have hget : ((hp.push (kdv_tup [v])).push (excO C hp.objs.size)).get? (hp.objs.size + 1) = some (excO C hp.objs.size) := by heap_get
  have hnx : K.lookup (hp.objs.size + 1) = none := by
    cases e : K.lookup (hp.objs.size + 1) with
    | none => rfl
    | some o =>
      have z : hp.get? (hp.objs.size + 1) = some o := X _ _ e
      exact absurd (Nat.lt_of_succ_lt (Heap.lt_size z)) (Nat.lt_irrefl _)
  refine call_ownG F.excBase_LookupError T.mr (X _ _ hC) (looks_findIn X T.iC) (fun self => bind_fn X self T.tC) (one_le v) ?_
  refine init (s := ⟨(hp.push (kdv_tup [v])).push (excO C hp.objs.size), g, dr, tk, os⟩) T (X.keeps k) (hlim.keeps k) hget hnx ?_ fun h' tk' dx ⟨k', hx, dn, dne, hns⟩ => ?_
  · show A.depth + 1 < recursionLimit
    exact hroom
  · have old : ∀ b o, hp.get? b = some o → h'.get? b = some o := fun b o e => k' b o (Nat.ne_of_lt (Nat.lt_succ_of_lt (Heap.lt_size e))) (k b o e)
    have z : hp.objs.size + 1 + 1 ≤ dx := by
      first
        | (simpa only [Heap.size_push] using dn)
        | exact dn
        | (have q := dn; rw [Heap.size_push, Heap.size_push] at q; exact q)
    exact ⟨rfl, hq h' tk' (hp.objs.size + 1) dx ⟨old, Nat.le_succ _, ⟨_, _, hx, rfl, rfl, rfl, rfl⟩, Nat.le_trans (Nat.le_trans (Nat.le_succ _) (Nat.le_succ _)) z, dne, hns⟩⟩
end
end LTie
end K1
namespace K1
open PySem PySem.Spec PyProof.Rows L2
section
variable {X : Cx} {cn ql : Str} {bm : List Value} {C fI : Addr}
theorem pmk_LTie {a : Expr} {ta : TA} {p pos : Pos} {k : Nat} (T : LTie.Txt X.K X.mg cn ql bm C fI) (hr : Room k X.A) (ha : PA X [a] ta) (hg : Gl X cn := by rfl)
    (he : starEach (a :: []) X.env = (false, eval a X.env) :: starEach [] X.env := by rfl) (hpl : (backTo pos (starEach [] X.env)).any (·.1) = false := by rfl) (hdb : (cn == ("__debug__" : Str)) = false := by decide) :
    PMk X (.Call (.Name cn p) [a] [] pos) (tMkF "tie" C ta) := by
  intro pins s σ H Q I h
  refine wpAny_Call_Name_kw (ld_glob I hg T.gC ?_ hdb)
  refine PySem.W.callWith_K (h₀ := X.base) I.ok.mod.kin T.kC (thn (ha.run pos pins s σ H _ I h) fun us s1 hh => ?_) he hpl
  obtain ⟨vs, H1, I1, r1, v, ev, q1⟩ := hh
  subst ev
  refine ⟨I1.kIn, ?_⟩
  cases r1 with
  | cons rv rn =>
    rename_i v' us'
    cases rn
    show wpAny _ _ (call (.ref C) [v']) _ _ _
    have hlim := I1.nolimit
    obtain ⟨hp, g, dr, tk, os⟩ := s1
    refine wpAny_call (LTie.made T I1.kIn hlim (by have := hr.dp; omega) fun h' tk' e d M => ?_)
    show MkP X pins σ Q (.ref e) ⟨h', g, dr, tk', os⟩
    obtain ⟨oe, fv, hoe, hc, hd, hdat, h1⟩ := M.obj
    have hns := M.ns
    obtain ⟨G', g1, g2⟩ := restrict h' fun b => decide (b ≠ e)
    have gk : ∀ b, b ≠ e → G'.get? b = h'.get? b := fun b hb => g1 b (decide_eq_true hb)
    have ge : G'.get? e = none := g2 e (by simp)
    have old : ∀ b o, hp.get? b = some o → G'.get? b = some o := fun b o q => (gk b (Nat.ne_of_lt (Nat.lt_of_lt_of_le (Heap.lt_size q) M.new))).trans (M.keep b o q)
    have ob : ObjOk X.prog X.w (upd H1 d (.xd [(("tie" : Str), v)])) G' d (.xd [(("tie" : Str), v)]) :=
      ⟨_, hns.at (fun o q => (gk d M.dne).trans q), fun f => relO_one rv f⟩
    have J : Inv X pins σ (upd H1 d (.xd [(("tie" : Str), v)])) ⟨G', g, dr, tk', os⟩ := I1.laid (t' := tk') old M.dbig ob
    refine ⟨e, oe, fv, ⟨G', g, dr, tk', os⟩, _, .ref C, some d, rfl, J, fun b o q => ?_, ge, hoe, ⟨hc, hd⟩, hdat, h1, ?_, rfl, I1.bare, raises_own T.exC T.tyC, q1 d (I1.hok.fresh M.dbig)⟩
    · by_cases hb : b = e
      · have q' : G'.get? b = some o := q
        rw [hb, ge] at q'; cases q'
      · exact (gk b hb).symm.trans q
    · rw [upd_ne (Ne.symm M.dne)]
      exact I1.hok.fresh M.new
theorem ps_raise_LTie {a : Expr} {ta : TA} {W : WX} {p pos pos2 : Pos} {k : Nat} (hc : X.calm = true) (T : LTie.Txt X.K X.mg cn ql bm C fI) (hr : Room k X.A) (tk : Takes X W) (ha : PA X [a] ta) (hg : Gl X cn := by rfl)
    (he : starEach (a :: []) X.env = (false, eval a X.env) :: starEach [] X.env := by rfl) (hpl : (backTo pos (starEach [] X.env)).any (·.1) = false := by rfl) (hdb : (cn == ("__debug__" : Str)) = false := by decide) :
    PS X (.Raise (some (.Call (.Name cn p) [a] [] pos)) none pos2) (tRaiseF "tie" C W ta) := ps_raise hc tk (pmk_LTie T hr ha hg he hpl hdb)
theorem pe_by_LTie {a : Addr} {oe : Obj} {cls : Value} {d : Option Addr} {pn : List (Addr × Obj)} {e : Expr} {te : TE} {pos : Pos} (T : LTie.Txt X.K X.mg cn ql bm C fI) (hz : Zc cls d oe) (hf : ∃ vs, oe.data = .fields vs) (he : PE (X.suite a ((a, oe) :: pn)) e te)
    (hb : attributeBase e "tie" X.env (eval e X.env) = eval e X.env := by rfl) :
    PE (X.suite a ((a, oe) :: pn)) (.Attribute e "tie" pos) (tByF "tie" C a cls d te) := by
  refine ⟨fun pins s σ H Q I h => ?_⟩
  refine attr_of hb (thn (he.run pins s σ H _ I h) fun u s1 hh => ?_)
  obtain ⟨x, H1, I1, rx, ex, ec, dd, v, ed, ea, q⟩ := hh
  subst ex
  obtain rfl : u = Value.ref a := rx
  subst ec
  subst ed
  obtain ⟨ha, _⟩ := I1.pin (a, oe) (List.mem_append_left _ List.mem_cons_self)
  obtain ⟨vs, hd⟩ := hf
  have hx : ObjOk X.prog X.w H1 s1.heap dd (.xd [(("tie" : Str), v)]) := I1.hok dd _ ea
  obtain ⟨mA, hns, hr⟩ := hx
  obtain ⟨od, ho, hl⟩ := lookIn_ns hns
  have l : List.lookup ("tie" : Str) [(("tie" : Str), v)] = some v := by simp [List.lookup]
  obtain ⟨u, hu, ru⟩ := RelO.some_of (v := v) (o := mA "tie") (by rw [← l]; exact hr "tie")
  have J : PySem.W.InstAt s1.heap a oe C (some od) := ⟨ha, hz.1, by unfold PySem.W.notCls; rw [hd] <;> rfl, by rw [hz.2]; exact ho⟩
  exact HandSPX.exc_get I1.kIn J T.ga T.gg T.exC (PySem.W.findObj_own T.hdC T.noN rfl (by rw [hl, hu])) (handed_of ru) ⟨v, H1, I1.tok _, ru, q⟩
end
end K1
/-! enumerate over a tuple, repr of data of any depth, isinstance of a held exception -/
namespace K1
open PySem PySem.Spec PyProof.Rows L2
theorem meets_enum1 {v : Value} {o : Obj} {H : Heap → Prop} (B : Begins v o H) :
    Meets (Builtin.«enumerate.__new__» ⟨[.type "enumerate", v], []⟩) (fun _ R s => H s.heap ∧
      R (.ok (.ret (.ref (s.heap.push o).objs.size))) { s with heap := (s.heap.push o).push { cls := .type "enumerate", data := .fields #[.none, .bool false, .ref s.heap.objs.size, rawInt 0, .none, .none] } }) :=
  .of_wp fun prog w A R s h => by
    obtain ⟨hp, g, d, tk, os⟩ := s
    obtain ⟨h1, h⟩ := h
    have hsub := sub_enumerate
    have q1 : ∀ {A' : Around} {E : Value → Shared → Prop} {Q : Value → Shared → Prop}, Q (.ref hp.objs.size) ⟨hp.push o, g, d, tk, os⟩ → wpAny (model prog w) A' (pyIter v) Q E ⟨hp, g, d, tk, os⟩ :=
      fun q => B.iter prog w _ _ ⟨hp, g, d, tk, os⟩ _ h1 q
    wp_walk using q1
    refine wpAny_stack_any fun st => wpAny_pure ?_
    split
    · rename_i c _ _ _ _ _
      cases (c == Value.type "enumerate") <;> (wp_walk using q1; exact ⟨_, rfl, h⟩)
    · wp_walk using q1
      exact ⟨_, rfl, h⟩
theorem enum_begins1 {prog : Program} {w : World} {A : Around} {E : Value → Shared → Prop} {s : Shared} {v : Value} {o : Obj} {H : Heap → Prop} {Q : Value → Shared → Prop} (B : Begins v o H) (h1 : H s.heap)
    (h : ∀ h', IsEnum h' (s.heap.objs.size + 1) s.heap.objs.size 0 .none → h'.get? s.heap.objs.size = some o → h'.objs.size = s.heap.objs.size + 2 →
      (∀ b o, s.heap.get? b = some o → h'.get? b = some o) → Q (.ref (s.heap.objs.size + 1)) { s with heap := h' }) :
    wpAny (model prog w) A (call (.type "enumerate") [v]) Q E s := by
  refine callType_new F.called_enumerate (by decide) (F.typeCall_enumerate_1 _) (F.newCall_enumerate_1 _) (fun obj => F.args_object_init_2 obj _) F.entry_enumerate_new (meets_enum1 B) ⟨h1, ?_⟩
  have hz : (s.heap.push o).objs.size = s.heap.objs.size + 1 := Heap.size_push ..
  show _ ∧ _
  rw [hz]
  have he := Heap.get?_push_size (s.heap.push o) (o := { cls := .type "enumerate", data := .fields #[.none, .bool false, .ref s.heap.objs.size, rawInt 0, .none, .none] }) rfl
  rw [hz] at he
  exact ⟨⟨_, he, rfl⟩, h _ he (Heap.get?_push_of_some _ (Heap.get?_push_size _ B.free)) (by rw [Heap.size_push, hz]) fun b o x => Heap.get?_push_of_some _ (Heap.get?_push_of_some _ x)⟩
/-- the tuple at a, each item in a new pair -/
def IteT (K : PySem.W.Frag) (a : Addr) : It :=
  ⟨fun i H => ∃ (xs : List V) (x : V), SqT K H a xs ∧ xs[i]? = some x, fun i H v H' => ∃ T x, v = .ref T ∧ H T = none ∧ H' = upd H T (.tup [.int (i : Nat), x]) ∧ ∀ xs, SqT K H a xs → xs[i]? = some x, fun i H => ∃ xs : List V, SqT K H a xs ∧ xs.length ≤ i⟩
theorem turn_enumT {P : Program} {w : World} {K : PySem.W.Frag} {elts : List Expr} {kk : Nat} {tpos : Pos} (a e it : Addr) :
    Turn P w K (.Tuple elts kk tpos) (IteT K a) [e, it] e (fun i h => (∃ old, IsEnum h e it ((i : Nat) : Int) old) ∧ h.IsTupleIter it a i ∧ e ≠ it ∧ e ≠ a ∧ a ≠ it) where
  mem := by simp
  obj := fun i h st b hb => by
    obtain ⟨⟨old, he⟩, ⟨o, ho, hc, hd⟩, _⟩ := st
    rcases (show b = e ∨ b = it by simpa using hb) with z | z
    · rw [z]; exact ⟨_, he, fun v q => nomatch q⟩
    · rw [z]; exact ⟨o, ho, fun v q => by rw [hd] at q; cases q⟩
  keep := fun i h h' st k => let ⟨⟨old, he⟩, hi, hne⟩ := st; ⟨⟨old, k e (by simp) _ he⟩, hi.at fun o q => k it (by simp) o q, hne⟩
  item := by
    intro X hP hw hK hc i pins s σ H E I hf st hg
    subst hP hw hK
    obtain ⟨⟨old, he⟩, hit, hne, nea, nai⟩ := st
    obtain ⟨xs, x, hq, hx⟩ := hg
    obtain ⟨its, rv, p, hz⟩ := I.tuple hq
    obtain ⟨u, hu, ru⟩ := rv.get hx
    have hil' := (List.getElem?_eq_some_iff.mp hu).1
    have hel : e < s.heap.objs.size := Heap.lt_size he
    have hil : it < s.heap.objs.size := by obtain ⟨_, q, _⟩ := hit; exact Heap.lt_size q
    have D := Draws.tuple (prog := X.prog) (w := X.w) (A := X.A.in1) (show X.A.in1.handled = none from I.ok.hd hc) it a nai its.toArray
    refine wpAny_pyNext_enum_itemD D he ⟨hit, (show s.heap.IsTuple a its.toArray from p)⟩ (by simpa using hil') hne (by simp [hne, nea]) fun y h' tk hy ho hst hT hsz hk => ?_
    have ey : y = u := by
      have z : its[i]? = some y := by simpa using hy
      rw [hu] at z
      exact (Option.some.inj z).symm
    subst ey
    refine ⟨_, rfl, wpAny_letOwnedTupleGo_enum (s := { s with heap := h', toks := tk + 1 }) ho fun h'' he' sb => ?_⟩
    have hT2 : h''.get? s.heap.objs.size = some { cls := .type "tuple", data := .seq #[.int i tk, y] } := (sb.2 _ (Nat.ne_of_gt hel)).trans hT
    have new : ObjOk X.prog X.w (upd H s.heap.objs.size (.tup [.int (i : Nat), x])) h'' s.heap.objs.size (.tup [.int (i : Nat), x]) :=
      ⟨by show 2 ≤ sizeLine; decide, [.int i tk, y], .cons ⟨_, rfl⟩ (.cons ru .nil), ⟨_, hT2, rfl, _, rfl⟩⟩
    have I1 : Inv X pins σ (upd H s.heap.objs.size (.tup [.int (i : Nat), x])) { s with heap := h'', toks := tk + 1 } :=
      I.turnedNew (ch := [e, it]) (fun b ob hb q => (sb.2 b (fun z => hb (by simp [z]))).trans (hk b ob (fun z => hb (by simp [z])) (fun z => hb (by simp [z])) q)) hf (Nat.le_refl _) new
    refine ⟨.ref s.heap.objs.size, _, I1, rfl, ⟨_, x, rfl, I.hok.fresh (Nat.le_refl _), rfl, fun ys hy => by rw [I.tuple_inj hy hq]; exact hx⟩, ⟨⟨y, ?_⟩, hst.1.at fun o q => (sb.2 it (Ne.symm hne)).trans q, hne, nea, nai⟩, fun b hb => ?_⟩
    · have e1 : ((i + 1 : Nat) : Int) = (i : Int) + 1 := by omega
      rw [e1]; exact he'
    · have hb' : b < s.heap.objs.size := by
        rcases (show b = e ∨ b = it by simpa using hb) with z | z
        · rw [z]; exact hel
        · rw [z]; exact hil
      rw [upd_ne (Nat.ne_of_lt hb')]
      exact (hf b hb).1
  done := by
    intro X hP hw hK hc i pins s σ H E I hf st hg
    subst hP hw hK
    obtain ⟨⟨old, he⟩, hit, hne, nea, nai⟩ := st
    obtain ⟨xs, hq, hx⟩ := hg
    obtain ⟨its, rv, p, hz⟩ := I.tuple hq
    obtain ⟨f0, f1, f2, f3, f4, f5⟩ := hf it (by simp)
    have hl := rv.length
    have hTs : s.TypeIs (.ref e) "enumerate" := ⟨_, he, rfl⟩
    unfold pyNext
    refine wpAny_bind (wpAny_attempt (wpAny_callSpecial?_slot (name := Str.ofString "__next__") hTs F.slot_enumerate_next
      (wpAny_call_entry F.slot_enumerate_next hTs F.entry_enumerate_next ?_ (F.args_enumerate_next_1 _))))
    show wpAny _ _ (field (.ref e) 2 >>= _) _ _ _
    refine wpAny_bind (wpAny_field he rfl (x := .ref it) rfl ?_)
    refine wpAny_bind (wpAny_nextOf_tuple_end (show X.A.in1.handled = none from I.ok.hd hc) hit (show s.heap.IsTuple a its.toArray from p) (by simp; omega) fun h' y eb hx' => ?_)
    obtain ⟨o, ho, hc'⟩ := hx'
    refine wpAny_bind (wpAny_isInstance (T := "StopIteration") (b := true) ⟨o, ho, hc'⟩ isSubtype_stop ?_)
    exact wpAny_pure ⟨rfl, I.turned (t' := s.toks) (fun b o hb q => eb b o hb q) f0 f1 f3 f4 f5⟩
  self := fun A i s Q E st h => let ⟨⟨_, he⟩, _⟩ := st; wpAny_pyIter_enum he h
def iEnumA (K : PySem.W.Frag) (ta : TA) : TI := fun σ H R => ta σ H fun vs H1 => ∃ a, vs = [.ref a] ∧ ((∃ xs, SqL K H1 a xs ∧ R (Ite K a) H1) ∨ (∃ xs, SqT K H1 a xs ∧ R (IteT K a) H1))
theorem pi_enumA {X : Cx} {e : Expr} {ta : TA} {p pos tpos : Pos} {elts : List Expr} {kk : Nat} (hg : Gl X "enumerate") (hm : X.mg "enumerate" = none) (ha : PA X [e] ta) (hs : starEach [e] X.env = [(false, eval e X.env)] := by rfl) :
    PI X (.Tuple elts kk tpos) (.Call (.Name "enumerate" p) [e] [] pos) (iEnumA X.K ta) := by
  refine ⟨fun pins s σ H R I h => ?_⟩
  refine Call_ (ld_blt I hg hm boot_enumerate (PyProof.Rows.callWith_type1 (thn (ha.run pos pins s σ H _ I h) fun us s1 ⟨vs, H1, I1, r1, q1⟩ => ?_) hs rfl))
  obtain ⟨a, ex, q⟩ := q1
  subst ex
  cases r1 with
  | cons r rr =>
    cases rr
    cases r
    have big : ∀ b ∈ [s1.heap.objs.size + 1, s1.heap.objs.size], s1.heap.objs.size ≤ b := fun b hb => by
      rcases (show b = s1.heap.objs.size + 1 ∨ b = s1.heap.objs.size by simpa using hb) with z | z
      · rw [z]; exact Nat.le_add_right _ _
      · rw [z]; exact Nat.le_refl _
    rcases q with ⟨xs, hq, q⟩ | ⟨xs, hq, q⟩
    · obtain ⟨its, rv, p', hz⟩ := I1.list hq
      refine call_enumerate_list p'.isList fun h' he hit hsz hk => wpAny_pyIter_enum he ?_
      have I2 : Inv X pins σ H1 { s1 with heap := h' } := I1.kept (t' := s1.toks) hk
      exact ⟨s1.heap.objs.size + 1, [s1.heap.objs.size + 1, s1.heap.objs.size], _, _, H1, rfl, I2, turn_enum a (s1.heap.objs.size + 1) s1.heap.objs.size, ⟨⟨.none, he⟩, hit, Nat.succ_ne_self _⟩, fun b hb => I1.fpOk (big b hb) (I1.hok.fresh (big b hb)), q⟩
    · obtain ⟨its, rv, p', hz⟩ := I1.tuple hq
      have hp : s1.heap.IsTuple a its.toArray := p'
      have hal : a < s1.heap.objs.size := by obtain ⟨_, q, _⟩ := hp; exact Heap.lt_size q
      refine enum_begins1 (begins_tuple a its.toArray) hp fun h' he hit hsz hk => wpAny_pyIter_enum he ?_
      have I2 : Inv X pins σ H1 { s1 with heap := h' } := I1.kept (t' := s1.toks) hk
      exact ⟨s1.heap.objs.size + 1, [s1.heap.objs.size + 1, s1.heap.objs.size], _, _, H1, rfl, I2, turn_enumT a (s1.heap.objs.size + 1) s1.heap.objs.size, ⟨⟨.none, he⟩, ⟨_, hit, rfl, rfl⟩, Nat.succ_ne_self _, Nat.ne_of_gt (Nat.lt_succ_of_lt hal), Nat.ne_of_lt hal⟩, fun b hb => I1.fpOk (big b hb) (I1.hok.fresh (big b hb)), q⟩
section
variable {K : PySem.W.Frag} {a : Addr} {xs : List V} {g : TG} {tb : TS} {D : Ends} {σ : L2.St} {H : Hp}
theorem for_enumL (Pv : Nat → L2.St → Hp → Prop) (h0 : Pv 0 σ H) (hl : ∀ i σ H, i ≤ xs.length → Pv i σ H → SqL K H a xs)
    (hs : ∀ i x T σ H, xs[i]? = some x → H T = none → Pv i σ H → g (.ref T) σ (upd H T (.tup [.int (i : Nat), x])) fun σ2 H2 => tb { D with nx := Pv (i + 1), ct := Pv (i + 1), bk := D.nx } σ2 H2) (hd : ∀ σ H, Pv xs.length σ H → D.nx σ H) :
    ∃ W : Nat → Nat → L2.St → Hp → Prop, (∃ m, W 0 m σ H) ∧ ∀ i m σ H, W i m σ H →
      ((Ite K a).stop i H ∧ D.nx σ H) ∨ ((Ite K a).go i H ∧ ∃ N : L2.St → Hp → Prop, (∀ σ' H', N σ' H' → ∃ m', m' < m ∧ W (i + 1) m' σ' H') ∧ ∀ x H', (Ite K a).yld i H x H' → g x σ H' fun σ2 H2 => tb { D with nx := N, ct := N, bk := D.nx } σ2 H2) := by
  refine ⟨fun i m σ H => m = xs.length - i ∧ i ≤ xs.length ∧ Pv i σ H, ⟨xs.length, by simp, Nat.zero_le _, h0⟩, ?_⟩
  rintro i m σ H ⟨rfl, hi, p⟩
  have q := hl i σ H hi p
  by_cases hlt : i < xs.length
  · refine .inr ⟨⟨xs, xs[i], q, by simp [hlt]⟩, Pv (i + 1), fun σ' H' p' => ⟨xs.length - (i + 1), by omega, rfl, hlt, p'⟩, fun x H' y => ?_⟩
    obtain ⟨T, x', e1, e2, e3, e4⟩ := y
    subst e1 e3
    exact hs i x' T σ H (e4 xs q) e2 p
  · have e : i = xs.length := by omega
    subst e
    exact .inl ⟨⟨xs, q, Nat.le_refl _⟩, hd σ H p⟩
theorem for_enumT (Pv : Nat → L2.St → Hp → Prop) (h0 : Pv 0 σ H) (hl : ∀ i σ H, i ≤ xs.length → Pv i σ H → SqT K H a xs)
    (hs : ∀ i x T σ H, xs[i]? = some x → H T = none → Pv i σ H → g (.ref T) σ (upd H T (.tup [.int (i : Nat), x])) fun σ2 H2 => tb { D with nx := Pv (i + 1), ct := Pv (i + 1), bk := D.nx } σ2 H2) (hd : ∀ σ H, Pv xs.length σ H → D.nx σ H) :
    ∃ W : Nat → Nat → L2.St → Hp → Prop, (∃ m, W 0 m σ H) ∧ ∀ i m σ H, W i m σ H →
      ((IteT K a).stop i H ∧ D.nx σ H) ∨ ((IteT K a).go i H ∧ ∃ N : L2.St → Hp → Prop, (∀ σ' H', N σ' H' → ∃ m', m' < m ∧ W (i + 1) m' σ' H') ∧ ∀ x H', (IteT K a).yld i H x H' → g x σ H' fun σ2 H2 => tb { D with nx := N, ct := N, bk := D.nx } σ2 H2) := by
  refine ⟨fun i m σ H => m = xs.length - i ∧ i ≤ xs.length ∧ Pv i σ H, ⟨xs.length, by simp, Nat.zero_le _, h0⟩, ?_⟩
  rintro i m σ H ⟨rfl, hi, p⟩
  have q := hl i σ H hi p
  by_cases hlt : i < xs.length
  · refine .inr ⟨⟨xs, xs[i], q, by simp [hlt]⟩, Pv (i + 1), fun σ' H' p' => ⟨xs.length - (i + 1), by omega, rfl, hlt, p'⟩, fun x H' y => ?_⟩
    obtain ⟨T, x', e1, e2, e3, e4⟩ := y
    subst e1 e3
    exact hs i x' T σ H (e4 xs q) e2 p
  · have e : i = xs.length := by omega
    subst e
    exact .inl ⟨⟨xs, q, Nat.le_refl _⟩, hd σ H p⟩
end
/-! ### repr -/
/-- repr of what is no object -/
def rReprS : List V → Hp → VK → Prop := fun xs H Q => ∃ v, xs = [v] ∧ ((v = .non ∧ Q (.str "None") H) ∨ (∃ b : Bool, v = .bl b ∧ Q (.str (if b then "True" else "False")) H) ∨ (∃ i : Int, v = .int i ∧ i.natAbs.log2 < 1920 ∧ Q (.str (toString i)) H) ∨
  ∃ x : Str, v = .str x ∧ (reprText x).length ≤ sizeLine ∧ Q (.str (reprText x)) H)
theorem call_reprS {X : Cx} : CallR X (.builtin "repr") rReprS := by
  intro pins s σ H xs us Q I r h
  obtain ⟨v, rfl, h⟩ := h
  obtain ⟨u, rfl, rv⟩ := vals1 r
  rcases h with ⟨rfl, q⟩ | ⟨b, rfl, q⟩ | ⟨i, rfl, hz, q⟩ | ⟨x, rfl, hz, q⟩
  · cases rv
    exact PySem.P.repr_of_none ⟨.str _, H, I.tok _, ⟨_, rfl⟩, q⟩
  · cases rv
    exact PySem.P.repr_of_bool ⟨.str _, H, I.tok _, ⟨_, rfl⟩, q⟩
  · obtain ⟨t, rfl⟩ := rv
    exact PySem.P.repr_of_int hz ⟨.str _, H, I.tok _, ⟨_, rfl⟩, q⟩
  · obtain ⟨t, rfl⟩ := rv
    exact PySem.P.repr_of_str (t := t) ⟨.str _, H, I.tok _, ⟨_, rfl⟩, q⟩ hz
/-- repr of a list or tuple: plain data without dicts -/
def rRepr (K : PySem.W.Frag) : List V → Hp → VK → Prop := fun xs H Q => ∃ a d, xs = [.ref a] ∧ Dp K H (.ref a) d ∧ PyData.showable d = true ∧ PyData.hasDict d = false ∧ PyData.depth d ≤ 40 ∧ d.shown.length ≤ sizeLine ∧ Q (.str d.shown) H
theorem call_repr {X : Cx} (hg : X.A.guards = some []) (hu : X.A.units + 64 < cLine) : CallR X (.builtin "repr") (rRepr X.K) := by
  intro pins s σ H xs us Q I r h
  obtain ⟨a, d, rfl, hd, h1, h2, h3, h4, q⟩ := h
  obtain ⟨u, rfl, rv⟩ := vals1 r
  obtain ⟨as, R⟩ := Dp.reads I d _ u hd rv
  cases rv
  exact repr_of_reads' R h1 (PyData.noDict_hsm h2) hg (by omega) (fun _ _ e => e) (fun h' u' tk k => ⟨.str _, H, I.kept (t' := tk) k, ⟨_, rfl⟩, q⟩) h4
/-! ### isinstance of the exception that a suite holds, its own dict at d -/
structure ExcK (K : PySem.W.Frag) (C : Addr) : Prop where
  cl : (PySem.W.clsIn K C).isSome = true
  ga : PySem.W.findIn K (.ref C) "__getattribute__" = some (some (.builtin "BaseException.__getattribute__"))
  gt : PySem.W.findIn K (.ref C) "__getattr__" = some none
  sb : PySem.W.subIn K (.ref C) (.type "BaseException") = some true
  ca : PySem.W.findIn K (.ref C) "__class__" = some (some (.builtin "object.__class__"))
  sp : PySem.W.specialIn K (.builtin "object.__class__") "__get__" = some (some (.builtin "getset_descriptor.__get__"))
  tk : PySem.W.takesIn K (.builtin "object.__class__") = some true
  mo : PySem.W.mroIn K C (.type "object") = some true
def rIsD (K : PySem.W.Frag) (C d a : Addr) : List V → Hp → VK → Prop := fun xs H Q => ∃ (N : Addr) (g : Str) (v : V) (b : Bool), xs = [.ref a, .ref N] ∧ H d = some (.xd [(g, v)]) ∧ PySem.W.kitOne K (.ref C) (.ref N) = some b ∧ Q (.bl b) H
theorem call_isD {X : Cx} {a C d : Addr} {oe : Obj} {pn : List (Addr × Obj)} (T : ExcK X.K C) (hz : Zc (.ref C) (some d) oe) (hf : ∃ vs, oe.data = .fields vs) : CallR (X.suite a ((a, oe) :: pn)) (.builtin "isinstance") (rIsD X.K C d a) := by
  intro pins s σ H xs us Q I r h
  obtain ⟨N, g, v, b, rfl, hx, e, q⟩ := h
  obtain ⟨u1, u2, rfl, r1, r2⟩ := vals2 r
  cases r1
  cases r2
  obtain ⟨hget, _⟩ := I.pin (a, oe) (List.mem_append.mpr (.inl List.mem_cons_self))
  obtain ⟨vs, hd⟩ := hf
  have hx' : ObjOk X.prog X.w H s.heap d (.xd [(g, v)]) := I.hok d _ hx
  obtain ⟨mA, hns, hr⟩ := hx'
  obtain ⟨od, ho, hl⟩ := lookIn_ns hns
  have J : PySem.W.InstAt s.heap a oe C (some od) := ⟨hget, hz.1, by unfold PySem.W.notCls; rw [hd] <;> rfl, by rw [hz.2]; exact ho⟩
  exact PySem.W.kia_one (PySem.W.kitx_exc T.cl T.ga T.gt T.sb T.ca T.sp T.tk T.mo) I.kIn J e (fun z => nomatch z) fun tk => ⟨.bl b, H, I.kept (t' := tk) fun _ _ z => z, rfl, q⟩
/-! ### defs whose bodies show lists: they are told where nothing is being shown -/
structure FnG (P : Program) (w : World) (K : PySem.W.Frag) (mg : Str → Option Value) (base : Heap) (k : Nat) (f : Addr) (fd : FuncData) (ps : List Str) (sp : Sp) : Prop where
  len : ∀ vs H Q E, sp vs H Q E → vs.length = ps.length
  run : ∀ (A : Around) (outer : List Env) (s : Shared) (H : Hp) (args : Args) (us : List Value) (vs : List V) (Q : VK) (E : XK), Room k A → A.guards = some [] → Env0 P w K mg base A outer s H → BindsTo s fd args (ps.zip us) → Vals vs us → sp vs H Q E →
    codeAny (model P w) A (.call (.ref f) args) (CR CX0 outer P w H s Q E) s
end K1
/-! the text by places; short words for calls -/
namespace K1
open PySem PySem.Spec PyProof.Rows L2
def top (i : Nat) : Stmt := PySem.Challenge.pw_houseslessties_k24_whole_sums_of_walks_e.main.body.getD i (.Pass ⟨0, 0, 0, 0⟩)
abbrev sBadWebInit : Stmt := inClass (top 2) 0
abbrev sBadStepsInit : Stmt := inClass (top 3) 0
abbrev sRefusedInit : Stmt := inClass (top 4) 0
abbrev sUCInit : Stmt := inClass (top 5) 0
abbrev sNoStateInit : Stmt := inClass (top 6) 0
abbrev sNoHouseInit : Stmt := inClass (top 7) 0
abbrev sWhole : Stmt := top 9
abbrev sBelow : Stmt := top 10
abbrev sSeq : Stmt := top 11
abbrev sFnb : Stmt := top 12
abbrev sRepl : Stmt := top 13
abbrev sWInit : Stmt := inClass (top 18) 0
abbrev sWEq : Stmt := inClass (top 18) 1
abbrev sPair : Stmt := top 19
abbrev sCTies : Stmt := top 20
abbrev sWays : Stmt := top 21
abbrev sIsStep : Stmt := top 26
abbrev sPTake : Stmt := top 27
abbrev sLessTie : Stmt := top 29
abbrev sCountsInit : Stmt := inClass (top 30) 0
abbrev sCountsDo : Stmt := inClass (top 30) 1
abbrev sCountsMeet : Stmt := inClass (top 30) 2
abbrev sDeedsOf : Stmt := top 31
abbrev sIsRead : Stmt := top 34
abbrev sWalkFault : Stmt := top 35
abbrev sWalkOf : Stmt := top 36
abbrev sCheckWalk : Stmt := top 37
abbrev sReadAhead : Stmt := top 38
abbrev sUnreadEnds : Stmt := top 39
abbrev sCrossingsOf : Stmt := top 40
abbrev sCrossings : Stmt := top 41
abbrev sUnreadActs : Stmt := top 42
abbrev sWithMore : Stmt := top 43
abbrev sTiesRead : Stmt := top 44
abbrev sSumsRead : Stmt := top 45
abbrev sWalkedCounts : Stmt := top 46
abbrev sCrossedCounts : Stmt := top 47
abbrev sLBox : Stmt := top 49
abbrev sLTake : Stmt := top 50
abbrev sLPick : Stmt := top 51
abbrev sLWeb : Stmt := top 52
abbrev sLWalk : Stmt := top 53
abbrev sLTally : Stmt := top 54
abbrev sLFault : Stmt := top 55
abbrev sLToldRight : Stmt := top 56
abbrev sLExact : Stmt := top 57
abbrev sLStrangersRight : Stmt := top 58
abbrev sLaw : Stmt := top 59
/-- a def of the text: its object, its name in the module, how its arguments bind -/
structure Df (K : PySem.W.Frag) (mg : Str → Option Value) (x : Str) (st : Stmt) (ps : List Str) (f : Addr) (fd : FuncData) : Prop where
  F : Fun K x x st f fd
  g : mg x = some (.ref f)
  b : Binds K fd ps []
section
variable {X : Cx} {CX : CXT} {k : Nat} {f : Addr} {fd : FuncData} {ps : List Str} {sp : Sp} {E : XK} {x : Str} {st : Stmt} {p pos : Pos} {e : Expr} {es : List Expr} {t : TA}
/-- x(e, ..) -/
theorem pc (D : Df X.K X.mg x st ps f fd) (G : FnOk X.prog X.w X.K X.mg X.base CX k f fd ps sp) (hr : Room k X.A) (hx : Passes CX X E) (ha : PA X (e :: es) t) (hg : Gl X x := by rfl)
    (hdb : (x == ("__debug__" : Str)) = false := by decide) (he : starEach (e :: es) X.env = (false, eval e X.env) :: starEach es X.env := by rfl) (hpl : (backTo pos (starEach es X.env)).any (·.1) = false := by rfl) :
    PE X (.Call (.Name x p) (e :: es) [] pos) (tCall sp [] E t) := pe_call G hr hg D.g D.F.kp D.b .nil hx ha hdb he hpl
end
/-- what a def that raises may let out at its caller's def -/
theorem pass1 {X : Cx} {E : XK} (tk : Takes X (fun cls d _ H => E cls d H)) : Passes (L2.CX X.prog X.w) X E := passes_call tk fun _ _ _ _ h => h
/-! ### tests by cases -/
theorem ifD {c : Bool} {A B : Prop} (h1 : c = true → A) (h2 : c = false → B) : if c = true then A else B := by
  cases c with
  | true => exact iteT (h1 rfl)
  | false => exact iteF (h2 rfl)
theorem eqv {α : Type} {P : α → Prop} {a b : α} (e : a = b) (h : P b) : P a := e ▸ h
theorem qbl {Q : VK} {H : Hp} {a b : Bool} (e : a = b) (h : Q (.bl b) H) : Q (.bl a) H := e ▸ h
/-! ### values of any kind -/
/-- what a value is: some items for a list or a tuple, none for the others -/
inductive KV (K : PySem.W.Frag) (H : Hp) : V → Option (List V) → Prop
  | int (i : Int) : KV K H (.int i) none
  | bl (b : Bool) : KV K H (.bl b) none
  | non : KV K H .non none
  | str (x : Str) : KV K H (.str x) none
  | lst {a : Addr} {xs : List V} (h : H a = some (.lst xs)) : KV K H (.ref a) (some xs)
  | tup {a : Addr} {xs : List V} (h : H a = some (.tup xs)) : KV K H (.ref a) (some xs)
theorem KV.same {K : PySem.W.Frag} {H H' : Hp} {v : V} {o : Option (List V)} (h : KV K H v o) (s : Same H H') : KV K H' v o := by
  cases h with
  | int i => exact .int i
  | bl b => exact .bl b
  | non => exact .non
  | str x => exact .str x
  | lst h => exact .lst (s _ _ h)
  | tup h => exact .tup (s _ _ h)
def wholeB : V → Bool | .int _ => true | _ => false
def boolB : V → Bool | .bl _ => true | _ => false
inductive Tg where | i | b | n | s | l | t
def Tg.nm : Tg → String | .i => "int" | .b => "bool" | .n => "NoneType" | .s => "str" | .l => "list" | .t => "tuple"
def Tg.isI : Tg → Bool | .i => true | _ => false
def Tg.isB : Tg → Bool | .b => true | _ => false
def Tg.isQ : Tg → Bool | .l => true | .t => true | _ => false
theorem KV.ty {K : PySem.W.Frag} {H : Hp} {v : V} {o : Option (List V)} (h : KV K H v o) : ∃ g : Tg, TyX K H v (.type g.nm) ∧ g.isI = wholeB v ∧ g.isB = boolB v ∧ g.isQ = o.isSome := by
  cases h with
  | int i => exact ⟨.i, .base (.int i), rfl, rfl, rfl⟩
  | bl b => exact ⟨.b, .base (.bl b), rfl, rfl, rfl⟩
  | non => exact ⟨.n, .base .non, rfl, rfl, rfl⟩
  | str x => exact ⟨.s, .base (.str x), rfl, rfl, rfl⟩
  | lst h => exact ⟨.l, .base (.lst h), rfl, rfl, rfl⟩
  | tup h => exact ⟨.t, .base (.tup h), rfl, rfl, rfl⟩
theorem kit_I (K : PySem.W.Frag) (g : Tg) : PySem.W.kitOne K (.type g.nm) (.type "int") = some (g.isI || g.isB) := by
  cases g <;> exact kit_ty (by decide +kernel)
theorem kit_B (K : PySem.W.Frag) (g : Tg) : PySem.W.kitOne K (.type g.nm) (.type "bool") = some g.isB := by
  cases g <;> exact kit_ty (by decide +kernel)
def Tg.isL : Tg → Bool | .l => true | _ => false
def Tg.isT : Tg → Bool | .t => true | _ => false
theorem kit_L (K : PySem.W.Frag) (g : Tg) : PySem.W.kitOne K (.type g.nm) (.type "list") = some g.isL := by
  cases g <;> exact kit_ty (by decide +kernel)
theorem kit_T (K : PySem.W.Frag) (g : Tg) : PySem.W.kitOne K (.type g.nm) (.type "tuple") = some g.isT := by
  cases g <;> exact kit_ty (by decide +kernel)
theorem kit_Q (K : PySem.W.Frag) (g : Tg) : PySem.W.kitAny K (.type g.nm) [.type "list", .type "tuple"] = some g.isQ := by
  refine kitAny_cons (kit_L K g) (fun e => kitAny_cons (kit_T K g) (fun e2 => ?_) fun e2 => ?_) fun e => ?_
  all_goals (cases g <;> first | rfl | (cases e; done) | (cases e2; done))
/-- the built-in names that the text uses are the built-in ones -/
structure Bt (mg : Str → Option Value) : Prop where
  isinstance : mg "isinstance" = none
  int : mg "int" = none
  bool : mg "bool" = none
  list : mg "list" = none
  tuple : mg "tuple" = none
  len : mg "len" = none
  enumerate : mg "enumerate" = none
  range : mg "range" = none
  sorted : mg "sorted" = none
  set : mg "set" = none
  repr : mg "repr" = none
  abs : mg "abs" = none
  min : mg "min" = none
  max : mg "max" = none
  sum : mg "sum" = none
  all : mg "all" = none
  any : mg "any" = none
  zip : mg "zip" = none
  str : mg "str" = none
  dict : mg "dict" = none
  ke : mg "KeyError" = none
end K1
namespace K1
open PySem PySem.Spec PyProof.Rows L2
def belowB (v : V) (lim : Int) : Bool := match v with | .int i => decide (0 ≤ i) && decide (i < lim) | _ => false
def seqB (o : Option (List V)) (least most : Int) : Bool := match o with | some xs => decide (least ≤ (xs.length : Int)) && decide ((xs.length : Int) ≤ most) | none => false
def spWhole (K : PySem.W.Frag) : Sp := fun vs H Q _ => ∃ v o, vs = [v] ∧ KV K H v o ∧ Q (.bl (wholeB v)) H
def spBelow (K : PySem.W.Frag) : Sp := fun vs H Q _ => ∃ v o lim, vs = [v, .int lim] ∧ KV K H v o ∧ Q (.bl (belowB v lim)) H
def spSeq (K : PySem.W.Frag) : Sp := fun vs H Q _ => ∃ v o least most, vs = [v, .int least, .int most] ∧ KV K H v o ∧ ∀ H', Same H H' → Q (.bl (seqB o least most)) H'
section
variable {P : Program} {w : World} {K : PySem.W.Frag} {mg : Str → Option Value} {base : Heap}
theorem scW : FnScope ["value"] ["value"] (defScope sWhole) := ⟨rfl, rfl, rfl, by decide +kernel, rfl, by decide +kernel, by decide +kernel⟩
theorem ok_whole {f : Addr} {fd : FuncData} (D : Df K mg "is_whole" sWhole ["value"] f fd) (B : Bt mg) : FnOk P w K mg base CX0 1 f fd ["value"] (spWhole K) := by
  refine D.F.ok scW (fun vs H Q E h => ?_) (fun cdv A outer s H vs Q E hr h => ?_)
  · obtain ⟨v, o, rfl, _⟩ := h
    rfl
  · obtain ⟨v, o, rfl, kv, q⟩ := h
    obtain ⟨g, ty, eI, eB, eQ⟩ := kv.ty
    refine ⟨_, pss_one (ps_ret (pe_and (pe_callB call_isi (by rfl) B.isinstance (by decide +kernel) (pa_cons (pv 0) (pa_cons (pe_bltn (v := .ty "int") (by rfl) B.int PyProof.Rows.boot_int rfl) pa_nil)))
      (pe_one (pe_not (pe_callB call_isi (by rfl) B.isinstance (by decide +kernel) (pa_cons (pv 0) (pa_cons (pe_bltn (v := .ty "bool") (by rfl) B.bool PyProof.Rows.boot_bool rfl) pa_nil))))))), ?_⟩
    refine ⟨_, rfl, _, _, _, _, _, rfl, .ty _, ty, kit_I K g, _, rfl, ifD (fun e => ?_) fun e => ?_⟩
    · refine ⟨_, rfl, _, _, _, _, _, rfl, .ty _, ty, kit_B K g, _, rfl, ?_⟩
      have z : (!g.isB) = wholeB v := by rw [← eI]; cases g <;> first | rfl | cases e
      exact qbl z q
    · have z : false = wholeB v := by rw [← eI]; cases g <;> first | rfl | cases e
      exact qbl z q
theorem scB : FnScope ["value", "limit"] ["value", "limit"] (defScope sBelow) := ⟨rfl, rfl, rfl, by decide +kernel, rfl, by decide +kernel, by decide +kernel⟩
theorem ok_below {f fW : Addr} {fd fdW : FuncData} (D : Df K mg "is_below" sBelow ["value", "limit"] f fd) (DW : Df K mg "is_whole" sWhole ["value"] fW fdW) (B : Bt mg) : FnOk P w K mg base CX0 2 f fd ["value", "limit"] (spBelow K) := by
  have GW : FnOk P w K mg base CX0 1 fW fdW ["value"] (spWhole K) := ok_whole DW B
  refine D.F.ok scB (fun vs H Q E h => ?_) (fun cdv A outer s H vs Q E hr h => ?_)
  · obtain ⟨v, o, lim, rfl, _⟩ := h
    rfl
  · obtain ⟨v, o, lim, rfl, kv, q⟩ := h
    refine ⟨_, pss_one (ps_ret (pe_and (pc DW GW hr pass0 (pa_cons (pv 0) pa_nil)) (pe_one (pe_chain op_le op_lt pe_int (pv 0) (pv 1))))), ?_⟩
    refine ⟨_, rfl, _, _, rfl, kv, _, rfl, ifD (fun e => ?_) fun e => ?_⟩
    · obtain ⟨i, rfl⟩ : ∃ i, v = .int i := by
        cases v <;> first | exact ⟨_, rfl⟩ | cases e
      refine ⟨_, rfl, _, _, rfl, rfl, _, rfl, ifD (fun e2 => ?_) fun e2 => ?_⟩
      · refine ⟨_, rfl, _, _, rfl, rfl, ?_⟩
        have z : decide (i < lim) = belowB (.int i) lim := by
          show _ = (decide (0 ≤ i) && decide (i < lim))
          rw [e2]; rfl
        exact qbl z q
      · have z : false = belowB (.int i) lim := by
          show _ = (decide (0 ≤ i) && decide (i < lim))
          rw [e2]; rfl
        exact qbl z q
    · have z : false = belowB v lim := by cases v <;> first | rfl | cases e
      exact qbl z q
theorem scS : FnScope ["value", "least", "most"] ["value", "least", "most"] (defScope sSeq) := ⟨rfl, rfl, rfl, by decide +kernel, rfl, by decide +kernel, by decide +kernel⟩
theorem ok_seq {f : Addr} {fd : FuncData} (D : Df K mg "is_sequence" sSeq ["value", "least", "most"] f fd) (B : Bt mg) : FnOk P w K mg base CX0 1 f fd ["value", "least", "most"] (spSeq K) := by
  refine D.F.ok scS (fun vs H Q E h => ?_) (fun cdv A outer s H vs Q E hr h => ?_)
  · obtain ⟨v, o, least, most, rfl, _⟩ := h
    rfl
  · obtain ⟨v, o, least, most, rfl, kv, q⟩ := h
    refine ⟨_, pss_one (ps_ret (pe_and (pe_callB call_isiT (by rfl) B.isinstance (by decide +kernel) (pa_cons (pv 0) (pa_cons (pe_tup (pa_cons (pe_bltn (v := .ty "list") (by rfl) B.list PyProof.Rows.boot_list rfl) (pa_cons (pe_bltn (v := .ty "tuple") (by rfl) B.tuple PyProof.Rows.boot_tuple rfl) pa_nil))) pa_nil)))
      (pe_one (pe_chain op_le op_le (pv 1) (pe_callB call_len_seq (by rfl) B.len PySem.boot_len (pa_cons (pv 0) pa_nil)) (pv 2))))), ?_⟩
    refine ⟨_, rfl, (by show 2 ≤ sizeLine; decide), fun p hp => ?_⟩
    have sm : Same H (upd H p (.tup [.ty "list", .ty "tuple"])) := fun b o e => by rw [upd_ne (ne_of_none e hp)]; exact e
    obtain ⟨g, ty, eI, eB, eQ⟩ := (kv.same sm).ty
    refine ⟨_, _, _, _, _, _, rfl, upd_same, .cons (.ty _) (.cons (.ty _) .nil), ty, kit_Q K g, _, rfl, ifD (fun e => ?_) fun e => ?_⟩
    · have kv2 := kv.same sm
      generalize hH1 : upd H p (.tup [.ty "list", .ty "tuple"]) = H1 at *
      rw [eQ] at e
      have q2 := q _ sm
      cases kv with
      | lst h =>
        rename_i a xs
        have h1 : H1 a = some (.lst xs) := sm _ _ h
        refine ⟨_, rfl, _, rfl, _, _, rfl, .inl (SqL.of h1), _, _, rfl, rfl, _, rfl, ifD (fun e2 => ?_) fun e2 => ?_⟩
        · refine ⟨_, rfl, _, _, rfl, rfl, qbl ?_ q2⟩
          show _ = (decide (least ≤ (xs.length : Int)) && decide ((xs.length : Int) ≤ most))
          rw [e2]; rfl
        · refine qbl ?_ q2
          show _ = (decide (least ≤ (xs.length : Int)) && decide ((xs.length : Int) ≤ most))
          rw [e2]; rfl
      | tup h =>
        rename_i a xs
        have h1 : H1 a = some (.tup xs) := sm _ _ h
        refine ⟨_, rfl, _, rfl, _, _, rfl, .inr (SqT.of h1), _, _, rfl, rfl, _, rfl, ifD (fun e2 => ?_) fun e2 => ?_⟩
        · refine ⟨_, rfl, _, _, rfl, rfl, qbl ?_ q2⟩
          show _ = (decide (least ≤ (xs.length : Int)) && decide ((xs.length : Int) ≤ most))
          rw [e2]; rfl
        · refine qbl ?_ q2
          show _ = (decide (least ≤ (xs.length : Int)) && decide ((xs.length : Int) ≤ most))
          rw [e2]; rfl
      | _ => cases e
    · rw [eQ] at e
      have z : o = none := by cases o <;> first | rfl | cases e
      subst z
      exact q _ sm
end
end K1
namespace K1
open PySem PySem.Spec PyProof.Rows L2
def fnb (xs : List V) (lim : Int) : V := match xs.findIdx? (fun x => !belowB x lim) with | some i => .int (i : Nat) | none => .non
theorem fnb_at {xs : List V} {lim : Int} {i : Nat} {x : V} (hx : xs[i]? = some x) (hn : belowB x lim = false) (hb : ∀ j y, j < i → xs[j]? = some y → belowB y lim = true) : fnb xs lim = .int (i : Nat) := by
  obtain ⟨hi, ex⟩ := List.getElem?_eq_some_iff.mp hx
  have e : xs.findIdx? (fun x => !belowB x lim) = some i := by
    rw [List.findIdx?_eq_some_iff_getElem]
    refine ⟨hi, by rw [ex, hn]; rfl, fun j hj => ?_⟩
    have hj' : j < xs.length := Nat.lt_trans hj hi
    have := hb j xs[j] hj (by simp [hj'])
    simp [this]
  unfold fnb
  rw [e]
theorem fnb_none {xs : List V} {lim : Int} (hb : ∀ j y, j < xs.length → xs[j]? = some y → belowB y lim = true) : fnb xs lim = .non := by
  have e : xs.findIdx? (fun x => !belowB x lim) = none := by
    rw [List.findIdx?_eq_none_iff]
    intro x hx
    obtain ⟨j, hj, e⟩ := List.mem_iff_getElem.mp hx
    have := hb j xs[j] hj (by simp [hj])
    rw [← e, this]; rfl
  unfold fnb
  rw [e]
/-- a list or tuple at a -/
def SeqA (H : Hp) (a : Addr) (xs : List V) : Prop := H a = some (.lst xs) ∨ H a = some (.tup xs)
theorem SeqA.same {H H' : Hp} {a : Addr} {xs : List V} (h : SeqA H a xs) (s : Same H H') : SeqA H' a xs := h.elim (fun h => .inl (s _ _ h)) fun h => .inr (s _ _ h)
theorem SeqA.kv {K : PySem.W.Frag} {H : Hp} {a : Addr} {xs : List V} (h : SeqA H a xs) : KV K H (.ref a) (some xs) := h.elim .lst .tup
/-- each item is of some kind -/
def Kinds (K : PySem.W.Frag) (H : Hp) (xs : List V) : Prop := ∀ x ∈ xs, ∃ o, KV K H x o
theorem Kinds.same {K : PySem.W.Frag} {H H' : Hp} {xs : List V} (h : Kinds K H xs) (s : Same H H') : Kinds K H' xs := fun x hx => let ⟨o, k⟩ := h x hx; ⟨o, k.same s⟩
theorem same_new {H : Hp} {p : Addr} {o : HO} (hp : H p = none) : Same H (upd H p o) := fun b u e => by rw [upd_ne (ne_of_none e hp)]; exact e
def spFnb (K : PySem.W.Frag) : Sp := fun vs H Q _ => ∃ a xs lim, vs = [.ref a, .int lim] ∧ SeqA H a xs ∧ Kinds K H xs ∧ ∀ H', Same H H' → Q (fnb xs lim) H'
section
variable {P : Program} {w : World} {K : PySem.W.Frag} {mg : Str → Option Value} {base : Heap}
theorem scF : FnScope ["items", "limit", "at", "item"] ["items", "limit"] (defScope sFnb) := ⟨rfl, rfl, rfl, by decide +kernel, rfl, by decide +kernel, by decide +kernel⟩
/-- one turn of the search, and the way behind it: the iterator is a list's or a tuple's -/
theorem ok_fnb {f fB : Addr} {fd fdB : FuncData} (D : Df K mg "first_not_below" sFnb ["items", "limit"] f fd) (DB : Df K mg "is_below" sBelow ["value", "limit"] fB fdB) (B : Bt mg)
    (GB : FnOk P w K mg base CX0 2 fB fdB ["value", "limit"] (spBelow K)) : FnOk P w K mg base CX0 3 f fd ["items", "limit"] (spFnb K) := by
  refine D.F.ok scF (fun vs H Q E h => ?_) (fun cdv A outer s H vs Q E hr h => ?_)
  · obtain ⟨a, xs, lim, rfl, _⟩ := h
    rfl
  · obtain ⟨a, xs, lim, rfl, hS, hK, q⟩ := h
    refine ⟨_, pss_cons (ps_for PassesOwn.never rfl (pi_enumA (by rfl) B.enumerate (pa_cons (pv 0) pa_nil))
        (pg_tup rfl (pgs_cons (pg_name (i := 2) scF.nd rfl (.inl rfl)) (pgs_cons (pg_name (i := 3) scF.nd rfl (.inl rfl)) pgs_nil)))
        (pss_one (ps_if (pt_not (pt_val (pc DB GB hr pass0 (pa_cons (pv 3) (pa_cons (pv 1) pa_nil))))) (pss_one (ps_ret (pv 2))) pss_nil)))
      (pss_one (ps_ret pe_non)), ?_⟩
    let Pv : Nat → L2.St → Hp → Prop := fun i σ H' => ∃ v2 v3 : Option V, σ = [some (.ref a), some (.int lim), v2, v3] ∧ Same H H' ∧ ∀ j y, j < i → xs[j]? = some y → belowB y lim = true
    have end_ : ∀ σ H', Pv xs.length σ H' → Q .non H' := fun σ H' ⟨v2, v3, _, sm, hb⟩ => by
      have := q H' sm
      rw [fnb_none hb] at this
      exact this
    refine ⟨_, rfl, a, rfl, ?_⟩
    rcases hS with hS | hS
    · refine .inl ⟨xs, SqL.of hS, for_enumL (K := K) Pv ⟨none, none, rfl, Same.refl H, fun j y hj => absurd hj (Nat.not_lt_zero _)⟩ (fun i σ H' _ ⟨_, _, _, sm, _⟩ => SqL.of (sm _ _ hS)) ?_ end_⟩
      rintro i x T σ H' hx hT ⟨v2, v3, rfl, sm, hb⟩
      have sm2 : Same H (upd H' T (.tup [.int (i : Nat), x])) := sm.trans (same_new hT)
      obtain ⟨o, kv⟩ := hK x (List.mem_of_getElem? hx)
      refine ⟨T, _, rfl, SqT.of upd_same, rfl, _, _, rfl, _, _, rfl, rfl, ?_⟩
      refine ⟨_, rfl, _, rfl, _, o, lim, rfl, kv.same sm2, _, rfl, ?_⟩
      refine ifD (fun e => ?_) fun e => ?_
      · refine ⟨_, rfl, ?_⟩
        have e' : belowB x lim = false := by simpa using e
        have := q _ sm2
        rw [fnb_at hx e' hb] at this
        exact this
      · have e' : belowB x lim = true := by simpa using e
        refine ⟨_, _, rfl, sm2, fun j y hj hy => ?_⟩
        rcases Nat.lt_succ_iff_lt_or_eq.mp hj with z | z
        · exact hb j y z hy
        · subst z
          rw [hx] at hy
          rw [← Option.some.inj hy]
          exact e'
    · refine .inr ⟨xs, SqT.of hS, for_enumT (K := K) Pv ⟨none, none, rfl, Same.refl H, fun j y hj => absurd hj (Nat.not_lt_zero _)⟩ (fun i σ H' _ ⟨_, _, _, sm, _⟩ => SqT.of (sm _ _ hS)) ?_ end_⟩
      rintro i x T σ H' hx hT ⟨v2, v3, rfl, sm, hb⟩
      have sm2 : Same H (upd H' T (.tup [.int (i : Nat), x])) := sm.trans (same_new hT)
      obtain ⟨o, kv⟩ := hK x (List.mem_of_getElem? hx)
      refine ⟨T, _, rfl, SqT.of upd_same, rfl, _, _, rfl, _, _, rfl, rfl, ?_⟩
      refine ⟨_, rfl, _, rfl, _, o, lim, rfl, kv.same sm2, _, rfl, ?_⟩
      refine ifD (fun e => ?_) fun e => ?_
      · refine ⟨_, rfl, ?_⟩
        have e' : belowB x lim = false := by simpa using e
        have := q _ sm2
        rw [fnb_at hx e' hb] at this
        exact this
      · have e' : belowB x lim = true := by simpa using e
        refine ⟨_, _, rfl, sm2, fun j y hj hy => ?_⟩
        rcases Nat.lt_succ_iff_lt_or_eq.mp hj with z | z
        · exact hb j y z hy
        · subst z
          rw [hx] at hy
          rw [← Option.some.inj hy]
          exact e'
end
end K1
namespace K1
open PySem PySem.Spec PyProof.Rows L2
/-! ### small words -/
theorem seqG {t u : TS} {D : Ends} {σ : L2.St} {H : Hp} (G : L2.St → Hp → Prop) (hu : ∀ σ H, G σ H → u D σ H) (ht : (∀ σ H, G σ H → u D σ H) → t { D with nx := u D } σ H) : tSeq t u D σ H := ht hu
theorem gn {i : Nat} {x : V} {σ : L2.St} {H : Hp} {Q : L2.St → Hp → Prop} (h : Q (σ.set i (some x)) H) : gName i x σ H Q := h
theorem nxP {D : Ends} {σ : L2.St} {H : Hp} (h : D.nx σ H) : tNext D σ H := h
theorem nilP {σ : L2.St} {H : Hp} {Q : List V → Hp → Prop} (h : Q [] H) : tNil σ H Q := h
theorem cP {v : V} {σ : L2.St} {H : Hp} {Q : VK} (h : Q v H) : tC v σ H Q := h
theorem noP {σ : L2.St} {H : Hp} {Q : Option Int → Hp → Prop} (h : Q none H) : tNoPart σ H Q := h
theorem iteN {c : Bool} {A B : Prop} (e : c = false) (h : B) : if c = true then A else B := by subst e; exact iteF h
theorem iteY {c : Bool} {A B : Prop} (e : c = true) (h : A) : if c = true then A else B := by subst e; exact iteT h
theorem neV {x : V} {Q : VK} {H : Hp} (hs : scal x x = true) (q : Q (.bl false) H) : rNe x x H Q := ⟨hs, qbl (by rw [decide_eq_true rfl]; rfl) q⟩
theorem eqVV {x : V} {Q : VK} {H : Hp} (hs : scal x x = true) (q : Q (.bl true) H) : rEq x x H Q := ⟨hs, qbl (by rw [decide_eq_true rfl]) q⟩
theorem passF {X : Cx} : Passes (L2.CX X.prog X.w) X (fun _ _ _ => False) := passes_call LamX.takes0 fun _ _ _ _ h => h
theorem take_succ {α : Type} {l : List α} {i : Nat} {x : α} (h : l[i]? = some x) : l.take (i + 1) = l.take i ++ [x] := by
  rw [List.take_add_one, h]; rfl
theorem fnb_all {xs : List V} {lim : Int} (h : ∀ x ∈ xs, belowB x lim = true) : fnb xs lim = .non := fnb_none fun j y _ hy => h y (List.mem_of_getElem? hy)
theorem find_at {α : Type} {rs : List α} {p : α → Bool} {i : Nat} {r : α} (hr : rs[i]? = some r) (hn : p r = true) (hb : ∀ (j : Nat) y, j < i → rs[j]? = some y → p y = false) : rs.findIdx? p = some i := by
  obtain ⟨hi, ex⟩ := List.getElem?_eq_some_iff.mp hr
  rw [List.findIdx?_eq_some_iff_getElem]
  refine ⟨hi, by rw [ex, hn], fun j hj => ?_⟩
  have hj' : j < rs.length := Nat.lt_trans hj hi
  have := hb j rs[j] hj (by simp [hj'])
  simp [this]
theorem find_none {α : Type} {rs : List α} {p : α → Bool} (hb : ∀ (j : Nat) y, j < rs.length → rs[j]? = some y → p y = false) : rs.findIdx? p = none := by
  rw [List.findIdx?_eq_none_iff]
  intro x hx
  obtain ⟨j, hj, e⟩ := List.mem_iff_getElem.mp hx
  exact e ▸ hb j rs[j] hj (by simp [hj])
theorem lookup_same {α : Type} {l : List α} {i : Nat} {x y : α} (h1 : l[i]? = some x) (h2 : l[i]? = some y) : x = y := Option.some.inj (h1.symm.trans h2)
theorem ex_at {α : Type} {l : List α} {i : Nat} (h : i < l.length) : ∃ x, l[i]? = some x := ⟨l[i], List.getElem?_eq_getElem h⟩
theorem lt_at {α : Type} {l : List α} {i : Nat} {x : α} (h : l[i]? = some x) : i < l.length := (List.getElem?_eq_some_iff.mp h).1
theorem map_at {α β : Type} {f : α → β} {l : List α} {i : Nat} {x : α} (h : l[i]? = some x) : (l.map f)[i]? = some (f x) := by rw [List.getElem?_map, h]; rfl
theorem at_map {α β : Type} {f : α → β} {l : List α} {i : Nat} {y : β} (h : (l.map f)[i]? = some y) : ∃ x, l[i]? = some x ∧ y = f x := by
  rw [List.getElem?_map] at h
  cases e : l[i]? with
  | none => rw [e] at h; cases h
  | some x => rw [e] at h; exact ⟨x, rfl, (Option.some.inj h).symm⟩
theorem at_i {xs : List V} {i : Nat} {x : V} (h : xs[i]? = some x) : atI xs (i : Int) = some x := at_of (j := i) rfl h
theorem sz {n : Nat} (h : n ≤ 16777216) : n ≤ sizeLine := by rw [sizeLine_eq]; exact h
theorem szl {n : Nat} (h : n < 16777216) : n < sizeLine := by rw [sizeLine_eq]; exact h
/-! ### rules with the fragment told -/
section
variable {X : Cx} {K : PySem.W.Frag}
theorem neD (h : X.K = K) (hu : X.A.units + 64 < cLine) : OpR X (compareOp .NotEq) (rNeD K) := by subst h; exact op_neD hu
theorem eqD (h : X.K = K) (hu : X.A.units + 64 < cLine) : OpR X (compareOp .Eq) (rEqD K) := by subst h; exact op_eqD hu
def rList (K : PySem.W.Frag) : List V → Hp → VK → Prop := fun xs H Q => ∃ p ys, xs = [.ref p] ∧ (SqL K H p ys ∨ SqT K H p ys) ∧ ∀ l, H l = none → Q (.ref l) (upd H l (.lst ys))
theorem clist (h : X.K = K) : CallR X (.type "list") (rList K) := by subst h; exact call_list_of
def rTup (K : PySem.W.Frag) : List V → Hp → VK → Prop := fun xs H Q => ∃ p ys, xs = [.ref p] ∧ ((SqL K H p ys ∧ ∀ l, H l = none → Q (.ref l) (upd H l (.tup ys))) ∨ (SqT K H p ys ∧ Q (.ref p) H))
theorem ctup (h : X.K = K) : CallR X (.type "tuple") (rTup K) := by subst h; exact call_tuple_of
theorem slL (h : X.K = K) : SlR X (rSlL K) := by subst h; exact sl_list
theorem slA (h : X.K = K) : SlR X (rSlA K) := by subst h; exact sl_tupA
theorem piL {tg l : Expr} {tl : TE} (h : X.K = K) (hl : PE X l tl) : PI X tg l (iList K tl) := by subst h; exact pi_list hl
theorem ixTK (h : X.K = K) : IxR X (rIxT K) := by subst h; exact ix_tup
theorem ixLK (h : X.K = K) : IxR X (rIxL K) := by subst h; exact ix_list
def rLenK (K : PySem.W.Frag) : List V → Hp → VK → Prop := fun xs H Q => ∃ p ys, xs = [.ref p] ∧ (SqL K H p ys ∨ SqT K H p ys) ∧ Q (.int (ys.length : Int)) H
theorem clen (h : X.K = K) : CallR X (.builtin "len") (rLenK K) := by subst h; exact call_len_seq
theorem opInK (h : X.K = K) : OpR X (compareOp .In) (rIn K false) := by subst h; exact op_in_seq
theorem opNotInK (h : X.K = K) : OpR X (compareOp .NotIn) (rIn K true) := by subst h; exact op_notIn_seq
theorem opCatA (h : X.K = K) : OpR X (binaryOp .Add) (rCatA K) := by subst h; exact op_catA
theorem pe_fldK {e : Expr} {f : Str} {te : TE} {pos : Pos} (h : X.K = K) (he : PE X e te) (hb : attributeBase e f X.env (eval e X.env) = eval e X.env) : PE X (.Attribute e f pos) (tFld K te f) := by subst h; exact pe_fld he hb
end
/-! ### slices and sums of tuples -/
theorem cut_to {xs : List V} {k : Nat} (h : k ≤ xs.length) : cutV xs none (some (k : Int)) = xs.take k := by
  unfold cutV
  rw [HT.sIx_nat, HT.sIx_none, Nat.min_eq_left h]; rfl
theorem cut_from {xs : List V} {k : Nat} (h : k ≤ xs.length) : cutV xs (some (k : Int)) none = xs.drop k := by
  unfold cutV
  rw [HT.sIx_nat, HT.sIx_none, Nat.min_eq_left h, ← List.length_drop, List.take_length]
theorem catA_by {K : PySem.W.Frag} {H : Hp} {Q : VK} {a b : Addr} {xs ys : List V} (ha : H a = some (.tup xs)) (hb : H b = some (.tup ys)) (hl : xs.length + ys.length ≤ sizeLine) (q : ∀ p H', Same H H' → H' p = some (.tup (xs ++ ys)) → Q (.ref p) H') : rCatA K (.ref a) (.ref b) H Q := by
  refine ⟨a, b, xs, ys, rfl, rfl, SqT.of ha, SqT.of hb, hl, fun e => ?_, fun _ e => ?_, fun _ _ p hp => q p _ (K1.same_new hp) upd_same⟩
  · subst e
    exact q b H (fun _ _ e => e) hb
  · subst e
    exact q a H (fun _ _ e => e) (by rw [List.append_nil]; exact ha)
theorem slA_by {K : PySem.W.Frag} {H : Hp} {Q : VK} {a : Addr} {xs : List V} {lo hi : Option Int} (ha : H a = some (.tup xs)) (q : ∀ p H', Same H H' → H' p = some (.tup (cutV xs lo hi)) → Q (.ref p) H') : rSlA K (.ref a) lo hi H Q := by
  refine ⟨a, xs, rfl, SqT.of ha, fun e => ?_, fun _ p hp => q p _ (K1.same_new hp) upd_same⟩
  refine q a H (fun _ _ e => e) ?_
  rw [ha]
  unfold cutV
  rw [e.1, e.2, List.drop_zero, Nat.sub_zero, List.take_length]
/-! ### errors, rows of values -/
/-- an error of the class at C, its field f at v -/
def Rz (C : Addr) (f : Str) (v : V) (H : Hp) (E : XK) : Prop := ∀ d H', Same H H' → H d = none → H' d = some (.xd [(f, v)]) → E (.ref C) (some d) H'
/-- a value, whose items (if it has some) are of known kinds -/
structure Rw (K : PySem.W.Frag) (H : Hp) (x : V) (r : Option (List V)) : Prop where
  kv : KV K H x r
  ks : ∀ ys, r = some ys → Kinds K H ys
theorem Rw.same {K : PySem.W.Frag} {H H' : Hp} {x : V} {r : Option (List V)} (h : Rw K H x r) (s : Same H H') : Rw K H' x r := ⟨h.kv.same s, fun ys e => (h.ks ys e).same s⟩
theorem KV.seqA {K : PySem.W.Frag} {H : Hp} {x : V} {ys : List V} (h : KV K H x (some ys)) : ∃ a, x = .ref a ∧ SeqA H a ys := by
  cases h with
  | lst h => exact ⟨_, rfl, .inl h⟩
  | tup h => exact ⟨_, rfl, .inr h⟩
theorem kv_any {K K' : PySem.W.Frag} {H : Hp} {v : V} {o : Option (List V)} (kv : KV K' H v o) : KV K H v o := by cases kv <;> first | exact .int _ | exact .bl _ | exact .non | exact .str _ | exact .lst (by assumption) | exact .tup (by assumption)
/-! ### whole numbers by rows -/
def vrow (t : List Int) : List V := t.map V.int
def dI (t : List Int) : List PyData := t.map PyData.int
theorem dp_ints {K : PySem.W.Frag} {H : Hp} : ∀ t : List Int, DpAll K H (vrow t) (dI t)
  | [] => .nil
  | i :: r => .cons (.int i) (dp_ints r)
theorem dp_tup {K : PySem.W.Frag} {H : Hp} {a : Addr} {t : List Int} (h : H a = some (.tup (vrow t))) : Dp K H (.ref a) (.tuple (dI t)) := .tup (SqT.of h) (dp_ints t)
theorem dp_lst {K : PySem.W.Frag} {H : Hp} {a : Addr} {t : List Int} (h : H a = some (.lst (vrow t))) : Dp K H (.ref a) (.list (dI t)) := .lst (SqL.of h) (dp_ints t)
theorem vrow_set (t : List Int) (i : Nat) (x : Int) : vrow (t.set i x) = (vrow t).set i (.int x) := by unfold vrow; rw [List.map_set]
theorem vrow_len (t : List Int) : (vrow t).length = t.length := List.length_map _
theorem vrow_at {t : List Int} {i : Nat} {v : V} (h : (vrow t)[i]? = some v) : ∃ x, t[i]? = some x ∧ v = .int x := at_map h
theorem vrow_get {t : List Int} {i : Nat} (h : i < t.length) : (vrow t)[i]? = some (V.int (t.getD i 0)) := by
  rw [vrow, List.getElem?_map, List.getD_eq_getElem?_getD, List.getElem?_eq_getElem h]; rfl
/-- plain data: shown shortly, compared by what they hold -/
structure Pl (d : PyData) (n w : Nat) : Prop where
  lay : d.canLay0 = true
  sh : d.showable = true
  nd : d.hasDict = false
  dp : d.depth ≤ n
  wt : d.weight ≤ w
  sr : d.leavesShort 20 = true
structure PlA (ds : List PyData) (n w : Nat) : Prop where
  lay : PyData.canLayAll0 ds = true
  sh : PyData.showableAll ds = true
  nd : PyData.hasDictAll ds = false
  dp : PyData.depthAll ds ≤ n
  wt : PyData.weightAll ds ≤ w
  sr : PyData.leavesShortAll 20 ds = true
theorem Pl.int {i : Int} (h : i.natAbs < 10 ^ 19) : Pl (.int i) 0 64 := by
  have h3 : i.natAbs ≠ 0 → i.natAbs.log2 < 64 := fun z => (Nat.log2_lt z).mpr (Nat.lt_of_lt_of_le h (by decide))
  refine ⟨by simp only [PyData.canLay0], ?_, by simp only [PyData.hasDict], by simp only [PyData.depth]; omega, ?_, ?_⟩
  · simp only [PyData.showable, decide_eq_true_eq]
    by_cases z : i.natAbs = 0
    · rw [z]; decide
    · have := h3 z
      omega
  · simp only [PyData.weight]
    split
    · omega
    · rename_i z
      have := h3 (fun e => z (by rw [Int.natAbs_eq_zero.mp e]; rfl))
      omega
  · have e := int_text_length_le10 (a := i) (k := 19) (by decide) h
    simp only [PyData.leavesShort, decide_eq_true_eq, PyData.shown]
    exact decide_eq_true (Nat.le_trans (Nat.le_of_eq (PySem.ofString_length _)) e)
theorem Pl.bl (b : Bool) : Pl (.bool b) 0 0 := ⟨by simp only [PyData.canLay0], by simp only [PyData.showable], by simp only [PyData.hasDict], by simp only [PyData.depth]; omega, by simp only [PyData.weight]; omega, by simp only [PyData.leavesShort]⟩
theorem PlA.nil : PlA [] 0 0 := ⟨by simp only [PyData.canLayAll0], by simp only [PyData.showableAll], by simp only [PyData.hasDictAll], by simp only [PyData.depthAll]; omega, by simp only [PyData.weightAll]; omega, by simp only [PyData.leavesShortAll]⟩
theorem PlA.cons {d : PyData} {ds : List PyData} {n m u v : Nat} (a : Pl d n u) (b : PlA ds m v) : PlA (d :: ds) (max n m) (u + 1 + v) := by
  refine ⟨by simp only [PyData.canLayAll0, a.lay, b.lay, Bool.and_self], by simp only [PyData.showableAll, a.sh, b.sh, Bool.and_self], by simp only [PyData.hasDictAll, a.nd, b.nd, Bool.or_self], ?_, ?_, by simp only [PyData.leavesShortAll, a.sr, b.sr, Bool.and_self]⟩
  · have h1 := a.dp; have h2 := b.dp
    simp only [PyData.depthAll]; omega
  · have h1 := a.wt; have h2 := b.wt
    simp only [PyData.weightAll]; omega
theorem Pl.list {ds : List PyData} {n w : Nat} (a : PlA ds n w) : Pl (.list ds) (n + 1) w := by
  refine ⟨by simp only [PyData.canLay0, a.lay], by simp only [PyData.showable, a.sh], by simp only [PyData.hasDict, a.nd], ?_, ?_, by simp only [PyData.leavesShort, a.sr]⟩
  · have h1 := a.dp
    simp only [PyData.depth]; omega
  · have h1 := a.wt
    simp only [PyData.weight]; omega
theorem Pl.tuple {ds : List PyData} {n w : Nat} (a : PlA ds n w) : Pl (.tuple ds) (n + 1) w := by
  refine ⟨by simp only [PyData.canLay0, a.lay], by simp only [PyData.showable, a.sh], by simp only [PyData.hasDict, a.nd], ?_, ?_, by simp only [PyData.leavesShort, a.sr]⟩
  · have h1 := a.dp
    simp only [PyData.depth]; omega
  · have h1 := a.wt
    simp only [PyData.weight]; omega
theorem Pl.mono {d : PyData} {n w m v : Nat} (a : Pl d n w) (h1 : n ≤ m) (h2 : w ≤ v) : Pl d m v := ⟨a.lay, a.sh, a.nd, Nat.le_trans a.dp h1, Nat.le_trans a.wt h2, a.sr⟩
theorem PlA.mono {d : List PyData} {n w m v : Nat} (a : PlA d n w) (h1 : n ≤ m) (h2 : w ≤ v) : PlA d m v := ⟨a.lay, a.sh, a.nd, Nat.le_trans a.dp h1, Nat.le_trans a.wt h2, a.sr⟩
theorem Pl.shaped {d : PyData} {n w : Nat} (a : Pl d n w) (h : n ≤ 40) : SeqAt.shaped d = true := by
  have := a.dp
  unfold SeqAt.shaped
  rw [a.lay, decide_eq_true (by omega)]; rfl
theorem Pl.short {d : PyData} {n w : Nat} (a : Pl d n w) (h : w ≤ 100000) : d.shown.length ≤ sizeLine := by
  have h1 := PyData.shown_le 20 (by decide) d a.sr
  have h2 := a.wt
  rw [sizeLine_eq]
  omega
/-- rows of whole numbers below 10 ^ 19 -/
theorem pla_ints : ∀ t : List Int, (∀ i ∈ t, i.natAbs < 10 ^ 19) → PlA (dI t) 0 (t.length * 65)
  | [], _ => PlA.nil
  | i :: r, h => (PlA.cons (Pl.int (h i List.mem_cons_self)) (pla_ints r fun j hj => h j (List.mem_cons_of_mem _ hj))).mono (by omega) (by show 64 + 1 + r.length * 65 ≤ (r.length + 1) * 65; omega)
abbrev Ts := List (List Int)
theorem pla_rows {n : Nat} : ∀ ts : Ts, (∀ t ∈ ts, t.length ≤ n ∧ ∀ i ∈ t, i.natAbs < 10 ^ 19) → PlA (ts.map fun t => PyData.tuple (dI t)) 1 (ts.length * (n * 65 + 1))
  | [], _ => PlA.nil.mono (by omega) (by omega)
  | t :: r, h => by
    obtain ⟨h1, h2⟩ := h t List.mem_cons_self
    refine (PlA.cons (Pl.tuple (pla_ints t h2)) (pla_rows r fun u hu => h u (List.mem_cons_of_mem _ hu))).mono (by omega) ?_
    show t.length * 65 + 1 + r.length * (n * 65 + 1) ≤ (r.length + 1) * (n * 65 + 1)
    rw [Nat.add_mul]
    omega

theorem pl_str {x : Str} (h1 : PyData.strOk x = true) (h2 : x.cps.size ≤ 100) (h3 : (x.cps.toList.all fun c => decide (c < 16 ^ 8)) = true) : Pl (.str x) 0 100 :=
  ⟨by simp only [PyData.canLay0]; exact h1, by simp only [PyData.showable], by simp only [PyData.hasDict], by simp only [PyData.depth]; omega, by simp only [PyData.weight]; exact h2, by simp only [PyData.leavesShort]; exact h3⟩
theorem pl_non : Pl .none 0 100 := ⟨rfl, rfl, rfl, by show 0 ≤ 0; decide, by show _ ≤ 100; decide +kernel, rfl⟩
/-! ### what repr gives -/
theorem reprP {K : PySem.W.Frag} {p : Addr} {d : PyData} {n w : Nat} {H : Hp} {Q : VK} (hd : Dp K H (.ref p) d) (pl : Pl d n w) (hn : n ≤ 40) (hw : w ≤ 100000) (q : Q (.str d.shown) H) : rRepr K [.ref p] H Q := ⟨p, d, rfl, hd, pl.sh, pl.nd, Nat.le_trans pl.dp hn, pl.short hw, q⟩
theorem neDP {K : PySem.W.Frag} {x y : V} {d : PyData} {n w : Nat} {H : Hp} {Q : VK} (h1 : Dp K H x d) (h2 : Dp K H y d) (pl : Pl d n w) (hn : n ≤ 40) (q : Q (.bl false) H) : rNeD K x y H Q := ⟨d, d, h1, h2, pl.shaped hn, pl.shaped hn, qbl (by rw [SeqAt.eqv_refl _ pl.lay]; rfl) q⟩
theorem eqDP {K : PySem.W.Frag} {x y : V} {d : PyData} {n w : Nat} {H : Hp} {Q : VK} (h1 : Dp K H x d) (h2 : Dp K H y d) (pl : Pl d n w) (hn : n ≤ 40) (q : Q (.bl true) H) : rEqD K x y H Q := ⟨d, d, h1, h2, pl.shaped hn, pl.shaped hn, qbl (SeqAt.eqv_refl _ pl.lay) q⟩
/-! ### what stays: all but the things at xs, and the tables of code -/
def Ks (xs : List Addr) (H H' : Hp) : Prop := ∀ c o, H c = some o → c ∉ xs → (∀ ps, o ≠ .tbl ps) → H' c = some o
section
variable {xs ys : List Addr} {H H1 H2 : Hp}
theorem Ks.refl : Ks xs H H := fun _ _ e _ _ => e
theorem Ks.trans (a : Ks xs H H1) (b : Ks xs H1 H2) : Ks xs H H2 := fun c o e n1 n2 => b c o (a c o e n1 n2) n1 n2
theorem Ks.same (a : Ks xs H H1) (s : Same H1 H2) : Ks xs H H2 := fun c o e n1 n2 => s _ _ (a c o e n1 n2)
theorem Same.ks (s : Same H H1) : Ks xs H H1 := fun c o e _ _ => s _ _ e
theorem Ks.mono (a : Ks xs H H1) (h : ∀ c ∈ xs, c ∈ ys) : Ks ys H H1 := fun c o e n1 n2 => a c o e (fun z => n1 (h c z)) n2
theorem Ks.tup {c : Addr} {vs : List V} (a : Ks xs H H1) (h : H c = some (.tup vs)) (n : c ∉ xs) : H1 c = some (.tup vs) := a c _ h n fun ps z => by cases z
theorem Ks.lst {c : Addr} {vs : List V} (a : Ks xs H H1) (h : H c = some (.lst vs)) (n : c ∉ xs) : H1 c = some (.lst vs) := a c _ h n fun ps z => by cases z
theorem Ks.ins {c C dx : Addr} {fs : List (Str × V)} (a : Ks xs H H1) (h : H c = some (.ins C dx fs)) (n : c ∉ xs) : H1 c = some (.ins C dx fs) := a c _ h n fun ps z => by cases z
end
end K1
namespace K1
open PySem PySem.Spec PyProof.Rows L2
/-! ### replaced -/
def spRepl : Sp := fun vs H Q _ => ∃ (p : Addr) (xs : List V) (i : Nat) (v : V), vs = [.ref p, .int (i : Int), v] ∧ H p = some (.tup xs) ∧ i < xs.length ∧ xs.length ≤ 1000 ∧ ∀ q H', Same H H' → H' q = some (.tup (xs.set i v)) → Q (.ref q) H'
/-! ### webs -/
abbrev Prs := List (Nat × Nat)
def pV (p : Nat × Nat) : List V := [.int (p.1 : Int), .int (p.2 : Int)]
structure Wv (n : Nat) (ts : Prs) : Prop where
  n1 : 1 ≤ n
  n12 : n ≤ 12
  t20 : ts.length ≤ 20
  pr : ∀ p ∈ ts, p.1 < n ∧ p.2 < n ∧ p.1 ≠ p.2
theorem Wv.at_ {n : Nat} {ts : Prs} (h : Wv n ts) {i : Nat} {p : Nat × Nat} (e : ts[i]? = some p) : p.1 < n ∧ p.2 < n ∧ p.1 ≠ p.2 := h.pr p (List.mem_of_getElem? e)
def wf (ta : Addr) (n : Int) : List (Str × V) := putF "houses" (.int n) (putF "ties" (.ref ta) [])
theorem wf_t (ta : Addr) (n : Int) : (wf ta n).lookup ("ties" : Str) = some (.ref ta) := by
  unfold wf
  rw [lookup_putF, if_neg (by decide +kernel), lookup_putF, if_pos rfl]
theorem wf_h (ta : Addr) (n : Int) : (wf ta n).lookup ("houses" : Str) = some (.int n) := by
  unfold wf
  rw [lookup_putF, if_pos rfl]
/-- pairs as tuples -/
def PrsA (H : Hp) (as : List Addr) (ts : Prs) : Prop := as.length = ts.length ∧ ∀ (i : Nat) a t, as[i]? = some a → ts[i]? = some t → H a = some (.tup (pV t))
theorem PrsA.same {H H' : Hp} {as : List Addr} {ts : Prs} (h : PrsA H as ts) (s : Same H H') : PrsA H' as ts := ⟨h.1, fun i a t e1 e2 => s _ _ (h.2 i a t e1 e2)⟩
theorem PrsA.get {H : Hp} {as : List Addr} {ts : Prs} (h : PrsA H as ts) {i : Nat} {t : Nat × Nat} (e : ts[i]? = some t) : ∃ a, as[i]? = some a ∧ H a = some (.tup (pV t)) := by
  obtain ⟨a, ha⟩ := ex_at (l := as) (i := i) (by rw [h.1]; exact lt_at e)
  exact ⟨a, ha, h.2 i a t ha e⟩
theorem PrsA.get' {H : Hp} {as : List Addr} {ts : Prs} (h : PrsA H as ts) {i : Nat} {x : V} (e : (as.map V.ref)[i]? = some x) : ∃ a t, x = .ref a ∧ as[i]? = some a ∧ ts[i]? = some t ∧ H a = some (.tup (pV t)) := by
  obtain ⟨a, ha, rfl⟩ := at_map e
  obtain ⟨t, ht⟩ := ex_at (l := ts) (i := i) (by rw [← h.1]; exact lt_at ha)
  exact ⟨a, t, rfl, ha, ht, h.2 i a t ha ht⟩
def TiesT (H : Hp) (ta : Addr) (ts : Prs) : Prop := ∃ as : List Addr, H ta = some (.tup (as.map V.ref)) ∧ PrsA H as ts
theorem TiesT.same {H H' : Hp} {ta : Addr} {ts : Prs} (h : TiesT H ta ts) (s : Same H H') : TiesT H' ta ts := let ⟨as, h1, h2⟩ := h; ⟨as, s _ _ h1, h2.same s⟩
/-- the web at w -/
def WebAt (W : Addr) (H : Hp) (w : Addr) (n : Nat) (ts : Prs) : Prop := ∃ dx ta, H w = some (.ins W dx (wf ta (n : Int))) ∧ TiesT H ta ts
theorem WebAt.same {W : Addr} {H H' : Hp} {w : Addr} {n : Nat} {ts : Prs} (h : WebAt W H w n ts) (s : Same H H') : WebAt W H' w n ts := let ⟨dx, ta, h1, h2⟩ := h; ⟨dx, ta, s _ _ h1, h2.same s⟩
/-- what the walk asks of the class Web, at W -/
structure WcT (K : PySem.W.Frag) (mg : Str → Option Value) (W : Addr) : Prop where
  cl : Cls K W
  nT : NoAttr K W "ties"
  nH : NoAttr K W "houses"
  g : mg "Web" = some (.ref W)
/-- the module's numbers -/
structure Cw (mg : Str → Option Value) : Prop where
  houses : ∃ t, mg "MOST_HOUSES" = some (.int 12 t)
  ties : ∃ t, mg "MOST_TIES" = some (.int 20 t)
/-- a pair of unlike numbers below n -/
def pairB (o : Option (List V)) (n : Int) : Bool := match o with
  | some [x, y] => belowB x n && belowB y n && !decide (x = y)
  | _ => false
theorem fnb_two (x y : V) (n : Int) : decide (fnb [x, y] n = .non) = (belowB x n && belowB y n) := by
  unfold fnb
  rw [List.findIdx?_cons, List.findIdx?_cons, List.findIdx?_nil]
  cases belowB x n <;> cases belowB y n <;> rfl
theorem scal_int {x y : V} {n : Int} (h1 : belowB x n = true) (h2 : belowB y n = true) : scal x y = true := by
  cases x <;> first | (cases h1; done) | skip
  cases y <;> first | (cases h2; done) | rfl
def spPair (K : PySem.W.Frag) : Sp := fun vs H Q _ => ∃ v o n, vs = [v, .int n] ∧ Rw K H v o ∧ ∀ H', Same H H' → Q (.bl (pairB o n)) H'
/-- checked_ties of a good web -/
def spCTies : Sp := fun vs H Q _ => ∃ (n : Nat) (p : Addr) (as : List Addr) (ts : Prs), vs = [.int (n : Int), .ref p] ∧ SeqA H p (as.map V.ref) ∧ PrsA H as ts ∧ Wv n ts ∧ ∀ ta H', Same H H' → TiesT H' ta ts → Q (.ref ta) H'
def spWInit (W : Addr) : Sp := fun vs H Q _ => ∃ (w dx : Addr) (n : Nat) (p : Addr) (as : List Addr) (ts : Prs), vs = [.ref w, .int (n : Int), .ref p] ∧ H w = some (.ins W dx []) ∧ SeqA H p (as.map V.ref) ∧ PrsA H as ts ∧ Wv n ts ∧
  ∀ H', (∀ b u, H b = some u → b ≠ w → H' b = some u) → WebAt W H' w n ts → Q .non H'
section
variable {P : Program} {w : World} {K : PySem.W.Frag} {mg : Str → Option Value} {base : Heap}
theorem scRe : FnScope ["items", "at", "item"] ["items", "at", "item"] (defScope sRepl) := ⟨rfl, rfl, rfl, by decide +kernel, rfl, by decide +kernel, by decide +kernel⟩
theorem ok_repl {f : Addr} {fd : FuncData} (D : Df K mg "replaced" sRepl ["items", "at", "item"] f fd) : FnOk P w K mg base CX0 1 f fd ["items", "at", "item"] spRepl := by
  refine D.F.ok scRe (fun vs H Q E h => ?_) (fun cdv A outer s H vs Q E hr h => ?_)
  · obtain ⟨p, xs, i, v, rfl, _⟩ := h
    rfl
  · obtain ⟨p, xs, i, v, rfl, hp, hi, hl, q⟩ := h
    refine ⟨_, pss_one (ps_ret (pe_op op_catA (pe_op op_catA (pe_slice sl_tupA (pv 0) po_none (po_some (pv 1))) (pe_tup (pa_cons (pv 2) pa_nil))) (pe_slice sl_tupA (pv 0) (po_some (pe_op op_add (pv 1) pe_int)) po_none))), ?_⟩
    refine ⟨_, rfl, noP ⟨_, rfl, _, rfl, slA_by hp fun p1 H1 s1 hp1 => ?_⟩⟩
    rw [cut_to (by omega)] at hp1
    refine ⟨_, rfl, (by show 1 ≤ sizeLine; decide), fun p2 hp2 => ?_⟩
    refine catA_by (same_new hp2 _ _ hp1) upd_same (sz (by rw [List.length_take]; simp only [List.length_cons, List.length_nil]; omega)) fun p3 H3 s3 hp3 => ?_
    have s03 := (s1.trans (same_new (o := HO.tup [v]) hp2)).trans s3
    refine ⟨_, rfl, _, rfl, _, _, rfl, rfl, _, rfl, noP (slA_by (s03 _ _ hp) fun p4 H4 s4 hp4 => ?_)⟩
    have e1 : ((i : Int) + 1) = ((i + 1 : Nat) : Int) := by omega
    rw [e1, cut_from (by omega)] at hp4
    refine catA_by (s4 _ _ hp3) hp4 (sz (by rw [List.length_append, List.length_take, List.length_drop]; simp only [List.length_cons, List.length_nil]; omega)) fun p5 H5 s5 hp5 => ?_
    refine q p5 H5 ((s03.trans s4).trans s5) ?_
    rw [hp5, List.set_eq_take_append_cons_drop, if_pos hi, List.append_assoc]; rfl
theorem scPr : FnScope ["value", "houses"] ["value", "houses"] (defScope sPair) := ⟨rfl, rfl, rfl, by decide +kernel, rfl, by decide +kernel, by decide +kernel⟩
theorem ok_pair {f fS fF : Addr} {fd fdS fdF : FuncData} (D : Df K mg "is_pair" sPair ["value", "houses"] f fd) (DS : Df K mg "is_sequence" sSeq ["value", "least", "most"] fS fdS) (DF : Df K mg "first_not_below" sFnb ["items", "limit"] fF fdF)
    (GS : FnOk P w K mg base CX0 1 fS fdS ["value", "least", "most"] (spSeq K)) (GF : FnOk P w K mg base CX0 3 fF fdF ["items", "limit"] (spFnb K)) : FnOk P w K mg base CX0 4 f fd ["value", "houses"] (spPair K) := by
  refine D.F.ok scPr (fun vs H Q E h => ?_) (fun cdv A outer s H vs Q E hr h => ?_)
  · obtain ⟨v, o, n, rfl, _⟩ := h
    rfl
  · obtain ⟨v, o, n, rfl, hw, q⟩ := h
    refine ⟨_, pss_cons (ps_if (PW.pt (pw_or (pt_not (pt_val (pc DS GS (hr.mono (by decide)) pass0 (pa_cons (pv 0) (pa_cons pe_int (pa_cons pe_int pa_nil)))))) (pw_or1 (pt_cmp (pc_notN (pc DF GF hr pass0 (pa_cons (pv 0) (pa_cons (pv 1) pa_nil)))))))) (pss_one (ps_ret pe_bl)) pss_nil)
      (pss_one (ps_ret (pe_cmpR op_ne (pe_ix ix_seq (pv 0) pe_int (fun _ _ => rfl)) (pe_ix ix_seq (pv 0) pe_int (fun _ _ => rfl)) (nomark _)))), ?_⟩
    refine ⟨_, rfl, _, o, 2, 2, rfl, hw.kv, fun H1 s1 => ⟨_, rfl, ?_⟩⟩
    by_cases e : seqB o 2 2 = true
    · rw [e]
      refine iteF ?_
      cases o with
      | none => cases e
      | some ys =>
        have hl : ys.length = 2 := by
          have z : (decide ((2 : Int) ≤ (ys.length : Int)) && decide ((ys.length : Int) ≤ 2)) = true := e
          simp only [Bool.and_eq_true, decide_eq_true_eq] at z
          omega
        obtain ⟨x, y, rfl⟩ : ∃ x y, ys = [x, y] := by
          match ys, hl with
          | [x, y], _ => exact ⟨x, y, rfl⟩
        obtain ⟨a, rfl, hS⟩ := hw.kv.seqA
        refine ⟨_, rfl, _, rfl, a, _, n, rfl, hS.same s1, (hw.ks _ rfl).same s1, fun H2 s2 => ⟨_, rfl, ?_⟩⟩
        have s12 := s1.trans s2
        have hS2 := hS.same s12
        have fe := fnb_two x y n
        rw [fe]
        by_cases e2 : (belowB x n && belowB y n) = true
        · have hb := e2
          simp only [Bool.and_eq_true] at hb
          rw [e2]
          refine iteF (nxP ?_)
          have rd : ∀ (j : Nat) (v : V) (Q : VK), [x, y][j]? = some v → Q v H2 → rIx K (.ref a) (.int (j : Int)) H2 Q := fun j v Q hj q => by
            rcases hS2 with h | h
            · exact .inl ⟨a, _, _, v, rfl, rfl, SqL.of h, at_i hj, q⟩
            · exact .inr (.inl ⟨a, _, _, v, rfl, rfl, SqT.of h, at_i hj, q⟩)
          refine ⟨_, rfl, rd 0 x _ rfl ⟨_, rfl, rd 1 y _ rfl ⟨scal_int hb.1 hb.2, qbl ?_ (q _ s12)⟩⟩⟩
          show _ = (belowB x n && belowB y n && !decide (x = y))
          rw [e2]; rfl
        · have e3 : (belowB x n && belowB y n) = false := by simpa using e2
          rw [e3]
          refine iteT (qbl ?_ (q _ s12))
          show _ = (belowB x n && belowB y n && !decide (x = y))
          rw [e3]; rfl
    · have e3 : seqB o 2 2 = false := by simpa using e
      rw [e3]
      refine iteT (iteT (qbl ?_ (q _ s1)))
      cases o with
      | none => rfl
      | some ys =>
        match ys, e3 with
        | [], _ => rfl
        | [x], _ => rfl
        | [x, y], e3 => cases e3
        | x :: y :: z :: r, _ => rfl
end
end K1
namespace K1
open PySem PySem.Spec PyProof.Rows L2
/-! ### walks over a list or a tuple -/
def iSeqA (K : PySem.W.Frag) (tl : TE) : TI := fun σ H R => tl σ H fun x H1 => ∃ a, x = .ref a ∧ ((∃ xs, SqL K H1 a xs ∧ R (Itl K a) H1) ∨ (∃ xs, SqT K H1 a xs ∧ R (Itt K a) H1))
theorem pi_seqA {X : Cx} {tg l : Expr} {tl : TE} (hl : PE X l tl) : PI X tg l (iSeqA X.K tl) := by
  refine ⟨fun pins s σ H R I h => ?_⟩
  refine thn (hl.run pins s σ H _ I h) fun v s1 ⟨x, H1, I1, r1, q1⟩ => ?_
  obtain ⟨a, e, q⟩ := q1
  subst e
  cases r1
  rcases q with ⟨xs, hq, q⟩ | ⟨xs, hq, q⟩
  · obtain ⟨its, rv, p, hz⟩ := I1.list hq
    refine wpAny_pyIter_list p.isList ?_
    refine ⟨s1.heap.objs.size, [s1.heap.objs.size], _, _, H1, rfl, I1.kept (t' := s1.toks) fun b o e => Heap.get?_push_of_some _ e, turn_list a _, ⟨_, Heap.get?_push_size _ rfl, rfl, rfl⟩, fun b hb => ?_, q⟩
    have e : b = s1.heap.objs.size := by simpa using hb
    subst e
    exact I1.fpOk (Nat.le_refl _) (I1.hok.fresh (Nat.le_refl _))
  · obtain ⟨its, rv, p, hz⟩ := I1.tuple hq
    refine wpAny_pyIter_tuple (show s1.heap.IsTuple a its.toArray from p) ?_
    refine ⟨s1.heap.objs.size, [s1.heap.objs.size], _, _, H1, rfl, I1.kept (t' := s1.toks) fun b o e => Heap.get?_push_of_some _ e, turn_tuple a _, ⟨_, Heap.get?_push_size _ rfl, rfl, rfl⟩, fun b hb => ?_, q⟩
    have e : b = s1.heap.objs.size := by simpa using hb
    subst e
    exact I1.fpOk (Nat.le_refl _) (I1.hok.fresh (Nat.le_refl _))
theorem pi_seqK {X : Cx} {K : PySem.W.Frag} {tg l : Expr} {tl : TE} (h : X.K = K) (hl : PE X l tl) : PI X tg l (iSeqA K tl) := by subst h; exact pi_seqA hl
theorem pi_enumK {X : Cx} {K : PySem.W.Frag} {e : Expr} {ta : TA} {p pos tpos : Pos} {elts : List Expr} {kk : Nat} (h : X.K = K) (hg : Gl X "enumerate") (hm : X.mg "enumerate" = none) (ha : PA X [e] ta) (hs : starEach [e] X.env = [(false, eval e X.env)] := by rfl) :
    PI X (.Tuple elts kk tpos) (.Call (.Name "enumerate" p) [e] [] pos) (iEnumA K ta) := by subst h; exact pi_enumA hg hm ha hs
/-- a list, or a tuple, at a wherever Pv holds -/
def AtA {α : Type} (Pv : α → Hp → Prop) (a : Addr) (xs : List V) : Prop := (∀ y H, Pv y H → H a = some (.lst xs)) ∨ (∀ y H, Pv y H → H a = some (.tup xs))
section
variable {K : PySem.W.Frag} {a : Addr} {xs : List V}
/-- a comprehension over enumerate of a tuple -/
theorem lc_enumT {g : TG} {tt : TT} {te : TE} {vs : List Nat} {σ : L2.St} {H1 : Hp} {D : Addr} {Qd : Hp → Prop} (Pv : Nat → Hp → Prop) (h0 : Pv 0 (upd H1 D (.lst []))) (hl : ∀ i H, i ≤ xs.length → Pv i H → SqT K H a xs)
    (hs : ∀ i x T H, xs[i]? = some x → H T = none → Pv i H → g (.ref T) (wipe σ vs) (upd H T (.tup [.int (i : Nat), x])) fun σ2 H2 => wipe σ2 vs = wipe σ vs ∧ tt σ2 H2 fun b H3 =>
      if b = true then te σ2 H3 fun y H4 => ∃ acc, H4 D = some (.lst acc) ∧ acc.length < sizeLine ∧ Pv (i + 1) (upd H4 D (.lst (acc ++ [y]))) else Pv (i + 1) H3) (hd : ∀ H, Pv xs.length H → Qd H) :
    ∃ W : Nat → Nat → Hp → Prop, (∃ m, W 0 m (upd H1 D (.lst []))) ∧ ∀ i m H, W i m H →
      ((IteT K a).stop i H ∧ Qd H) ∨ ((IteT K a).go i H ∧ ∃ Nx : Hp → Prop, (∀ H', Nx H' → ∃ m', m' < m ∧ W (i + 1) m' H') ∧ ∀ x H', (IteT K a).yld i H x H' → g x (wipe σ vs) H' fun σ2 H2 => wipe σ2 vs = wipe σ vs ∧ tt σ2 H2 fun b H3 =>
        if b = true then te σ2 H3 fun y H4 => ∃ acc, H4 D = some (.lst acc) ∧ acc.length < sizeLine ∧ Nx (upd H4 D (.lst (acc ++ [y]))) else Nx H3) := by
  refine ⟨fun i m H => m = xs.length - i ∧ i ≤ xs.length ∧ Pv i H, ⟨xs.length, by simp, Nat.zero_le _, h0⟩, ?_⟩
  rintro i m H ⟨rfl, hi, p⟩
  have q := hl i H hi p
  by_cases hlt : i < xs.length
  · refine .inr ⟨⟨xs, xs[i], q, by simp [hlt]⟩, Pv (i + 1), fun H' p' => ⟨xs.length - (i + 1), by omega, rfl, hlt, p'⟩, fun x H' y => ?_⟩
    obtain ⟨T, x', e1, e2, e3, e4⟩ := y
    subst e1 e3
    exact hs i x' T H (e4 xs q) e2 p
  · have e : i = xs.length := by omega
    subst e
    exact .inl ⟨⟨xs, q, Nat.le_refl _⟩, hd H p⟩
end
section
variable {P : Program} {w : World} {K : PySem.W.Frag} {mg : Str → Option Value} {base : Heap}
theorem pair_ok {n : Nat} {ts : Prs} (hW : Wv n ts) {i : Nat} {t : Nat × Nat} (ht : ts[i]? = some t) : pairB (some (pV t)) (n : Int) = true := by
  obtain ⟨h1, h2, h3⟩ := hW.at_ ht
  show ((decide (0 ≤ (t.1 : Int)) && decide ((t.1 : Int) < (n : Int))) && (decide (0 ≤ (t.2 : Int)) && decide ((t.2 : Int) < (n : Int))) && !decide (V.int (t.1 : Int) = V.int (t.2 : Int))) = true
  rw [decide_eq_true (by omega), decide_eq_true (by omega), decide_eq_true (by omega), decide_eq_true (by omega), decide_eq_false (by intro e; injection e with e; omega)]; rfl
theorem kinds_pV {H : Hp} (t : Nat × Nat) : Kinds K H (pV t) := fun x hx => by
  simp only [pV, List.mem_cons, List.mem_nil_iff, or_false] at hx
  rcases hx with rfl | rfl <;> exact ⟨_, .int _⟩
theorem rw_pV {H : Hp} {a : Addr} {t : Nat × Nat} (h : H a = some (.tup (pV t))) : Rw K H (.ref a) (some (pV t)) := ⟨.tup h, fun ys e => by obtain rfl := Option.some.inj e; exact kinds_pV t⟩
theorem scCT : FnScope ["houses", "ties", "at", "pair"] ["houses", "ties"] (defScope sCTies) := ⟨rfl, rfl, rfl, by decide +kernel, rfl, by decide +kernel, by decide +kernel⟩
theorem ok_cties {f fW fS fP C cI : Addr} {fd fdW fdS fdP : FuncData} {bm : List Value} {ql : Str} (D : Df K mg "checked_ties" sCTies ["houses", "ties"] f fd) (DW : Df K mg "is_whole" sWhole ["value"] fW fdW) (DS : Df K mg "is_sequence" sSeq ["value", "least", "most"] fS fdS) (DP : Df K mg "is_pair" sPair ["value", "houses"] fP fdP)
    (B : Bt mg) (c : Cw mg) (T : LAt.Txt K mg "BadWeb" ql bm C cI) (GW : FnOk P w K mg base CX0 1 fW fdW ["value"] (spWhole K)) (GS : FnOk P w K mg base CX0 1 fS fdS ["value", "least", "most"] (spSeq K)) (GP : FnOk P w K mg base CX0 4 fP fdP ["value", "houses"] (spPair K)) :
    FnOk P w K mg base (L2.CX P w) 5 f fd ["houses", "ties"] spCTies := by
  obtain ⟨t1, hc1⟩ := c.houses
  obtain ⟨t2, hc2⟩ := c.ties
  refine D.F.okX scCT (fun vs H Q E h => ?_) (fun cdv A outer s H vs Q E hr h => ?_)
  · obtain ⟨n, p, as, ts, rfl, _⟩ := h
    rfl
  · obtain ⟨n, p, as, ts, rfl, hS, hA, hW, q⟩ := h
    have hr1 : Room 1 _ := hr.mono (by decide)
    refine ⟨_, pss_cons (ps_if (PW.pt (pw_or (pt_not (pt_val (pc DW GW hr1 pass0 (pa_cons (pv 0) pa_nil)))) (pw_or (pt_not (pt_chain op_le op_le pe_int (pv 0) (pe_glob (v := .int 12) (by rfl) hc1 ⟨_, rfl⟩))) (pw_or1 (pt_not (pt_val (pc DS GS hr1 pass0 (pa_cons (pv 1) (pa_cons pe_int (pa_cons (pe_glob (v := .int 20) (by rfl) hc2 ⟨_, rfl⟩) pa_nil)))))))))) (pss_one (ps_raise_LAt rfl T hr (takes_of rfl rfl rfl rfl) (pa_cons (pe_un un_neg pe_int) pa_nil))) pss_nil)
      (pss_cons (ps_for (passes_of rfl) rfl (pi_enumA (by rfl) B.enumerate (pa_cons (pv 1) pa_nil)) (pg_tup rfl (pgs_cons (pg_name (i := 2) scCT.nd rfl (.inl rfl)) (pgs_cons (pg_name (i := 3) scCT.nd rfl (.inl rfl)) pgs_nil)))
        (pss_one (ps_if (pt_not (pt_val (pc DP GP hr pass0 (pa_cons (pv 3) (pa_cons (pv 0) pa_nil))))) (pss_one (ps_raise_LAt rfl T hr (takes_of rfl rfl rfl rfl) (pa_cons (pv 2) pa_nil))) pss_nil)))
      (pss_one (ps_ret (pe_callTy call_tuple_of (by rfl) B.tuple (by decide +kernel) (pa_cons
        (pe_lc (own := [("pair", 3)]) (g := gName 3) (tt := tYes) rfl scCT.nd (pi_seqA (pv 1)) (blkOk_by (N := ["houses", "ties", "at", "pair"]) (sc := defScope sCTies) (by decide +kernel)) (fun _ _ _ _ _ => pg_name (i := 3) scCT.nd rfl (Or.inl rfl)) (fun _ _ _ _ _ => pts_nil)
          (fun _ _ _ _ _ => pe_callTy (ctup (K := K) rfl) (by rfl) B.tuple PyProof.Rows.boot_tuple (pa_cons (pv 3) pa_nil))) pa_nil))))), ?_⟩
    have n1 := hW.n1
    have n12 := hW.n12
    have t20 := hW.t20
    have la : (as.map V.ref).length = ts.length := by rw [List.length_map, hA.1]
    have lt20 : (as.map V.ref).length ≤ 20 := by omega
    have sq : seqB (some (as.map V.ref)) 0 20 = true := by
      show (decide ((0 : Int) ≤ ((as.map V.ref).length : Int)) && decide (((as.map V.ref).length : Int) ≤ 20)) = true
      rw [decide_eq_true (by omega), decide_eq_true (by omega)]; rfl
    refine ⟨_, rfl, _, none, rfl, .int _, true, rfl, iteF ?_⟩
    refine ⟨_, rfl, _, _, rfl, rfl, _, rfl, iteY (decide_eq_true (by omega)) ⟨_, _, rfl, rfl, true, congrArg V.bl (decide_eq_true (show (n : Int) ≤ 12 by omega)), iteF ?_⟩⟩
    refine ⟨_, rfl, _, some (as.map V.ref), 0, 20, rfl, hS.kv, fun H1 s1 => ⟨_, rfl, ?_⟩⟩
    rw [sq]
    refine iteF (nxP ?_)
    refine ⟨_, rfl, p, rfl, ?_⟩
    rcases hS with hS | hS
    · refine .inl ⟨_, SqL.of (s1 _ _ hS), for_enumL (K := K) (fun (_ : Nat) (σ : L2.St) (H' : Hp) => ∃ v2 v3 : Option V, σ = [some (.int (n : Int)), some (.ref p), v2, v3] ∧ Same H H') ⟨none, none, rfl, s1⟩ (fun i σ H' _ ⟨_, _, _, sm⟩ => SqL.of (sm _ _ hS)) ?_ ?_⟩
      · rintro i x T σ H' hx hT ⟨v2, v3, rfl, sm⟩
        obtain ⟨a, t, rfl, ha, ht, hat⟩ := hA.get' hx
        have sm2 := sm.trans (same_new (o := HO.tup [.int (i : Nat), .ref a]) hT)
        refine ⟨T, _, rfl, SqT.of upd_same, rfl, _, _, rfl, _, _, rfl, rfl, ?_⟩
        refine ⟨_, rfl, _, rfl, .ref a, some (pV t), (n : Int), rfl, rw_pV (sm2 _ _ hat), fun H3 s3 => ⟨_, rfl, ?_⟩⟩
        rw [pair_ok hW ht]
        exact iteF ⟨_, _, rfl, sm2.trans s3⟩
      · rintro σ H' ⟨v2, v3, rfl, sm⟩
        refine ⟨_, rfl, p, rfl, .inl ⟨_, SqL.of (sm _ _ hS), fun D hD => lc_list (K := K) (a := p) (xs := as.map V.ref) (fun i H2 => Same H' H2 ∧ H2 D = some (.lst ((as.map V.ref).take i))) ⟨same_new hD, by rw [upd_same]; rfl⟩ (fun i H2 _ ⟨s5, _⟩ => SqL.of (s5 _ _ (sm _ _ hS))) ?_ ?_⟩⟩
        · rintro i x H2 hx ⟨s5, hD2⟩
          obtain ⟨a, t, e, ha, ht, hat⟩ := hA.get' hx
          subst e
          refine ⟨rfl, _, rfl, a, pV t, rfl, .inr ⟨SqT.of (s5 _ _ (sm _ _ hat)), _, hD2, szl (by rw [List.length_take]; omega), fun c o e => ?_, ?_⟩⟩
          · rw [upd_ne (ne_of_none e hD)]
            exact s5 _ _ e
          · rw [upd_same, take_succ hx]
        · rintro H2 ⟨s5, hD2⟩
          rw [List.take_of_length_le (Nat.le_refl _)] at hD2
          refine ⟨D, _, rfl, .inl ⟨SqL.of hD2, fun ta hta => ?_⟩⟩
          have s6 := (sm.trans s5).trans (same_new (o := HO.tup (as.map V.ref)) hta)
          exact q ta _ s6 ⟨as, upd_same, hA.same s6⟩
    · refine .inr ⟨_, SqT.of (s1 _ _ hS), for_enumT (K := K) (fun (_ : Nat) (σ : L2.St) (H' : Hp) => ∃ v2 v3 : Option V, σ = [some (.int (n : Int)), some (.ref p), v2, v3] ∧ Same H H') ⟨none, none, rfl, s1⟩ (fun i σ H' _ ⟨_, _, _, sm⟩ => SqT.of (sm _ _ hS)) ?_ ?_⟩
      · rintro i x T σ H' hx hT ⟨v2, v3, rfl, sm⟩
        obtain ⟨a, t, rfl, ha, ht, hat⟩ := hA.get' hx
        have sm2 := sm.trans (same_new (o := HO.tup [.int (i : Nat), .ref a]) hT)
        refine ⟨T, _, rfl, SqT.of upd_same, rfl, _, _, rfl, _, _, rfl, rfl, ?_⟩
        refine ⟨_, rfl, _, rfl, .ref a, some (pV t), (n : Int), rfl, rw_pV (sm2 _ _ hat), fun H3 s3 => ⟨_, rfl, ?_⟩⟩
        rw [pair_ok hW ht]
        exact iteF ⟨_, _, rfl, sm2.trans s3⟩
      · rintro σ H' ⟨v2, v3, rfl, sm⟩
        refine ⟨_, rfl, p, rfl, .inr ⟨_, SqT.of (sm _ _ hS), fun D hD => lc_tup (K := K) (a := p) (xs := as.map V.ref) (fun i H2 => Same H' H2 ∧ H2 D = some (.lst ((as.map V.ref).take i))) ⟨same_new hD, by rw [upd_same]; rfl⟩ (fun i H2 _ ⟨s5, _⟩ => SqT.of (s5 _ _ (sm _ _ hS))) ?_ ?_⟩⟩
        · rintro i x H2 hx ⟨s5, hD2⟩
          obtain ⟨a, t, e, ha, ht, hat⟩ := hA.get' hx
          subst e
          refine ⟨rfl, _, rfl, a, pV t, rfl, .inr ⟨SqT.of (s5 _ _ (sm _ _ hat)), _, hD2, szl (by rw [List.length_take]; omega), fun c o e => ?_, ?_⟩⟩
          · rw [upd_ne (ne_of_none e hD)]
            exact s5 _ _ e
          · rw [upd_same, take_succ hx]
        · rintro H2 ⟨s5, hD2⟩
          rw [List.take_of_length_le (Nat.le_refl _)] at hD2
          refine ⟨D, _, rfl, .inl ⟨SqL.of hD2, fun ta hta => ?_⟩⟩
          have s6 := (sm.trans s5).trans (same_new (o := HO.tup (as.map V.ref)) hta)
          exact q ta _ s6 ⟨as, upd_same, hA.same s6⟩
theorem scWI : FnScope ["self", "houses", "ties"] ["self", "houses", "ties"] (defScope sWInit) := ⟨rfl, rfl, rfl, by decide +kernel, rfl, by decide +kernel, by decide +kernel⟩
theorem ok_winit {f fC W : Addr} {fd fdC : FuncData} (F : Fun K "__init__" "Web.__init__" sWInit f fd) (DC : Df K mg "checked_ties" sCTies ["houses", "ties"] fC fdC) (T : WcT K mg W)
    (GC : FnOk P w K mg base (L2.CX P w) 5 fC fdC ["houses", "ties"] spCTies) : FnOk P w K mg base (L2.CX P w) 6 f fd ["self", "houses", "ties"] (spWInit W) := by
  refine F.okX scWI (fun vs H Q E h => ?_) (fun cdv A outer s H vs Q E hr h => ?_)
  · obtain ⟨w, dx, n, p, as, ts, rfl, _⟩ := h
    rfl
  · obtain ⟨w, dx, n, p, as, ts, rfl, hw, hS, hA, hW, q⟩ := h
    refine ⟨_, pss_cons (ps_fld (pv 0) (pc DC GC hr (pass1 (takes_of rfl rfl rfl rfl)) (pa_cons (pv 1) (pa_cons (pv 2) pa_nil))) rfl) (pss_one (ps_fld (pv 0) (pv 1) rfl)), ?_⟩
    refine ⟨_, rfl, _, rfl, n, p, as, ts, rfl, hS, hA, hW, fun ta H' sm hT => ?_⟩
    have hw1 := sm _ _ hw
    refine ⟨_, rfl, w, W, dx, [], rfl, hw1, T.cl, T.nT, (by show 0 < 1000; decide), ?_⟩
    refine ⟨_, rfl, _, rfl, w, W, dx, _, rfl, upd_same, T.cl, T.nH, (by show 1 < 1000; decide), ?_⟩
    rw [upd_upd]
    obtain ⟨bs, k1, k2⟩ := hT
    have kp : ∀ b u, H' b = some u → b ≠ w → (upd H' w (.ins W dx (wf ta (n : Int)))) b = some u := fun b u e nb => by rw [upd_ne nb]; exact e
    have nw : ∀ {c : Addr} {xs : List V}, H' c = some (.tup xs) → c ≠ w := fun h e => by rw [e, hw1] at h; cases h
    exact q _ (fun b u e nb => kp b u (sm _ _ e) nb) ⟨dx, ta, upd_same, bs, kp _ _ k1 (nw k1), k2.1, fun i a t e1 e2 => kp _ _ (k2.2 i a t e1 e2) (nw (k2.2 i a t e1 e2))⟩
end
end K1
namespace K1
open PySem PySem.Spec PyProof.Rows L2
/-! ### the ways on from a house -/
def inc (h : Nat) (p : Nat × Nat) : Bool := decide (h = p.1) || decide (h = p.2)
def oth (h : Nat) (p : Nat × Nat) : Nat := p.1 + p.2 - h
def wOnK (ts : Prs) (h k : Nat) : Prs := ((ts.take k).zipIdx.filter fun q => inc h q.1).map fun q => (q.2, oth h q.1)
def wOn (ts : Prs) (h : Nat) : Prs := wOnK ts h ts.length
theorem wOnK_succ {ts : Prs} {h k : Nat} {p : Nat × Nat} (e : ts[k]? = some p) : wOnK ts h (k + 1) = wOnK ts h k ++ if inc h p = true then [(k, oth h p)] else [] := by
  have hk := lt_at e
  have hl : (ts.take k).length = k := by rw [List.length_take]; omega
  unfold wOnK
  rw [take_succ e, List.zipIdx_append, hl, List.filter_append, List.map_append]
  congr 1
  show List.map _ (List.filter _ (List.zipIdx [p] (0 + k))) = _
  rw [Nat.zero_add]
  show List.map _ (List.filter _ [(p, k)]) = _
  rw [List.filter_cons]
  cases e2 : inc h p with
  | true => rfl
  | false => rfl
theorem wOnK_len (ts : Prs) (h k : Nat) : (wOnK ts h k).length ≤ ts.length := by
  unfold wOnK
  rw [List.length_map]
  refine Nat.le_trans (List.length_filter_le _ _) ?_
  rw [List.length_zipIdx, List.length_take]; omega
theorem wOn_mem {ts : Prs} {h : Nat} {q : Nat × Nat} : q ∈ wOn ts h ↔ ∃ p, ts[q.1]? = some p ∧ inc h p = true ∧ q.2 = oth h p := by
  unfold wOn wOnK
  rw [List.take_length, List.mem_map]
  constructor
  · rintro ⟨x, hx, e⟩
    obtain ⟨hx1, hx2⟩ := List.mem_filter.mp hx
    have hx1 := List.mem_zipIdx' hx1
    subst e
    exact ⟨x.1, by rw [List.getElem?_eq_getElem hx1.1]; exact congrArg some hx1.2.symm, hx2, rfl⟩
  · rintro ⟨p, e1, e2, e3⟩
    refine ⟨(p, q.1), List.mem_filter.mpr ⟨?_, e2⟩, by rw [← e3]⟩
    rw [List.mem_zipIdx_iff_getElem?]
    exact e1
/-- the ties of the ways on stand in their order -/
theorem wOn_asc (ts : Prs) (h : Nat) : ((wOn ts h).map (·.1)).Pairwise (· < ·) := by
  unfold wOn wOnK
  rw [List.take_length, List.map_map]
  have z : (ts.zipIdx.map (·.2)).Pairwise (· < ·) := by
    rw [List.zipIdx_map_snd]
    exact List.pairwise_lt_range'
  rw [List.pairwise_map] at z ⊢
  exact z.sublist List.filter_sublist
theorem inV_pV (h : Nat) (p : Nat × Nat) : inV (.int (h : Int)) (pV p) = inc h p := by
  show ((p.1 : Int) == (h : Int) || ((p.2 : Int) == (h : Int) || false)) = (decide (h = p.1) || decide (h = p.2))
  rw [Bool.or_false]
  have e : ∀ a : Nat, ((a : Int) == (h : Int)) = decide (h = a) := fun a => by
    by_cases z : h = a
    · rw [decide_eq_true z, z]; simp
    · rw [decide_eq_false z]
      simp only [beq_eq_false_iff_ne, ne_eq]
      omega
  rw [e, e]
theorem PrsA.snoc {H : Hp} {as : List Addr} {ts : Prs} {a : Addr} {t : Nat × Nat} (h : PrsA H as ts) (ha : H a = some (.tup (pV t))) : PrsA H (as ++ [a]) (ts ++ [t]) := by
  refine ⟨by rw [List.length_append, List.length_append, h.1]; rfl, fun i b u e1 e2 => ?_⟩
  by_cases hi : i < as.length
  · rw [List.getElem?_append_left hi] at e1
    rw [List.getElem?_append_left (by rw [← h.1]; exact hi)] at e2
    exact h.2 i b u e1 e2
  · rw [List.getElem?_append_right (by omega)] at e1
    rw [List.getElem?_append_right (by rw [← h.1]; omega), ← h.1] at e2
    cases z : i - as.length with
    | zero =>
      rw [z] at e1 e2
      obtain rfl : a = b := Option.some.inj e1
      obtain rfl : t = u := Option.some.inj e2
      exact ha
    | succ n => rw [z] at e1; cases e1
theorem PrsA.kp {H H' : Hp} {as : List Addr} {ts : Prs} (h : PrsA H as ts) (k : ∀ a xs, H a = some (.tup xs) → H' a = some (.tup xs)) : PrsA H' as ts := ⟨h.1, fun i a t e1 e2 => k _ _ (h.2 i a t e1 e2)⟩
def spWays (W : Addr) : Sp := fun vs H Q _ => ∃ (w : Addr) (n : Nat) (ts : Prs) (h : Nat), vs = [.ref w, .int (h : Int)] ∧ WebAt W H w n ts ∧ Wv n ts ∧ h < n ∧ ∀ l as H', Same H H' → H l = none → H' l = some (.lst (as.map V.ref)) → PrsA H' as (wOn ts h) → Q (.ref l) H'
section
variable {P : Program} {w : World} {K : PySem.W.Frag} {mg : Str → Option Value} {base : Heap}
abbrev nWy : List Str := ["web", "house", "tie", "pair"]
theorem scWy : FnScope nWy ["web", "house"] (defScope sWays) := ⟨rfl, rfl, rfl, by decide +kernel, rfl, by decide +kernel, by decide +kernel⟩
theorem ok_ways {f W : Addr} {fd : FuncData} (D : Df K mg "ways_on" sWays ["web", "house"] f fd) (B : Bt mg) (T : WcT K mg W) : FnOk P w K mg base CX0 1 f fd ["web", "house"] (spWays W) := by
  refine D.F.ok scWy (fun vs H Q E h => ?_) (fun cdv A outer s H vs Q E hr h => ?_)
  · obtain ⟨w, n, ts, h, rfl, _⟩ := h
    rfl
  · obtain ⟨w, n, ts, h, rfl, ⟨dx, ta, h1, tas, g1, g2⟩, hW, hn, q⟩ := h
    refine ⟨_, pss_one (ps_ret (pe_lc (own := [("tie", 2), ("pair", 3)]) (g := gTup K 2 (gCons (gName 2) (gCons (gName 3) gNil))) rfl scWy.nd (pi_enumA (by rfl) B.enumerate (pa_cons (pe_fld (pv 0) rfl) pa_nil)) (blkOk_by (N := nWy) (sc := defScope sWays) (by decide +kernel))
      (fun _ _ _ _ _ => pg_tup rfl (pgs_cons (pg_name (i := 2) scWy.nd rfl (.inl rfl)) (pgs_cons (pg_name (i := 3) scWy.nd rfl (.inl rfl)) pgs_nil)))
      (fun _ _ _ _ _ => pts_one (pt_cmpR (opInK (K := K) rfl) (pv 1) (pv 3) rfl))
      (fun _ _ _ _ _ => pe_tup (pa_cons (pv 2) (pa_cons (pe_op op_sub (pe_op op_add (pe_ix (ixTK (K := K) rfl) (pv 3) pe_int (fun _ _ => rfl)) (pe_ix (ixTK (K := K) rfl) (pv 3) pe_int (fun _ _ => rfl))) (pv 1)) pa_nil))))), ?_⟩
    refine ⟨_, rfl, w, W, dx, _, _, rfl, h1, T.cl, T.nT, wf_t _ _, ta, rfl, .inr ⟨_, SqT.of g1, fun D0 hD0 => lc_enumT (K := K) (a := ta) (xs := tas.map V.ref)
      (fun i H2 => ∃ as : List Addr, Same H H2 ∧ H2 D0 = some (.lst (as.map V.ref)) ∧ PrsA H2 as (wOnK ts h i)) ⟨[], same_new hD0, by rw [upd_same]; rfl, rfl, fun i a t e => by cases e⟩ (fun i H2 _ ⟨_, s2, _⟩ => SqT.of (s2 _ _ g1)) ?_ ?_⟩⟩
    · rintro i x T0 H2 hx hT0 ⟨as, s2, hD2, hA⟩
      obtain ⟨a, t, rfl, ha, ht, hat⟩ := g2.get' hx
      have sT := same_new (o := HO.tup [.int (i : Nat), .ref a]) hT0
      have hat2 := sT _ _ (s2 _ _ hat)
      have hD2' := sT _ _ hD2
      have s2' := s2.trans sT
      have hA' := hA.same sT
      have hT2 : (upd H2 T0 (.tup [.int (i : Nat), .ref a])) T0 = some (.tup [.int (i : Nat), .ref a]) := upd_same
      generalize upd H2 T0 (.tup [.int (i : Nat), .ref a]) = H3 at hat2 hD2' s2' hA' hT2 ⊢
      refine ⟨T0, _, rfl, SqT.of hT2, rfl, _, _, rfl, _, _, rfl, rfl, rfl, ?_⟩
      refine ⟨_, rfl, _, rfl, a, pV t, rfl, .inr (SqT.of hat2), rfl, rfl, _, rfl, ?_⟩
      rw [inV_pV]
      have ws := wOnK_succ (h := h) ht
      have lw := wOnK_len ts h i
      have t20 := hW.t20
      refine ifD (fun e => ?_) fun e => ?_
      · replace e : inc h t = true := by simpa using e
        rw [if_pos e] at ws
        refine ⟨_, rfl, _, rfl, a, _, 0, .int (t.1 : Int), rfl, rfl, SqT.of hat2, atI_nat (j := 0) rfl, _, rfl, a, _, 1, .int (t.2 : Int), rfl, rfl, SqT.of hat2, atI_nat (j := 1) rfl, _, _, rfl, rfl, _, rfl, _, _, rfl, rfl, (by show 2 ≤ sizeLine; decide), fun p hp => ?_⟩
        have sp := same_new (o := HO.tup [V.int (i : Nat), V.int ((t.1 : Int) + (t.2 : Int) - (h : Int))]) hp
        have eo : V.int ((t.1 : Int) + (t.2 : Int) - (h : Int)) = V.int ((oth h t : Nat) : Int) := by
          unfold oth
          unfold inc at e
          simp only [Bool.or_eq_true, decide_eq_true_eq] at e
          congr 1
          omega
        have hD4 := sp _ _ hD2'
        have keep : ∀ c ys, (upd H3 p (.tup [V.int (i : Nat), V.int ((t.1 : Int) + (t.2 : Int) - (h : Int))])) c = some (.tup ys) → (upd (upd H3 p (.tup [V.int (i : Nat), V.int ((t.1 : Int) + (t.2 : Int) - (h : Int))])) D0 (.lst (as.map V.ref ++ [.ref p]))) c = some (.tup ys) := fun c ys e => by
          rw [upd_ne (ne_of e hD4 (by intro z; cases z))]; exact e
        refine ⟨as.map V.ref, hD4, szl (by rw [List.length_map, hA.1]; omega), as ++ [p], fun c o eo => ?_, by rw [upd_same, List.map_append]; rfl, ?_⟩
        · rw [upd_ne (ne_of_none eo hD0)]
          exact sp _ _ (s2' _ _ eo)
        · rw [ws]
          refine ((hA'.same sp).kp keep).snoc (keep _ _ ?_)
          rw [upd_same, eo]; rfl
      · replace e : inc h t = false := by simpa using e
        rw [if_neg (by rw [e]; decide), List.append_nil] at ws
        exact ⟨as, s2', hD2', by rw [ws]; exact hA'⟩
    · rintro H2 ⟨as, s2, hD2, hA⟩
      rw [List.length_map, g2.1] at hA
      exact q D0 as H2 s2 hD0 hD2 hA
end
end K1
namespace K1
open PySem PySem.Spec PyProof.Rows L2
/-! ### steps -/
inductive Stp where | dd (h d : Nat) | mt (t : Nat)
deriving DecidableEq
def stV : Stp → List V | .dd h d => [.str "do", .int (h : Int), .int (d : Int)] | .mt t => [.str "meet", .int (t : Int)]
def okS (n t d : Nat) : Stp → Prop | .dd h e => h < n ∧ e < d | .mt k => k < t
/-- a step's first item -/
def Fi (H : Hp) (x : V) : Prop := (∃ s, x = .str s ∧ PyData.strOk s = true) ∨ (∃ i, x = .int i) ∨ ∃ a s, x = .ref a ∧ H a = some (.tup [.str s]) ∧ PyData.strOk s = true
theorem Fi.same {H H' : Hp} {x : V} (h : Fi H x) (s : Same H H') : Fi H' x := h.elim .inl fun h => h.elim (fun h => .inr (.inl h)) fun ⟨a, z, e, h, h'⟩ => .inr (.inr ⟨a, z, e, s _ _ h, h'⟩)
theorem shS {s : Str} (h : PyData.strOk s = true) : SeqAt.shaped (.str s) = true := by
  unfold SeqAt.shaped
  rw [show PyData.canLay0 (.str s) = true from h]; rfl
theorem shTS {s : Str} (h : PyData.strOk s = true) : SeqAt.shaped (.tuple [.str s]) = true := by
  unfold SeqAt.shaped
  rw [show PyData.canLay0 (.tuple [.str s]) = true from by show (PyData.strOk s && true) = true; rw [h]; rfl]; rfl
theorem Fi.eq {K : PySem.W.Frag} {H : Hp} {x : V} (h : Fi H x) {s : Str} (hs : PyData.strOk s = true) {Q : VK} (q : Q (.bl (decide (x = .str s))) H) : rEqD K x (.str s) H Q := by
  rcases h with ⟨z, rfl, hz⟩ | ⟨i, rfl⟩ | ⟨a, z, rfl, h, hz⟩
  · refine ⟨.str z, .str s, .str z, .str s, shS hz, shS hs, qbl ?_ q⟩
    by_cases e : z = s
    · subst e
      rw [decide_eq_true rfl]
      exact beq_self_eq_true z
    · rw [decide_eq_false (by intro k; injection k with k; exact e k)]
      exact beq_eq_false_iff_ne.mpr e
  · exact ⟨.int i, .str s, .int i, .str s, rfl, shS hs, qbl (by rw [decide_eq_false (by intro k; cases k)]; rfl) q⟩
  · exact ⟨.tuple [.str z], .str s, .tup (SqT.of h) (.cons (.str z) .nil), .str s, shTS hz, shS hs, qbl (by rw [decide_eq_false (by intro k; cases k)]; rfl) q⟩
/-- a value that may be a step -/
structure Sv (K : PySem.W.Frag) (H : Hp) (x : V) (r : Option (List V)) : Prop where
  rw : Rw K H x r
  fi : ∀ y ys, r = some (y :: ys) → Fi H y
theorem Sv.same {K : PySem.W.Frag} {H H' : Hp} {x : V} {r : Option (List V)} (h : Sv K H x r) (s : Same H H') : Sv K H' x r := ⟨h.rw.same s, fun y ys e => (h.fi y ys e).same s⟩
def stB (n t d : Nat) (r : Option (List V)) : Bool := match r with
  | some [a, b, c] => decide (a = V.str "do") && (belowB b (n : Int) && belowB c (d : Int))
  | some [a, b] => decide (a = V.str "meet") && belowB b (t : Int)
  | _ => false
theorem below_nat {v : V} {n : Nat} (hb : belowB v (n : Int) = true) : ∃ h : Nat, v = .int (h : Int) ∧ h < n := by
  cases v <;> first | (cases hb; done) | skip
  rename_i i
  have z : (decide (0 ≤ i) && decide (i < (n : Int))) = true := hb
  simp only [Bool.and_eq_true, decide_eq_true_eq] at z
  exact ⟨i.toNat, by congr 1; omega, by omega⟩
theorem stB_some {n t d : Nat} {r : Option (List V)} (h : stB n t d r = true) : ∃ s, r = some (stV s) ∧ okS n t d s := by
  unfold stB at h
  split at h
  · simp only [Bool.and_eq_true, decide_eq_true_eq] at h
    obtain ⟨rfl, hb, hc⟩ := h
    obtain ⟨b, rfl, hb2⟩ := below_nat hb
    obtain ⟨c, rfl, hc2⟩ := below_nat hc
    exact ⟨.dd b c, rfl, hb2, hc2⟩
  · simp only [Bool.and_eq_true, decide_eq_true_eq] at h
    obtain ⟨rfl, hb⟩ := h
    obtain ⟨b, rfl, hb2⟩ := below_nat hb
    exact ⟨.mt b, rfl, hb2⟩
  · cases h
theorem belowB_nat {k n : Nat} : belowB (.int (k : Int)) (n : Int) = decide (k < n) := by
  show (decide (0 ≤ (k : Int)) && decide ((k : Int) < (n : Int))) = _
  rw [decide_eq_true (by omega), Bool.true_and]
  by_cases h : k < n
  · rw [decide_eq_true h, decide_eq_true (by omega)]
  · rw [decide_eq_false h, decide_eq_false (by omega)]
theorem stB_ok {n t d : Nat} {s : Stp} (h : okS n t d s) : stB n t d (some (stV s)) = true := by
  cases s with
  | dd a b =>
    show (decide (V.str "do" = V.str "do") && (belowB (.int (a : Int)) (n : Int) && belowB (.int (b : Int)) (d : Int))) = true
    rw [belowB_nat, belowB_nat, decide_eq_true rfl, decide_eq_true h.1, decide_eq_true h.2]; rfl
  | mt a =>
    show (decide (V.str "meet" = V.str "meet") && (belowB (.int (a : Int)) (t : Int))) = true
    rw [belowB_nat, decide_eq_true rfl, decide_eq_true (show a < t from h)]; rfl
def spIsStep (K : PySem.W.Frag) (W : Addr) : Sp := fun vs H Q _ => ∃ (w : Addr) (x : V) (r : Option (List V)) (n d : Nat) (ts : Prs), vs = [.ref w, .int (d : Int), x] ∧ WebAt W H w n ts ∧ Sv K H x r ∧ ∀ H', Same H H' → Q (.bl (stB n ts.length d r)) H'
/-- steps that may be -/
inductive Svs (K : PySem.W.Frag) (H : Hp) : V → Option (List (Option (List V))) → Prop
  | no {v : V} (h : KV K H v none) : Svs K H v none
  | yes {v : V} {xs : List V} {rs : List (Option (List V))} (h : KV K H v (some xs)) (hl : xs.length = rs.length) (r : ∀ (i : Nat) x r, xs[i]? = some x → rs[i]? = some r → Sv K H x r) : Svs K H v (some rs)
theorem Svs.same {K : PySem.W.Frag} {H H' : Hp} {v : V} {o : Option (List (Option (List V)))} (h : Svs K H v o) (s : Same H H') : Svs K H' v o := by
  cases h with
  | no h => exact .no (h.same s)
  | yes h hl r => exact .yes (h.same s) hl fun i x r' e1 e2 => (r i x r' e1 e2).same s
def sfV (n t d : Nat) (o : Option (List (Option (List V)))) : V := match o with
  | none => .int (-1)
  | some rs => if rs.length ≤ 400 then (match rs.findIdx? (fun r => !stB n t d r) with | some i => .int (i : Nat) | none => .non) else .int (-1)
def spSFault (K : PySem.W.Frag) (W : Addr) : Sp := fun vs H Q _ => ∃ (w : Addr) (v : V) (o : Option (List (Option (List V)))) (n d : Nat) (ts : Prs), vs = [.ref w, .int (d : Int), v] ∧ WebAt W H w n ts ∧ Svs K H v o ∧ ∀ H', Same H H' → Q (sfV n ts.length d o) H'
/-- steps as tuples, in a tuple -/
def StpsA (H : Hp) (as : List Addr) (ss : List Stp) : Prop := as.length = ss.length ∧ ∀ (i : Nat) a s, as[i]? = some a → ss[i]? = some s → H a = some (.tup (stV s))
theorem StpsA.same {H H' : Hp} {as : List Addr} {ss : List Stp} (h : StpsA H as ss) (s : Same H H') : StpsA H' as ss := ⟨h.1, fun i a t e1 e2 => s _ _ (h.2 i a t e1 e2)⟩
def StpsT (H : Hp) (p : Addr) (ss : List Stp) : Prop := ∃ as : List Addr, H p = some (.tup (as.map V.ref)) ∧ StpsA H as ss
theorem StpsT.same {H H' : Hp} {p : Addr} {ss : List Stp} (h : StpsT H p ss) (s : Same H H') : StpsT H' p ss := let ⟨as, h1, h2⟩ := h; ⟨as, s _ _ h1, h2.same s⟩
structure Cs (mg : Str → Option Value) : Prop where
  steps : ∃ t, mg "MOST_STEPS" = some (.int 400 t)
  doo : ∃ t, mg "DO" = some (.str "do" t)
  meet : ∃ t, mg "MEET" = some (.str "meet" t)
section
variable {P : Program} {w : World} {K : PySem.W.Frag} {mg : Str → Option Value} {base : Heap}
theorem ix_at {H : Hp} {x : V} {ys : List V} (h : KV K H x (some ys)) {j : Nat} {y : V} {Q : VK} (hj : ys[j]? = some y) (q : Q y H) : rIx K x (.int (j : Int)) H Q := by
  cases h with
  | lst h => exact .inl ⟨_, _, _, y, rfl, rfl, SqL.of h, at_i hj, q⟩
  | tup h => exact .inr (.inl ⟨_, _, _, y, rfl, rfl, SqT.of h, at_i hj, q⟩)
theorem scIS : FnScope ["web", "deeds", "value"] ["web", "deeds", "value"] (defScope sIsStep) := ⟨rfl, rfl, rfl, by decide +kernel, rfl, by decide +kernel, by decide +kernel⟩
theorem seq_len {ys : List V} {k : Nat} (e : seqB (some ys) (k : Int) (k : Int) = true) : ys.length = k := by
  have z : (decide ((k : Int) ≤ (ys.length : Int)) && decide ((ys.length : Int) ≤ (k : Int))) = true := e
  simp only [Bool.and_eq_true, decide_eq_true_eq] at z
  omega
theorem seq_no {ys : List V} {k : Nat} (e : ys.length ≠ k) : seqB (some ys) (k : Int) (k : Int) = false := by
  show (decide ((k : Int) ≤ (ys.length : Int)) && decide ((ys.length : Int) ≤ (k : Int))) = false
  simp only [Bool.and_eq_false_iff, decide_eq_false_iff_not]
  omega
theorem ok_isStep {f fS fB W : Addr} {fd fdS fdB : FuncData} (D : Df K mg "is_step" sIsStep ["web", "deeds", "value"] f fd) (DS : Df K mg "is_sequence" sSeq ["value", "least", "most"] fS fdS) (DB : Df K mg "is_below" sBelow ["value", "limit"] fB fdB) (B : Bt mg) (c : Cs mg) (T : WcT K mg W)
    (GS : FnOk P w K mg base CX0 1 fS fdS ["value", "least", "most"] (spSeq K)) (GB : FnOk P w K mg base CX0 2 fB fdB ["value", "limit"] (spBelow K)) : FnOk P w K mg base CX0 3 f fd ["web", "deeds", "value"] (spIsStep K W) := by
  obtain ⟨t1, hc1⟩ := c.doo
  obtain ⟨t2, hc2⟩ := c.meet
  refine D.F.ok scIS (fun vs H Q E h => ?_) (fun cdv A outer s H vs Q E hr h => ?_)
  · obtain ⟨w, x, r, n, d, ts, rfl, _⟩ := h
    rfl
  · obtain ⟨w, x, r, n, d, ts, rfl, ⟨dx, ta, h1, as, g1, g2⟩, hv, q⟩ := h
    have hu := hr.units
    have hr1 := hr.mono (show 1 ≤ 2 by decide)
    refine ⟨_, pss_cons (ps_if (pt_val (pc DS GS hr1 pass0 (pa_cons (pv 2) (pa_cons pe_int (pa_cons pe_int pa_nil)))))
        (pss_one (ps_ret (pe_and (pe_cmpR (eqD (K := K) rfl hu) (pe_ix ix_seq (pv 2) pe_int (fun _ _ => rfl)) (pe_glob (v := .str "do") (by rfl) hc1 ⟨_, rfl⟩) (nomark _))
          (pe_and (pc DB GB hr pass0 (pa_cons (pe_ix ix_seq (pv 2) pe_int (fun _ _ => rfl)) (pa_cons (pe_fld (pv 0) rfl) pa_nil)))
          (pe_one (pc DB GB hr pass0 (pa_cons (pe_ix ix_seq (pv 2) pe_int (fun _ _ => rfl)) (pa_cons (pv 1) pa_nil)))))))) pss_nil)
      (pss_one (ps_ret (pe_and (pc DS GS hr1 pass0 (pa_cons (pv 2) (pa_cons pe_int (pa_cons pe_int pa_nil))))
        (pe_and (pe_cmpR (eqD (K := K) rfl hu) (pe_ix ix_seq (pv 2) pe_int (fun _ _ => rfl)) (pe_glob (v := .str "meet") (by rfl) hc2 ⟨_, rfl⟩) (nomark _))
          (pe_one (pc DB GB hr pass0 (pa_cons (pe_ix ix_seq (pv 2) pe_int (fun _ _ => rfl)) (pa_cons (pe_callB call_len_seq (by rfl) B.len PySem.boot_len (pa_cons (pe_fld (pv 0) rfl) pa_nil)) pa_nil)))))))), ?_⟩
    have el : ((as.map V.ref).length : Int) = (ts.length : Int) := by rw [List.length_map, g2.1]
    refine ⟨_, rfl, x, r, 3, 3, rfl, hv.rw.kv, fun H1 s1 => ⟨_, rfl, ifD (fun e => ?_) fun e => ?_⟩⟩
    · cases r with
      | none => cases e
      | some ys =>
        have hl : ys.length = 3 := seq_len (k := 3) e
        match ys, hl with
        | [a, b, c], _ =>
          have kv1 := hv.rw.kv.same s1
          have kk := (hv.rw.ks _ rfl).same s1
          obtain ⟨ob, kb⟩ := kk b (by simp)
          obtain ⟨oc, kc⟩ := kk c (by simp)
          refine ⟨_, rfl, ix_at (j := 0) kv1 rfl (cP (Fi.eq ((hv.fi _ _ rfl).same s1) (by decide +kernel) ?_))⟩
          refine ⟨_, rfl, ifD (fun e1 => ?_) fun e1 => ?_⟩
          · refine ⟨_, rfl, ix_at (j := 1) kv1 rfl ⟨_, rfl, w, W, dx, _, _, rfl, s1 _ _ h1, T.cl, T.nH, wf_h _ _, b, ob, (n : Int), rfl, kb, _, rfl, ifD (fun e2 => ?_) fun e2 => ?_⟩⟩
            · refine ⟨_, rfl, ix_at (j := 2) kv1 rfl ⟨_, rfl, c, oc, (d : Int), rfl, kc, qbl ?_ (q _ s1)⟩⟩
              show _ = (_ && (_ && _))
              rw [e1, e2]; rfl
            · refine qbl ?_ (q _ s1)
              show _ = (_ && (_ && _))
              rw [e1, e2]; rfl
          · refine qbl ?_ (q _ s1)
            show _ = (_ && (_ && _))
            rw [e1]; rfl
    · refine nxP ⟨_, rfl, x, r, 2, 2, rfl, hv.rw.kv.same s1, fun H2 s2 => ⟨_, rfl, ifD (fun e2 => ?_) fun e2 => ?_⟩⟩
      · cases r with
        | none => cases e2
        | some ys =>
          have hl : ys.length = 2 := seq_len (k := 2) e2
          match ys, hl with
          | [a, b], _ =>
            have s12 := s1.trans s2
            have kv1 := hv.rw.kv.same s12
            have kk := (hv.rw.ks _ rfl).same s12
            obtain ⟨ob, kb⟩ := kk b (by simp)
            refine ⟨_, rfl, ix_at (j := 0) kv1 rfl (cP (Fi.eq ((hv.fi _ _ rfl).same s12) (by decide +kernel) ?_))⟩
            refine ⟨_, rfl, ifD (fun e1 => ?_) fun e1 => ?_⟩
            · refine ⟨_, rfl, ix_at (j := 1) kv1 rfl ⟨_, rfl, w, W, dx, _, _, rfl, s12 _ _ h1, T.cl, T.nT, wf_t _ _, ta, _, rfl, .inr (SqT.of (s12 _ _ g1)), ?_⟩⟩
              rw [el]
              refine ⟨b, ob, (ts.length : Int), rfl, kb, qbl ?_ (q _ s12)⟩
              show _ = (_ && _)
              rw [e1]; rfl
            · refine qbl ?_ (q _ s12)
              show _ = (_ && _)
              rw [e1]; rfl
      · refine qbl ?_ (q _ (s1.trans s2))
        cases r with
        | none => rfl
        | some ys =>
          have h3 : ys.length ≠ 3 := fun z => by rw [show seqB (some ys) 3 3 = true from by show (decide ((3 : Int) ≤ (ys.length : Int)) && decide ((ys.length : Int) ≤ 3)) = true; rw [z]; rfl] at e; cases e
          have h2 : ys.length ≠ 2 := fun z => by rw [show seqB (some ys) 2 2 = true from by show (decide ((2 : Int) ≤ (ys.length : Int)) && decide ((ys.length : Int) ≤ 2)) = true; rw [z]; rfl] at e2; cases e2
          match ys, h3, h2 with
          | [], _, _ => rfl
          | [_], _, _ => rfl
          | [_, _], _, h => exact (h rfl).elim
          | [_, _, _], h, _ => exact (h rfl).elim
          | _ :: _ :: _ :: _ :: _, _, _ => rfl
end
end K1
namespace K1
open PySem PySem.Spec PyProof.Rows L2
/-! ### counts: how often each act counts at each house and tie -/
def ltie (a b c : List Int) : List Int := List.zipWith (fun x y => x - y) (List.zipWith (fun x y => x + y) a b) c
structure Cu where
  hs : List (List Int)
  ts : List (List Int)
  ds : List Int
def cu0 (n m k : Nat) : Cu := ⟨List.replicate n (List.replicate k 0), List.replicate m (List.replicate k 0), []⟩
def Cu.doo (c : Cu) (h : Nat) (d : Int) : Cu := ⟨c.hs.set h ((c.hs.getD h []).set c.ds.length 1), c.ts, c.ds ++ [d]⟩
def Cu.jn (c : Cu) (p : Nat × Nat) (t : Nat) : List Int := ltie (c.hs.getD p.1 []) (c.hs.getD p.2 []) (c.ts.getD t [])
def Cu.met (c : Cu) (p : Nat × Nat) (t : Nat) : Cu := ⟨(c.hs.set p.1 (c.jn p t)).set p.2 (c.jn p t), c.ts.set t (c.jn p t), c.ds⟩
def Cu.st (ps : Prs) (c : Cu) : Stp → Cu
  | .dd h d => c.doo h (d : Int)
  | .mt t => c.met (ps.getD t (0, 0)) t
def cur (ps : Prs) (c : Cu) (l : List Stp) : Cu := l.foldl (Cu.st ps) c
theorem cur_snoc (ps : Prs) (c : Cu) (l : List Stp) (s : Stp) : cur ps c (l ++ [s]) = (cur ps c l).st ps s := by unfold cur; rw [List.foldl_append]; rfl
def actD : List Stp → List Int
  | [] => []
  | .dd _ d :: l => (d : Int) :: actD l
  | .mt _ :: l => actD l
def actH : List Stp → List Nat
  | [] => []
  | .dd h _ :: l => h :: actH l
  | .mt _ :: l => actH l
theorem actD_app : ∀ a b : List Stp, actD (a ++ b) = actD a ++ actD b
  | [], _ => rfl
  | .dd h d :: a, b => by show (d : Int) :: actD (a ++ b) = (d : Int) :: (actD a ++ actD b); rw [actD_app a b]
  | .mt t :: a, b => actD_app a b
theorem actH_app : ∀ a b : List Stp, actH (a ++ b) = actH a ++ actH b
  | [], _ => rfl
  | .dd h d :: a, b => by show h :: actH (a ++ b) = h :: (actH a ++ actH b); rw [actH_app a b]
  | .mt t :: a, b => actH_app a b
theorem actH_len : ∀ a : List Stp, (actH a).length = (actD a).length
  | [] => rfl
  | .dd h d :: a => congrArg (· + 1) (actH_len a)
  | .mt t :: a => actH_len a
theorem actD_len : ∀ a : List Stp, (actD a).length ≤ a.length
  | [] => Nat.le_refl _
  | .dd h d :: a => Nat.succ_le_succ (actD_len a)
  | .mt t :: a => Nat.le_succ_of_le (actD_len a)
theorem actD_mem {n t d : Nat} : ∀ {l : List Stp}, (∀ s ∈ l, okS n t d s) → ∀ x ∈ actD l, 0 ≤ x ∧ x < (d : Int)
  | [], _ => fun x hx => nomatch hx
  | .dd h e :: l, hl => fun x hx => by
    rcases List.mem_cons.mp hx with hx | hx
    · have h1 : okS n t d (.dd h e) := hl _ List.mem_cons_self
      rw [hx]
      exact ⟨by omega, by have := h1.2; omega⟩
    · exact actD_mem (fun s hs => hl s (List.mem_cons_of_mem _ hs)) x hx
  | .mt _ :: l, hl => actD_mem (l := l) fun s hs => hl s (List.mem_cons_of_mem _ hs)
/-- what a run's counts are -/
def cnt (n : Nat) (ps : Prs) (l : List Stp) : Cu := cur ps (cu0 n ps.length (actD l).length) l
structure CuOk (n m k : Nat) (c : Cu) : Prop where
  lh : c.hs.length = n
  lt : c.ts.length = m
  rh : ∀ r ∈ c.hs, r.length = k
  rt : ∀ r ∈ c.ts, r.length = k
theorem getL {l : List (List Int)} {i : Nat} (h : i < l.length) : l[i]? = some (l.getD i []) := by
  rw [List.getD_eq_getElem?_getD, List.getElem?_eq_getElem h]; rfl
theorem memL {l : List (List Int)} {i : Nat} (h : i < l.length) : l.getD i [] ∈ l := List.mem_of_getElem? (getL h)
theorem setL {l : List (List Int)} {i j : Nat} {x : List Int} (h : i < l.length) : (l.set i x).getD j [] = if j = i then x else l.getD j [] := by
  rw [List.getD_eq_getElem?_getD, List.getElem?_set]
  by_cases z : i = j
  · rw [if_pos z, if_pos h, if_pos z.symm]; rfl
  · rw [if_neg z, if_neg (Ne.symm z), List.getD_eq_getElem?_getD]
theorem setI {l : List Int} {i j : Nat} {x : Int} (h : i < l.length) : (l.set i x).getD j 0 = if j = i then x else l.getD j 0 := by
  rw [List.getD_eq_getElem?_getD, List.getElem?_set]
  by_cases z : i = j
  · rw [if_pos z, if_pos h, if_pos z.symm]; rfl
  · rw [if_neg z, if_neg (Ne.symm z), List.getD_eq_getElem?_getD]
theorem ltie_len {a b c : List Int} {k : Nat} (ha : a.length = k) (hb : b.length = k) (hc : c.length = k) : (ltie a b c).length = k := by
  unfold ltie
  rw [List.length_zipWith, List.length_zipWith, ha, hb, hc, Nat.min_self, Nat.min_self]
theorem ltie_at {a b c : List Int} {k i : Nat} (ha : a.length = k) (hb : b.length = k) (hc : c.length = k) (hi : i < k) : (ltie a b c).getD i 0 = a.getD i 0 + b.getD i 0 - c.getD i 0 := by
  unfold ltie
  simp only [List.getD_eq_getElem?_getD, List.getElem?_zipWith, List.getElem?_eq_getElem (show i < a.length by omega), List.getElem?_eq_getElem (show i < b.length by omega), List.getElem?_eq_getElem (show i < c.length by omega)]
  rfl
theorem cu0_ok (n m k : Nat) : CuOk n m k (cu0 n m k) := by
  refine ⟨List.length_replicate, List.length_replicate, fun r hr => ?_, fun r hr => ?_⟩ <;> (rw [List.eq_of_mem_replicate hr]; exact List.length_replicate)
theorem mem_setL {l : List (List Int)} {i : Nat} {x : List Int} {k : Nat} (h : ∀ r ∈ l, r.length = k) (hx : x.length = k) : ∀ r ∈ l.set i x, r.length = k := fun r hr => by
  rcases List.mem_or_eq_of_mem_set hr with z | z
  · exact h r z
  · rw [z]; exact hx
section
variable {n m k : Nat} {c : Cu}
theorem CuOk.row (o : CuOk n m k c) {h : Nat} (hh : h < n) : (c.hs.getD h []).length = k := o.rh _ (memL (by rw [o.lh]; exact hh))
theorem CuOk.rowT (o : CuOk n m k c) {t : Nat} (ht : t < m) : (c.ts.getD t []).length = k := o.rt _ (memL (by rw [o.lt]; exact ht))
theorem CuOk.jl (o : CuOk n m k c) {p : Nat × Nat} {t : Nat} (h1 : p.1 < n) (h2 : p.2 < n) (ht : t < m) : (c.jn p t).length = k := ltie_len (o.row h1) (o.row h2) (o.rowT ht)
theorem CuOk.doo (o : CuOk n m k c) {h : Nat} {d : Int} (hh : h < n) : CuOk n m k (c.doo h d) := ⟨by show (c.hs.set _ _).length = n; rw [List.length_set]; exact o.lh, o.lt, mem_setL o.rh (by rw [List.length_set]; exact o.row hh), o.rt⟩
theorem CuOk.met (o : CuOk n m k c) {p : Nat × Nat} {t : Nat} (h1 : p.1 < n) (h2 : p.2 < n) (ht : t < m) : CuOk n m k (c.met p t) :=
  ⟨by show ((c.hs.set _ _).set _ _).length = n; rw [List.length_set, List.length_set]; exact o.lh, by show (c.ts.set _ _).length = m; rw [List.length_set]; exact o.lt, mem_setL (mem_setL o.rh (o.jl h1 h2 ht)) (o.jl h1 h2 ht), mem_setL o.rt (o.jl h1 h2 ht)⟩
/-- a house's and a tie's count of an act -/
def Cu.h (c : Cu) (i a : Nat) : Int := (c.hs.getD i []).getD a 0
def Cu.t (c : Cu) (i a : Nat) : Int := (c.ts.getD i []).getD a 0
theorem doo_h (o : CuOk n m k c) {h : Nat} {d : Int} (hh : h < n) (hk : c.ds.length < k) (i a : Nat) : (c.doo h d).h i a = if i = h ∧ a = c.ds.length then 1 else c.h i a := by
  show ((c.hs.set h ((c.hs.getD h []).set c.ds.length 1)).getD i []).getD a 0 = _
  rw [setL (by rw [o.lh]; exact hh)]
  by_cases z : i = h
  · subst z
    rw [if_pos rfl, setI (by rw [o.row hh]; exact hk)]
    by_cases y : a = c.ds.length
    · rw [if_pos y, if_pos ⟨rfl, y⟩]
    · rw [if_neg y, if_neg (fun w => y w.2)]; rfl
  · rw [if_neg z, if_neg (fun w => z w.1)]; rfl
theorem met_h (o : CuOk n m k c) {p : Nat × Nat} {t : Nat} (h1 : p.1 < n) (h2 : p.2 < n) (ht : t < m) {a : Nat} (ha : a < k) (i : Nat) : (c.met p t).h i a = if i = p.1 ∨ i = p.2 then c.h p.1 a + c.h p.2 a - c.t t a else c.h i a := by
  show (((c.hs.set p.1 (c.jn p t)).set p.2 (c.jn p t)).getD i []).getD a 0 = _
  have e : (c.jn p t).getD a 0 = c.h p.1 a + c.h p.2 a - c.t t a := ltie_at (o.row h1) (o.row h2) (o.rowT ht) ha
  rw [setL (by rw [List.length_set, o.lh]; exact h2)]
  by_cases z : i = p.2
  · rw [if_pos z, if_pos (.inr z), e]
  · rw [if_neg z, setL (by rw [o.lh]; exact h1)]
    by_cases y : i = p.1
    · rw [if_pos y, if_pos (.inl y), e]
    · rw [if_neg y, if_neg (fun w => w.elim y z)]; rfl
theorem met_t (o : CuOk n m k c) {p : Nat × Nat} {t : Nat} (h1 : p.1 < n) (h2 : p.2 < n) (ht : t < m) {a : Nat} (ha : a < k) (i : Nat) : (c.met p t).t i a = if i = t then c.h p.1 a + c.h p.2 a - c.t t a else c.t i a := by
  show ((c.ts.set t (c.jn p t)).getD i []).getD a 0 = _
  have e : (c.jn p t).getD a 0 = c.h p.1 a + c.h p.2 a - c.t t a := ltie_at (o.row h1) (o.row h2) (o.rowT ht) ha
  rw [setL (by rw [o.lt]; exact ht)]
  by_cases z : i = t
  · rw [if_pos z, if_pos z, e]
  · rw [if_neg z, if_neg z]; rfl
theorem cu0_h (n m k i a : Nat) : (cu0 n m k).h i a = 0 := by
  show ((List.replicate n (List.replicate k 0)).getD i []).getD a 0 = 0
  rw [List.getD_eq_getElem?_getD, List.getD_eq_getElem?_getD, List.getElem?_replicate]
  split
  · show ((List.replicate k (0 : Int))[a]?).getD 0 = 0
    rw [List.getElem?_replicate]
    split <;> rfl
  · rfl
theorem cu0_t (n m k i a : Nat) : (cu0 n m k).t i a = 0 := cu0_h m n k i a
end
/-! ### what holds at every moment -/
/-- counts behind a run of a web's steps -/
structure Cur (n : Nat) (ps : Prs) (k : Nat) (l : List Stp) (c : Cu) : Prop where
  ok : CuOk n ps.length k c
  ds : c.ds = actD l
  /-- what is not yet done counts nowhere -/
  z : ∀ i a, c.ds.length ≤ a → c.h i a = 0 ∧ c.t i a = 0
  /-- no tie counts more than a house of its -/
  up : ∀ (t : Nat) p a, ps[t]? = some p → 0 ≤ c.t t a ∧ c.t t a ≤ c.h p.1 a ∧ c.t t a ≤ c.h p.2 a
  nn : ∀ i a, 0 ≤ c.h i a
  bd : ∀ i a, c.h i a ≤ 2 ^ l.length
theorem cur_h_out {n m k : Nat} {c : Cu} (o : CuOk n m k c) {i a : Nat} (h : n ≤ i ∨ k ≤ a) : c.h i a = 0 := by
  show (c.hs.getD i []).getD a 0 = 0
  by_cases z : i < n
  · have := o.row z
    rw [List.getD_eq_getElem?_getD (l := c.hs.getD i []), List.getElem?_eq_none (by omega)]; rfl
  · rw [List.getD_eq_getElem?_getD (l := c.hs), List.getElem?_eq_none (by rw [o.lh]; omega)]; rfl
theorem cur_t_out {n m k : Nat} {c : Cu} (o : CuOk n m k c) {i a : Nat} (h : m ≤ i ∨ k ≤ a) : c.t i a = 0 := by
  show (c.ts.getD i []).getD a 0 = 0
  by_cases z : i < m
  · have := o.rowT z
    rw [List.getD_eq_getElem?_getD (l := c.ts.getD i []), List.getElem?_eq_none (by omega)]; rfl
  · rw [List.getD_eq_getElem?_getD (l := c.ts), List.getElem?_eq_none (by rw [o.lt]; omega)]; rfl
theorem Cur.init (n : Nat) (ps : Prs) (k : Nat) : Cur n ps k [] (cu0 n ps.length k) :=
  ⟨cu0_ok n ps.length k, rfl, fun i a _ => ⟨cu0_h _ _ _ _ _, cu0_t _ _ _ _ _⟩, fun t p a _ => by rw [cu0_h, cu0_h, cu0_t]; omega, fun i a => by rw [cu0_h]; exact Int.le_refl _, fun i a => by rw [cu0_h]; exact by decide⟩
theorem two_succ (k : Nat) : (2 : Int) ^ (k + 1) = 2 ^ k + 2 ^ k := by rw [Int.pow_succ]; omega
theorem two_pos (k : Nat) : (1 : Int) ≤ 2 ^ k := by
  induction k with
  | zero => decide
  | succ k ih => rw [two_succ]; omega
theorem Cur.dd {n : Nat} {ps : Prs} {k : Nat} {l : List Stp} {c : Cu} (I : Cur n ps k l c) {h d : Nat} (hh : h < n) (hk : c.ds.length < k) : Cur n ps k (l ++ [.dd h d]) (c.doo h d) := by
  have H := doo_h (d := (d : Int)) I.ok hh hk
  have T : ∀ i a, (c.doo h d).t i a = c.t i a := fun i a => rfl
  have hl : (l ++ [Stp.dd h d]).length = l.length + 1 := by rw [List.length_append]; rfl
  refine ⟨I.ok.doo hh, ?_, fun i a ha => ?_, fun t p a hp => ?_, fun i a => ?_, fun i a => ?_⟩
  · show c.ds ++ [(d : Int)] = _
    rw [actD_app, I.ds]; rfl
  · have ha : (c.ds ++ [(d : Int)]).length ≤ a := ha
    rw [List.length_append] at ha
    simp only [List.length_cons, List.length_nil] at ha
    rw [H, if_neg (by omega), T]
    exact I.z i a (by omega)
  · have z := I.up t p a hp
    have y := I.z
    rw [T, H, H]
    refine ⟨z.1, ?_, ?_⟩
    · split
      · rename_i w
        have := (I.z t a (by omega)).2
        omega
      · exact z.2.1
    · split
      · rename_i w
        have := (I.z t a (by omega)).2
        omega
      · exact z.2.2
  · rw [H]
    split
    · decide
    · exact I.nn i a
  · rw [H, hl, two_succ]
    have := two_pos l.length
    split
    · omega
    · have := I.bd i a; omega
theorem Cur.mt {n : Nat} {ps : Prs} {k : Nat} {l : List Stp} {c : Cu} (I : Cur n ps k l c) (hW : Wv n ps) {t : Nat} (ht : t < ps.length) (hk : c.ds.length ≤ k) : Cur n ps k (l ++ [.mt t]) (c.met (ps.getD t (0, 0)) t) := by
  obtain ⟨p, hp⟩ := ex_at ht
  have ep : ps.getD t (0, 0) = p := by rw [List.getD_eq_getElem?_getD, hp]; rfl
  rw [ep]
  obtain ⟨p1, p2, p3⟩ := hW.at_ hp
  have hl : (l ++ [Stp.mt t]).length = l.length + 1 := by rw [List.length_append]; rfl
  have out : ∀ i a, k ≤ a → (c.met p t).h i a = 0 ∧ (c.met p t).t i a = 0 := fun i a ha => ⟨cur_h_out (I.ok.met p1 p2 ht) (.inr ha), cur_t_out (I.ok.met p1 p2 ht) (.inr ha)⟩
  have H : ∀ i a, a < k → (c.met p t).h i a = if i = p.1 ∨ i = p.2 then c.h p.1 a + c.h p.2 a - c.t t a else c.h i a := fun i a ha => met_h I.ok p1 p2 ht ha i
  have T : ∀ i a, a < k → (c.met p t).t i a = if i = t then c.h p.1 a + c.h p.2 a - c.t t a else c.t i a := fun i a ha => met_t I.ok p1 p2 ht ha i
  have grow : ∀ i a, a < k → c.h i a ≤ (c.met p t).h i a := fun i a ha => by
    rw [H i a ha]
    have z := I.up t p a hp
    split
    · rename_i w
      rcases w with rfl | rfl <;> omega
    · exact Int.le_refl _
  refine ⟨I.ok.met p1 p2 ht, ?_, fun i a ha => ?_, fun t' q a hq => ?_, fun i a => ?_, fun i a => ?_⟩
  · show c.ds = _
    rw [actD_app, I.ds]
    show _ = actD l ++ []
    rw [List.append_nil]
  · have ha : c.ds.length ≤ a := ha
    by_cases hak : a < k
    · rw [H i a hak, T i a hak]
      have z1 := (I.z p.1 a ha).1
      have z2 := (I.z p.2 a ha).1
      have z3 := (I.z t a ha).2
      have z4 := I.z i a ha
      constructor
      · split
        · omega
        · exact z4.1
      · split
        · omega
        · exact z4.2
    · exact out i a (by omega)
  · by_cases hak : a < k
    · have z := I.up t p a hp
      have y := I.up t' q a hq
      by_cases e : t' = t
      · subst e
        rw [hp] at hq
        obtain rfl := Option.some.inj hq
        rw [T t' a hak, H _ a hak, H _ a hak, if_pos rfl, if_pos (.inl rfl), if_pos (.inr rfl)]
        omega
      · have g1 := grow q.1 a hak
        have g2 := grow q.2 a hak
        rw [T t' a hak, if_neg e]
        omega
    · rw [(out t' a (by omega)).2, (out q.1 a (by omega)).1, (out q.2 a (by omega)).1]
      omega
  · by_cases hak : a < k
    · have := grow i a hak
      have := I.nn i a
      omega
    · rw [(out i a (by omega)).1]; exact Int.le_refl _
  · rw [hl, two_succ]
    by_cases hak : a < k
    · rw [H i a hak]
      have := two_pos l.length
      have z := I.up t p a hp
      have b1 := I.bd p.1 a
      have b2 := I.bd p.2 a
      have b3 := I.bd i a
      split <;> omega
    · rw [(out i a (by omega)).1]
      have := two_pos l.length
      omega
theorem snocI {P : List Stp → Prop} (h0 : P []) (h1 : ∀ l s, P l → P (l ++ [s])) : ∀ l, P l := fun l => by
  rw [← List.reverse_reverse l]
  induction l.reverse with
  | nil => exact h0
  | cons s r ih => rw [List.reverse_cons]; exact h1 _ _ ih
theorem cur_all {n d : Nat} {ps : Prs} (hW : Wv n ps) (k : Nat) : ∀ l : List Stp, (∀ s ∈ l, okS n ps.length d s) → (actD l).length ≤ k → Cur n ps k l (cur ps (cu0 n ps.length k) l) := by
  refine snocI (fun _ _ => Cur.init n ps k) fun l s ih hok hk => ?_
  rw [actD_app, List.length_append] at hk
  have I := ih (fun u hu => hok u (List.mem_append_left _ hu)) (by omega)
  have hs := hok s (List.mem_append_right _ (List.mem_singleton.mpr rfl))
  have hd : (cur ps (cu0 n ps.length k) l).ds.length = (actD l).length := by rw [I.ds]
  rw [cur_snoc]
  cases s with
  | dd h e => exact I.dd hs.1 (by rw [hd]; simp only [actD, List.length_cons, List.length_nil] at hk; omega)
  | mt t => exact I.mt hW hs (by rw [hd]; omega)
theorem cnt_cur {n d : Nat} {ps : Prs} (hW : Wv n ps) {l : List Stp} (hok : ∀ s ∈ l, okS n ps.length d s) : Cur n ps (actD l).length l (cnt n ps l) := cur_all hW _ l hok (Nat.le_refl _)
end K1
/-! ### tuple * int, also 0 and 1 -/
namespace TM
open PySem PySem.Spec PyProof.Rows L2
theorem mul1 (l : Addr) (items : Array Value) (n : Nat) (dd : Option Addr) (sl : Array (Option Value)) (u : Tok) :
    Meets (Builtin.«tuple.__mul__» ⟨[.ref l, .int 1 u], []⟩) (fun _ R s => s.heap.get? l = some { cls := .type "tuple", dict := dd, data := .seq items n, slots := sl } ∧ R (.ok (.ret (Value.ref l))) s) :=
  .of_wp fun prog w A R s h => by
    obtain ⟨hp, g, d, tk, os⟩ := s
    obtain ⟨hl, h⟩ := h
    have f1 := AutoSeq1.idx_int
    have c0 : (decide ((1 : Int) < -(2 ^ 63)) || decide ((1 : Int) ≥ 2 ^ 63)) = false := by decide
    have c1 : (items.isEmpty || (1 : Int) == 1) = true := by rw [show ((1 : Int) == 1) = true by decide, Bool.or_true]
    wp_walk using wpAny_loadPart' hl
    repeat (first
      | (refine wpAny_ite_false (decide_eq_false (by rw [c0]; exact Bool.false_ne_true)) ?_; wp_walk using wpAny_loadPart' hl)
      | (refine wpAny_ite_true (decide_eq_true (by rw [c1])) ?_; wp_walk using wpAny_loadPart' hl))
    exact ⟨_, rfl, h⟩
theorem mul0 (l : Addr) (items : Array Value) (n : Nat) (dd : Option Addr) (sl : Array (Option Value)) (u : Tok) (c1 : (items.isEmpty || (0 : Int) == 1) = false) :
    Meets (Builtin.«tuple.__mul__» ⟨[.ref l, .int 0 u], []⟩) (fun _ R s => s.heap.get? l = some { cls := .type "tuple", dict := dd, data := .seq items n, slots := sl } ∧
      R (.ok (.ret (Value.ref s.heap.objs.size))) { s with heap := s.heap.push { cls := Value.type "tuple", data := Data.seq #[] }, toks := s.toks }) :=
  .of_wp fun prog w A R s h => by
    obtain ⟨hp, g, d, tk, os⟩ := s
    obtain ⟨hl, h⟩ := h
    have f1 := AutoSeq1.idx_int
    have c0 : (decide ((0 : Int) < -(2 ^ 63)) || decide ((0 : Int) ≥ 2 ^ 63)) = false := by decide
    have c2 : (decide ((0 : Int) ≤ 0) || items.isEmpty) = true := by rw [decide_eq_true (by decide)]; rfl
    wp_walk using wpAny_loadPart' hl
    repeat (first
      | (refine wpAny_ite_false (decide_eq_false (by rw [c0]; exact Bool.false_ne_true)) ?_; wp_walk using wpAny_loadPart' hl)
      | (refine wpAny_ite_false (decide_eq_false (by rw [c1]; exact Bool.false_ne_true)) ?_; wp_walk using wpAny_loadPart' hl)
      | (refine wpAny_ite_true (decide_eq_true (by rw [c2])) ?_; wp_walk using wpAny_loadPart' hl))
    exact ⟨_, rfl, h⟩
def rRepG (K : PySem.W.Frag) : R2 := fun x y H Q => ∃ l k xs, x = .ref l ∧ y = .int k ∧ H l = some (.tup xs) ∧ xs ≠ [] ∧ 0 ≤ k ∧ k ≤ 1000 ∧ xs.length ≤ 1000 ∧ ∀ p H', Same H H' → H' p = some (.tup (List.replicate k.toNat xs).flatten) → Q (.ref p) H'
theorem op_repG {X : Cx} {K : PySem.W.Frag} (hK : X.K = K) : OpR X (binaryOp .Mult) (rRepG K) := by
  subst hK
  intro pins s σ H x y v u Q I rx ry h
  obtain ⟨l, k, xs, rfl, rfl, hT, hne, h1, h2, hz, q⟩ := h
  by_cases k2 : 2 ≤ k
  · exact op_repT pins s σ H _ _ v u Q I rx ry ⟨l, k, xs, rfl, rfl, SqT.of hT, hne, k2, h2, hz, fun p hp => q p _ (K1.same_new hp) upd_same⟩
  cases rx
  obtain ⟨t, rfl⟩ := ry
  obtain ⟨its, r, ⟨⟨cls, dd, data, sl⟩, ho, hc, n, hd⟩, hs⟩ := I.tuple (SqT.of hT)
  simp only at hc hd
  subst hc hd
  have hle : its.length = xs.length := r.length.symm
  have hn : its ≠ [] := fun e => hne (by
    rw [e] at hle
    exact List.eq_nil_of_length_eq_zero hle.symm)
  have hi : its.toArray.isEmpty = false := by
    cases its with
    | nil => exact absurd rfl hn
    | cons a b => rfl
  have k01 : k = 0 ∨ k = 1 := by omega
  rcases k01 with rfl | rfl
  · have c1 : (its.toArray.isEmpty || (0 : Int) == 1) = false := by rw [hi]; rfl
    refine wpAny_binaryOp_repeat_ref (T := "tuple") (U := "int") (by decide) ⟨_, ho, rfl⟩ (fun s' => typeIs_int s' 0 t) noFill_tuple_mul F.fills_int_mul F.slot_int_rmul repeat_tuple F.slot_int_index.lookup
      (call_meets F.slot_int_rmul (typeIs_int s 0 t) F.entry_int_rmul (F.args_int_rmul_2 _ _) (int_rmul_tuple 0 t l its.toArray n dd sl)
        ⟨ho, rfl, ⟨_, ho, rfl⟩, call_meets F.slot_tuple_mul ⟨_, ho, rfl⟩ F.entry_tuple_mul (F.args_tuple_mul_2 _ _) (mul0 l its.toArray n dd sl t c1) ⟨ho, ?_⟩⟩)
    have hf := I.hok.fresh (Nat.le_refl s.heap.objs.size)
    refine ⟨.ref s.heap.objs.size, _, I.laid (t' := s.toks) (o := .tup []) (fun b ob q => Heap.get?_push_of_some _ q) (Nat.le_refl _) ?_, rfl, q _ _ (K1.same_new hf) upd_same⟩
    exact ⟨by show 0 ≤ sizeLine; decide, [], .nil, IsTup.new _ _⟩
  · refine wpAny_binaryOp_repeat_ref (T := "tuple") (U := "int") (by decide) ⟨_, ho, rfl⟩ (fun s' => typeIs_int s' 1 t) noFill_tuple_mul F.fills_int_mul F.slot_int_rmul repeat_tuple F.slot_int_index.lookup
      (call_meets F.slot_int_rmul (typeIs_int s 1 t) F.entry_int_rmul (F.args_int_rmul_2 _ _) (int_rmul_tuple 1 t l its.toArray n dd sl)
        ⟨ho, rfl, ⟨_, ho, rfl⟩, call_meets F.slot_tuple_mul ⟨_, ho, rfl⟩ F.entry_tuple_mul (F.args_tuple_mul_2 _ _) (mul1 l its.toArray n dd sl t) ⟨ho, ?_⟩⟩)
    refine ⟨.ref l, H, I, rfl, q l H (fun _ _ e => e) ?_⟩
    rw [hT]
    simp
end TM
/-! ### zip of three tuples -/
namespace Z3
open PySem PySem.Spec PyProof.Rows L2
def It3 (K : PySem.W.Frag) (a b c : Addr) : It :=
  ⟨fun i H => ∃ (xs ys zs : List V) (x y z : V), SqT K H a xs ∧ SqT K H b ys ∧ SqT K H c zs ∧ xs[i]? = some x ∧ ys[i]? = some y ∧ zs[i]? = some z,
    fun i H v H' => ∃ T x y z, v = .ref T ∧ H T = none ∧ H' = upd H T (.tup [x, y, z]) ∧ (∀ xs, SqT K H a xs → xs[i]? = some x) ∧ (∀ ys, SqT K H b ys → ys[i]? = some y) ∧ ∀ zs, SqT K H c zs → zs[i]? = some z,
    fun i H => ∃ xs ys zs : List V, SqT K H a xs ∧ SqT K H b ys ∧ SqT K H c zs ∧ i ≤ xs.length ∧ i ≤ ys.length ∧ i ≤ zs.length ∧ (i = xs.length ∨ i = ys.length ∨ i = zs.length)⟩
theorem zlt {h : Heap} {c : Addr} {o : Obj} (e : h.get? c = some o) : c ≠ h.objs.size := Nat.ne_of_lt (Heap.lt_size e)
structure Sep (z TI TO i1 i2 i3 a b c : Addr) : Prop extends ZipSep3 z TI TO i1 i2 i3 [i1, a] [i2, b] [i3, c] where
  na : a ≠ i1
  nb : b ≠ i2
  nc : c ≠ i3
  n1 : i1 ≠ z
  n2 : i2 ≠ z
  n3 : i3 ≠ z
theorem itobj {h : Heap} {i l : Addr} {k : Nat} (x : h.IsTupleIter i l k) : ∃ o, h.get? i = some o ∧ ∀ v, o.data ≠ .cell v := by
  obtain ⟨o, e, _, d⟩ := x
  exact ⟨o, e, fun v q => by rw [d] at q; cases q⟩
theorem turn3 {P : Program} {w : World} {K : PySem.W.Frag} {elts : List Expr} {kk : Nat} {tpos : Pos} {a b c z TI TO i1 i2 i3 : Addr} (S : Sep z TI TO i1 i2 i3 a b c) :
    Turn P w K (.Tuple elts kk tpos) (It3 K a b c) [z, TI, TO, i1, i2, i3] z (fun i h => IsZip h z TI TO .none ∧ IsTupOf3 h TI (.ref i1) (.ref i2) (.ref i3) ∧ (∃ x y z, IsTupOf3 h TO x y z) ∧ h.IsTupleIter i1 a i ∧ h.IsTupleIter i2 b i ∧ h.IsTupleIter i3 c i) where
  mem := by simp
  obj := fun i h st c hc => by
    obtain ⟨hz, hTI, ⟨x, y, w, hTO⟩, h1, h2, h3⟩ := st
    simp only [List.mem_cons, List.mem_nil_iff, or_false] at hc
    rcases hc with rfl | rfl | rfl | rfl | rfl | rfl
    · exact ⟨_, hz, fun v q => nomatch q⟩
    · exact ⟨_, hTI, fun v q => nomatch q⟩
    · exact ⟨_, hTO, fun v q => nomatch q⟩
    · exact itobj h1
    · exact itobj h2
    · exact itobj h3
  keep := fun i h h' st k => by
    obtain ⟨hz, hTI, ⟨x, y, w, hTO⟩, h1, h2, h3⟩ := st
    exact ⟨k _ (by simp) _ hz, k _ (by simp) _ hTI, ⟨x, y, w, k _ (by simp) _ hTO⟩, h1.at fun o q => k _ (by simp) o q, h2.at fun o q => k _ (by simp) o q, h3.at fun o q => k _ (by simp) o q⟩
  item := by
    intro X hP hw hK hc i pins s σ H E I hf st hg
    subst hP hw hK
    obtain ⟨hz, hTI, ⟨x0, y0, w0, hTO⟩, h1, h2, h3⟩ := st
    obtain ⟨xs, ys, zs, x, y, w, hqx, hqy, hqz, hx, hy, hw⟩ := hg
    obtain ⟨its, rv, p, _⟩ := I.tuple hqx
    obtain ⟨its2, rv2, p2, _⟩ := I.tuple hqy
    obtain ⟨its3, rv3, p3, _⟩ := I.tuple hqz
    obtain ⟨u, hu, ru⟩ := rv.get hx
    obtain ⟨u2, hu2, ru2⟩ := rv2.get hy
    obtain ⟨u3, hu3, ru3⟩ := rv3.get hw
    have l1 : i < its.toArray.size := by simpa using (List.getElem?_eq_some_iff.mp hu).1
    have l2 : i < its2.toArray.size := by simpa using (List.getElem?_eq_some_iff.mp hu2).1
    have l3 : i < its3.toArray.size := by simpa using (List.getElem?_eq_some_iff.mp hu3).1
    have d1 := Draws.tuple (prog := X.prog) (w := X.w) (A := X.A.in1) (I.ok.hd hc) i1 a S.na its.toArray
    have d2 := Draws.tuple (prog := X.prog) (w := X.w) (A := X.A.in1) (I.ok.hd hc) i2 b S.nb its2.toArray
    have d3 := Draws.tuple (prog := X.prog) (w := X.w) (A := X.A.in1) (I.ok.hd hc) i3 c S.nc its3.toArray
    refine wpAny_pyNext_zipD3_item S.toZipSep3 d1 d2 d3 hz hTI hTO ⟨h1, p⟩ ⟨h2, p2⟩ ⟨h3, p3⟩ l1 l2 l3 fun v1 v2 v3 h' tk e1 e2 e3 z' TO' s1' s2' s3' hT hsz hk => ?_
    obtain rfl : u = v1 := by
      have q : its[i]? = some v1 := by simpa using e1
      exact Option.some.inj (hu.symm.trans q)
    obtain rfl : u2 = v2 := by
      have q : its2[i]? = some v2 := by simpa using e2
      exact Option.some.inj (hu2.symm.trans q)
    obtain rfl : u3 = v3 := by
      have q : its3[i]? = some v3 := by simpa using e3
      exact Option.some.inj (hu3.symm.trans q)
    refine ⟨_, rfl, wpAny_letOwnedTupleGo_zip (s := { s with heap := h', toks := tk }) z' fun h'' z'' sb => ?_⟩
    have nz := zlt hz
    have hT2 : h''.get? s.heap.objs.size = some { cls := .type "tuple", data := .seq #[u, u2, u3] } := (sb.2 _ (Ne.symm nz)).trans hT
    have new : ObjOk X.prog X.w (upd H s.heap.objs.size (.tup [x, y, w])) h'' s.heap.objs.size (.tup [x, y, w]) :=
      ⟨by show 3 ≤ sizeLine; decide, [u, u2, u3], .cons ru (.cons ru2 (.cons ru3 .nil)), ⟨_, hT2, rfl, _, rfl⟩⟩
    have I1 : Inv X pins σ (upd H s.heap.objs.size (.tup [x, y, w])) { s with heap := h'', toks := tk } :=
      I.turnedNew (t' := tk) (ch := [z, TI, TO, i1, i2, i3]) (fun c o hb q => (sb.2 c (fun q' => hb (by simp [q']))).trans (hk c o (fun q' => hb (by simp [q'])) (fun q' => hb (by simp [q'])) (fun q' => hb (by simp [q'])) (fun q' => hb (by simp [q'])) (fun q' => hb (by simp [q'])) q)) hf (Nat.le_refl _) new
    have back : ∀ c o, c ≠ z → h'.get? c = some o → h''.get? c = some o := fun c o k q => (sb.2 c k).trans q
    refine ⟨.ref s.heap.objs.size, _, I1, rfl, ⟨_, x, y, w, rfl, I.hok.fresh (Nat.le_refl _), rfl, fun l hl => by rw [I.tuple_inj hl hqx]; exact hx, fun l hl => by rw [I.tuple_inj hl hqy]; exact hy, fun l hl => by rw [I.tuple_inj hl hqz]; exact hw⟩, ⟨z'', back _ _ S.TIz (hk _ _ S.TIz S.TITO S.TIi1 S.TIi2 S.TIi3 hTI), ⟨u, u2, u3, back _ _ S.TOz TO'⟩, s1'.1.at fun o q => back _ o S.n1 q, s2'.1.at fun o q => back _ o S.n2 q, s3'.1.at fun o q => back _ o S.n3 q⟩, fun c hcm => ?_⟩
    have hlt : c ≠ s.heap.objs.size := by
      simp only [List.mem_cons, List.mem_nil_iff, or_false] at hcm
      rcases hcm with rfl | rfl | rfl | rfl | rfl | rfl
      · exact nz
      · exact zlt hTI
      · exact zlt hTO
      · obtain ⟨o, e, _⟩ := itobj h1; exact zlt e
      · obtain ⟨o, e, _⟩ := itobj h2; exact zlt e
      · obtain ⟨o, e, _⟩ := itobj h3; exact zlt e
    rw [upd_ne hlt]
    exact (hf c hcm).1
  done := by
    intro X hP hw hK hc i pins s σ H E I hf st hg
    subst hP hw hK
    obtain ⟨hz, hTI, ⟨x0, y0, w0, hTO⟩, h1, h2, h3⟩ := st
    obtain ⟨xs, ys, zs, hqx, hqy, hqz, k1, k2, k3, hend⟩ := hg
    obtain ⟨its, rv, p, _⟩ := I.tuple hqx
    obtain ⟨its2, rv2, p2, _⟩ := I.tuple hqy
    obtain ⟨its3, rv3, p3, _⟩ := I.tuple hqz
    have l1 : its.toArray.size = xs.length := by have := rv.length; simp; omega
    have l2 : its2.toArray.size = ys.length := by have := rv2.length; simp; omega
    have l3 : its3.toArray.size = zs.length := by have := rv3.length; simp; omega
    have d1 := Draws.tuple (prog := X.prog) (w := X.w) (A := X.A.in1) (I.ok.hd hc) i1 a S.na its.toArray
    have d2 := Draws.tuple (prog := X.prog) (w := X.w) (A := X.A.in1) (I.ok.hd hc) i2 b S.nb its2.toArray
    have d3 := Draws.tuple (prog := X.prog) (w := X.w) (A := X.A.in1) (I.ok.hd hc) i3 c S.nc its3.toArray
    exact wpAny_pyNext_zipD3_end S.toZipSep3 d1 d2 d3 hz hTI hTO ⟨h1, p⟩ ⟨h2, p2⟩ ⟨h3, p3⟩ (by rw [l1]; exact k1) (by rw [l2]; exact k2) (by rw [l3]; exact k3) (by rw [l1, l2, l3]; exact hend) fun h' tk hk =>
      ⟨rfl, I.turnedL (t' := tk) (ch := [z, TI, TO, i1, i2, i3]) (fun c o hb q => hk c o (fun q' => hb (by simp [q'])) (fun q' => hb (by simp [q'])) (fun q' => hb (by simp [q'])) (fun q' => hb (by simp [q'])) (fun q' => hb (by simp [q'])) q) hf⟩
  self := fun A i s Q E st h => wpAny_pyIter_zip st.1 h
theorem nne (x y : Nat) (h : x < y ∨ y < x) : @Ne Addr x y := fun z => by
  have z' : @Eq Nat x y := z
  omega
theorem nin (x y y2 : Nat) (h : x < y ∨ y < x) (h2 : x < y2 ∨ y2 < x) : @Membership.mem Addr (List Addr) _ [y, y2] x → False := fun m => by
  rcases List.mem_cons.mp m with z | m
  · exact nne _ _ h z
  · exact nne _ _ h2 (List.mem_singleton.mp m)
theorem sep (n a b c : Nat) (ha : a < n) (hb : b < n) (hc : c < n) : Sep (n + 5) (n + 3) (n + 4) n (n + 1) (n + 2) a b c :=
  { TIz := nne _ _ (by omega), TOz := nne _ _ (by omega), TITO := nne _ _ (by omega)
    TIi1 := nne _ _ (by omega), mem1 := List.mem_cons_self, zf1 := nin _ _ _ (by omega) (by omega), Tf1 := nin _ _ _ (by omega) (by omega)
    TIi2 := nne _ _ (by omega), mem2 := List.mem_cons_self, zf2 := nin _ _ _ (by omega) (by omega), Tf2 := nin _ _ _ (by omega) (by omega)
    TIi3 := nne _ _ (by omega), mem3 := List.mem_cons_self, zf3 := nin _ _ _ (by omega) (by omega), Tf3 := nin _ _ _ (by omega) (by omega)
    sep1_2 := nin _ _ _ (by omega) (by omega), sep1_3 := nin _ _ _ (by omega) (by omega), sep2_1 := nin _ _ _ (by omega) (by omega)
    sep2_3 := nin _ _ _ (by omega) (by omega), sep3_1 := nin _ _ _ (by omega) (by omega), sep3_2 := nin _ _ _ (by omega) (by omega)
    na := nne _ _ (by omega), nb := nne _ _ (by omega), nc := nne _ _ (by omega), n1 := nne _ _ (by omega), n2 := nne _ _ (by omega), n3 := nne _ _ (by omega) }
theorem six (n c : Nat) (h : c ∈ [n + 5, n + 3, n + 4, n, n + 1, n + 2]) : n ≤ c := by
  simp only [List.mem_cons, List.mem_nil_iff, or_false] at h
  omega
def iZip3 (K : PySem.W.Frag) (ta : TA) : TI := fun σ H R => ta σ H fun vs H1 => ∃ a b c xs ys zs, vs = [.ref a, .ref b, .ref c] ∧ SqT K H1 a xs ∧ SqT K H1 b ys ∧ SqT K H1 c zs ∧ R (It3 K a b c) H1
theorem pi_zip3 {X : Cx} {e e2 e3 : Expr} {ta : TA} {p pos tpos : Pos} {elts : List Expr} {kk : Nat} (hg : Gl X "zip") (hm : X.mg "zip" = none) (ha : PA X [e, e2, e3] ta)
    (hs : starEach [e, e2, e3] X.env = (false, eval e X.env) :: starEach [e2, e3] X.env := by rfl) (hpl : (backTo pos (starEach [e2, e3] X.env)).any (·.1) = false := by rfl) :
    PI X (.Tuple elts kk tpos) (.Call (.Name "zip" p) [e, e2, e3] [] pos) (iZip3 X.K ta) := by
  refine ⟨fun pins s σ H R I h => ?_⟩
  have run := ha.run pos pins s σ H _ I h
  refine Call_ (ld_blt I hg hm PyProof.Rows.boot_zip ?_)
  refine PyProof.Rows.callWith_type1 (thn run ?_) hs hpl
  rintro us s1 ⟨vs, H1, I1, r1, a, b, c, xs, ys, zs, rfl, hqx, hqy, hqz, q⟩
  cases r1 with
  | cons r rr =>
   cases rr with
   | cons r' rr =>
    cases rr with
    | cons r'' rr =>
     cases rr
     cases r
     cases r'
     cases r''
     obtain ⟨its, rv, p1, _⟩ := I1.tuple hqx
     obtain ⟨its2, rv2, p2, _⟩ := I1.tuple hqy
     obtain ⟨its3, rv3, p3, _⟩ := I1.tuple hqz
     have la : a < s1.heap.objs.size := by obtain ⟨o, ho, _⟩ := id p1; exact Heap.lt_size ho
     have lb : b < s1.heap.objs.size := by obtain ⟨o, ho, _⟩ := id p2; exact Heap.lt_size ho
     have lc : c < s1.heap.objs.size := by obtain ⟨o, ho, _⟩ := id p3; exact Heap.lt_size ho
     refine zip_begins3 (begins_tuple a its.toArray) (begins_tuple b its2.toArray) (begins_tuple c its3.toArray) p1 p2 p3 fun h' hz hTI hTO g1 g2 g3 hsz hk => wpAny_pyIter_zip hz ?_
     have I2 : Inv X pins σ H1 { s1 with heap := h' } := I1.kept (t' := s1.toks) hk
     refine ⟨_, [s1.heap.objs.size + 5, s1.heap.objs.size + 3, s1.heap.objs.size + 4, s1.heap.objs.size, s1.heap.objs.size + 1, s1.heap.objs.size + 2], _, _, H1, rfl, I2, turn3 (sep _ _ _ _ la lb lc), ⟨hz, hTI, ⟨_, _, _, hTO⟩, ⟨_, g1, rfl, rfl⟩, ⟨_, g2, rfl, rfl⟩, ⟨_, g3, rfl, rfl⟩⟩, fun c hcm => ?_, q⟩
     have hle : s1.heap.objs.size ≤ c := six _ _ hcm
     exact I1.fpOk hle (I1.hok.fresh hle)
theorem lc_zip3 {K : PySem.W.Frag} {a b c : Addr} {xs ys zs : List V} {g : TG} {tt : TT} {te : TE} {vs : List Nat} {σ : L2.St} {H1 : Hp} {D : Addr} {Qd : Hp → Prop} (hl1 : xs.length = ys.length) (hl2 : xs.length = zs.length) (Pv : Nat → Hp → Prop) (h0 : Pv 0 (upd H1 D (.lst []))) (hq : ∀ i H, i ≤ xs.length → Pv i H → SqT K H a xs ∧ SqT K H b ys ∧ SqT K H c zs)
    (hs : ∀ i x y z T H, xs[i]? = some x → ys[i]? = some y → zs[i]? = some z → H T = none → Pv i H → g (.ref T) (wipe σ vs) (upd H T (.tup [x, y, z])) fun σ2 H2 => wipe σ2 vs = wipe σ vs ∧ tt σ2 H2 fun b H3 =>
      if b = true then te σ2 H3 fun y H4 => ∃ acc, H4 D = some (.lst acc) ∧ acc.length < sizeLine ∧ Pv (i + 1) (upd H4 D (.lst (acc ++ [y]))) else Pv (i + 1) H3) (hd : ∀ H, Pv xs.length H → Qd H) :
    ∃ W : Nat → Nat → Hp → Prop, (∃ m, W 0 m (upd H1 D (.lst []))) ∧ ∀ i m H, W i m H →
      ((It3 K a b c).stop i H ∧ Qd H) ∨ ((It3 K a b c).go i H ∧ ∃ Nx : Hp → Prop, (∀ H', Nx H' → ∃ m', m' < m ∧ W (i + 1) m' H') ∧ ∀ x H', (It3 K a b c).yld i H x H' → g x (wipe σ vs) H' fun σ2 H2 => wipe σ2 vs = wipe σ vs ∧ tt σ2 H2 fun b H3 =>
        if b = true then te σ2 H3 fun y H4 => ∃ acc, H4 D = some (.lst acc) ∧ acc.length < sizeLine ∧ Nx (upd H4 D (.lst (acc ++ [y]))) else Nx H3) := by
  refine ⟨fun i m H => m = xs.length - i ∧ i ≤ xs.length ∧ Pv i H, ⟨xs.length, by simp, Nat.zero_le _, h0⟩, ?_⟩
  rintro i m H ⟨rfl, hi, p⟩
  obtain ⟨q1, q2, q3⟩ := hq i H hi p
  by_cases hlt : i < xs.length
  · have hlt2 : i < ys.length := by omega
    have hlt3 : i < zs.length := by omega
    refine .inr ⟨⟨xs, ys, zs, _, _, _, q1, q2, q3, List.getElem?_eq_getElem hlt, List.getElem?_eq_getElem hlt2, List.getElem?_eq_getElem hlt3⟩, Pv (i + 1), fun H' p' => ⟨xs.length - (i + 1), by omega, rfl, hlt, p'⟩, fun x H' y => ?_⟩
    obtain ⟨T, x', y', z', e1, e2, e3, e4, e5, e6⟩ := y
    subst e1 e3
    exact hs i x' y' z' T H (e4 xs q1) (e5 ys q2) (e6 zs q3) e2 p
  · have e : i = xs.length := by omega
    subst e
    exact .inl ⟨⟨xs, ys, zs, q1, q2, q3, Nat.le_refl _, by omega, by omega, .inl rfl⟩, hd H p⟩
end Z3
/-! ### zip of two, each a list or a tuple -/
namespace ZM
open PySem PySem.Spec PyProof.Rows L2
def Sq (t : Bool) (K : PySem.W.Frag) (H : Hp) (a : Addr) (xs : List V) : Prop := match t with | true => SqT K H a xs | false => SqL K H a xs
def itOf (t : Bool) (h : Heap) (i l : Addr) (k : Nat) : Prop := match t with | true => h.IsTupleIter i l k | false => h.IsListIter i l k
def seqOf (t : Bool) (h : Heap) (l : Addr) (xs : Array Value) : Prop := match t with | true => h.IsTuple l xs | false => h.IsList l xs
theorem drawsM {prog : Program} {w : World} {A : Around} (t : Bool) (hh : A.handled = none) (it l : Addr) (hne : l ≠ it) (items : Array Value) :
    Draws prog w A it [it, l] items.size (fun i v => items[i]? = some v) (fun i h => itOf t h it l i ∧ seqOf t h l items) := match t with
  | true => Draws.tuple hh it l hne items
  | false => Draws.list hh it l hne items
theorem itOf.obj {t : Bool} {h : Heap} {i l : Addr} {k : Nat} (x : itOf t h i l k) : ∃ o, h.get? i = some o ∧ ∀ v, o.data ≠ .cell v := by
  cases t <;> (obtain ⟨o, e, _, d⟩ := x; exact ⟨o, e, fun v q => by rw [d] at q; cases q⟩)
theorem itOf.at {t : Bool} {h h' : Heap} {i l : Addr} {k : Nat} (x : itOf t h i l k) (m : ∀ o, h.get? i = some o → h'.get? i = some o) : itOf t h' i l k := by
  cases t
  · exact Heap.IsListIter.at x m
  · exact Heap.IsTupleIter.at x m
theorem Sq.real {X : Cx} {pins : List (Addr × Obj)} {σ : L2.St} {H : Hp} {s : Shared} {t : Bool} {a : Addr} {xs : List V} (I : Inv X pins σ H s) (q : Sq t X.K H a xs) : ∃ its, Vals xs its ∧ seqOf t s.heap a its.toArray ∧ a < s.heap.objs.size := by
  cases t
  · obtain ⟨its, rv, p, _⟩ := I.list q
    exact ⟨its, rv, p.isList, p.lt⟩
  · obtain ⟨its, rv, p, _⟩ := I.tuple q
    obtain ⟨o, ho, _⟩ := id p
    exact ⟨its, rv, p, Heap.lt_size ho⟩
theorem Sq.inj {X : Cx} {pins : List (Addr × Obj)} {σ : L2.St} {H : Hp} {s : Shared} {t : Bool} {a : Addr} {xs ys : List V} (I : Inv X pins σ H s) (q : Sq t X.K H a xs) (q2 : Sq t X.K H a ys) : xs = ys := by
  cases t
  · exact I.list_inj q q2
  · exact I.tuple_inj q q2
/-- what stands at a and b as it is at each turn, the items in new pairs -/
def ItzM (K : PySem.W.Frag) (t1 t2 : Bool) (a b : Addr) : It :=
  ⟨fun i H => ∃ (xs ys : List V) (x y : V), Sq t1 K H a xs ∧ Sq t2 K H b ys ∧ xs[i]? = some x ∧ ys[i]? = some y,
    fun i H v H' => ∃ T x y, v = .ref T ∧ H T = none ∧ H' = upd H T (.tup [x, y]) ∧ (∀ xs, Sq t1 K H a xs → xs[i]? = some x) ∧ ∀ ys, Sq t2 K H b ys → ys[i]? = some y,
    fun i H => ∃ xs ys : List V, Sq t1 K H a xs ∧ Sq t2 K H b ys ∧ i ≤ xs.length ∧ i ≤ ys.length ∧ (i = xs.length ∨ i = ys.length)⟩
theorem zlt {h : Heap} {c : Addr} {o : Obj} (e : h.get? c = some o) : c ≠ h.objs.size := Nat.ne_of_lt (Heap.lt_size e)
structure Sep (z TI TO i1 i2 a b : Addr) : Prop extends ZipSep2 z TI TO i1 i2 [i1, a] [i2, b] where
  na : a ≠ i1
  nb : b ≠ i2
  n1 : i1 ≠ z
  n2 : i2 ≠ z
theorem turnM {P : Program} {w : World} {K : PySem.W.Frag} {elts : List Expr} {kk : Nat} {tpos : Pos} {a b z TI TO i1 i2 : Addr} (t1 t2 : Bool) (S : Sep z TI TO i1 i2 a b) :
    Turn P w K (.Tuple elts kk tpos) (ItzM K t1 t2 a b) [z, TI, TO, i1, i2] z (fun i h => IsZip h z TI TO .none ∧ IsTupOf2 h TI (.ref i1) (.ref i2) ∧ (∃ x y, IsTupOf2 h TO x y) ∧ itOf t1 h i1 a i ∧ itOf t2 h i2 b i) where
  mem := by simp
  obj := fun i h st c hc => by
    obtain ⟨hz, hTI, ⟨x, y, hTO⟩, h1, h2⟩ := st
    simp only [List.mem_cons, List.mem_nil_iff, or_false] at hc
    rcases hc with rfl | rfl | rfl | rfl | rfl
    · exact ⟨_, hz, fun v q => nomatch q⟩
    · exact ⟨_, hTI, fun v q => nomatch q⟩
    · exact ⟨_, hTO, fun v q => nomatch q⟩
    · exact h1.obj
    · exact h2.obj
  keep := fun i h h' st k => by
    obtain ⟨hz, hTI, ⟨x, y, hTO⟩, h1, h2⟩ := st
    exact ⟨k _ (by simp) _ hz, k _ (by simp) _ hTI, ⟨x, y, k _ (by simp) _ hTO⟩, h1.at fun o q => k _ (by simp) o q, h2.at fun o q => k _ (by simp) o q⟩
  item := by
    intro X hP hw hK hc i pins s σ H E I hf st hg
    subst hP hw hK
    obtain ⟨hz, hTI, ⟨x0, y0, hTO⟩, h1, h2⟩ := st
    obtain ⟨xs, ys, x, y, hqx, hqy, hx, hy⟩ := hg
    obtain ⟨its, rv, p, _⟩ := hqx.real I
    obtain ⟨its2, rv2, p2, _⟩ := hqy.real I
    obtain ⟨u, hu, ru⟩ := rv.get hx
    obtain ⟨u2, hu2, ru2⟩ := rv2.get hy
    have l1 : i < its.toArray.size := by simpa using (List.getElem?_eq_some_iff.mp hu).1
    have l2 : i < its2.toArray.size := by simpa using (List.getElem?_eq_some_iff.mp hu2).1
    have d1 := drawsM (prog := X.prog) (w := X.w) (A := X.A.in1) t1 (I.ok.hd hc) i1 a S.na its.toArray
    have d2 := drawsM (prog := X.prog) (w := X.w) (A := X.A.in1) t2 (I.ok.hd hc) i2 b S.nb its2.toArray
    refine wpAny_pyNext_zipD2_item S.toZipSep2 d1 d2 hz hTI hTO ⟨h1, p⟩ ⟨h2, p2⟩ l1 l2 fun v1 v2 h' tk e1 e2 z' TO' s1' s2' hT hsz hk => ?_
    obtain rfl : u = v1 := by
      have q : its[i]? = some v1 := by simpa using e1
      exact Option.some.inj (hu.symm.trans q)
    obtain rfl : u2 = v2 := by
      have q : its2[i]? = some v2 := by simpa using e2
      exact Option.some.inj (hu2.symm.trans q)
    refine ⟨_, rfl, wpAny_letOwnedTupleGo_zip (s := { s with heap := h', toks := tk }) z' fun h'' z'' sb => ?_⟩
    have nz := zlt hz
    have hT2 : h''.get? s.heap.objs.size = some { cls := .type "tuple", data := .seq #[u, u2] } := (sb.2 _ (Ne.symm nz)).trans hT
    have new : ObjOk X.prog X.w (upd H s.heap.objs.size (.tup [x, y])) h'' s.heap.objs.size (.tup [x, y]) :=
      ⟨by show 2 ≤ sizeLine; decide, [u, u2], .cons ru (.cons ru2 .nil), ⟨_, hT2, rfl, _, rfl⟩⟩
    have I1 : Inv X pins σ (upd H s.heap.objs.size (.tup [x, y])) { s with heap := h'', toks := tk } :=
      I.turnedNew (t' := tk) (ch := [z, TI, TO, i1, i2]) (fun c o hb q => (sb.2 c (fun q' => hb (by simp [q']))).trans (hk c o (fun q' => hb (by simp [q'])) (fun q' => hb (by simp [q'])) (fun q' => hb (by simp [q'])) (fun q' => hb (by simp [q'])) q)) hf (Nat.le_refl _) new
    have back : ∀ c o, c ≠ z → h'.get? c = some o → h''.get? c = some o := fun c o k q => (sb.2 c k).trans q
    refine ⟨.ref s.heap.objs.size, _, I1, rfl, ⟨_, x, y, rfl, I.hok.fresh (Nat.le_refl _), rfl, fun l hl => by rw [hl.inj I hqx]; exact hx, fun l hl => by rw [hl.inj I hqy]; exact hy⟩, ⟨z'', back _ _ S.TIz (hk _ _ S.TIz S.TITO S.TIi1 S.TIi2 hTI), ⟨u, u2, back _ _ S.TOz TO'⟩, s1'.1.at fun o q => back _ o S.n1 q, s2'.1.at fun o q => back _ o S.n2 q⟩, fun c hcm => ?_⟩
    have hlt : c ≠ s.heap.objs.size := by
      simp only [List.mem_cons, List.mem_nil_iff, or_false] at hcm
      rcases hcm with rfl | rfl | rfl | rfl | rfl
      · exact nz
      · exact zlt hTI
      · exact zlt hTO
      · obtain ⟨o, e, _⟩ := h1.obj; exact zlt e
      · obtain ⟨o, e, _⟩ := h2.obj; exact zlt e
    rw [upd_ne hlt]
    exact (hf c hcm).1
  done := by
    intro X hP hw hK hc i pins s σ H E I hf st hg
    subst hP hw hK
    obtain ⟨hz, hTI, ⟨x0, y0, hTO⟩, h1, h2⟩ := st
    obtain ⟨xs, ys, hqx, hqy, k1, k2, hend⟩ := hg
    obtain ⟨its, rv, p, _⟩ := hqx.real I
    obtain ⟨its2, rv2, p2, _⟩ := hqy.real I
    have l1 : its.toArray.size = xs.length := by have := rv.length; simp; omega
    have l2 : its2.toArray.size = ys.length := by have := rv2.length; simp; omega
    have d1 := drawsM (prog := X.prog) (w := X.w) (A := X.A.in1) t1 (I.ok.hd hc) i1 a S.na its.toArray
    have d2 := drawsM (prog := X.prog) (w := X.w) (A := X.A.in1) t2 (I.ok.hd hc) i2 b S.nb its2.toArray
    exact wpAny_pyNext_zipD2_end S.toZipSep2 d1 d2 hz hTI hTO ⟨h1, p⟩ ⟨h2, p2⟩ (by rw [l1]; exact k1) (by rw [l2]; exact k2) (by rw [l1, l2]; exact hend) fun h' tk hk =>
      ⟨rfl, I.turnedL (t' := tk) (ch := [z, TI, TO, i1, i2]) (fun c o hb q => hk c o (fun q' => hb (by simp [q'])) (fun q' => hb (by simp [q'])) (fun q' => hb (by simp [q'])) (fun q' => hb (by simp [q'])) q) hf⟩
  self := fun A i s Q E st h => wpAny_pyIter_zip st.1 h
theorem nne (x y : Nat) (h : x < y ∨ y < x) : @Ne Addr x y := fun z => by
  have z' : @Eq Nat x y := z
  omega
theorem nin (x y y2 : Nat) (h : x < y ∨ y < x) (h2 : x < y2 ∨ y2 < x) : @Membership.mem Addr (List Addr) _ [y, y2] x → False := fun m => by
  rcases List.mem_cons.mp m with z | m
  · exact nne _ _ h z
  · exact nne _ _ h2 (List.mem_singleton.mp m)
theorem sep (n a b : Nat) (ha : a < n) (hb : b < n) : Sep (n + 4) (n + 2) (n + 3) n (n + 1) a b :=
  { TIz := nne _ _ (by omega), TOz := nne _ _ (by omega), TITO := nne _ _ (by omega), TIi1 := nne _ _ (by omega), mem1 := List.mem_cons_self, zf1 := nin _ _ _ (by omega) (by omega), Tf1 := nin _ _ _ (by omega) (by omega)
    TIi2 := nne _ _ (by omega), mem2 := List.mem_cons_self, zf2 := nin _ _ _ (by omega) (by omega), Tf2 := nin _ _ _ (by omega) (by omega)
    sep1_2 := nin _ _ _ (by omega) (by omega), sep2_1 := nin _ _ _ (by omega) (by omega)
    na := nne _ _ (by omega), nb := nne _ _ (by omega), n1 := nne _ _ (by omega), n2 := nne _ _ (by omega) }
theorem beginsM (t : Bool) (l : Addr) (items : Array Value) : ∃ o, Begins (.ref l) o (fun h => seqOf t h l items) ∧ ∀ (h : Heap) (i : Addr), h.get? i = some o → itOf t h i l 0 := by
  cases t
  · exact ⟨_, begins_list l items, fun h i e => ⟨_, e, rfl, rfl⟩⟩
  · exact ⟨_, begins_tuple l items, fun h i e => ⟨_, e, rfl, rfl⟩⟩
theorem five (n c : Nat) (h : c ∈ [n + 4, n + 2, n + 3, n, n + 1]) : n ≤ c := by
  simp only [List.mem_cons, List.mem_nil_iff, or_false] at h
  omega
def iZipM (K : PySem.W.Frag) (ta : TA) : TI := fun σ H R => ta σ H fun vs H1 => ∃ t1 t2 a b xs ys, vs = [.ref a, .ref b] ∧ Sq t1 K H1 a xs ∧ Sq t2 K H1 b ys ∧ R (ItzM K t1 t2 a b) H1
theorem pi_zipM {X : Cx} {e e2 : Expr} {ta : TA} {p pos tpos : Pos} {elts : List Expr} {kk : Nat} (hg : Gl X "zip") (hm : X.mg "zip" = none) (ha : PA X [e, e2] ta)
    (hs : starEach [e, e2] X.env = (false, eval e X.env) :: starEach [e2] X.env := by rfl) (hpl : (backTo pos (starEach [e2] X.env)).any (·.1) = false := by rfl) :
    PI X (.Tuple elts kk tpos) (.Call (.Name "zip" p) [e, e2] [] pos) (iZipM X.K ta) := by
  refine ⟨fun pins s σ H R I h => ?_⟩
  have run := ha.run pos pins s σ H _ I h
  refine Call_ (ld_blt I hg hm PyProof.Rows.boot_zip ?_)
  refine PyProof.Rows.callWith_type1 (thn run ?_) hs hpl
  rintro us s1 ⟨vs, H1, I1, r1, t1, t2, a, b, xs, ys, rfl, hqx, hqy, q⟩
  cases r1 with
  | cons r rr =>
   cases rr with
   | cons r' rr =>
    cases rr
    cases r
    cases r'
    obtain ⟨its, rv, p1, la⟩ := hqx.real I1
    obtain ⟨its2, rv2, p2, lb⟩ := hqy.real I1
    obtain ⟨o1, B1, i1⟩ := beginsM t1 a its.toArray
    obtain ⟨o2, B2, i2⟩ := beginsM t2 b its2.toArray
    refine zip_begins2 B1 B2 p1 p2 fun h' hz hTI hTO g1 g2 hsz hk => wpAny_pyIter_zip hz ?_
    have I2 : Inv X pins σ H1 { s1 with heap := h' } := I1.kept (t' := s1.toks) hk
    refine ⟨_, [s1.heap.objs.size + 4, s1.heap.objs.size + 2, s1.heap.objs.size + 3, s1.heap.objs.size, s1.heap.objs.size + 1], _, _, H1, rfl, I2, turnM t1 t2 (sep _ _ _ la lb), ⟨hz, hTI, ⟨_, _, hTO⟩, i1 _ _ g1, i2 _ _ g2⟩, fun c hcm => ?_, q⟩
    have hle : s1.heap.objs.size ≤ c := five _ _ hcm
    exact I1.fpOk hle (I1.hok.fresh hle)
theorem for_zipM {K : PySem.W.Frag} {t1 t2 : Bool} {a b : Addr} {xs ys : List V} {g : TG} {tb : TS} {D : Ends} {σ : L2.St} {H : Hp} (hl : xs.length = ys.length) (Pv : Nat → L2.St → Hp → Prop) (h0 : Pv 0 σ H) (hq : ∀ i σ H, Pv i σ H → Sq t1 K H a xs ∧ Sq t2 K H b ys)
    (hs : ∀ (i : Nat) (x y : V) (T : Addr) (σ : L2.St) (H : Hp), xs[i]? = some x → ys[i]? = some y → Pv i σ H → H T = none → g (.ref T) σ (upd H T (.tup [x, y])) fun σ2 H2 => tb { D with nx := Pv (i + 1), ct := Pv (i + 1), bk := D.nx } σ2 H2) (hd : ∀ σ H, Pv xs.length σ H → D.nx σ H) :
    ∃ W : Nat → Nat → L2.St → Hp → Prop, (∃ m, W 0 m σ H) ∧ ∀ i m σ H, W i m σ H →
      ((ItzM K t1 t2 a b).stop i H ∧ D.nx σ H) ∨ ((ItzM K t1 t2 a b).go i H ∧ ∃ N : L2.St → Hp → Prop, (∀ σ' H', N σ' H' → ∃ m', m' < m ∧ W (i + 1) m' σ' H') ∧ ∀ v H', (ItzM K t1 t2 a b).yld i H v H' → g v σ H' fun σ2 H2 => tb { D with nx := N, ct := N, bk := D.nx } σ2 H2) := by
  refine ⟨fun i m σ H => m = xs.length - i ∧ i ≤ xs.length ∧ Pv i σ H, ⟨xs.length, rfl, Nat.zero_le _, h0⟩, ?_⟩
  rintro i m σ H ⟨rfl, hi, p⟩
  obtain ⟨qx, qy⟩ := hq i σ H p
  rcases Nat.lt_or_ge i xs.length with hlt | hge
  · refine .inr ⟨⟨xs, ys, _, _, qx, qy, List.getElem?_eq_getElem hlt, List.getElem?_eq_getElem (hl ▸ hlt)⟩, Pv (i + 1), fun σ' H' p' => ⟨xs.length - (i + 1), by omega, rfl, hlt, p'⟩, ?_⟩
    rintro v H' ⟨T, x', y', rfl, hT, rfl, f1, f2⟩
    exact hs i x' y' T σ H (f1 xs qx) (f2 ys qy) p hT
  · obtain rfl : i = xs.length := Nat.le_antisymm hi hge
    exact .inl ⟨⟨xs, ys, qx, qy, hi, hl ▸ hi, .inl rfl⟩, hd σ H p⟩
end ZM
/-! ### zip of three, each a list or a tuple -/
namespace ZT
open PySem PySem.Spec PyProof.Rows L2
def It3 (K : PySem.W.Frag) (t1 t2 t3 : Bool) (a b c : Addr) : It :=
  ⟨fun i H => ∃ (xs ys zs : List V) (x y z : V), ZM.Sq t1 K H a xs ∧ ZM.Sq t2 K H b ys ∧ ZM.Sq t3 K H c zs ∧ xs[i]? = some x ∧ ys[i]? = some y ∧ zs[i]? = some z,
    fun i H v H' => ∃ T x y z, v = .ref T ∧ H T = none ∧ H' = upd H T (.tup [x, y, z]) ∧ (∀ xs, ZM.Sq t1 K H a xs → xs[i]? = some x) ∧ (∀ ys, ZM.Sq t2 K H b ys → ys[i]? = some y) ∧ ∀ zs, ZM.Sq t3 K H c zs → zs[i]? = some z,
    fun i H => ∃ xs ys zs : List V, ZM.Sq t1 K H a xs ∧ ZM.Sq t2 K H b ys ∧ ZM.Sq t3 K H c zs ∧ i ≤ xs.length ∧ i ≤ ys.length ∧ i ≤ zs.length ∧ (i = xs.length ∨ i = ys.length ∨ i = zs.length)⟩
theorem zlt {h : Heap} {c : Addr} {o : Obj} (e : h.get? c = some o) : c ≠ h.objs.size := Nat.ne_of_lt (Heap.lt_size e)
structure Sep (z TI TO i1 i2 i3 a b c : Addr) : Prop extends ZipSep3 z TI TO i1 i2 i3 [i1, a] [i2, b] [i3, c] where
  na : a ≠ i1
  nb : b ≠ i2
  nc : c ≠ i3
  n1 : i1 ≠ z
  n2 : i2 ≠ z
  n3 : i3 ≠ z
theorem turn3 {P : Program} {w : World} {K : PySem.W.Frag} {elts : List Expr} {kk : Nat} {tpos : Pos} {a b c z TI TO i1 i2 i3 : Addr} (t1 t2 t3 : Bool) (S : Sep z TI TO i1 i2 i3 a b c) :
    Turn P w K (.Tuple elts kk tpos) (It3 K t1 t2 t3 a b c) [z, TI, TO, i1, i2, i3] z (fun i h => IsZip h z TI TO .none ∧ IsTupOf3 h TI (.ref i1) (.ref i2) (.ref i3) ∧ (∃ x y z, IsTupOf3 h TO x y z) ∧ ZM.itOf t1 h i1 a i ∧ ZM.itOf t2 h i2 b i ∧ ZM.itOf t3 h i3 c i) where
  mem := by simp
  obj := fun i h st c hc => by
    obtain ⟨hz, hTI, ⟨x, y, w, hTO⟩, h1, h2, h3⟩ := st
    simp only [List.mem_cons, List.mem_nil_iff, or_false] at hc
    rcases hc with rfl | rfl | rfl | rfl | rfl | rfl
    · exact ⟨_, hz, fun v q => nomatch q⟩
    · exact ⟨_, hTI, fun v q => nomatch q⟩
    · exact ⟨_, hTO, fun v q => nomatch q⟩
    · exact h1.obj
    · exact h2.obj
    · exact h3.obj
  keep := fun i h h' st k => by
    obtain ⟨hz, hTI, ⟨x, y, w, hTO⟩, h1, h2, h3⟩ := st
    exact ⟨k _ (by simp) _ hz, k _ (by simp) _ hTI, ⟨x, y, w, k _ (by simp) _ hTO⟩, h1.at fun o q => k _ (by simp) o q, h2.at fun o q => k _ (by simp) o q, h3.at fun o q => k _ (by simp) o q⟩
  item := by
    intro X hP hw hK hc i pins s σ H E I hf st hg
    subst hP hw hK
    obtain ⟨hz, hTI, ⟨x0, y0, w0, hTO⟩, h1, h2, h3⟩ := st
    obtain ⟨xs, ys, zs, x, y, w, hqx, hqy, hqz, hx, hy, hw⟩ := hg
    obtain ⟨its, rv, p, _⟩ := hqx.real I
    obtain ⟨its2, rv2, p2, _⟩ := hqy.real I
    obtain ⟨its3, rv3, p3, _⟩ := hqz.real I
    obtain ⟨u, hu, ru⟩ := rv.get hx
    obtain ⟨u2, hu2, ru2⟩ := rv2.get hy
    obtain ⟨u3, hu3, ru3⟩ := rv3.get hw
    have l1 : i < its.toArray.size := by simpa using (List.getElem?_eq_some_iff.mp hu).1
    have l2 : i < its2.toArray.size := by simpa using (List.getElem?_eq_some_iff.mp hu2).1
    have l3 : i < its3.toArray.size := by simpa using (List.getElem?_eq_some_iff.mp hu3).1
    have d1 := ZM.drawsM (prog := X.prog) (w := X.w) (A := X.A.in1) t1 (I.ok.hd hc) i1 a S.na its.toArray
    have d2 := ZM.drawsM (prog := X.prog) (w := X.w) (A := X.A.in1) t2 (I.ok.hd hc) i2 b S.nb its2.toArray
    have d3 := ZM.drawsM (prog := X.prog) (w := X.w) (A := X.A.in1) t3 (I.ok.hd hc) i3 c S.nc its3.toArray
    refine wpAny_pyNext_zipD3_item S.toZipSep3 d1 d2 d3 hz hTI hTO ⟨h1, p⟩ ⟨h2, p2⟩ ⟨h3, p3⟩ l1 l2 l3 fun v1 v2 v3 h' tk e1 e2 e3 z' TO' s1' s2' s3' hT hsz hk => ?_
    obtain rfl : u = v1 := by
      have q : its[i]? = some v1 := by simpa using e1
      exact Option.some.inj (hu.symm.trans q)
    obtain rfl : u2 = v2 := by
      have q : its2[i]? = some v2 := by simpa using e2
      exact Option.some.inj (hu2.symm.trans q)
    obtain rfl : u3 = v3 := by
      have q : its3[i]? = some v3 := by simpa using e3
      exact Option.some.inj (hu3.symm.trans q)
    refine ⟨_, rfl, wpAny_letOwnedTupleGo_zip (s := { s with heap := h', toks := tk }) z' fun h'' z'' sb => ?_⟩
    have nz := zlt hz
    have hT2 : h''.get? s.heap.objs.size = some { cls := .type "tuple", data := .seq #[u, u2, u3] } := (sb.2 _ (Ne.symm nz)).trans hT
    have new : ObjOk X.prog X.w (upd H s.heap.objs.size (.tup [x, y, w])) h'' s.heap.objs.size (.tup [x, y, w]) :=
      ⟨by show 3 ≤ sizeLine; decide, [u, u2, u3], .cons ru (.cons ru2 (.cons ru3 .nil)), ⟨_, hT2, rfl, _, rfl⟩⟩
    have I1 : Inv X pins σ (upd H s.heap.objs.size (.tup [x, y, w])) { s with heap := h'', toks := tk } :=
      I.turnedNew (t' := tk) (ch := [z, TI, TO, i1, i2, i3]) (fun c o hb q => (sb.2 c (fun q' => hb (by simp [q']))).trans (hk c o (fun q' => hb (by simp [q'])) (fun q' => hb (by simp [q'])) (fun q' => hb (by simp [q'])) (fun q' => hb (by simp [q'])) (fun q' => hb (by simp [q'])) q)) hf (Nat.le_refl _) new
    have back : ∀ c o, c ≠ z → h'.get? c = some o → h''.get? c = some o := fun c o k q => (sb.2 c k).trans q
    refine ⟨.ref s.heap.objs.size, _, I1, rfl, ⟨_, x, y, w, rfl, I.hok.fresh (Nat.le_refl _), rfl, fun l hl => by rw [hl.inj I hqx]; exact hx, fun l hl => by rw [hl.inj I hqy]; exact hy, fun l hl => by rw [hl.inj I hqz]; exact hw⟩, ⟨z'', back _ _ S.TIz (hk _ _ S.TIz S.TITO S.TIi1 S.TIi2 S.TIi3 hTI), ⟨u, u2, u3, back _ _ S.TOz TO'⟩, s1'.1.at fun o q => back _ o S.n1 q, s2'.1.at fun o q => back _ o S.n2 q, s3'.1.at fun o q => back _ o S.n3 q⟩, fun c hcm => ?_⟩
    have hlt : c ≠ s.heap.objs.size := by
      simp only [List.mem_cons, List.mem_nil_iff, or_false] at hcm
      rcases hcm with rfl | rfl | rfl | rfl | rfl | rfl
      · exact nz
      · exact zlt hTI
      · exact zlt hTO
      · obtain ⟨o, e, _⟩ := h1.obj; exact zlt e
      · obtain ⟨o, e, _⟩ := h2.obj; exact zlt e
      · obtain ⟨o, e, _⟩ := h3.obj; exact zlt e
    rw [upd_ne hlt]
    exact (hf c hcm).1
  done := by
    intro X hP hw hK hc i pins s σ H E I hf st hg
    subst hP hw hK
    obtain ⟨hz, hTI, ⟨x0, y0, w0, hTO⟩, h1, h2, h3⟩ := st
    obtain ⟨xs, ys, zs, hqx, hqy, hqz, k1, k2, k3, hend⟩ := hg
    obtain ⟨its, rv, p, _⟩ := hqx.real I
    obtain ⟨its2, rv2, p2, _⟩ := hqy.real I
    obtain ⟨its3, rv3, p3, _⟩ := hqz.real I
    have l1 : its.toArray.size = xs.length := by have := rv.length; simp; omega
    have l2 : its2.toArray.size = ys.length := by have := rv2.length; simp; omega
    have l3 : its3.toArray.size = zs.length := by have := rv3.length; simp; omega
    have d1 := ZM.drawsM (prog := X.prog) (w := X.w) (A := X.A.in1) t1 (I.ok.hd hc) i1 a S.na its.toArray
    have d2 := ZM.drawsM (prog := X.prog) (w := X.w) (A := X.A.in1) t2 (I.ok.hd hc) i2 b S.nb its2.toArray
    have d3 := ZM.drawsM (prog := X.prog) (w := X.w) (A := X.A.in1) t3 (I.ok.hd hc) i3 c S.nc its3.toArray
    exact wpAny_pyNext_zipD3_end S.toZipSep3 d1 d2 d3 hz hTI hTO ⟨h1, p⟩ ⟨h2, p2⟩ ⟨h3, p3⟩ (by rw [l1]; exact k1) (by rw [l2]; exact k2) (by rw [l3]; exact k3) (by rw [l1, l2, l3]; exact hend) fun h' tk hk =>
      ⟨rfl, I.turnedL (t' := tk) (ch := [z, TI, TO, i1, i2, i3]) (fun c o hb q => hk c o (fun q' => hb (by simp [q'])) (fun q' => hb (by simp [q'])) (fun q' => hb (by simp [q'])) (fun q' => hb (by simp [q'])) (fun q' => hb (by simp [q'])) q) hf⟩
  self := fun A i s Q E st h => wpAny_pyIter_zip st.1 h
theorem nne (x y : Nat) (h : x < y ∨ y < x) : @Ne Addr x y := fun z => by
  have z' : @Eq Nat x y := z
  omega
theorem nin (x y y2 : Nat) (h : x < y ∨ y < x) (h2 : x < y2 ∨ y2 < x) : @Membership.mem Addr (List Addr) _ [y, y2] x → False := fun m => by
  rcases List.mem_cons.mp m with z | m
  · exact nne _ _ h z
  · exact nne _ _ h2 (List.mem_singleton.mp m)
theorem sep (n a b c : Nat) (ha : a < n) (hb : b < n) (hc : c < n) : Sep (n + 5) (n + 3) (n + 4) n (n + 1) (n + 2) a b c :=
  { TIz := nne _ _ (by omega), TOz := nne _ _ (by omega), TITO := nne _ _ (by omega)
    TIi1 := nne _ _ (by omega), mem1 := List.mem_cons_self, zf1 := nin _ _ _ (by omega) (by omega), Tf1 := nin _ _ _ (by omega) (by omega)
    TIi2 := nne _ _ (by omega), mem2 := List.mem_cons_self, zf2 := nin _ _ _ (by omega) (by omega), Tf2 := nin _ _ _ (by omega) (by omega)
    TIi3 := nne _ _ (by omega), mem3 := List.mem_cons_self, zf3 := nin _ _ _ (by omega) (by omega), Tf3 := nin _ _ _ (by omega) (by omega)
    sep1_2 := nin _ _ _ (by omega) (by omega), sep1_3 := nin _ _ _ (by omega) (by omega), sep2_1 := nin _ _ _ (by omega) (by omega)
    sep2_3 := nin _ _ _ (by omega) (by omega), sep3_1 := nin _ _ _ (by omega) (by omega), sep3_2 := nin _ _ _ (by omega) (by omega)
    na := nne _ _ (by omega), nb := nne _ _ (by omega), nc := nne _ _ (by omega), n1 := nne _ _ (by omega), n2 := nne _ _ (by omega), n3 := nne _ _ (by omega) }
theorem six (n c : Nat) (h : c ∈ [n + 5, n + 3, n + 4, n, n + 1, n + 2]) : n ≤ c := by
  simp only [List.mem_cons, List.mem_nil_iff, or_false] at h
  omega
def iZip3 (K : PySem.W.Frag) (ta : TA) : TI := fun σ H R => ta σ H fun vs H1 => ∃ t1 t2 t3 a b c xs ys zs, vs = [.ref a, .ref b, .ref c] ∧ ZM.Sq t1 K H1 a xs ∧ ZM.Sq t2 K H1 b ys ∧ ZM.Sq t3 K H1 c zs ∧ R (It3 K t1 t2 t3 a b c) H1
theorem pi_zip3 {X : Cx} {e e2 e3 : Expr} {ta : TA} {p pos tpos : Pos} {elts : List Expr} {kk : Nat} (hg : Gl X "zip") (hm : X.mg "zip" = none) (ha : PA X [e, e2, e3] ta)
    (hs : starEach [e, e2, e3] X.env = (false, eval e X.env) :: starEach [e2, e3] X.env := by rfl) (hpl : (backTo pos (starEach [e2, e3] X.env)).any (·.1) = false := by rfl) :
    PI X (.Tuple elts kk tpos) (.Call (.Name "zip" p) [e, e2, e3] [] pos) (iZip3 X.K ta) := by
  refine ⟨fun pins s σ H R I h => ?_⟩
  have run := ha.run pos pins s σ H _ I h
  refine Call_ (ld_blt I hg hm PyProof.Rows.boot_zip ?_)
  refine PyProof.Rows.callWith_type1 (thn run ?_) hs hpl
  rintro us s1 ⟨vs, H1, I1, r1, t1, t2, t3, a, b, c, xs, ys, zs, rfl, hqx, hqy, hqz, q⟩
  cases r1 with
  | cons r rr =>
   cases rr with
   | cons r' rr =>
    cases rr with
    | cons r'' rr =>
     cases rr
     cases r
     cases r'
     cases r''
     obtain ⟨its, rv, p1, la⟩ := hqx.real I1
     obtain ⟨its2, rv2, p2, lb⟩ := hqy.real I1
     obtain ⟨its3, rv3, p3, lc⟩ := hqz.real I1
     obtain ⟨o1, B1, i1⟩ := ZM.beginsM t1 a its.toArray
     obtain ⟨o2, B2, i2⟩ := ZM.beginsM t2 b its2.toArray
     obtain ⟨o3, B3, i3⟩ := ZM.beginsM t3 c its3.toArray
     refine zip_begins3 B1 B2 B3 p1 p2 p3 fun h' hz hTI hTO g1 g2 g3 hsz hk => wpAny_pyIter_zip hz ?_
     have I2 : Inv X pins σ H1 { s1 with heap := h' } := I1.kept (t' := s1.toks) hk
     refine ⟨_, [s1.heap.objs.size + 5, s1.heap.objs.size + 3, s1.heap.objs.size + 4, s1.heap.objs.size, s1.heap.objs.size + 1, s1.heap.objs.size + 2], _, _, H1, rfl, I2, turn3 t1 t2 t3 (sep _ _ _ _ la lb lc), ⟨hz, hTI, ⟨_, _, _, hTO⟩, i1 _ _ g1, i2 _ _ g2, i3 _ _ g3⟩, fun c hcm => ?_, q⟩
     have hle : s1.heap.objs.size ≤ c := six _ _ hcm
     exact I1.fpOk hle (I1.hok.fresh hle)
theorem lc_zip3 {K : PySem.W.Frag} {t1 t2 t3 : Bool} {a b c : Addr} {xs ys zs : List V} {g : TG} {tt : TT} {te : TE} {vs : List Nat} {σ : L2.St} {H1 : Hp} {D : Addr} {Qd : Hp → Prop} (hl1 : xs.length = ys.length) (hl2 : xs.length = zs.length) (Pv : Nat → Hp → Prop) (h0 : Pv 0 (upd H1 D (.lst []))) (hq : ∀ i H, i ≤ xs.length → Pv i H → ZM.Sq t1 K H a xs ∧ ZM.Sq t2 K H b ys ∧ ZM.Sq t3 K H c zs)
    (hs : ∀ i x y z T H, xs[i]? = some x → ys[i]? = some y → zs[i]? = some z → H T = none → Pv i H → g (.ref T) (wipe σ vs) (upd H T (.tup [x, y, z])) fun σ2 H2 => wipe σ2 vs = wipe σ vs ∧ tt σ2 H2 fun b H3 =>
      if b = true then te σ2 H3 fun y H4 => ∃ acc, H4 D = some (.lst acc) ∧ acc.length < sizeLine ∧ Pv (i + 1) (upd H4 D (.lst (acc ++ [y]))) else Pv (i + 1) H3) (hd : ∀ H, Pv xs.length H → Qd H) :
    ∃ W : Nat → Nat → Hp → Prop, (∃ m, W 0 m (upd H1 D (.lst []))) ∧ ∀ i m H, W i m H →
      ((It3 K t1 t2 t3 a b c).stop i H ∧ Qd H) ∨ ((It3 K t1 t2 t3 a b c).go i H ∧ ∃ Nx : Hp → Prop, (∀ H', Nx H' → ∃ m', m' < m ∧ W (i + 1) m' H') ∧ ∀ x H', (It3 K t1 t2 t3 a b c).yld i H x H' → g x (wipe σ vs) H' fun σ2 H2 => wipe σ2 vs = wipe σ vs ∧ tt σ2 H2 fun b H3 =>
        if b = true then te σ2 H3 fun y H4 => ∃ acc, H4 D = some (.lst acc) ∧ acc.length < sizeLine ∧ Nx (upd H4 D (.lst (acc ++ [y]))) else Nx H3) := by
  refine ⟨fun i m H => m = xs.length - i ∧ i ≤ xs.length ∧ Pv i H, ⟨xs.length, by simp, Nat.zero_le _, h0⟩, ?_⟩
  rintro i m H ⟨rfl, hi, p⟩
  obtain ⟨q1, q2, q3⟩ := hq i H hi p
  by_cases hlt : i < xs.length
  · have hlt2 : i < ys.length := by omega
    have hlt3 : i < zs.length := by omega
    refine .inr ⟨⟨xs, ys, zs, _, _, _, q1, q2, q3, List.getElem?_eq_getElem hlt, List.getElem?_eq_getElem hlt2, List.getElem?_eq_getElem hlt3⟩, Pv (i + 1), fun H' p' => ⟨xs.length - (i + 1), by omega, rfl, hlt, p'⟩, fun x H' y => ?_⟩
    obtain ⟨T, x', y', z', e1, e2, e3, e4, e5, e6⟩ := y
    subst e1 e3
    exact hs i x' y' z' T H (e4 xs q1) (e5 ys q2) (e6 zs q3) e2 p
  · have e : i = xs.length := by omega
    subst e
    exact .inl ⟨⟨xs, ys, zs, q1, q2, q3, Nat.le_refl _, by omega, by omega, .inl rfl⟩, hd H p⟩
end ZT
namespace K1
open PySem PySem.Spec PyProof.Rows L2
theorem tt_in {T : TA} {σ : L2.St} {H : Hp} {Q : VK} (h : tTup T σ H fun x H1 => 1 ≤ sizeLine ∧ ∀ q, H1 q = none → Q (.ref q) (upd H1 q (.tup [x]))) : tTup (tCons (tTup T) tNil) σ H Q := h
theorem tt_c {v : V} {t : TA} {σ : L2.St} {H : Hp} {Q : VK} (h : t σ H fun vs H1 => (v :: vs).length ≤ sizeLine ∧ ∀ p, H1 p = none → Q (.ref p) (upd H1 p (.tup (v :: vs)))) : tTup (tCons (tC v) t) σ H Q := h
/-- all stands but c -/
def But (c : Addr) (H H' : Hp) : Prop := ∀ b u, H b = some u → b ≠ c → H' b = some u
theorem But.refl {c : Addr} {H : Hp} : But c H H := fun _ _ e _ => e
theorem But.trans {c : Addr} {H H1 H2 : Hp} (a : But c H H1) (b : But c H1 H2) : But c H H2 := fun d u e n => b d u (a d u e n) n
theorem But.same {c : Addr} {H H1 H2 : Hp} (a : But c H H1) (s : Same H1 H2) : But c H H2 := fun d u e n => s _ _ (a d u e n)
theorem Same.but {c : Addr} {H H1 : Hp} (s : Same H H1) : But c H H1 := fun d u e _ => s _ _ e
theorem But.upd {c : Addr} {H : Hp} {o : HO} : But c H (upd H c o) := fun d u e n => by rw [upd_ne n]; exact e
theorem But.put {c : Addr} {H H' : Hp} {o : HO} (s : Same H H') : But c H (L2.upd H' c o) := fun d u e n => by rw [upd_ne n]; exact s _ _ e
theorem WebAt.but {N W : Addr} {H H' : Hp} {c w : Addr} {n : Nat} {ts : Prs} {dx : Addr} {fs : List (Str × V)} (h : WebAt W H w n ts) (hc : H c = some (.ins N dx fs)) (nw : w ≠ c) (b : But c H H') : WebAt W H' w n ts := by
  obtain ⟨dx', ta, h1, as, h2, h3⟩ := h
  have nt : ∀ {a : Addr} {xs : List V}, H a = some (.tup xs) → a ≠ c := fun e z => by rw [z, hc] at e; cases e
  exact ⟨dx', ta, b _ _ h1 nw, as, b _ _ h2 (nt h2), h3.1, fun i a t e1 e2 => b _ _ (h3.2 i a t e1 e2) (nt (h3.2 i a t e1 e2))⟩
theorem But.fresh {c : Addr} {H H1 : Hp} (x : But c H H1) (hc : H c = none) : Same H H1 := fun d u e => x d u e (ne_of_none e hc)
theorem mkSameN {G : Hp} {c dx : Addr} {o1 o2 : HO} (hc : G c = none) (hd : G dx = none) (ne : dx ≠ c) : Same G (upd (upd G dx o1) c o2) := (same_new hd).trans (same_new (by rw [upd_ne ne.symm]; exact hc))
theorem StpsA.get {H : Hp} {as : List Addr} {ss : List Stp} (h : StpsA H as ss) {i : Nat} {x : V} (e : (as.map V.ref)[i]? = some x) : ∃ a s, x = .ref a ∧ as[i]? = some a ∧ ss[i]? = some s ∧ H a = some (.tup (stV s)) := by
  obtain ⟨a, ha, rfl⟩ := at_map e
  obtain ⟨s, hs⟩ := ex_at (l := ss) (i := i) (by rw [← h.1]; exact lt_at ha)
  exact ⟨a, s, rfl, ha, hs, h.2 i a s ha hs⟩
theorem snoc_at {α : Type} {l : List α} {i : Nat} {a b : α} (h : (l ++ [a])[i]? = some b) : l[i]? = some b ∨ (i = l.length ∧ a = b) := by
  by_cases hi : i < l.length
  · rw [List.getElem?_append_left hi] at h
    exact .inl h
  · rw [List.getElem?_append_right (by omega)] at h
    cases z : i - l.length with
    | zero =>
      rw [z] at h
      exact .inr ⟨by omega, Option.some.inj h⟩
    | succ n => rw [z] at h; cases h
theorem rep_v (k : Nat) (i : Int) : (List.replicate k [V.int i]).flatten = vrow (List.replicate k i) := by
  unfold vrow
  rw [List.map_replicate]
  induction k with
  | zero => rfl
  | succ k ih => rw [List.replicate_succ, List.replicate_succ, List.flatten_cons, ih]; rfl
theorem flat_rep {α : Type} (x : α) : ∀ n : Nat, (List.replicate n [x]).flatten = List.replicate n x
  | 0 => rfl
  | n + 1 => by rw [List.replicate_succ, List.flatten_cons, flat_rep x n]; rfl
/-! ### the class Counts -/
abbrev Rwz := List (List Int)
def RwsA (H : Hp) (as : List Addr) (rs : Rwz) : Prop := as.length = rs.length ∧ ∀ (i : Nat) a r, as[i]? = some a → rs[i]? = some r → H a = some (.tup (vrow r))
theorem RwsA.same {H H' : Hp} {as : List Addr} {rs : Rwz} (h : RwsA H as rs) (s : Same H H') : RwsA H' as rs := ⟨h.1, fun i a t e1 e2 => s _ _ (h.2 i a t e1 e2)⟩
theorem RwsA.kp {H H' : Hp} {as : List Addr} {rs : Rwz} (h : RwsA H as rs) (k : ∀ a xs, H a = some (.tup xs) → H' a = some (.tup xs)) : RwsA H' as rs := ⟨h.1, fun i a t e1 e2 => k _ _ (h.2 i a t e1 e2)⟩
theorem RwsA.get {H : Hp} {as : List Addr} {rs : Rwz} (h : RwsA H as rs) {i : Nat} {r : List Int} (e : rs[i]? = some r) : ∃ a, as[i]? = some a ∧ H a = some (.tup (vrow r)) := by
  obtain ⟨a, ha⟩ := ex_at (l := as) (i := i) (by rw [h.1]; exact lt_at e)
  exact ⟨a, ha, h.2 i a r ha e⟩
theorem RwsA.get' {H : Hp} {as : List Addr} {rs : Rwz} (h : RwsA H as rs) {i : Nat} {x : V} (e : (as.map V.ref)[i]? = some x) : ∃ a r, x = .ref a ∧ as[i]? = some a ∧ rs[i]? = some r ∧ H a = some (.tup (vrow r)) := by
  obtain ⟨a, ha, rfl⟩ := at_map e
  obtain ⟨r, hr⟩ := ex_at (l := rs) (i := i) (by rw [← h.1]; exact lt_at ha)
  exact ⟨a, r, rfl, ha, hr, h.2 i a r ha hr⟩
theorem RwsA.set {H : Hp} {as : List Addr} {rs : Rwz} (h : RwsA H as rs) {a : Addr} {r : List Int} (ha : H a = some (.tup (vrow r))) (i : Nat) : RwsA H (as.set i a) (rs.set i r) := by
  refine ⟨by rw [List.length_set, List.length_set]; exact h.1, fun j b t e1 e2 => ?_⟩
  rw [List.getElem?_set] at e1 e2
  by_cases c : i = j
  · rw [if_pos c] at e1 e2
    split at e1
    · split at e2
      · obtain rfl := Option.some.inj e1
        obtain rfl := Option.some.inj e2
        exact ha
      · cases e2
    · cases e1
  · rw [if_neg c] at e1 e2
    exact h.2 j b t e1 e2
theorem RwsA.snoc {H H' : Hp} {as : List Addr} {rs : Rwz} {a : Addr} {r : List Int} (t : RwsA H as rs) (k : ∀ (c : Addr) xs, H c = some (.tup xs) → H' c = some (.tup xs)) (ha : H a = some (.tup (vrow r))) : RwsA H' (as ++ [a]) (rs ++ [r]) := by
  refine ⟨by rw [List.length_append, List.length_append, t.1]; rfl, fun i c q e1 e2 => ?_⟩
  rcases snoc_at e1 with e1 | ⟨ei, rfl⟩
  · rcases snoc_at e2 with e2 | ⟨ei, rfl⟩
    · exact k _ _ (t.2 i c q e1 e2)
    · have := lt_at e1
      have := t.1
      omega
  · rcases snoc_at e2 with e2 | ⟨_, rfl⟩
    · have := lt_at e2
      have := t.1
      omega
    · exact k _ _ ha
theorem RwsA.rep {H : Hp} {a : Addr} {r : List Int} (h : H a = some (.tup (vrow r))) (n : Nat) : RwsA H (List.replicate n a) (List.replicate n r) := by
  refine ⟨by rw [List.length_replicate, List.length_replicate], fun i b t e1 e2 => ?_⟩
  rw [List.eq_of_mem_replicate (List.mem_of_getElem? e1), List.eq_of_mem_replicate (List.mem_of_getElem? e2)]; exact h
def RwsT (H : Hp) (p : Addr) (rs : Rwz) : Prop := ∃ as : List Addr, H p = some (.tup (as.map V.ref)) ∧ RwsA H as rs
theorem RwsT.same {H H' : Hp} {p : Addr} {rs : Rwz} (h : RwsT H p rs) (s : Same H H') : RwsT H' p rs := let ⟨as, h1, h2⟩ := h; ⟨as, s _ _ h1, h2.same s⟩
theorem RwsT.kp {H H' : Hp} {p : Addr} {rs : Rwz} (h : RwsT H p rs) (k : ∀ a xs, H a = some (.tup xs) → H' a = some (.tup xs)) : RwsT H' p rs := let ⟨as, h1, h2⟩ := h; ⟨as, k _ _ h1, h2.kp k⟩
theorem refs_set (as : List Addr) (i : Nat) (a : Addr) : (as.set i a).map V.ref = (as.map V.ref).set i (.ref a) := by rw [List.map_set]
theorem rep_r (k : Nat) (a : Addr) : (List.replicate k [V.ref a]).flatten = (List.replicate k a).map V.ref := by
  rw [flat_rep, List.map_replicate]
def cf (w dd ha ta : Addr) : List (Str × V) := [("web", .ref w), ("deeds", .ref dd), ("houses", .ref ha), ("ties", .ref ta)]
theorem cf_w (w dd ha ta : Addr) : (cf w dd ha ta).lookup ("web" : Str) = some (.ref w) := by rfl
theorem cf_d (w dd ha ta : Addr) : (cf w dd ha ta).lookup ("deeds" : Str) = some (.ref dd) := by rfl
theorem cf_h (w dd ha ta : Addr) : (cf w dd ha ta).lookup ("houses" : Str) = some (.ref ha) := by rfl
theorem cf_t (w dd ha ta : Addr) : (cf w dd ha ta).lookup ("ties" : Str) = some (.ref ta) := by rfl
theorem cf_m (w dd ha ta : Addr) : (cf w dd ha ta).lookup ("meet" : Str) = none := by rfl
theorem cf_do (w dd ha ta : Addr) : (cf w dd ha ta).lookup ("do" : Str) = none := by rfl
theorem cf_pd (w dd ha ta x : Addr) : putF ("deeds" : Str) (.ref x) (cf w dd ha ta) = cf w x ha ta := by rfl
theorem cf_ph (w dd ha ta x : Addr) : putF ("houses" : Str) (.ref x) (cf w dd ha ta) = cf w dd x ta := by rfl
theorem cf_pt (w dd ha ta x : Addr) : putF ("ties" : Str) (.ref x) (cf w dd ha ta) = cf w dd ha x := by rfl
structure CcT (K : PySem.W.Frag) (mg : Str → Option Value) (Cc : Addr) : Prop where
  cl : Cls K Cc
  nW : NoAttr K Cc "web"
  nD : NoAttr K Cc "deeds"
  nH : NoAttr K Cc "houses"
  nT : NoAttr K Cc "ties"
  g : mg "Counts" = some (.ref Cc)
structure CuAt (Cc W : Addr) (H : Hp) (c w : Addr) (n : Nat) (ps : Prs) (k : Nat) (u : Cu) : Prop where
  ob : ∃ dx dd ha ta, H c = some (.ins Cc dx (cf w dd ha ta)) ∧ H dd = some (.tup (vrow u.ds)) ∧ RwsT H ha u.hs ∧ RwsT H ta u.ts
  wb : WebAt W H w n ps
  wv : Wv n ps
  nw : w ≠ c
  ok : CuOk n ps.length k u
  lk : k ≤ 400
  ld : u.ds.length ≤ 400
theorem CuAt.same {Cc W : Addr} {H H' : Hp} {c w : Addr} {n : Nat} {ps : Prs} {k : Nat} {u : Cu} (h : CuAt Cc W H c w n ps k u) (s : Same H H') : CuAt Cc W H' c w n ps k u :=
  ⟨let ⟨dx, dd, ha, ta, h1, h2, h3, h4⟩ := h.ob; ⟨dx, dd, ha, ta, s _ _ h1, s _ _ h2, h3.same s, h4.same s⟩, h.wb.same s, h.wv, h.nw, h.ok, h.lk, h.ld⟩
def spLess : Sp := fun vs H Q _ => ∃ (a b c : Addr) (xs ys zs : List Int), vs = [.ref a, .ref b, .ref c] ∧ H a = some (.tup (vrow xs)) ∧ H b = some (.tup (vrow ys)) ∧ H c = some (.tup (vrow zs)) ∧ xs.length = ys.length ∧ xs.length = zs.length ∧ xs.length ≤ 1000 ∧ ∀ p H', Same H H' → H' p = some (.tup (vrow (ltie xs ys zs))) → Q (.ref p) H'
def spKInit (Cc W : Addr) : Sp := fun vs H Q _ => ∃ (c dx w : Addr) (n : Nat) (ps : Prs) (k : Nat), vs = [.ref c, .ref w, .int (k : Int)] ∧ H c = some (.ins Cc dx []) ∧ WebAt W H w n ps ∧ Wv n ps ∧ w ≠ c ∧ k ≤ 400 ∧ ∀ H', But c H H' → CuAt Cc W H' c w n ps k (cu0 n ps.length k) → Q .non H'
def spKDo (Cc W : Addr) : Sp := fun vs H Q _ => ∃ (c w : Addr) (n : Nat) (ps : Prs) (k : Nat) (u : Cu) (h d : Nat), vs = [.ref c, .int (h : Int), .int (d : Int)] ∧ CuAt Cc W H c w n ps k u ∧ h < n ∧ u.ds.length < k ∧ ∀ H', But c H H' → CuAt Cc W H' c w n ps k (u.doo h (d : Int)) → Q .non H'
def spKMeet (Cc W : Addr) : Sp := fun vs H Q _ => ∃ (c w : Addr) (n : Nat) (ps : Prs) (k : Nat) (u : Cu) (t : Nat) (p : Nat × Nat), vs = [.ref c, .int (t : Int)] ∧ CuAt Cc W H c w n ps k u ∧ ps[t]? = some p ∧ ∀ H', But c H H' → CuAt Cc W H' c w n ps k (u.met p t) → Q .non H'
section
variable {P : Program} {w : World} {K : PySem.W.Frag} {mg : Str → Option Value} {base : Heap}
abbrev nLs : List Str := ["here", "there", "between", "one", "other", "tie"]
theorem scLs : FnScope nLs ["here", "there", "between"] (defScope sLessTie) := ⟨rfl, rfl, rfl, by decide +kernel, rfl, by decide +kernel, by decide +kernel⟩
theorem ok_less {f : Addr} {fd : FuncData} (D : Df K mg "less_tie" sLessTie ["here", "there", "between"] f fd) (B : Bt mg) : FnOk P w K mg base CX0 1 f fd ["here", "there", "between"] spLess := by
  refine D.F.ok scLs (fun vs H Q E h => ?_) (fun cdv A outer s H vs Q E hr h => ?_)
  · obtain ⟨a, b, c, xs, ys, zs, rfl, _⟩ := h
    rfl
  · obtain ⟨a, b, c, xs, ys, zs, rfl, ha, hb, hc, l1, l2, l3, q⟩ := h
    refine ⟨_, (pss_one (ps_ret (pe_callTy call_tuple_of (by rfl) B.tuple PyProof.Rows.boot_tuple (pa_cons (pe_lc (own := [("one", 3), ("other", 4), ("tie", 5)]) (g := gTup K 3 (gCons (gName 3) (gCons (gName 4) (gCons (gName 5) gNil)))) (tt := tYes) rfl scLs.nd (Z3.pi_zip3 (by rfl) B.zip (pa_cons (pv 0) (pa_cons (pv 1) (pa_cons (pv 2) pa_nil)))) (blkOk_by (N := nLs) (sc := defScope sLessTie) (by decide +kernel)) (fun _ _ _ _ _ => (pg_tup rfl (pgs_cons (pg_name (i := 3) scLs.nd rfl (Or.inl rfl)) (pgs_cons (pg_name (i := 4) scLs.nd rfl (Or.inl rfl)) (pgs_cons (pg_name (i := 5) scLs.nd rfl (Or.inl rfl)) pgs_nil))))) (fun _ _ _ _ _ => pts_nil) (fun _ _ _ _ _ => (pe_op op_sub (pe_op op_add (pv 3) (pv 4)) (pv 5)))) pa_nil)))), ?_⟩
    have ll := ltie_len (a := xs) (b := ys) (c := zs) rfl l1.symm l2.symm
    refine ⟨_, rfl, _, rfl, _, rfl, a, b, c, _, _, _, rfl, SqT.of ha, SqT.of hb, SqT.of hc, fun D0 hD0 => Z3.lc_zip3 (K := K) (by rw [vrow_len, vrow_len]; exact l1) (by rw [vrow_len, vrow_len]; exact l2) (fun i H' => Same H H' ∧ H' D0 = some (.lst (vrow ((ltie xs ys zs).take i)))) ⟨same_new hD0, by rw [upd_same]; rfl⟩ (fun i H' _ ⟨s1, _⟩ => ⟨SqT.of (s1 _ _ ha), SqT.of (s1 _ _ hb), SqT.of (s1 _ _ hc)⟩) ?_ ?_⟩
    · rintro i x y z T H1 hx hy hz hT ⟨s1, hD1⟩
      obtain ⟨x', hx', rfl⟩ := vrow_at hx
      obtain ⟨y', hy', rfl⟩ := vrow_at hy
      obtain ⟨z', hz', rfl⟩ := vrow_at hz
      have sT := same_new (o := HO.tup [V.int x', .int y', .int z']) hT
      refine ⟨T, _, rfl, SqT.of upd_same, rfl, _, _, rfl, _, _, rfl, _, _, rfl, rfl, rfl, ?_⟩
      have hi := lt_at hx'
      refine ⟨_, rfl, _, rfl, _, _, rfl, rfl, _, rfl, _, _, rfl, rfl, _, sT _ _ hD1, szl (by rw [vrow_len, List.length_take]; omega), fun c' o e => ?_, ?_⟩
      · rw [upd_ne (ne_of_none e hD0)]
        exact sT _ _ (s1 _ _ e)
      · have e : (ltie xs ys zs)[i]? = some (x' + y' - z') := by
          unfold ltie
          rw [List.getElem?_zipWith, List.getElem?_zipWith, hx', hy', hz']
        rw [upd_same, take_succ e, vrow, vrow, List.map_append]; rfl
    · rintro H1 ⟨s1, hD1⟩
      rw [List.take_of_length_le (by rw [vrow_len, ll]; exact Nat.le_refl _)] at hD1
      exact ⟨D0, _, rfl, .inl ⟨SqL.of hD1, fun l hl => q l _ (s1.trans (same_new hl)) upd_same⟩⟩
abbrev nKI : List Str := ["self", "web", "acts"]
theorem scKI : FnScope nKI ["self", "web", "acts"] (defScope sCountsInit) := ⟨rfl, rfl, rfl, by decide +kernel, rfl, by decide +kernel, by decide +kernel⟩
theorem ok_kinit {f W Cc : Addr} {fd : FuncData} (F : Fun K "__init__" "Counts.__init__" sCountsInit f fd) (B : Bt mg) (T : CcT K mg Cc) (TW : WcT K mg W) : FnOk P w K mg base CX0 1 f fd ["self", "web", "acts"] (spKInit Cc W) := by
  refine F.ok scKI (fun vs H Q E h => ?_) (fun cdv A outer s H vs Q E hr h => ?_)
  · obtain ⟨c, dx, w, n, ts, k, rfl, _⟩ := h
    rfl
  · obtain ⟨c, dx, w, n, ts, k, rfl, hc, hw, hW, nw, hk, q⟩ := h
    refine ⟨_, (pss_cons (ps_fld (pv 0) (pv 1) rfl)
    (pss_cons (ps_fld (pv 0) (pe_tup pa_nil) rfl)
    (pss_cons (ps_fld (pv 0) (pe_op (TM.op_repG (K := K) rfl) (pe_tup (pa_cons (pe_op (TM.op_repG (K := K) rfl) (pe_tup (pa_cons pe_int pa_nil)) (pv 2)) pa_nil)) (pe_fld (pv 1) rfl)) rfl)
    (pss_one (ps_fld (pv 0) (pe_op (TM.op_repG (K := K) rfl) (pe_tup (pa_cons (pe_op (TM.op_repG (K := K) rfl) (pe_tup (pa_cons pe_int pa_nil)) (pv 2)) pa_nil)) (pe_callB call_len_seq (by rfl) B.len PySem.boot_len (pa_cons (pe_fld (pv 1) rfl) pa_nil))) rfl))))), ?_⟩
    have n12 := hW.n12
    have t20 := hW.t20
    refine ⟨_, rfl, _, rfl, c, Cc, dx, [], rfl, hc, T.cl, T.nW, (by show 0 < 1000; decide), ?_⟩
    have hc1 : (upd H c (.ins Cc dx (putF "web" (.ref w) []))) c = some (.ins Cc dx (putF "web" (.ref w) [])) := upd_same
    have b1 : But c H (upd H c (.ins Cc dx (putF "web" (.ref w) []))) := But.upd
    generalize upd H c (.ins Cc dx (putF "web" (.ref w) [])) = H1 at hc1 b1 ⊢
    refine ⟨(by show 0 ≤ sizeLine; decide), fun dd hdd => ?_⟩
    have s2 := same_new (o := HO.tup []) hdd
    have hc2 := s2 _ _ hc1
    have hd2 : (upd H1 dd (HO.tup [])) dd = some (.tup []) := upd_same
    have b2 := b1.same s2
    generalize upd H1 dd (.tup []) = H2 at hc2 hd2 b2 ⊢
    refine ⟨_, rfl, c, Cc, dx, _, rfl, hc2, T.cl, T.nD, (by show 1 < 1000; decide), ?_⟩
    have ndc : dd ≠ c := fun z => by rw [z, hc2] at hd2; cases hd2
    have hc3 : (upd H2 c (.ins Cc dx (putF "deeds" (.ref dd) (putF "web" (.ref w) [])))) c = some (.ins Cc dx (putF "deeds" (.ref dd) (putF "web" (.ref w) []))) := upd_same
    have b3 : But c H (upd H2 c (.ins Cc dx (putF "deeds" (.ref dd) (putF "web" (.ref w) [])))) := b2.trans But.upd
    have hd3 : (upd H2 c (.ins Cc dx (putF "deeds" (.ref dd) (putF "web" (.ref w) [])))) dd = some (.tup []) := by rw [upd_ne ndc]; exact hd2
    generalize upd H2 c (.ins Cc dx (putF "deeds" (.ref dd) (putF "web" (.ref w) []))) = H3 at hc3 b3 hd3 ⊢
    refine ⟨(by show 1 ≤ sizeLine; decide), fun p1 hp1 => ?_⟩
    have t1 := same_new (o := HO.tup [V.int 0]) hp1
    refine ⟨_, rfl, p1, (k : Int), _, rfl, rfl, upd_same, by simp, by omega, by omega, (by show 1 ≤ 1000; decide), fun p2 H4 t2 hp2 => ⟨(by show 1 ≤ sizeLine; decide), fun p3 hp3 => ?_⟩⟩
    rw [Int.toNat_natCast, rep_v] at hp2
    have t3 := same_new (o := HO.tup [V.ref p2]) hp3
    have s34 := (t1.trans t2).trans t3
    have hw4 := (hw.but hc nw b3).same s34
    obtain ⟨dxw, ta, w1, tas, w2, w3⟩ := id hw4
    refine ⟨_, rfl, w, W, dxw, _, _, rfl, w1, TW.cl, TW.nH, wf_h _ _, p3, (n : Int), _, rfl, rfl, upd_same, by simp, by omega, by omega, (by show 1 ≤ 1000; decide), fun ha H5 t5 hha => ?_⟩
    rw [Int.toNat_natCast, rep_r] at hha
    have s35 := s34.trans t5
    refine ⟨_, rfl, c, Cc, dx, _, rfl, s35 _ _ hc3, T.cl, T.nH, (by show 2 < 1000; decide), ?_⟩
    have nt5 : ∀ {a : Addr} {xs : List V}, H5 a = some (.tup xs) → a ≠ c := fun e z => by rw [z, s35 _ _ hc3] at e; cases e
    have kp5 : ∀ a xs, H5 a = some (.tup xs) → (upd H5 c (.ins Cc dx (putF "houses" (.ref ha) (putF "deeds" (.ref dd) (putF "web" (.ref w) []))))) a = some (.tup xs) := fun a xs e => by rw [upd_ne (nt5 e)]; exact e
    have rh : RwsT (upd H5 c (.ins Cc dx (putF "houses" (.ref ha) (putF "deeds" (.ref dd) (putF "web" (.ref w) []))))) ha (List.replicate n (List.replicate k 0)) := ⟨_, kp5 _ _ hha, RwsA.rep (kp5 _ _ (t5 _ _ (t3 _ _ hp2))) n⟩
    have hd5 := kp5 _ _ (s35 _ _ hd3)
    have b5 : But c H (upd H5 c (.ins Cc dx (putF "houses" (.ref ha) (putF "deeds" (.ref dd) (putF "web" (.ref w) []))))) := (b3.same s35).trans But.upd
    have hc5 : (upd H5 c (.ins Cc dx (putF "houses" (.ref ha) (putF "deeds" (.ref dd) (putF "web" (.ref w) []))))) c = some (.ins Cc dx (putF "houses" (.ref ha) (putF "deeds" (.ref dd) (putF "web" (.ref w) [])))) := upd_same
    generalize upd H5 c (.ins Cc dx (putF "houses" (.ref ha) (putF "deeds" (.ref dd) (putF "web" (.ref w) [])))) = H6 at b5 hc5 rh hd5 ⊢
    refine ⟨(by show 1 ≤ sizeLine; decide), fun q1 hq1 => ?_⟩
    have u1 := same_new (o := HO.tup [V.int 0]) hq1
    refine ⟨_, rfl, q1, (k : Int), _, rfl, rfl, upd_same, by simp, by omega, by omega, (by show 1 ≤ 1000; decide), fun q2 H7 u2 hq2 => ⟨(by show 1 ≤ sizeLine; decide), fun q3 hq3 => ?_⟩⟩
    rw [Int.toNat_natCast, rep_v] at hq2
    have u3 := same_new (o := HO.tup [V.ref q2]) hq3
    have s67 := (u1.trans u2).trans u3
    have hw7 := (hw.but hc nw b5).same s67
    obtain ⟨dxw7, ta7, w71, tas7, w72, w73⟩ := id hw7
    have el : ((tas7.map V.ref).length : Int) = (ts.length : Int) := by rw [List.length_map, w73.1]
    refine ⟨_, rfl, w, W, dxw7, _, _, rfl, w71, TW.cl, TW.nT, wf_t _ _, ta7, _, rfl, .inr (SqT.of w72), ?_⟩
    rw [el]
    refine ⟨q3, (ts.length : Int), _, rfl, rfl, upd_same, by simp, by omega, by omega, (by show 1 ≤ 1000; decide), fun ta' H8 u5 hta => ?_⟩
    rw [Int.toNat_natCast, rep_r] at hta
    have s68 := s67.trans u5
    refine ⟨_, rfl, c, Cc, dx, _, rfl, s68 _ _ hc5, T.cl, T.nT, (by show 3 < 1000; decide), ?_⟩
    have nt8 : ∀ {a : Addr} {xs : List V}, H8 a = some (.tup xs) → a ≠ c := fun e z => by rw [z, s68 _ _ hc5] at e; cases e
    have kp8 : ∀ a xs, H8 a = some (.tup xs) → (upd H8 c (.ins Cc dx (cf w dd ha ta'))) a = some (.tup xs) := fun a xs e => by rw [upd_ne (nt8 e)]; exact e
    have hw8 := (hw7.same u5).but (s68 _ _ hc5) nw (But.upd (o := .ins Cc dx (cf w dd ha ta')))
    exact q _ ((b5.same s68).trans But.upd) ⟨⟨dx, dd, ha, ta', upd_same, kp8 _ _ (s68 _ _ hd5), (rh.same s68).kp kp8, _, kp8 _ _ hta, RwsA.rep (kp8 _ _ (u5 _ _ (u3 _ _ hq2))) _⟩, hw8, hW, nw, cu0_ok _ _ _, hk, Nat.zero_le _⟩
abbrev nKD : List Str := ["self", "house", "deed", "act"]
theorem scKD : FnScope nKD ["self", "house", "deed"] (defScope sCountsDo) := ⟨rfl, rfl, rfl, by decide +kernel, rfl, by decide +kernel, by decide +kernel⟩
theorem ok_kdo {f fR W Cc : Addr} {fd fdR : FuncData} (F : Fun K "do" "Counts.do" sCountsDo f fd) (DR : Df K mg "replaced" sRepl ["items", "at", "item"] fR fdR) (B : Bt mg) (T : CcT K mg Cc) (GR : FnOk P w K mg base CX0 1 fR fdR ["items", "at", "item"] spRepl) : FnOk P w K mg base CX0 2 f fd ["self", "house", "deed"] (spKDo Cc W) := by
  refine F.ok scKD (fun vs H Q E h => ?_) (fun cdv A outer s H vs Q E hr h => ?_)
  · obtain ⟨c, w, n, ps, k, u, h, d, rfl, _⟩ := h
    rfl
  · obtain ⟨c, w, n, ps, k, u, h, d, rfl, hK, hn, hk, q⟩ := h
    refine ⟨_, (pss_cons (ps_set (i := 3) scKD.nd rfl (.inl rfl) (pe_callB call_len_seq (by rfl) B.len PySem.boot_len (pa_cons (pe_fld (pv 0) rfl) pa_nil)))
    (pss_cons (ps_fld (pv 0) (pe_op (opCatA (K := K) rfl) (pe_fld (pv 0) rfl) (pe_tup (pa_cons (pv 2) pa_nil))) rfl)
    (pss_one (ps_fld (pv 0) (pc DR GR hr pass0 (pa_cons (pe_fld (pv 0) rfl) (pa_cons (pv 1) (pa_cons (pc DR GR hr pass0 (pa_cons (pe_ix ix_tup (pe_fld (pv 0) rfl) (pv 1) (fun _ _ => rfl)) (pa_cons (pv 3) (pa_cons pe_int pa_nil)))) pa_nil)))) rfl)))), ?_⟩
    obtain ⟨dx, dd, ha, ta, h1, h2, ⟨as, h3, h4⟩, h5⟩ := hK.ob
    have lk := hK.lk
    have n12 := hK.wv.n12
    have la : as.length = n := by rw [h4.1, hK.ok.lh]
    obtain ⟨a1, ea1, ha1⟩ := h4.get (getL (l := u.hs) (i := h) (by rw [hK.ok.lh]; exact hn))
    have lr := hK.ok.row hn
    refine ⟨_, rfl, c, Cc, dx, _, _, rfl, h1, T.cl, T.nD, cf_d _ _ _ _, dd, _, rfl, .inr (SqT.of h2), ?_⟩
    rw [vrow_len]
    dsimp only [List.set]
    refine ⟨_, rfl, c, Cc, dx, _, _, rfl, h1, T.cl, T.nD, cf_d _ _ _ _, ?_⟩
    refine ⟨_, rfl, (by show 1 ≤ sizeLine; decide), fun p1 hp1 => ?_⟩
    have s1 := same_new (o := HO.tup [V.int (d : Int)]) hp1
    refine catA_by (s1 _ _ h2) upd_same (sz (by rw [vrow_len]; simp only [List.length_cons, List.length_nil]; omega)) fun d2 H2 s2 hd2 => ?_
    have s12 := s1.trans s2
    refine ⟨_, rfl, c, Cc, dx, _, rfl, s12 _ _ h1, T.cl, T.nD, (by show 4 < 1000; decide), ?_⟩
    rw [cf_pd]
    have nc : ∀ {a : Addr} {xs : List V}, H2 a = some (.tup xs) → a ≠ c := fun e z => by rw [z, s12 _ _ h1] at e; cases e
    have kp : ∀ a xs, H2 a = some (.tup xs) → (upd H2 c (.ins Cc dx (cf w d2 ha ta))) a = some (.tup xs) := fun a xs e => by rw [upd_ne (nc e)]; exact e
    have hd3 : (upd H2 c (.ins Cc dx (cf w d2 ha ta))) d2 = some (.tup (vrow (u.ds ++ [(d : Int)]))) := kp _ _ (by rw [hd2, vrow, vrow, List.map_append]; rfl)
    have r4 := (h4.same s12).kp kp
    have g3 := kp _ _ (s12 _ _ h3)
    have g1 := kp _ _ (s12 _ _ ha1)
    have r5 := (h5.same s12).kp kp
    have gw := (hK.wb.same s12).but (s12 _ _ h1) hK.nw (But.upd (o := .ins Cc dx (cf w d2 ha ta)))
    have b4 : But c H (upd H2 c (.ins Cc dx (cf w d2 ha ta))) := But.put s12
    have hc4 : (upd H2 c (.ins Cc dx (cf w d2 ha ta))) c = some (.ins Cc dx (cf w d2 ha ta)) := upd_same
    generalize upd H2 c (.ins Cc dx (cf w d2 ha ta)) = H3 at hd3 r4 g3 g1 r5 gw b4 hc4 ⊢
    refine ⟨_, rfl, c, Cc, dx, _, _, rfl, hc4, T.cl, T.nH, cf_h _ _ _ _, _, rfl, _, rfl, c, Cc, dx, _, _, rfl, hc4, T.cl, T.nH, cf_h _ _ _ _, _, rfl, ha, _, (h : Int), .ref a1, rfl, rfl, SqT.of g3, at_i (map_at ea1), _, rfl, ?_⟩
    refine ⟨a1, _, u.ds.length, .int 1, rfl, g1, by rw [vrow_len, lr]; exact hk, by rw [vrow_len, lr]; omega, fun y1 H4 s4 hy1 => ?_⟩
    rw [← vrow_set] at hy1
    refine ⟨ha, _, h, .ref y1, rfl, s4 _ _ g3, by rw [List.length_map]; omega, by rw [List.length_map]; omega, fun y2 H5 s5 hy2 => ?_⟩
    rw [← refs_set] at hy2
    have s45 := s4.trans s5
    refine ⟨_, rfl, c, Cc, dx, _, rfl, s45 _ _ hc4, T.cl, T.nH, (by show 4 < 1000; decide), ?_⟩
    rw [cf_ph]
    have nc5 : ∀ {a : Addr} {xs : List V}, H5 a = some (.tup xs) → a ≠ c := fun e z => by rw [z, s45 _ _ hc4] at e; cases e
    have kp5 : ∀ a xs, H5 a = some (.tup xs) → (upd H5 c (.ins Cc dx (cf w d2 y2 ta))) a = some (.tup xs) := fun a xs e => by rw [upd_ne (nc5 e)]; exact e
    exact q _ (b4.trans (But.put s45)) ⟨⟨dx, d2, y2, ta, upd_same, kp5 _ _ (s45 _ _ hd3), ⟨_, kp5 _ _ hy2, ((r4.same s45).kp kp5).set (kp5 _ _ (s5 _ _ hy1)) h⟩, (r5.same s45).kp kp5⟩, (gw.same s45).but (s45 _ _ hc4) hK.nw But.upd, hK.wv, hK.nw, hK.ok.doo hn, lk, by show (u.ds ++ [(d : Int)]).length ≤ 400; rw [List.length_append]; simp only [List.length_cons, List.length_nil]; omega⟩
abbrev nKM : List Str := ["self", "tie", "one", "other", "joined"]
theorem scKM : FnScope nKM ["self", "tie"] (defScope sCountsMeet) := ⟨rfl, rfl, rfl, by decide +kernel, rfl, by decide +kernel, by decide +kernel⟩
theorem ok_kmeet {f fL fR W Cc : Addr} {fd fdL fdR : FuncData} (F : Fun K "meet" "Counts.meet" sCountsMeet f fd) (DL : Df K mg "less_tie" sLessTie ["here", "there", "between"] fL fdL) (DR : Df K mg "replaced" sRepl ["items", "at", "item"] fR fdR) (T : CcT K mg Cc) (TW : WcT K mg W)
    (GL : FnOk P w K mg base CX0 1 fL fdL ["here", "there", "between"] spLess) (GR : FnOk P w K mg base CX0 1 fR fdR ["items", "at", "item"] spRepl) : FnOk P w K mg base CX0 2 f fd ["self", "tie"] (spKMeet Cc W) := by
  refine F.ok scKM (fun vs H Q E h => ?_) (fun cdv A outer s H vs Q E hr h => ?_)
  · obtain ⟨c, w, n, ps, k, u, t, p, rfl, _⟩ := h
    rfl
  · obtain ⟨c, w, n, ps, k, u, t, p, rfl, hK, hp, q⟩ := h
    refine ⟨_, (pss_cons (ps_asg (pe_ix ix_tup (pe_fld (pe_fld (pv 0) rfl) rfl) (pv 1) (fun _ _ => rfl)) (pg_tup rfl (pgs_cons (pg_name (i := 2) scKM.nd rfl (.inl rfl)) (pgs_cons (pg_name (i := 3) scKM.nd rfl (.inl rfl)) pgs_nil))))
    (pss_cons (ps_set (i := 4) scKM.nd rfl (.inl rfl) (pc DL GL hr pass0 (pa_cons (pe_ix ix_tup (pe_fld (pv 0) rfl) (pv 2) (fun _ _ => rfl)) (pa_cons (pe_ix ix_tup (pe_fld (pv 0) rfl) (pv 3) (fun _ _ => rfl)) (pa_cons (pe_ix ix_tup (pe_fld (pv 0) rfl) (pv 1) (fun _ _ => rfl)) pa_nil)))))
    (pss_cons (ps_fld (pv 0) (pc DR GR hr pass0 (pa_cons (pc DR GR hr pass0 (pa_cons (pe_fld (pv 0) rfl) (pa_cons (pv 2) (pa_cons (pv 4) pa_nil)))) (pa_cons (pv 3) (pa_cons (pv 4) pa_nil)))) rfl)
    (pss_one (ps_fld (pv 0) (pc DR GR hr pass0 (pa_cons (pe_fld (pv 0) rfl) (pa_cons (pv 1) (pa_cons (pv 4) pa_nil)))) rfl))))), ?_⟩
    obtain ⟨dx, dd, ha, ta, h1, hdd, ⟨as, h2, h4⟩, ⟨bs, h3, h5⟩⟩ := hK.ob
    have hW := hK.wv
    have lk := hK.lk
    have n12 := hW.n12
    have t20 := hW.t20
    have htl := lt_at hp
    obtain ⟨p1, p2, p3⟩ := hW.at_ hp
    obtain ⟨dxw, tw, w1, tas, w2, w3⟩ := id hK.wb
    obtain ⟨pa, hpa0, hpa⟩ := w3.get hp
    have hpa' : H pa = some (.tup [.int (p.1 : Int), .int (p.2 : Int)]) := hpa
    have la : as.length = n := by rw [h4.1, hK.ok.lh]
    have lb : bs.length = ps.length := by rw [h5.1, hK.ok.lt]
    obtain ⟨a1, ea1, ha1⟩ := h4.get (getL (l := u.hs) (i := p.1) (by rw [hK.ok.lh]; exact p1))
    obtain ⟨a2, ea2, ha2⟩ := h4.get (getL (l := u.hs) (i := p.2) (by rw [hK.ok.lh]; exact p2))
    obtain ⟨a3, ea3, ha3⟩ := h5.get (getL (l := u.ts) (i := t) (by rw [hK.ok.lt]; exact htl))
    have r1 := hK.ok.row p1
    have r2 := hK.ok.row p2
    have r3 := hK.ok.rowT htl
    refine ⟨_, rfl, c, Cc, dx, _, _, rfl, h1, T.cl, T.nW, cf_w _ _ _ _, w, W, dxw, _, _, rfl, w1, TW.cl, TW.nT, wf_t _ _, _, rfl, tw, _, (t : Int), .ref pa, rfl, rfl, SqT.of w2, at_i (map_at hpa0), pa, _, rfl, SqT.of hpa', rfl, _, _, rfl, _, _, rfl, rfl, ?_⟩
    refine ⟨_, rfl, c, Cc, dx, _, _, rfl, h1, T.cl, T.nH, cf_h _ _ _ _, _, rfl, ha, _, (p.1 : Int), .ref a1, rfl, rfl, SqT.of h2, at_i (map_at ea1), _, rfl, c, Cc, dx, _, _, rfl, h1, T.cl, T.nH, cf_h _ _ _ _, _, rfl, ha, _, (p.2 : Int), .ref a2, rfl, rfl, SqT.of h2, at_i (map_at ea2),
      _, rfl, c, Cc, dx, _, _, rfl, h1, T.cl, T.nT, cf_t _ _ _ _, _, rfl, ta, _, (t : Int), .ref a3, rfl, rfl, SqT.of h3, at_i (map_at ea3), a1, a2, a3, _, _, _, rfl, ha1, ha2, ha3, by rw [r1, r2], by rw [r1, r3], by omega, fun j H1 s1 hj => ?_⟩
    refine gn ?_
    dsimp only [List.set]
    refine ⟨_, rfl, c, Cc, dx, _, _, rfl, s1 _ _ h1, T.cl, T.nH, cf_h _ _ _ _, _, rfl, _, rfl, ha, _, p.1, .ref j, rfl, s1 _ _ h2, by rw [List.length_map]; omega, by rw [List.length_map]; omega, fun y1 H2 s2 hy1 => ?_⟩
    rw [← refs_set] at hy1
    refine ⟨_, rfl, _, rfl, y1, _, p.2, .ref j, rfl, hy1, by rw [List.length_map, List.length_set]; omega, by rw [List.length_map, List.length_set]; omega, fun y2 H3 s3 hy2 => ?_⟩
    rw [← refs_set] at hy2
    have s13 := (s1.trans s2).trans s3
    refine ⟨_, rfl, c, Cc, dx, _, rfl, s13 _ _ h1, T.cl, T.nH, (by show 4 < 1000; decide), ?_⟩
    rw [cf_ph]
    have hj3 := s3 _ _ (s2 _ _ hj)
    have nc : ∀ {a : Addr} {xs : List V}, H3 a = some (.tup xs) → a ≠ c := fun e z => by rw [z, s13 _ _ h1] at e; cases e
    have kp : ∀ a xs, H3 a = some (.tup xs) → (upd H3 c (.ins Cc dx (cf w dd y2 ta))) a = some (.tup xs) := fun a xs e => by rw [upd_ne (nc e)]; exact e
    have r4 := ((h4.same s13).kp kp).set (kp _ _ hj3) p.1 |>.set (kp _ _ hj3) p.2
    have r5 := (h5.same s13).kp kp
    have g2 := kp _ _ hy2
    have g3 := kp _ _ (s13 _ _ h3)
    have gd := kp _ _ (s13 _ _ hdd)
    have gj := kp _ _ hj3
    have gw := (hK.wb.same s13).but (s13 _ _ h1) hK.nw (But.upd (o := .ins Cc dx (cf w dd y2 ta)))
    have b4 : But c H (upd H3 c (.ins Cc dx (cf w dd y2 ta))) := But.put s13
    have hc4 : (upd H3 c (.ins Cc dx (cf w dd y2 ta))) c = some (.ins Cc dx (cf w dd y2 ta)) := upd_same
    generalize upd H3 c (.ins Cc dx (cf w dd y2 ta)) = H4 at r4 r5 g2 g3 gd gj gw b4 hc4 ⊢
    refine ⟨_, rfl, c, Cc, dx, _, _, rfl, hc4, T.cl, T.nT, cf_t _ _ _ _, _, rfl, _, rfl, ta, _, t, .ref j, rfl, g3, by rw [List.length_map]; omega, by rw [List.length_map]; omega, fun y4 H5 s5 hy4 => ?_⟩
    rw [← refs_set] at hy4
    refine ⟨_, rfl, c, Cc, dx, _, rfl, s5 _ _ hc4, T.cl, T.nT, (by show 4 < 1000; decide), ?_⟩
    rw [cf_pt]
    have nc5 : ∀ {a : Addr} {xs : List V}, H5 a = some (.tup xs) → a ≠ c := fun e z => by rw [z, s5 _ _ hc4] at e; cases e
    have kp5 : ∀ a xs, H5 a = some (.tup xs) → (upd H5 c (.ins Cc dx (cf w dd y2 y4))) a = some (.tup xs) := fun a xs e => by rw [upd_ne (nc5 e)]; exact e
    exact q _ (b4.trans (But.put s5)) ⟨⟨dx, dd, y2, y4, upd_same, kp5 _ _ (s5 _ _ gd), ⟨_, kp5 _ _ (s5 _ _ g2), (r4.same s5).kp kp5⟩, ⟨_, kp5 _ _ hy4, ((r5.same s5).kp kp5).set (kp5 _ _ (s5 _ _ gj)) t⟩⟩, (gw.same s5).but (s5 _ _ hc4) hK.nw But.upd, hW, hK.nw, hK.ok.met p1 p2 htl, lk, hK.ld⟩
end
end K1
namespace K1
open PySem PySem.Spec PyProof.Rows L2
/-! ### counts behind steps -/
def spCTake (Cc W : Addr) : Sp := fun vs H Q _ => ∃ (c p w : Addr) (n d : Nat) (ps : Prs) (k : Nat) (u : Cu) (st : Stp), vs = [.ref c, .ref p] ∧ CuAt Cc W H c w n ps k u ∧ H p = some (.tup (stV st)) ∧ okS n ps.length d st ∧ (∀ h e, st = .dd h e → u.ds.length < k) ∧ ∀ H', But c H H' → CuAt Cc W H' c w n ps k (u.st ps st) → Q .non H'
/-- Counts' methods -/
structure CMs (P : Program) (w : World) (K : PySem.W.Frag) (mg : Str → Option Value) (base : Heap) (Cc W : Addr) : Prop where
  T : CcT K mg Cc
  do_ : ∃ f fd, Meth K Cc "do" f ∧ Binds K fd ["self", "house", "deed"] [] ∧ FnOk P w K mg base CX0 2 f fd ["self", "house", "deed"] (spKDo Cc W)
  meet : ∃ f fd, Meth K Cc "meet" f ∧ Binds K fd ["self", "tie"] [] ∧ FnOk P w K mg base CX0 2 f fd ["self", "tie"] (spKMeet Cc W)
section
variable {P : Program} {w : World} {K : PySem.W.Frag} {mg : Str → Option Value} {base : Heap}
abbrev nCPT : List Str := ["books", "step"]
theorem scCPT : FnScope nCPT ["books", "step"] (defScope sPTake) := ⟨rfl, rfl, rfl, by decide +kernel, rfl, by decide +kernel, by decide +kernel⟩
theorem ok_ctake {f Cc W : Addr} {fd : FuncData} (D : Df K mg "take" sPTake ["books", "step"] f fd) (nm : CMs P w K mg base Cc W) (c : Cs mg) : FnOk P w K mg base CX0 3 f fd ["books", "step"] (spCTake Cc W) := by
  obtain ⟨t1, hc1⟩ := c.doo
  obtain ⟨fD, fdD, mD, bD, GD⟩ := nm.do_
  obtain ⟨fM, fdM, mM, bM, GM⟩ := nm.meet
  have CT := nm.T
  refine D.F.ok scCPT (fun vs H Q E h => ?_) (fun cdv A outer s H vs Q E hr h => ?_)
  · obtain ⟨c, p, w, n, d, ps, k, u, st, rfl, _⟩ := h
    rfl
  · obtain ⟨c, p, w, n, d, ps, k, u, st, rfl, hK, hp, hok, hk, q⟩ := h
    refine ⟨_, (pss_one (ps_if (pt_cmpR op_eq (pe_ix ix_tup (pv 1) pe_int (fun _ _ => rfl)) (pe_glob (v := .str "do") (by rfl) hc1 ⟨_, rfl⟩) (nomark _))
      (pss_one (ps_expr (pe_meth (pv 0) CT.cl mD GD (hr.mono (by decide)) bD .nil pass0 (pa_cons (pe_ix ix_tup (pv 1) pe_int (fun _ _ => rfl)) (pa_cons (pe_ix ix_tup (pv 1) pe_int (fun _ _ => rfl)) pa_nil)))))
      (pss_one (ps_expr (pe_meth (pv 0) CT.cl mM GM (hr.mono (by decide)) bM .nil pass0 (pa_cons (pe_ix ix_tup (pv 1) pe_int (fun _ _ => rfl)) pa_nil)))))), ?_⟩
    obtain ⟨dx, dd, ha, ta, h1, _⟩ := id hK.ob
    cases st with
    | dd h d =>
      have rd : ∀ (j : Nat) v, (stV (.dd h d))[j]? = some v → atI (stV (.dd h d)) (j : Int) = some v := fun j v hv => at_i hv
      refine ⟨_, rfl, p, _, (0 : Int), .str "do", rfl, rfl, SqT.of hp, rd 0 _ rfl, ⟨rfl, true, congrArg V.bl (decide_eq_true rfl), iteT ?_⟩⟩
      refine ⟨_, rfl, c, dx, _, rfl, h1, cf_do _ _ _ _, ?_⟩
      refine ⟨_, rfl, p, _, (1 : Int), .int (h : Int), rfl, rfl, SqT.of hp, rd 1 _ rfl, _, rfl, p, _, (2 : Int), .int (d : Int), rfl, rfl, SqT.of hp, rd 2 _ rfl, ?_⟩
      exact ⟨c, w, n, ps, k, u, h, d, rfl, hK, hok.1, hk h d rfl, fun H' b hN => q H' b hN⟩
    | mt t =>
      have rd : ∀ (j : Nat) v, (stV (.mt t))[j]? = some v → atI (stV (.mt t)) (j : Int) = some v := fun j v hv => at_i hv
      refine ⟨_, rfl, p, _, (0 : Int), .str "meet", rfl, rfl, SqT.of hp, rd 0 _ rfl, ⟨rfl, false, congrArg V.bl (decide_eq_false (by decide +kernel)), iteF ?_⟩⟩
      refine ⟨_, rfl, c, dx, _, rfl, h1, cf_m _ _ _ _, ?_⟩
      refine ⟨_, rfl, p, _, (1 : Int), .int (t : Int), rfl, rfl, SqT.of hp, rd 1 _ rfl, ?_⟩
      obtain ⟨pr, hpr⟩ := ex_at (show t < ps.length from hok)
      have ep : ps.getD t (0, 0) = pr := by rw [List.getD_eq_getElem?_getD, hpr]; rfl
      refine ⟨c, w, n, ps, k, u, t, pr, rfl, hK, hpr, fun H' b hN => q H' b ?_⟩
      show CuAt Cc W H' c w n ps k (u.met (ps.getD t (0, 0)) t)
      rw [ep]; exact hN
end
end K1
namespace K1
open PySem PySem.Spec PyProof.Rows L2
def vn (ns : List Nat) : List V := ns.map fun (x : Nat) => V.int (x : Int)
theorem vn_len (ns : List Nat) : (vn ns).length = ns.length := List.length_map _
theorem vn_at {ns : List Nat} {i : Nat} {x : Nat} (h : ns[i]? = some x) : (vn ns)[i]? = some (.int (x : Int)) := map_at h
theorem at_vn {ns : List Nat} {i : Nat} {v : V} (h : (vn ns)[i]? = some v) : ∃ x, ns[i]? = some x ∧ v = .int (x : Int) := at_map h
theorem flat_vn (ns : List Nat) : (vn ns).all flatV = true := by
  rw [List.all_eq_true]
  intro x hx
  obtain ⟨y, _, rfl⟩ := List.mem_map.mp hx
  rfl
theorem inV_vn (a : Nat) (ns : List Nat) : inV (.int (a : Int)) (vn ns) = decide (a ∈ ns) := by
  unfold inV vn
  rw [List.any_map]
  induction ns with
  | nil => rfl
  | cons b r ih =>
    rw [List.any_cons, ih]
    have e : (eqV (V.int (b : Int)) (V.int (a : Int))) = decide (a = b) := by
      show ((b : Int) == (a : Int)) = _
      by_cases z : a = b
      · rw [decide_eq_true z, z]; simp
      · rw [decide_eq_false z]
        simp only [beq_eq_false_iff_ne, ne_eq]
        omega
    show (eqV (V.int (b : Int)) (V.int (a : Int)) || _) = _
    rw [e]
    by_cases z : a = b
    · rw [decide_eq_true z, decide_eq_true (show a ∈ b :: r by rw [z]; exact List.mem_cons_self)]; rfl
    · rw [decide_eq_false z, Bool.false_or]
      congr 1
      exact propext ⟨fun h => List.mem_cons_of_mem _ h, fun h => (List.mem_cons.mp h).resolve_left z⟩
/-! ### paces -/
inductive Pc where | rd (h : Nat) | st (s : Stp)
def pcV : Pc → List V | .rd h => [.str "read", .int (h : Int)] | .st s => stV s
def okP (n t d : Nat) : Pc → Prop | .rd h => h < n | .st s => okS n t d s
def rds : List Pc → List Nat | [] => [] | .rd h :: l => h :: rds l | .st _ :: l => rds l
def sts : List Pc → List Stp | [] => [] | .rd _ :: l => sts l | .st s :: l => s :: sts l
theorem rds_app : ∀ a b : List Pc, rds (a ++ b) = rds a ++ rds b
  | [], _ => rfl
  | .rd h :: a, b => congrArg (h :: ·) (rds_app a b)
  | .st _ :: a, b => rds_app a b
theorem sts_app : ∀ a b : List Pc, sts (a ++ b) = sts a ++ sts b
  | [], _ => rfl
  | .rd _ :: a, b => sts_app a b
  | .st s :: a, b => congrArg (s :: ·) (sts_app a b)
theorem sts_len : ∀ a : List Pc, (sts a).length ≤ a.length
  | [] => Nat.le_refl _
  | .rd _ :: a => Nat.le_succ_of_le (sts_len a)
  | .st _ :: a => Nat.succ_le_succ (sts_len a)
theorem rds_len : ∀ a : List Pc, (rds a).length ≤ a.length
  | [] => Nat.le_refl _
  | .rd _ :: a => Nat.succ_le_succ (rds_len a)
  | .st _ :: a => Nat.le_succ_of_le (rds_len a)
theorem mem_rds {h : Nat} : ∀ {l : List Pc}, h ∈ rds l ↔ Pc.rd h ∈ l
  | [] => by constructor <;> (intro x; cases x)
  | .rd k :: l => by
    show h ∈ k :: rds l ↔ _
    rw [List.mem_cons, List.mem_cons, mem_rds (l := l)]
    constructor
    · rintro (rfl | x)
      · exact .inl rfl
      · exact .inr x
    · rintro (x | x)
      · injection x with x; exact .inl x
      · exact .inr x
  | .st s :: l => by
    show h ∈ rds l ↔ _
    rw [List.mem_cons, mem_rds (l := l)]
    constructor
    · exact .inr
    · rintro (x | x)
      · cases x
      · exact x
theorem mem_sts {s : Stp} : ∀ {l : List Pc}, s ∈ sts l ↔ Pc.st s ∈ l
  | [] => by constructor <;> (intro x; cases x)
  | .st k :: l => by
    show s ∈ k :: sts l ↔ _
    rw [List.mem_cons, List.mem_cons, mem_sts (l := l)]
    constructor
    · rintro (rfl | x)
      · exact .inl rfl
      · exact .inr x
    · rintro (x | x)
      · injection x with x; exact .inl x
      · exact .inr x
  | .rd h :: l => by
    show s ∈ sts l ↔ _
    rw [List.mem_cons, mem_sts (l := l)]
    constructor
    · exact .inr
    · rintro (x | x)
      · cases x
      · exact x
def bNat : V → Nat | .int i => i.toNat | _ => 0
def rdB (n : Nat) (r : Option (List V)) : Bool := match r with
  | some [a, b] => decide (a = V.str "read") && belowB b (n : Int)
  | _ => false
def rdN (r : Option (List V)) : Nat := match r with | some [_, b] => bNat b | _ => 0
/-- where a walk is none: R are the houses that were read, i the place -/
def wfI (n t d : Nat) : List Nat → Nat → List (Option (List V)) → Option Nat
  | _, _, [] => none
  | R, i, r :: rs => if rdB n r = true ∧ rdN r ∉ R then wfI n t d (R ++ [rdN r]) (i + 1) rs else if stB n t d r = true then wfI n t d R (i + 1) rs else some i
def wfV (n t d : Nat) (o : Option (List (Option (List V)))) : V := match o with
  | none => .int (-1)
  | some rs => if rs.length ≤ 400 then (match wfI n t d [] 0 rs with | some i => .int (i : Nat) | none => .non) else .int (-1)
theorem rdB_some {n : Nat} {r : Option (List V)} (h : rdB n r = true) : ∃ k, r = some (pcV (.rd k)) ∧ k < n ∧ rdN r = k := by
  unfold rdB at h
  split at h
  · simp only [Bool.and_eq_true, decide_eq_true_eq] at h
    obtain ⟨rfl, hb⟩ := h
    obtain ⟨b, rfl, hb2⟩ := below_nat hb
    exact ⟨b, rfl, hb2, rfl⟩
  · cases h
theorem rdB_rd {n k : Nat} : rdB n (some (pcV (.rd k))) = decide (k < n) := by
  show (decide (V.str "read" = V.str "read") && belowB (.int (k : Int)) (n : Int)) = _
  rw [belowB_nat, decide_eq_true rfl]; rfl
theorem rdB_st {n : Nat} {s : Stp} : rdB n (some (stV s)) = false := by
  cases s with
  | dd a b => rfl
  | mt a =>
    show (decide (V.str "meet" = V.str "read") && belowB (.int (a : Int)) (n : Int)) = false
    rw [decide_eq_false (by intro k; injection k with k; exact absurd k (by decide +kernel))]; rfl
theorem stB_rd {n t d k : Nat} : stB n t d (some (pcV (.rd k))) = false := by
  show (decide (V.str "read" = V.str "meet") && belowB (.int (k : Int)) (t : Int)) = false
  rw [decide_eq_false (by intro k; injection k with k; exact absurd k (by decide +kernel))]; rfl
theorem wfI_r {n t d : Nat} {R : List Nat} {i : Nat} {r : Option (List V)} {rs : List (Option (List V))} (h : rdB n r = true) (h2 : rdN r ∉ R) : wfI n t d R i (r :: rs) = wfI n t d (R ++ [rdN r]) (i + 1) rs := by
  conv => lhs; unfold wfI
  rw [if_pos (And.intro h h2)]
theorem wfI_s {n t d : Nat} {R : List Nat} {i : Nat} {r : Option (List V)} {rs : List (Option (List V))} (h : rdB n r = true → rdN r ∈ R) (h2 : stB n t d r = true) : wfI n t d R i (r :: rs) = wfI n t d R (i + 1) rs := by
  conv => lhs; unfold wfI
  rw [if_neg (fun c => c.2 (h c.1)), if_pos h2]
theorem wfI_b {n t d : Nat} {R : List Nat} {i : Nat} {r : Option (List V)} {rs : List (Option (List V))} (h : rdB n r = true → rdN r ∈ R) (h2 : stB n t d r = false) : wfI n t d R i (r :: rs) = some i := by
  conv => lhs; unfold wfI
  rw [if_neg (fun c => c.2 (h c.1)), if_neg (by rw [h2]; decide)]
theorem wfI_ok {n t d : Nat} : ∀ (ws : List Pc) (R : List Nat) (i : Nat) (tl : List (Option (List V))), (∀ p ∈ ws, okP n t d p) → (R ++ rds ws).Nodup → wfI n t d R i (ws.map (fun p => some (pcV p)) ++ tl) = wfI n t d (R ++ rds ws) (i + ws.length) tl
  | [], R, i, tl, _, _ => by
    show wfI n t d R i tl = wfI n t d (R ++ []) (i + 0) tl
    rw [List.append_nil]; rfl
  | .rd h :: ws, R, i, tl, hok, hn => by
    have e : (R ++ rds (.rd h :: ws)) = (R ++ [h]) ++ rds ws := by rw [List.append_assoc]; rfl
    have hh : h < n := hok _ List.mem_cons_self
    rw [e] at hn ⊢
    have nin : h ∉ R := fun z => by
      rw [List.nodup_append] at hn
      have := (List.nodup_append.mp hn.1).2.2 h z h (List.mem_singleton.mpr rfl)
      exact this rfl
    have z := wfI_r (n := n) (t := t) (d := d) (R := R) (i := i) (r := some (pcV (.rd h))) (rs := ws.map (fun p => some (pcV p)) ++ tl) (by rw [rdB_rd, decide_eq_true hh]) nin
    refine z.trans ?_
    rw [show rdN (some (pcV (.rd h))) = h from Int.toNat_natCast h, wfI_ok ws (R ++ [h]) (i + 1) tl (fun p hp => hok p (List.mem_cons_of_mem _ hp)) hn, List.length_cons, Nat.add_assoc, Nat.add_comm 1]
  | .st s :: ws, R, i, tl, hok, hn => by
    have hs : okS n t d s := hok _ List.mem_cons_self
    refine (wfI_s (r := some (stV s)) (rs := ws.map (fun p => some (pcV p)) ++ tl) (fun c => by rw [rdB_st] at c; cases c) (stB_ok hs)).trans ?_
    rw [show rds (.st s :: ws) = rds ws from rfl, wfI_ok ws R (i + 1) tl (fun p hp => hok p (List.mem_cons_of_mem _ hp)) hn, List.length_cons, Nat.add_assoc, Nat.add_comm 1]
theorem wfI_non {n t d : Nat} : ∀ (rs : List (Option (List V))) (R : List Nat) (i : Nat), wfI n t d R i rs = none → R.Nodup → ∃ ws : List Pc, rs = ws.map (fun p => some (pcV p)) ∧ (∀ p ∈ ws, okP n t d p) ∧ (R ++ rds ws).Nodup
  | [], R, i, _, hn => ⟨[], rfl, fun p hp => (by cases hp), by rw [show rds [] = [] from rfl, List.append_nil]; exact hn⟩
  | r :: rs, R, i, h, hn => by
    unfold wfI at h
    split at h
    · rename_i c
      obtain ⟨k, e, hk, ek⟩ := rdB_some c.1
      have nin : k ∉ R := ek ▸ c.2
      rw [ek] at h
      obtain ⟨ws, e1, e2, e3⟩ := wfI_non rs (R ++ [k]) (i + 1) h (by
        rw [List.nodup_append]
        exact ⟨hn, List.nodup_cons.mpr ⟨(fun z => (by cases z)), List.nodup_nil⟩, fun a ha b hb z => by
          rw [List.mem_singleton] at hb
          rw [z, hb] at ha
          exact nin ha⟩)
      refine ⟨.rd k :: ws, by rw [e, e1]; rfl, fun p hp => ?_, by rw [List.append_assoc] at e3; exact e3⟩
      rcases List.mem_cons.mp hp with rfl | hp
      · exact hk
      · exact e2 p hp
    · split at h
      · rename_i c
        obtain ⟨s, e, hs⟩ := stB_some c
        obtain ⟨ws, e1, e2, e3⟩ := wfI_non rs R (i + 1) h hn
        refine ⟨.st s :: ws, by rw [e, e1]; rfl, fun p hp => ?_, e3⟩
        rcases List.mem_cons.mp hp with rfl | hp
        · exact hs
        · exact e2 p hp
      · cases h
/-- a walk that is one -/
structure WkO (n t d : Nat) (ws : List Pc) : Prop where
  ok : ∀ p ∈ ws, okP n t d p
  nd : (rds ws).Nodup
  ln : ws.length ≤ 400
theorem wf_ok {n t d : Nat} {o : Option (List (Option (List V)))} (h : wfV n t d o = .non) : ∃ ws : List Pc, o = some (ws.map fun p => some (pcV p)) ∧ WkO n t d ws := by
  unfold wfV at h
  cases o with
  | none => cases h
  | some rs =>
    dsimp only at h
    by_cases hl : rs.length ≤ 400
    · rw [if_pos hl] at h
      cases e : wfI n t d [] 0 rs with
      | some i => rw [e] at h; cases h
      | none =>
        obtain ⟨ws, rfl, h1, h2⟩ := wfI_non rs [] 0 e List.nodup_nil
        rw [List.length_map] at hl
        exact ⟨ws, rfl, h1, h2, hl⟩
    · rw [if_neg hl] at h; cases h
theorem wf_int {n t d : Nat} {o : Option (List (Option (List V)))} : wfV n t d o = .non ∨ ∃ z, wfV n t d o = .int z := by
  unfold wfV
  cases o with
  | none => exact .inr ⟨_, rfl⟩
  | some rs =>
    dsimp only
    split
    · split
      · exact .inr ⟨_, rfl⟩
      · exact .inl rfl
    · exact .inr ⟨_, rfl⟩
theorem wf_good {n t d : Nat} {ws : List Pc} (h : WkO n t d ws) : wfV n t d (some (ws.map fun p => some (pcV p))) = .non := by
  have z := wfI_ok (n := n) (t := t) (d := d) ws [] 0 [] h.ok h.nd
  rw [List.append_nil] at z
  unfold wfV
  dsimp only
  rw [List.length_map, if_pos h.ln, z]
  rfl
theorem wf_bad {n t d : Nat} {ws : List Pc} {r : Option (List V)} {rest : List (Option (List V))} (ok : ∀ p ∈ ws, okP n t d p) (nd : (rds ws).Nodup) (hl : (ws.map (fun p => some (pcV p)) ++ r :: rest).length ≤ 400) (hr : rdB n r = true → rdN r ∈ rds ws) (hs : stB n t d r = false) : wfV n t d (some (ws.map (fun p => some (pcV p)) ++ r :: rest)) = .int (ws.length : Int) := by
  have z := wfI_ok (n := n) (t := t) (d := d) ws [] 0 (r :: rest) ok nd
  unfold wfV
  dsimp only
  rw [if_pos hl, z, wfI_b (fun c => by rw [List.nil_append]; exact hr c) hs, Nat.zero_add]
/-- the paces in a tuple of tuples -/
def PcsA (H : Hp) (as : List Addr) (ws : List Pc) : Prop := as.length = ws.length ∧ ∀ (i : Nat) a p, as[i]? = some a → ws[i]? = some p → H a = some (.tup (pcV p))
theorem PcsA.same {H H' : Hp} {as : List Addr} {ws : List Pc} (h : PcsA H as ws) (s : Same H H') : PcsA H' as ws := ⟨h.1, fun i a t e1 e2 => s _ _ (h.2 i a t e1 e2)⟩
theorem PcsA.kp {H H' : Hp} {as : List Addr} {ws : List Pc} (h : PcsA H as ws) (k : ∀ a xs, H a = some (.tup xs) → H' a = some (.tup xs)) : PcsA H' as ws := ⟨h.1, fun i a t e1 e2 => k _ _ (h.2 i a t e1 e2)⟩
theorem PcsA.get' {H : Hp} {as : List Addr} {ws : List Pc} (h : PcsA H as ws) {i : Nat} {x : V} (e : (as.map V.ref)[i]? = some x) : ∃ a p, x = .ref a ∧ as[i]? = some a ∧ ws[i]? = some p ∧ H a = some (.tup (pcV p)) := by
  obtain ⟨a, ha, rfl⟩ := at_map e
  obtain ⟨p, hp⟩ := ex_at (l := ws) (i := i) (by rw [← h.1]; exact lt_at ha)
  exact ⟨a, p, rfl, ha, hp, h.2 i a p ha hp⟩
def PcsT (H : Hp) (p : Addr) (ws : List Pc) : Prop := ∃ as : List Addr, H p = some (.tup (as.map V.ref)) ∧ PcsA H as ws
theorem PcsT.same {H H' : Hp} {p : Addr} {ws : List Pc} (h : PcsT H p ws) (s : Same H H') : PcsT H' p ws := let ⟨as, h1, h2⟩ := h; ⟨as, s _ _ h1, h2.same s⟩
theorem PcsT.kp {H H' : Hp} {p : Addr} {ws : List Pc} (h : PcsT H p ws) (k : ∀ a xs, H a = some (.tup xs) → H' a = some (.tup xs)) : PcsT H' p ws := let ⟨as, h1, h2⟩ := h; ⟨as, k _ _ h1, h2.kp k⟩
structure Cr (mg : Str → Option Value) : Prop where
  read : ∃ t, mg "READ" = some (.str "read" t)
structure Ct8 (mg : Str → Option Value) : Prop where
  tabs : ∃ t, mg "MOST_TABLES" = some (.int 8 t)
def spIsRead (K : PySem.W.Frag) (W : Addr) : Sp := fun vs H Q _ => ∃ (w : Addr) (x : V) (r : Option (List V)) (n : Nat) (ts : Prs), vs = [.ref w, x] ∧ WebAt W H w n ts ∧ Sv K H x r ∧ ∀ H', Same H H' → Q (.bl (rdB n r)) H'
def spWFault (K : PySem.W.Frag) (W : Addr) : Sp := fun vs H Q _ => ∃ (w : Addr) (v : V) (o : Option (List (Option (List V)))) (n d : Nat) (ts : Prs), vs = [.ref w, .int (d : Int), v] ∧ WebAt W H w n ts ∧ Svs K H v o ∧ ∀ H', Same H H' → Q (wfV n ts.length d o) H'
def spWalkOf (K : PySem.W.Frag) (W C : Addr) : Sp := fun vs H Q E => ∃ (w : Addr) (v : V) (o : Option (List (Option (List V)))) (n d : Nat) (ts : Prs), vs = [.ref w, .int (d : Int), v] ∧ WebAt W H w n ts ∧ Svs K H v o ∧ (∀ z, wfV n ts.length d o = .int z → Rz C "at" (.int z) H E) ∧
  ∀ ws : List Pc, o = some (ws.map fun p => some (pcV p)) → WkO n ts.length d ws → ∀ p H', Same H H' → PcsT H' p ws → Q (.ref p) H'
def spCkW (K : PySem.W.Frag) (W C : Addr) : Sp := fun vs H Q E => ∃ (w : Addr) (v : V) (o : Option (List (Option (List V)))) (n : Nat) (ts : Prs), vs = [.ref w, v] ∧ WebAt W H w n ts ∧ Svs K H v o ∧ (∀ z, wfV n ts.length 8 o = .int z → Rz C "at" (.int z) H E) ∧
  ∀ ws : List Pc, o = some (ws.map fun p => some (pcV p)) → WkO n ts.length 8 ws → ∀ p H', Same H H' → PcsT H' p ws → Q (.ref p) H'
section
variable {P : Program} {w : World} {K : PySem.W.Frag} {mg : Str → Option Value} {base : Heap}
abbrev nIR : List Str := ["web", "value"]
theorem scIR : FnScope nIR ["web", "value"] (defScope sIsRead) := ⟨rfl, rfl, rfl, by decide +kernel, rfl, by decide +kernel, by decide +kernel⟩
theorem ok_isRead {f fS fB W : Addr} {fd fdS fdB : FuncData} (D : Df K mg "is_read" sIsRead ["web", "value"] f fd) (DS : Df K mg "is_sequence" sSeq ["value", "least", "most"] fS fdS) (DB : Df K mg "is_below" sBelow ["value", "limit"] fB fdB) (c : Cr mg) (T : WcT K mg W)
    (GS : FnOk P w K mg base CX0 1 fS fdS ["value", "least", "most"] (spSeq K)) (GB : FnOk P w K mg base CX0 2 fB fdB ["value", "limit"] (spBelow K)) : FnOk P w K mg base CX0 3 f fd ["web", "value"] (spIsRead K W) := by
  obtain ⟨t1, hcR⟩ := c.read
  refine D.F.ok scIR (fun vs H Q E h => ?_) (fun cdv A outer s H vs Q E hr h => ?_)
  · obtain ⟨w, x, r, n, ts, rfl, _⟩ := h
    rfl
  · obtain ⟨w, x, r, n, ts, rfl, ⟨dx, ta, h1, as, g1, g2⟩, hv, q⟩ := h
    have hu := hr.units
    have hr1 := hr.mono (show 1 ≤ 2 by decide)
    refine ⟨_, (pss_one (ps_ret (pe_and (pc DS GS hr1 pass0 (pa_cons (pv 1) (pa_cons pe_int (pa_cons pe_int pa_nil)))) (pe_and (pe_cmpR (eqD (K := K) rfl hu) (pe_ix ix_seq (pv 1) pe_int (fun _ _ => rfl)) (pe_glob (v := .str "read") (by rfl) hcR ⟨_, rfl⟩) (nomark _)) (pe_one (pc DB GB hr pass0 (pa_cons (pe_ix ix_seq (pv 1) pe_int (fun _ _ => rfl)) (pa_cons (pe_fld (pv 0) rfl) pa_nil)))))))), ?_⟩
    refine ⟨_, rfl, x, r, 2, 2, rfl, hv.rw.kv, fun H2 s2 => ⟨_, rfl, ifD (fun e2 => ?_) fun e2 => ?_⟩⟩
    · cases r with
      | none => cases e2
      | some ys =>
        have hl : ys.length = 2 := seq_len (k := 2) e2
        match ys, hl with
        | [a, b], _ =>
          have kv1 := hv.rw.kv.same s2
          have kk := (hv.rw.ks _ rfl).same s2
          obtain ⟨ob, kb⟩ := kk b (by simp)
          refine ⟨_, rfl, ix_at (j := 0) kv1 rfl (cP (Fi.eq ((hv.fi _ _ rfl).same s2) (by decide +kernel) ?_))⟩
          refine ⟨_, rfl, ifD (fun e1 => ?_) fun e1 => ?_⟩
          · refine ⟨_, rfl, ix_at (j := 1) kv1 rfl ⟨_, rfl, w, W, dx, _, _, rfl, s2 _ _ h1, T.cl, T.nH, wf_h _ _, b, ob, (n : Int), rfl, kb, qbl ?_ (q _ s2)⟩⟩
            show _ = (_ && _)
            rw [e1]; rfl
          · refine qbl ?_ (q _ s2)
            show _ = (_ && _)
            rw [e1]; rfl
    · refine qbl ?_ (q _ s2)
      cases r with
      | none => rfl
      | some ys =>
        have h2 : ys.length ≠ 2 := fun z => by rw [show seqB (some ys) 2 2 = true from by show (decide ((2 : Int) ≤ (ys.length : Int)) && decide ((ys.length : Int) ≤ 2)) = true; rw [z]; rfl] at e2; cases e2
        match ys, h2 with
        | [], _ => rfl
        | [_], _ => rfl
        | [_, _], h => exact (h rfl).elim
        | _ :: _ :: _ :: _, _ => rfl
abbrev nWF : List Str := ["web", "deeds", "value", "read", "at", "pace"]
theorem scWF : FnScope nWF ["web", "deeds", "value"] (defScope sWalkFault) := ⟨rfl, rfl, rfl, by decide +kernel, rfl, by decide +kernel, by decide +kernel⟩
theorem ok_wfault {f fS fI fR W : Addr} {fd fdS fdI fdR : FuncData} (D : Df K mg "walk_fault" sWalkFault ["web", "deeds", "value"] f fd) (DS : Df K mg "is_sequence" sSeq ["value", "least", "most"] fS fdS) (DI : Df K mg "is_step" sIsStep ["web", "deeds", "value"] fI fdI) (DR : Df K mg "is_read" sIsRead ["web", "value"] fR fdR) (B : Bt mg) (c : Cs mg)
    (GS : FnOk P w K mg base CX0 1 fS fdS ["value", "least", "most"] (spSeq K)) (GI : FnOk P w K mg base CX0 3 fI fdI ["web", "deeds", "value"] (spIsStep K W)) (GR : FnOk P w K mg base CX0 3 fR fdR ["web", "value"] (spIsRead K W)) : FnOk P w K mg base CX0 4 f fd ["web", "deeds", "value"] (spWFault K W) := by
  obtain ⟨t1, hc1⟩ := c.steps
  refine D.F.ok scWF (fun vs H Q E h => ?_) (fun cdv A outer s H vs Q E hr h => ?_)
  · obtain ⟨w, v, o, n, d, ts, rfl, _⟩ := h
    rfl
  · obtain ⟨w, v, o, n, d, ts, rfl, hw, hv, q⟩ := h
    have hr1 := hr.mono (show 1 ≤ 3 by decide)
    refine ⟨_, (pss_cons (ps_if (pt_not (pt_val (pc DS GS hr1 pass0 (pa_cons (pv 2) (pa_cons pe_int (pa_cons (pe_glob (v := .int 400) (by rfl) hc1 ⟨_, rfl⟩) pa_nil))))))
      (pss_one (ps_ret (pe_un un_neg pe_int)))
      pss_nil)
    (pss_cons (ps_set (i := 3) scWF.nd rfl (.inl rfl) (pe_lst pa_nil))
    (pss_cons (ps_for PassesOwn.never rfl (pi_enumA (by rfl) B.enumerate (pa_cons (pv 2) pa_nil)) (pg_tup rfl (pgs_cons (pg_name (i := 4) scWF.nd rfl (.inl rfl)) (pgs_cons (pg_name (i := 5) scWF.nd rfl (.inl rfl)) pgs_nil)))
      (pss_one (ps_if (PW.pt (pw_and (pt_val (pc DR GR hr pass0 (pa_cons (pv 0) (pa_cons (pv 5) pa_nil)))) (pw_and1 (pt_cmpR (opNotInK (K := K) rfl) (pe_ix ix_seq (pv 5) pe_int (fun _ _ => rfl)) (pv 3) rfl))))
        (pss_one (ps_expr (pe_bm PySem.F.plainAttrs_list PySem.F.slot_list_append PySem.F.type_list_append mt_append (pv 3) (pa_cons (pe_ix ix_seq (pv 5) pe_int (fun _ _ => rfl)) pa_nil))))
        (pss_one (ps_if (pt_not (pt_val (pc DI GI hr pass0 (pa_cons (pv 0) (pa_cons (pv 1) (pa_cons (pv 5) pa_nil))))))
          (pss_one (ps_ret (pv 4)))
          pss_nil)))))
    (pss_one (ps_ret pe_non))))), ?_⟩
    cases hv with
    | no kv =>
      exact ⟨_, rfl, v, none, 0, 400, rfl, kv, fun H1 s1 => ⟨_, rfl, iteT ⟨_, rfl, q _ s1⟩⟩⟩
    | yes kv hl R =>
      rename_i xs rs
      refine ⟨_, rfl, v, some xs, 0, 400, rfl, kv, fun H1 s1 => ⟨_, rfl, ifD (fun e => ?_) fun e => ?_⟩⟩
      · have e' : seqB (some xs) 0 400 = false := by simpa using e
        have h4 : ¬ rs.length ≤ 400 := fun z => by
          rw [show seqB (some xs) 0 400 = true from by show (decide ((0 : Int) ≤ (xs.length : Int)) && decide ((xs.length : Int) ≤ 400)) = true; rw [decide_eq_true (by omega), decide_eq_true (by omega)]; rfl] at e'
          cases e'
        refine ⟨_, rfl, eqv (P := fun v => Q v H1) ?_ (q _ s1)⟩
        unfold wfV
        dsimp only
        rw [if_neg h4]
      · have e' : seqB (some xs) 0 400 = true := by simpa using e
        have h4 : rs.length ≤ 400 := by
          have z : (decide ((0 : Int) ≤ (xs.length : Int)) && decide ((xs.length : Int) ≤ 400)) = true := e'
          simp only [Bool.and_eq_true, decide_eq_true_eq] at z
          omega
        obtain ⟨a, rfl, hS⟩ := kv.seqA
        refine nxP ⟨(by show 0 ≤ sizeLine; decide), fun L hL => ?_⟩
        dsimp only [List.set]
        have sL := s1.trans (same_new (o := HO.lst []) hL)
        let Pv : Nat → L2.St → Hp → Prop := fun i σ H' => ∃ (v4 v5 : Option V) (Rd : List Nat), σ = [some (.ref w), some (.int (d : Int)), some (.ref a), some (.ref L), v4, v5] ∧ Same H1 H' ∧ H' L = some (.lst (vn Rd)) ∧ Rd.length ≤ i ∧ wfI n ts.length d [] 0 rs = wfI n ts.length d Rd i (rs.drop i)
        have P0 : Pv 0 [some (.ref w), some (.int (d : Int)), some (.ref a), some (.ref L), none, none] (upd H1 L (.lst [])) := ⟨none, none, [], rfl, same_new hL, upd_same, Nat.le_refl _, rfl⟩
        have nxt : ∀ (i : Nat) x, xs[i]? = some x → ∃ r, rs[i]? = some r ∧ Sv K H x r := fun i x hx => by
          obtain ⟨r, hr'⟩ := ex_at (l := rs) (i := i) (by rw [← hl]; exact lt_at hx)
          exact ⟨r, hr', R i x r hx hr'⟩
        have dr : ∀ {i : Nat} {r}, rs[i]? = some r → rs.drop i = r :: rs.drop (i + 1) := fun {i r} h => by
          have hi := lt_at h
          rw [List.drop_eq_getElem_cons hi]
          congr 1
          rw [List.getElem?_eq_getElem hi] at h
          exact Option.some.inj h
        have fin : ∀ σ H', Pv xs.length σ H' → Q .non H' := fun σ H' ⟨_, _, Rd, _, sm, _, _, e⟩ => by
          rw [List.drop_of_length_le (by rw [hl]; exact Nat.le_refl _)] at e
          have z := q _ (s1.trans sm)
          unfold wfV at z
          dsimp only at z
          rw [if_pos h4, e] at z
          exact z
        refine ⟨_, rfl, a, rfl, ?_⟩
        rcases hS with hS | hS
        · refine .inl ⟨xs, SqL.of (sL _ _ hS), for_enumL (K := K) Pv P0 (fun i σ H' _ ⟨_, _, _, _, sm, _⟩ => SqL.of (sm _ _ (s1 _ _ hS))) ?_ fin⟩
          rintro i x T σ H' hx hT ⟨v4, v5, Rd, rfl, sm, hLr, hRi, hwf⟩
          have sm2 : Same H1 (L2.upd H' T (.tup [.int (i : Nat), x])) := sm.trans (same_new hT)
          have sm3 := s1.trans sm2
          have hLr2 := same_new (o := HO.tup [V.int (i : Nat), x]) hT _ _ hLr
          obtain ⟨r, hr', W'⟩ := nxt i x hx
          have hi := lt_at hx
          rw [dr hr'] at hwf
          refine ⟨T, _, rfl, SqT.of upd_same, rfl, _, _, rfl, _, _, rfl, rfl, ?_⟩
          refine ⟨_, rfl, _, rfl, w, x, r, n, ts, rfl, hw.same sm3, W'.same sm3, fun H3 s3 => ⟨_, rfl, ifD (fun e => ?_) fun e => ?_⟩⟩
          · obtain ⟨k, rfl, hk, ek⟩ := rdB_some e
            have kv3 := (W'.rw.kv.same sm3).same s3
            refine ⟨_, rfl, ix_at (j := 1) kv3 rfl ⟨_, rfl, L, _, rfl, .inl (SqL.of (s3 _ _ hLr2)), rfl, flat_vn Rd, ?_⟩⟩
            rw [inV_vn]
            refine ⟨_, rfl, ifD (fun e2 => ?_) fun e2 => ?_⟩
            · have nin : k ∉ Rd := by simpa using e2
              rw [wfI_r e (by rw [ek]; exact nin), ek] at hwf
              refine ⟨_, rfl, .inl ⟨rfl, _, SqL.of (s3 _ _ hLr2)⟩, _, rfl, ix_at (j := 1) kv3 rfl ⟨L, _, _, rfl, rfl, s3 _ _ hLr2, szl (by rw [vn_len]; omega), ?_⟩⟩
              exact ⟨_, _, Rd ++ [k], rfl, fun c o z => by rw [upd_ne (ne_of_none z hL)]; exact s3 _ _ (sm2 _ _ z), by rw [upd_same, vn, vn, List.map_append]; rfl, by rw [List.length_append]; exact Nat.succ_le_succ hRi, hwf⟩
            · have nin : k ∈ Rd := by simpa using e2
              refine ⟨_, rfl, _, rfl, _, rfl, w, x, some (pcV (.rd k)), n, d, ts, rfl, (hw.same sm3).same s3, (W'.same sm3).same s3, fun H4 s4 => ⟨_, rfl, ifD (fun e3 => ?_) fun e3 => ?_⟩⟩
              · have e3' : stB n ts.length d (some (pcV (.rd k))) = false := by simpa using e3
                rw [wfI_b (fun _ => by rw [ek]; exact nin) e3'] at hwf
                have z := q _ ((sm3.trans s3).trans s4)
                unfold wfV at z
                dsimp only at z
                rw [if_pos h4, hwf] at z
                exact ⟨_, rfl, z⟩
              · rw [wfI_s (fun _ => by rw [ek]; exact nin) (by simpa using e3)] at hwf
                exact ⟨_, _, Rd, rfl, (sm2.trans s3).trans s4, s4 _ _ (s3 _ _ hLr2), Nat.le_succ_of_le hRi, hwf⟩
          · have ne : rdB n r = true → rdN r ∈ Rd := fun z => by rw [z] at e; cases e
            refine ⟨_, rfl, _, rfl, _, rfl, w, x, r, n, d, ts, rfl, (hw.same sm3).same s3, (W'.same sm3).same s3, fun H4 s4 => ⟨_, rfl, ifD (fun e3 => ?_) fun e3 => ?_⟩⟩
            · have e3' : stB n ts.length d (r) = false := by simpa using e3
              rw [wfI_b ne e3'] at hwf
              have z := q _ ((sm3.trans s3).trans s4)
              unfold wfV at z
              dsimp only at z
              rw [if_pos h4, hwf] at z
              exact ⟨_, rfl, z⟩
            · rw [wfI_s ne (by simpa using e3)] at hwf
              exact ⟨_, _, Rd, rfl, (sm2.trans s3).trans s4, s4 _ _ (s3 _ _ hLr2), Nat.le_succ_of_le hRi, hwf⟩
        · refine .inr ⟨xs, SqT.of (sL _ _ hS), for_enumT (K := K) Pv P0 (fun i σ H' _ ⟨_, _, _, _, sm, _⟩ => SqT.of (sm _ _ (s1 _ _ hS))) ?_ fin⟩
          rintro i x T σ H' hx hT ⟨v4, v5, Rd, rfl, sm, hLr, hRi, hwf⟩
          have sm2 : Same H1 (L2.upd H' T (.tup [.int (i : Nat), x])) := sm.trans (same_new hT)
          have sm3 := s1.trans sm2
          have hLr2 := same_new (o := HO.tup [V.int (i : Nat), x]) hT _ _ hLr
          obtain ⟨r, hr', W'⟩ := nxt i x hx
          have hi := lt_at hx
          rw [dr hr'] at hwf
          refine ⟨T, _, rfl, SqT.of upd_same, rfl, _, _, rfl, _, _, rfl, rfl, ?_⟩
          refine ⟨_, rfl, _, rfl, w, x, r, n, ts, rfl, hw.same sm3, W'.same sm3, fun H3 s3 => ⟨_, rfl, ifD (fun e => ?_) fun e => ?_⟩⟩
          · obtain ⟨k, rfl, hk, ek⟩ := rdB_some e
            have kv3 := (W'.rw.kv.same sm3).same s3
            refine ⟨_, rfl, ix_at (j := 1) kv3 rfl ⟨_, rfl, L, _, rfl, .inl (SqL.of (s3 _ _ hLr2)), rfl, flat_vn Rd, ?_⟩⟩
            rw [inV_vn]
            refine ⟨_, rfl, ifD (fun e2 => ?_) fun e2 => ?_⟩
            · have nin : k ∉ Rd := by simpa using e2
              rw [wfI_r e (by rw [ek]; exact nin), ek] at hwf
              refine ⟨_, rfl, .inl ⟨rfl, _, SqL.of (s3 _ _ hLr2)⟩, _, rfl, ix_at (j := 1) kv3 rfl ⟨L, _, _, rfl, rfl, s3 _ _ hLr2, szl (by rw [vn_len]; omega), ?_⟩⟩
              exact ⟨_, _, Rd ++ [k], rfl, fun c o z => by rw [upd_ne (ne_of_none z hL)]; exact s3 _ _ (sm2 _ _ z), by rw [upd_same, vn, vn, List.map_append]; rfl, by rw [List.length_append]; exact Nat.succ_le_succ hRi, hwf⟩
            · have nin : k ∈ Rd := by simpa using e2
              refine ⟨_, rfl, _, rfl, _, rfl, w, x, some (pcV (.rd k)), n, d, ts, rfl, (hw.same sm3).same s3, (W'.same sm3).same s3, fun H4 s4 => ⟨_, rfl, ifD (fun e3 => ?_) fun e3 => ?_⟩⟩
              · have e3' : stB n ts.length d (some (pcV (.rd k))) = false := by simpa using e3
                rw [wfI_b (fun _ => by rw [ek]; exact nin) e3'] at hwf
                have z := q _ ((sm3.trans s3).trans s4)
                unfold wfV at z
                dsimp only at z
                rw [if_pos h4, hwf] at z
                exact ⟨_, rfl, z⟩
              · rw [wfI_s (fun _ => by rw [ek]; exact nin) (by simpa using e3)] at hwf
                exact ⟨_, _, Rd, rfl, (sm2.trans s3).trans s4, s4 _ _ (s3 _ _ hLr2), Nat.le_succ_of_le hRi, hwf⟩
          · have ne : rdB n r = true → rdN r ∈ Rd := fun z => by rw [z] at e; cases e
            refine ⟨_, rfl, _, rfl, _, rfl, w, x, r, n, d, ts, rfl, (hw.same sm3).same s3, (W'.same sm3).same s3, fun H4 s4 => ⟨_, rfl, ifD (fun e3 => ?_) fun e3 => ?_⟩⟩
            · have e3' : stB n ts.length d (r) = false := by simpa using e3
              rw [wfI_b ne e3'] at hwf
              have z := q _ ((sm3.trans s3).trans s4)
              unfold wfV at z
              dsimp only at z
              rw [if_pos h4, hwf] at z
              exact ⟨_, rfl, z⟩
            · rw [wfI_s ne (by simpa using e3)] at hwf
              exact ⟨_, _, Rd, rfl, (sm2.trans s3).trans s4, s4 _ _ (s3 _ _ hLr2), Nat.le_succ_of_le hRi, hwf⟩
abbrev nWO : List Str := ["web", "deeds", "value", "at", "pace"]
theorem scWO : FnScope nWO ["web", "deeds", "value"] (defScope sWalkOf) := ⟨rfl, rfl, rfl, by decide +kernel, rfl, by decide +kernel, by decide +kernel⟩
theorem ok_walkOf {f fF W C cI : Addr} {fd fdF : FuncData} {bm : List Value} {ql : Str} (D : Df K mg "walk_of" sWalkOf ["web", "deeds", "value"] f fd) (DF : Df K mg "walk_fault" sWalkFault ["web", "deeds", "value"] fF fdF) (B : Bt mg) (T : LAt.Txt K mg "BadSteps" ql bm C cI)
    (GF : FnOk P w K mg base CX0 4 fF fdF ["web", "deeds", "value"] (spWFault K W)) : FnOk P w K mg base (L2.CX P w) 5 f fd ["web", "deeds", "value"] (spWalkOf K W C) := by
  refine D.F.okX scWO (fun vs H Q E h => ?_) (fun cdv A outer s H vs Q E hr h => ?_)
  · obtain ⟨w, v, o, n, d, ts, rfl, _⟩ := h
    rfl
  · obtain ⟨w, v, o, n, d, ts, rfl, hw, hv, qE, q⟩ := h
    refine ⟨_, pss_cons (ps_set (i := 3) scWO.nd rfl (.inl rfl) (pc DF GF hr pass0 (pa_cons (pv 0) (pa_cons (pv 1) (pa_cons (pv 2) pa_nil)))))
      (pss_cons (ps_if (pt_cmp (pc_notN (pv 3))) (pss_one (ps_raise_LAt rfl T hr (takes_of rfl rfl rfl rfl) (pa_cons (pv 3) pa_nil))) pss_nil)
      (pss_one (ps_ret (pe_callTy call_tuple_of (by rfl) B.tuple (by decide +kernel) (pa_cons
        (pe_lc (own := [("pace", 4)]) (g := gName 4) (tt := tYes) rfl scWO.nd (pi_seqA (pv 2)) (blkOk_by (N := ["web", "deeds", "value", "at", "pace"]) (sc := defScope sWalkOf) (by decide +kernel)) (fun _ _ _ _ _ => pg_name (i := 4) scWO.nd rfl (Or.inl rfl)) (fun _ _ _ _ _ => pts_nil)
          (fun _ _ _ _ _ => pe_callTy (ctup (K := K) rfl) (by rfl) B.tuple PyProof.Rows.boot_tuple (pa_cons (pv 4) pa_nil))) pa_nil))))), ?_⟩
    refine ⟨_, rfl, _, rfl, _, rfl, w, v, o, n, d, ts, rfl, hw, hv, fun H1 s1 => ?_⟩
    dsimp only [List.set]
    rcases wf_int (n := n) (t := ts.length) (d := d) (o := o) with e | ⟨z, e⟩
    · rw [e]
      refine ⟨_, rfl, _, rfl, iteF (nxP ?_)⟩
      obtain ⟨ss, rfl, h1⟩ := wf_ok e
      have qq := q ss rfl h1
      have h2 := h1.ln
      have hv1 := hv.same s1
      cases hv1 with
      | yes kv hl R =>
        rename_i xs
        rw [List.length_map] at hl
        have gett : ∀ (i : Nat) x, xs[i]? = some x → ∃ b s, x = .ref b ∧ ss[i]? = some s ∧ SeqA H1 b (pcV s) := fun i x hx => by
          obtain ⟨s, hs⟩ := ex_at (l := ss) (i := i) (by rw [← hl]; exact lt_at hx)
          have S := R i x (some (pcV s)) hx (by rw [List.getElem?_map, hs]; rfl)
          obtain ⟨b, rfl, h2⟩ := S.rw.kv.seqA
          exact ⟨b, s, rfl, hs, h2⟩
        obtain ⟨a, rfl, hS⟩ := kv.seqA
        let Lv : Addr → Nat → Hp → Prop := fun D i H2 => ∃ as : List Addr, as.length = i ∧ Same H1 H2 ∧ H2 D = some (.lst (as.map V.ref)) ∧ ∀ (j : Nat) b s, as[j]? = some b → ss[j]? = some s → H2 b = some (.tup (pcV s))
        have fin : ∀ (D : Addr), H1 D = none → ∀ (i : Nat) (as : List Addr) (H2 H3 : Hp) (l : Addr) (s : Pc), i < xs.length → as.length = i → Same H1 H2 → H2 D = some (.lst (as.map V.ref)) → (∀ (j : Nat) b s, as[j]? = some b → ss[j]? = some s → H2 b = some (.tup (pcV s))) → ss[i]? = some s → Same H2 H3 → H3 l = some (.tup (pcV s)) →
            (∃ acc, H3 D = some (.lst acc) ∧ acc.length < sizeLine ∧ Lv D (i + 1) (upd H3 D (.lst (acc ++ [.ref l])))) := fun D hD i as H2 H3 l s hi ha s2 hD2 hA hs s3 hl3 => by
          have hD3 := s3 _ _ hD2
          have nl : l ≠ D := fun z => by rw [z, hD3] at hl3; cases hl3
          refine ⟨_, hD3, szl (by rw [List.length_map]; omega), as ++ [l], by rw [List.length_append, ha]; rfl, fun c o e => by rw [upd_ne (ne_of_none e hD)]; exact s3 _ _ (s2 _ _ e), by rw [upd_same, List.map_append]; rfl, fun j b t hb ht => ?_⟩
          by_cases hj : j < as.length
          · rw [List.getElem?_append_left hj] at hb
            have hb2 := hA j b t hb ht
            rw [upd_ne (fun z => by rw [z, hD2] at hb2; cases hb2)]
            exact s3 _ _ hb2
          · have hjl := lt_at hb
            rw [List.length_append] at hjl
            have : j = as.length := by simp only [List.length_cons, List.length_nil] at hjl; omega
            subst this
            rw [List.getElem?_append_right (Nat.le_refl _), Nat.sub_self] at hb
            obtain rfl : l = b := Option.some.inj hb
            rw [ha, hs] at ht
            obtain rfl := Option.some.inj ht
            rw [upd_ne nl]; exact hl3
        have dn : ∀ (D : Addr) (H2 : Hp), Lv D xs.length H2 → ∀ (Qx : VK), (∀ p H', Same H1 H' → PcsT H' p ss → Qx (.ref p) H') → ∃ as : List Addr, H2 D = some (.lst (as.map V.ref)) ∧ ∀ p, H2 p = none → Qx (.ref p) (upd H2 p (.tup (as.map V.ref))) := fun D H2 ⟨as, ha, s2, hD2, hA⟩ Qx hq =>
          ⟨as, hD2, fun p hp => hq p _ (s2.trans (same_new hp)) ⟨as, upd_same, ⟨by rw [ha, hl], fun i a s e1 e2 => same_new hp _ _ (hA i a s e1 e2)⟩⟩⟩
        refine ⟨_, rfl, a, rfl, ?_⟩
        rcases hS with hS | hS
        · refine .inl ⟨xs, SqL.of hS, fun D hD => lc_list (K := K) (a := a) (xs := xs) (Lv D) ⟨[], rfl, same_new hD, upd_same, fun j b t z => nomatch z⟩ (fun i H2 _ ⟨as, _, s5, _⟩ => SqL.of (s5 _ _ hS)) ?_ ?_⟩
          · rintro i x H2 hx ⟨as, ha, s2, hD2, hA⟩
            obtain ⟨b, s, e, hs, hb⟩ := gett i x hx
            subst e
            refine ⟨rfl, _, rfl, b, pcV s, rfl, ?_⟩
            rcases hb with hb | hb
            · exact .inl ⟨SqL.of (s2 _ _ hb), fun l hl' => fin D hD i as H2 _ l s (lt_at hx) ha s2 hD2 hA hs (same_new hl') upd_same⟩
            · exact .inr ⟨SqT.of (s2 _ _ hb), fin D hD i as H2 _ b s (lt_at hx) ha s2 hD2 hA hs (fun _ _ e => e) (s2 _ _ hb)⟩
          · rintro H2 h2
            obtain ⟨as, hD2, k⟩ := dn D H2 h2 Q fun p H' s3 => qq p H' (s1.trans s3)
            exact ⟨D, _, rfl, .inl ⟨SqL.of hD2, k⟩⟩
        · refine .inr ⟨xs, SqT.of hS, fun D hD => lc_tup (K := K) (a := a) (xs := xs) (Lv D) ⟨[], rfl, same_new hD, upd_same, fun j b t z => nomatch z⟩ (fun i H2 _ ⟨as, _, s5, _⟩ => SqT.of (s5 _ _ hS)) ?_ ?_⟩
          · rintro i x H2 hx ⟨as, ha, s2, hD2, hA⟩
            obtain ⟨b, s, e, hs, hb⟩ := gett i x hx
            subst e
            refine ⟨rfl, _, rfl, b, pcV s, rfl, ?_⟩
            rcases hb with hb | hb
            · exact .inl ⟨SqL.of (s2 _ _ hb), fun l hl' => fin D hD i as H2 _ l s (lt_at hx) ha s2 hD2 hA hs (same_new hl') upd_same⟩
            · exact .inr ⟨SqT.of (s2 _ _ hb), fin D hD i as H2 _ b s (lt_at hx) ha s2 hD2 hA hs (fun _ _ e => e) (s2 _ _ hb)⟩
          · rintro H2 h2
            obtain ⟨as, hD2, k⟩ := dn D H2 h2 Q fun p H' s3 => qq p H' (s1.trans s3)
            exact ⟨D, _, rfl, .inl ⟨SqL.of hD2, k⟩⟩
    · rw [e]
      exact ⟨_, rfl, _, rfl, iteT ⟨_, rfl, _, rfl, fun d' hd => qE z e d' _ (s1.trans (same_new hd)) (s1.free hd) upd_same⟩⟩
abbrev nCW : List Str := ["web", "value"]
theorem scCW : FnScope nCW ["web", "value"] (defScope sCheckWalk) := ⟨rfl, rfl, rfl, by decide +kernel, rfl, by decide +kernel, by decide +kernel⟩
theorem ok_ckW {f fF W C : Addr} {fd fdF : FuncData} (D : Df K mg "check_walk" sCheckWalk ["web", "value"] f fd) (DF : Df K mg "walk_of" sWalkOf ["web", "deeds", "value"] fF fdF) (c : Ct8 mg)
    (GF : FnOk P w K mg base (L2.CX P w) 5 fF fdF ["web", "deeds", "value"] (spWalkOf K W C)) : FnOk P w K mg base (L2.CX P w) 6 f fd ["web", "value"] (spCkW K W C) := by
  obtain ⟨t1, hc1⟩ := c.tabs
  refine D.F.okX scCW (fun vs H Q E h => ?_) (fun cdv A outer s H vs Q E hr h => ?_)
  · obtain ⟨w, v, o, n, ts, rfl, _⟩ := h
    rfl
  · obtain ⟨w, v, o, n, ts, rfl, hw, hv, qE, q⟩ := h
    refine ⟨_, (pss_one (ps_ret (pc DF GF hr (pass1 (takes_of rfl rfl rfl rfl)) (pa_cons (pv 0) (pa_cons (pe_glob (v := .int 8) (by rfl) hc1 ⟨_, rfl⟩) (pa_cons (pv 1) pa_nil)))))), ?_⟩
    exact ⟨_, rfl, _, rfl, w, v, o, n, 8, ts, rfl, hw, hv, qE, q⟩
end
end K1
namespace ZM
open PySem PySem.Spec PyProof.Rows L2
theorem lc_zipM {K : PySem.W.Frag} {t1 t2 : Bool} {a b : Addr} {xs ys : List V} {g : TG} {tt : TT} {te : TE} {vs : List Nat} {σ : L2.St} {H1 : Hp} {D : Addr} {Qd : Hp → Prop} (hl : xs.length = ys.length) (Pv : Nat → Hp → Prop) (h0 : Pv 0 (upd H1 D (.lst []))) (hq : ∀ i H, i ≤ xs.length → Pv i H → Sq t1 K H a xs ∧ Sq t2 K H b ys)
    (hs : ∀ i x y T H, xs[i]? = some x → ys[i]? = some y → H T = none → Pv i H → g (.ref T) (wipe σ vs) (upd H T (.tup [x, y])) fun σ2 H2 => wipe σ2 vs = wipe σ vs ∧ tt σ2 H2 fun b H3 =>
      if b = true then te σ2 H3 fun y H4 => ∃ acc, H4 D = some (.lst acc) ∧ acc.length < sizeLine ∧ Pv (i + 1) (upd H4 D (.lst (acc ++ [y]))) else Pv (i + 1) H3) (hd : ∀ H, Pv xs.length H → Qd H) :
    ∃ W : Nat → Nat → Hp → Prop, (∃ m, W 0 m (upd H1 D (.lst []))) ∧ ∀ i m H, W i m H →
      ((ItzM K t1 t2 a b).stop i H ∧ Qd H) ∨ ((ItzM K t1 t2 a b).go i H ∧ ∃ Nx : Hp → Prop, (∀ H', Nx H' → ∃ m', m' < m ∧ W (i + 1) m' H') ∧ ∀ x H', (ItzM K t1 t2 a b).yld i H x H' → g x (wipe σ vs) H' fun σ2 H2 => wipe σ2 vs = wipe σ vs ∧ tt σ2 H2 fun b H3 =>
        if b = true then te σ2 H3 fun y H4 => ∃ acc, H4 D = some (.lst acc) ∧ acc.length < sizeLine ∧ Nx (upd H4 D (.lst (acc ++ [y]))) else Nx H3) := by
  refine ⟨fun i m H => m = xs.length - i ∧ i ≤ xs.length ∧ Pv i H, ⟨xs.length, by simp, Nat.zero_le _, h0⟩, ?_⟩
  rintro i m H ⟨rfl, hi, p⟩
  obtain ⟨q1, q2⟩ := hq i H hi p
  by_cases hlt : i < xs.length
  · have hlt2 : i < ys.length := by omega
    refine .inr ⟨⟨xs, ys, _, _, q1, q2, List.getElem?_eq_getElem hlt, List.getElem?_eq_getElem hlt2⟩, Pv (i + 1), fun H' p' => ⟨xs.length - (i + 1), by omega, rfl, hlt, p'⟩, fun x H' y => ?_⟩
    obtain ⟨T, x', y', e1, e2, e3, e4, e5⟩ := y
    subst e1 e3
    exact hs i x' y' T H (e4 xs q1) (e5 ys q2) e2 p
  · have e : i = xs.length := by omega
    subst e
    exact .inl ⟨⟨xs, ys, q1, q2, Nat.le_refl _, by omega, .inl rfl⟩, hd H p⟩
end ZM
namespace K1
open PySem PySem.Spec PyProof.Rows L2
theorem lc_enumL {K : PySem.W.Frag} {a : Addr} {xs : List V} {g : TG} {tt : TT} {te : TE} {vs : List Nat} {σ : L2.St} {H1 : Hp} {D : Addr} {Qd : Hp → Prop} (Pv : Nat → Hp → Prop) (h0 : Pv 0 (upd H1 D (.lst []))) (hl : ∀ i H, i ≤ xs.length → Pv i H → SqL K H a xs)
    (hs : ∀ i x T H, xs[i]? = some x → H T = none → Pv i H → g (.ref T) (wipe σ vs) (upd H T (.tup [.int (i : Nat), x])) fun σ2 H2 => wipe σ2 vs = wipe σ vs ∧ tt σ2 H2 fun b H3 =>
      if b = true then te σ2 H3 fun y H4 => ∃ acc, H4 D = some (.lst acc) ∧ acc.length < sizeLine ∧ Pv (i + 1) (upd H4 D (.lst (acc ++ [y]))) else Pv (i + 1) H3) (hd : ∀ H, Pv xs.length H → Qd H) :
    ∃ W : Nat → Nat → Hp → Prop, (∃ m, W 0 m (upd H1 D (.lst []))) ∧ ∀ i m H, W i m H →
      ((Ite K a).stop i H ∧ Qd H) ∨ ((Ite K a).go i H ∧ ∃ Nx : Hp → Prop, (∀ H', Nx H' → ∃ m', m' < m ∧ W (i + 1) m' H') ∧ ∀ x H', (Ite K a).yld i H x H' → g x (wipe σ vs) H' fun σ2 H2 => wipe σ2 vs = wipe σ vs ∧ tt σ2 H2 fun b H3 =>
        if b = true then te σ2 H3 fun y H4 => ∃ acc, H4 D = some (.lst acc) ∧ acc.length < sizeLine ∧ Nx (upd H4 D (.lst (acc ++ [y]))) else Nx H3) := by
  refine ⟨fun i m H => m = xs.length - i ∧ i ≤ xs.length ∧ Pv i H, ⟨xs.length, by simp, Nat.zero_le _, h0⟩, ?_⟩
  rintro i m H ⟨rfl, hi, p⟩
  have q := hl i H hi p
  by_cases hlt : i < xs.length
  · refine .inr ⟨⟨xs, xs[i], q, by simp [hlt]⟩, Pv (i + 1), fun H' p' => ⟨xs.length - (i + 1), by omega, rfl, hlt, p'⟩, fun x H' y => ?_⟩
    obtain ⟨T, x', e1, e2, e3, e4⟩ := y
    subst e1 e3
    exact hs i x' T H (e4 xs q) e2 p
  · have e : i = xs.length := by omega
    subst e
    exact .inl ⟨⟨xs, q, Nat.le_refl _⟩, hd H p⟩
end K1
namespace K1
open PySem PySem.Spec PyProof.Rows L2
/-! ### the parts of the sums -/
/-- what a pace begins with -/
theorem pc_read (p : Pc) : (∃ h, p = .rd h ∧ (pcV p)[0]? = some (V.str "read") ∧ (pcV p)[1]? = some (V.int (h : Int))) ∨ (∃ h d, p = .st (.dd h d) ∧ (pcV p)[0]? = some (V.str "do") ∧ (pcV p)[1]? = some (V.int (h : Int)) ∧ (pcV p)[2]? = some (V.int (d : Int))) ∨ ∃ t, p = .st (.mt t) ∧ (pcV p)[0]? = some (V.str "meet") ∧ (pcV p)[1]? = some (V.int (t : Int)) := by
  cases p with
  | rd h => exact .inl ⟨h, rfl, rfl, rfl⟩
  | st s =>
    cases s with
    | dd h d => exact .inr (.inl ⟨h, d, rfl, rfl, rfl, rfl⟩)
    | mt t => exact .inr (.inr ⟨t, rfl, rfl, rfl⟩)
/-- the houses that were read ahead of each pace -/
def RdL (H : Hp) (l : Addr) (ws : List Pc) : Prop := ∃ as : List Addr, H l = some (.lst (as.map V.ref)) ∧ as.length = ws.length ∧ ∀ (j : Nat) a, as[j]? = some a → H a = some (.tup (vn (rds (ws.take j))))
theorem RdL.same {H H' : Hp} {l : Addr} {ws : List Pc} (h : RdL H l ws) (s : Same H H') : RdL H' l ws := let ⟨as, h1, h2, h3⟩ := h; ⟨as, s _ _ h1, h2, fun j a e => s _ _ (h3 j a e)⟩
def uEnds (ts : Prs) (R : List Nat) : Pc → List Nat
  | .st (.mt t) => if ([(ts.getD t (0, 0)).1, (ts.getD t (0, 0)).2].filter fun h => decide (h ∉ R)).length = 1 then [(ts.getD t (0, 0)).1, (ts.getD t (0, 0)).2].filter fun h => decide (h ∉ R) else []
  | _ => []
theorem uEnds_len (ts : Prs) (R : List Nat) (p : Pc) : (uEnds ts R p).length ≤ 1 := by
  cases p with
  | rd h => exact Nat.zero_le _
  | st s =>
    cases s with
    | dd h d => exact Nat.zero_le _
    | mt t =>
      show (if ([(ts.getD t (0, 0)).1, (ts.getD t (0, 0)).2].filter fun h => decide (h ∉ R)).length = 1 then [(ts.getD t (0, 0)).1, (ts.getD t (0, 0)).2].filter fun h => decide (h ∉ R) else []).length ≤ 1
      by_cases h : ([(ts.getD t (0, 0)).1, (ts.getD t (0, 0)).2].filter fun h => decide (h ∉ R)).length = 1
      · rw [if_pos h, h]; exact Nat.le_refl _
      · rw [if_neg h]; exact Nat.zero_le _
def madd (xs ys : List Int) (k : Int) : List Int := List.zipWith (fun x y => x + k * y) xs ys
theorem madd_len {xs ys : List Int} {k : Int} {n : Nat} (h : xs.length = n) (h2 : ys.length = n) : (madd xs ys k).length = n := by
  unfold madd; rw [List.length_zipWith, h, h2, Nat.min_self]
theorem madd_at {xs ys : List Int} {k : Int} {n i : Nat} (h : xs.length = n) (h2 : ys.length = n) (hi : i < n) : (madd xs ys k).getD i 0 = xs.getD i 0 + k * ys.getD i 0 := by
  unfold madd
  simp only [List.getD_eq_getElem?_getD, List.getElem?_zipWith, List.getElem?_eq_getElem (show i < xs.length by omega), List.getElem?_eq_getElem (show i < ys.length by omega)]
  rfl
/-- the ties of a house to houses that were read -/
def trd (ts : Prs) (h : Nat) (R : List Nat) : List Nat := ((wOn ts h).filter fun q => decide (q.2 ∈ R)).map (·.1)
def spDeedsP : Sp := fun vs H Q _ => ∃ (p : Addr) (ws : List Pc), vs = [.ref p] ∧ PcsT H p ws ∧ ws.length ≤ 401 ∧ ∀ q H', Same H H' → H' q = some (.tup (vrow (actD (sts ws)))) → Q (.ref q) H'
def spRA : Sp := fun vs H Q _ => ∃ (p : Addr) (ws : List Pc), vs = [.ref p] ∧ PcsT H p ws ∧ ws.length ≤ 401 ∧ ∀ l H', Same H H' → H l = none → RdL H' l ws → Q (.ref l) H'
def spUE (W : Addr) : Sp := fun vs H Q _ => ∃ (w a r : Addr) (n d : Nat) (ts : Prs) (p : Pc) (R : List Nat), vs = [.ref w, .ref a, .ref r] ∧ WebAt W H w n ts ∧ H a = some (.tup (pcV p)) ∧ H r = some (.tup (vn R)) ∧ okP n ts.length d p ∧ ∀ l H', Same H H' → H l = none → H' l = some (.lst (vn (uEnds ts R p))) → Q (.ref l) H'
def spMore : Sp := fun vs H Q _ => ∃ (a b : Addr) (xs ys : List Int) (k : Int), vs = [.ref a, .ref b, .int k] ∧ H a = some (.tup (vrow xs)) ∧ H b = some (.tup (vrow ys)) ∧ xs.length = ys.length ∧ xs.length ≤ 1000 ∧ (k = 1 ∨ k = -1) ∧ ∀ p H', Same H H' → H' p = some (.tup (vrow (madd xs ys k))) → Q (.ref p) H'
def spTR (W : Addr) : Sp := fun vs H Q _ => ∃ (w r : Addr) (n : Nat) (ts : Prs) (h : Nat) (R : List Nat), vs = [.ref w, .int (h : Int), .ref r] ∧ WebAt W H w n ts ∧ Wv n ts ∧ h < n ∧ H r = some (.tup (vn R)) ∧ ∀ l H', Same H H' → H l = none → H' l = some (.lst (vn (trd ts h R))) → Q (.ref l) H'
section
variable {P : Program} {w : World} {K : PySem.W.Frag} {mg : Str → Option Value} {base : Heap}
abbrev nDO : List Str := ["steps", "step"]
theorem scDO : FnScope nDO ["steps"] (defScope sDeedsOf) := ⟨rfl, rfl, rfl, by decide +kernel, rfl, by decide +kernel, by decide +kernel⟩
theorem ok_deedsP {f : Addr} {fd : FuncData} (D : Df K mg "deeds_of" sDeedsOf ["steps"] f fd) (B : Bt mg) (c : Cs mg) : FnOk P w K mg base CX0 1 f fd ["steps"] spDeedsP := by
  obtain ⟨t1, hc1⟩ := c.doo
  refine D.F.ok scDO (fun vs H Q E h => ?_) (fun cdv A outer s H vs Q E hr h => ?_)
  · obtain ⟨p, ss, rfl, _⟩ := h
    rfl
  · obtain ⟨p, ss, rfl, ⟨as, hp1, hp2⟩, hl, q⟩ := h
    refine ⟨_, (pss_one (ps_ret (pe_callTy call_tuple_of (by rfl) B.tuple PyProof.Rows.boot_tuple (pa_cons (pe_lc (own := [("step", 1)]) (g := gName 1) rfl scDO.nd (pi_tup (pv 0)) (blkOk_by (N := nDO) (sc := defScope sDeedsOf) (by decide +kernel)) (fun _ _ _ _ _ => (pg_name (i := 1) scDO.nd rfl (Or.inl rfl))) (fun _ _ _ _ _ => pts_one (pt_cmpR op_eq (pe_ix (ixTK (K := K) rfl) (pv 1) pe_int (fun _ _ => rfl)) (pe_glob (v := .str "do") (by rfl) hc1 ⟨_, rfl⟩) (nomark _))) (fun _ _ _ _ _ => (pe_ix (ixTK (K := K) rfl) (pv 1) pe_int (fun _ _ => rfl)))) pa_nil)))), ?_⟩
    refine ⟨_, rfl, p, rfl, ⟨_, SqT.of hp1⟩, fun D0 hD0 => lc_tup (K := K) (a := p) (xs := as.map V.ref) (fun i H3 => Same H H3 ∧ H3 D0 = some (.lst (vrow (actD (sts (ss.take i)))))) ⟨same_new hD0, by rw [upd_same]; rfl⟩ (fun i H3 _ ⟨s3, _⟩ => SqT.of (s3 _ _ hp1)) ?_ ?_⟩
    · rintro i x H3 hx ⟨s3, hD3⟩
      obtain ⟨a, st, rfl, ha, hst, hat⟩ := hp2.get' hx
      have ea := take_succ hst
      have hla : (actD (sts (ss.take i))).length ≤ 401 := Nat.le_trans (actD_len _) (Nat.le_trans (sts_len _) (by rw [List.length_take]; omega))
      have hat3 := s3 _ _ hat
      refine ⟨rfl, ?_⟩
      rcases pc_read st with ⟨h, rfl, e0, _⟩ | ⟨h, d, rfl, e0, _, e2⟩ | ⟨t, rfl, e0, _⟩
      · refine ⟨_, rfl, a, _, (0 : Int), .str "read", rfl, rfl, SqT.of hat3, at_i e0, ⟨rfl, false, congrArg V.bl (decide_eq_false (by decide +kernel)), iteF ?_⟩⟩
        refine ⟨s3, ?_⟩
        rw [ea, sts_app, show sts [Pc.rd h] = [] from rfl, List.append_nil]; exact hD3
      · refine ⟨_, rfl, a, _, (0 : Int), .str "do", rfl, rfl, SqT.of hat3, at_i e0, ⟨rfl, true, congrArg V.bl (decide_eq_true rfl), iteT ?_⟩⟩
        refine ⟨_, rfl, a, _, (2 : Int), .int (d : Int), rfl, rfl, SqT.of hat3, at_i e2, _, hD3, szl (by rw [vrow_len]; omega), fun c o e => by rw [upd_ne (ne_of_none e hD0)]; exact s3 _ _ e, ?_⟩
        rw [upd_same, ea, sts_app, actD_app, vrow, vrow, List.map_append]; rfl
      · refine ⟨_, rfl, a, _, (0 : Int), .str "meet", rfl, rfl, SqT.of hat3, at_i e0, ⟨rfl, false, congrArg V.bl (decide_eq_false (by decide +kernel)), iteF ?_⟩⟩
        refine ⟨s3, ?_⟩
        rw [ea, sts_app, actD_app, show actD (sts [Pc.st (Stp.mt t)]) = [] from rfl, List.append_nil]; exact hD3
    · rintro H3 ⟨s3, hD3⟩
      rw [List.take_of_length_le (by rw [List.length_map, hp2.1]; exact Nat.le_refl _)] at hD3
      exact ⟨D0, _, rfl, .inl ⟨SqL.of hD3, fun l hl' => q l _ (s3.trans (same_new hl')) upd_same⟩⟩
abbrev nRA : List Str := ["paces", "found", "read", "pace"]
theorem scRA : FnScope nRA ["paces"] (defScope sReadAhead) := ⟨rfl, rfl, rfl, by decide +kernel, rfl, by decide +kernel, by decide +kernel⟩
theorem ok_ra {f : Addr} {fd : FuncData} (D : Df K mg "read_ahead" sReadAhead ["paces"] f fd) (c : Cr mg) : FnOk P w K mg base CX0 1 f fd ["paces"] spRA := by
  obtain ⟨t1, hcR⟩ := c.read
  refine D.F.ok scRA (fun vs H Q E h => ?_) (fun cdv A outer s H vs Q E hr h => ?_)
  · obtain ⟨p, ss, rfl, _⟩ := h
    rfl
  · obtain ⟨p, ws, rfl, ⟨as, hp1, hp2⟩, hl, q⟩ := h
    refine ⟨_, (pss_cons (ps_set (i := 1) scRA.nd rfl (.inl rfl) (pe_lst pa_nil))
    (pss_cons (ps_set (i := 2) scRA.nd rfl (.inl rfl) (pe_tup pa_nil))
    (pss_cons (ps_for PassesOwn.never rfl (pi_tup (pv 0)) (pg_name (i := 3) scRA.nd rfl (.inl rfl))
      (pss_cons (ps_expr (pe_bm PySem.F.plainAttrs_list PySem.F.slot_list_append PySem.F.type_list_append mt_append (pv 1) (pa_cons (pv 2) pa_nil)))
      (pss_one (ps_if (pt_cmpR op_eq (pe_ix ix_tup (pv 3) pe_int (fun _ _ => rfl)) (pe_glob (v := .str "read") (by rfl) hcR ⟨_, rfl⟩) (nomark _))
        (pss_one (ps_set (i := 2) scRA.nd rfl (.inl rfl) (pe_op (opCatA (K := K) rfl) (pv 2) (pe_tup (pa_cons (pe_ix ix_tup (pv 3) pe_int (fun _ _ => rfl)) pa_nil)))))
        pss_nil))))
    (pss_one (ps_ret (pv 1)))))), ?_⟩
    refine ⟨(by show 0 ≤ sizeLine; decide), fun L hL => ?_⟩
    dsimp only [List.set]
    have sL := same_new (o := HO.lst []) hL
    have hL1 : (upd H L (HO.lst [])) L = some (.lst []) := upd_same
    generalize upd H L (HO.lst []) = H1 at sL hL1 ⊢
    refine ⟨(by show 0 ≤ sizeLine; decide), fun r0 hr0 => ?_⟩
    dsimp only [List.set]
    have s0 := same_new (o := HO.tup []) hr0
    have hr1 : (upd H1 r0 (HO.tup [])) r0 = some (.tup []) := upd_same
    have hL2 := s0 _ _ hL1
    have s01 := sL.trans s0
    generalize upd H1 r0 (HO.tup []) = H2 at s0 hr1 hL2 s01 ⊢
    refine ⟨_, rfl, p, rfl, ⟨_, SqT.of (s01 _ _ hp1)⟩, for_tup (K := K) (a := p) (xs := as.map V.ref) (fun i σ H' => ∃ (v3 : Option V) (r : Addr) (bs : List Addr), σ = [some (.ref p), some (.ref L), some (.ref r), v3] ∧ Same H H' ∧ H' L = some (.lst (bs.map V.ref)) ∧ bs.length = i ∧ (∀ (j : Nat) a, bs[j]? = some a → H' a = some (.tup (vn (rds (ws.take j))))) ∧ H' r = some (.tup (vn (rds (ws.take i)))))
      ⟨none, r0, [], rfl, s01, hL2, rfl, (fun j a e => (by cases e)), hr1⟩ (fun i σ H' _ ⟨_, _, _, _, s3, _⟩ => SqT.of (s3 _ _ hp1)) ?_ ?_⟩
    · rintro i x σ H' hx ⟨v3, r, bs, rfl, s3, hL3, lb, hb, hr3⟩
      obtain ⟨a, st, rfl, ha, hst, hat⟩ := hp2.get' hx
      refine gn ?_
      dsimp only [List.set]
      have ea := take_succ hst
      have hi := lt_at hst
      have nr : r ≠ L := fun z => by rw [z, hL3] at hr3; cases hr3
      refine ⟨_, rfl, .inl ⟨rfl, _, SqL.of hL3⟩, _, rfl, L, _, _, rfl, rfl, hL3, szl (by rw [List.length_map]; omega), ?_⟩
      have s4 : Same H (upd H' L (HO.lst (bs.map V.ref ++ [V.ref r]))) := fun c o e => by rw [upd_ne (ne_of_none e hL)]; exact s3 _ _ e
      have kp : ∀ c xs, H' c = some (.tup xs) → (upd H' L (HO.lst (bs.map V.ref ++ [V.ref r]))) c = some (.tup xs) := fun c xs e => by rw [upd_ne (fun z => by rw [z, hL3] at e; cases e)]; exact e
      have hL4 : (upd H' L (HO.lst (bs.map V.ref ++ [V.ref r]))) L = some (.lst ((bs ++ [r]).map V.ref)) := by rw [upd_same, List.map_append]; rfl
      have hat4 := s4 _ _ hat
      have hr4 := kp _ _ hr3
      have hb4 : ∀ (j : Nat) a, (bs ++ [r])[j]? = some a → (upd H' L (HO.lst (bs.map V.ref ++ [V.ref r]))) a = some (.tup (vn (rds (ws.take j)))) := fun j a e => by
        rcases snoc_at e with e2 | ⟨e2, rfl⟩
        · exact kp _ _ (hb j a e2)
        · rw [e2, lb]; exact hr4
      have lb4 : (bs ++ [r]).length = i + 1 := by rw [List.length_append, lb]; rfl
      generalize upd H' L (HO.lst (bs.map V.ref ++ [V.ref r])) = H4 at s4 hL4 hat4 hr4 hb4 ⊢
      have stay : rds (ws.take i ++ [st]) = rds (ws.take i) → ∃ (v3' : Option V) (r' : Addr) (bs' : List Addr), [some (V.ref p), some (.ref L), some (.ref r), some (.ref a)] = [some (.ref p), some (.ref L), some (.ref r'), v3'] ∧ Same H H4 ∧ H4 L = some (.lst (bs'.map V.ref)) ∧ bs'.length = i + 1 ∧ (∀ (j : Nat) a, bs'[j]? = some a → H4 a = some (.tup (vn (rds (ws.take j))))) ∧ H4 r' = some (.tup (vn (rds (ws.take (i + 1))))) := fun e => ⟨_, r, _, rfl, s4, hL4, lb4, hb4, by rw [ea, e]; exact hr4⟩
      rcases pc_read st with ⟨h, rfl, e0, e1⟩ | ⟨h, d, rfl, e0, _⟩ | ⟨t, rfl, e0, _⟩
      · refine ⟨_, rfl, a, _, (0 : Int), .str "read", rfl, rfl, SqT.of hat4, at_i e0, ⟨rfl, true, congrArg V.bl (decide_eq_true rfl), iteT ?_⟩⟩
        refine ⟨_, rfl, _, rfl, a, _, (1 : Int), .int (h : Int), rfl, rfl, SqT.of hat4, at_i e1, (by show 1 ≤ sizeLine; decide), fun q1 hq1 => ?_⟩
        have s5 := same_new (o := HO.tup [V.int (h : Int)]) hq1
        refine catA_by (s5 _ _ hr4) upd_same (sz (by rw [vn_len]; have := rds_len (ws.take i); rw [List.length_take] at this; simp only [List.length_cons, List.length_nil]; omega)) fun r2 H5 s6 hr5 => ?_
        have s56 := s5.trans s6
        exact ⟨_, r2, _, rfl, s4.trans s56, s56 _ _ hL4, lb4, fun j a e => s56 _ _ (hb4 j a e), by rw [hr5, ea, rds_app, vn, vn, List.map_append]; rfl⟩
      · refine ⟨_, rfl, a, _, (0 : Int), .str "do", rfl, rfl, SqT.of hat4, at_i e0, ⟨rfl, false, congrArg V.bl (decide_eq_false (by decide +kernel)), iteF ?_⟩⟩
        exact stay (by rw [rds_app, show rds [Pc.st (Stp.dd h d)] = [] from rfl, List.append_nil])
      · refine ⟨_, rfl, a, _, (0 : Int), .str "meet", rfl, rfl, SqT.of hat4, at_i e0, ⟨rfl, false, congrArg V.bl (decide_eq_false (by decide +kernel)), iteF ?_⟩⟩
        exact stay (by rw [rds_app, show rds [Pc.st (Stp.mt t)] = [] from rfl, List.append_nil])
    · rintro σ H' ⟨v3, r, bs, rfl, s3, hL3, lb, hb, hr3⟩
      exact ⟨_, rfl, q L H' s3 hL ⟨bs, hL3, by rw [lb, List.length_map, hp2.1], hb⟩⟩
abbrev nUE : List Str := ["web", "pace", "read", "unread", "house"]
theorem scUE : FnScope nUE ["web", "pace", "read"] (defScope sUnreadEnds) := ⟨rfl, rfl, rfl, by decide +kernel, rfl, by decide +kernel, by decide +kernel⟩
theorem ok_ue {f W : Addr} {fd : FuncData} (D : Df K mg "unread_ends" sUnreadEnds ["web", "pace", "read"] f fd) (B : Bt mg) (c : Cs mg) (T : WcT K mg W) : FnOk P w K mg base CX0 1 f fd ["web", "pace", "read"] (spUE W) := by
  obtain ⟨t1, hcM⟩ := c.meet
  refine D.F.ok scUE (fun vs H Q E h => ?_) (fun cdv A outer s H vs Q E hr h => ?_)
  · obtain ⟨w, a, r, n, d, ts, p, R, rfl, _⟩ := h
    rfl
  · obtain ⟨w, a, r, n, d, ts, p, R, rfl, hw, ha, hR, hok, q⟩ := h
    refine ⟨_, (pss_cons (ps_if (pt_cmpR op_ne (pe_ix ix_tup (pv 1) pe_int (fun _ _ => rfl)) (pe_glob (v := .str "meet") (by rfl) hcM ⟨_, rfl⟩) (nomark _))
      (pss_one (ps_ret (pe_lst pa_nil)))
      pss_nil)
    (pss_cons (ps_setLc (i := 3) (own := [("house", 4)]) (g := gName 4) rfl scUE.nd rfl rfl (sw_true rfl rfl rfl (by decide +kernel)) (pi_tup (pe_ix ix_tup (pe_fld (pv 0) rfl) (pe_ix ix_tup (pv 1) pe_int (fun _ _ => rfl)) (fun _ _ => rfl))) (blkOk_by (N := nUE) (sc := defScope sUnreadEnds) (by decide +kernel)) (fun _ _ _ _ _ => (pg_name (i := 4) scUE.nd rfl (Or.inl rfl))) (fun _ _ _ _ _ => pts_one (pt_cmpR (opNotInK (K := K) rfl) (pv 4) (pv 2) rfl)) (fun _ _ _ _ _ => (pv 4)))
    (pss_one (ps_ret (pe_ifExp (pt_cmpR op_eq (pe_callB call_len_seq (by rfl) B.len PySem.boot_len (pa_cons (pv 3) pa_nil)) pe_int (nomark _)) (pv 3) (pe_lst pa_nil)))))), ?_⟩
    rcases pc_read p with ⟨h, rfl, e0, e1⟩ | ⟨h, d, rfl, e0, _⟩ | ⟨t, rfl, e0, e1⟩
    · refine ⟨_, rfl, a, _, (0 : Int), .str "read", rfl, rfl, SqT.of ha, at_i e0, ⟨rfl, true, congrArg V.bl (by rw [decide_eq_false (by decide +kernel)]; rfl), iteT ?_⟩⟩
      exact ⟨(by show 0 ≤ sizeLine; decide), fun l hl => q l _ (same_new hl) hl upd_same⟩
    · refine ⟨_, rfl, a, _, (0 : Int), .str "do", rfl, rfl, SqT.of ha, at_i e0, ⟨rfl, true, congrArg V.bl (by rw [decide_eq_false (by decide +kernel)]; rfl), iteT ?_⟩⟩
      exact ⟨(by show 0 ≤ sizeLine; decide), fun l hl => q l _ (same_new hl) hl upd_same⟩
    · obtain ⟨dx, ta, h1, tas, g1, g2⟩ := hw
      obtain ⟨pr, hpr⟩ := ex_at (show t < ts.length from hok)
      have ep : ts.getD t (0, 0) = pr := by rw [List.getD_eq_getElem?_getD, hpr]; rfl
      obtain ⟨pa, hpa, hpl⟩ := g2.get hpr
      refine ⟨_, rfl, a, _, (0 : Int), .str "meet", rfl, rfl, SqT.of ha, at_i e0, ⟨rfl, false, congrArg V.bl (by rw [decide_eq_true rfl]; rfl), iteF (nxP ?_)⟩⟩
      have eu : uEnds ts R (.st (.mt t)) = if ([pr.1, pr.2].filter fun h => decide (h ∉ R)).length = 1 then [pr.1, pr.2].filter fun h => decide (h ∉ R) else [] := by
        show (if ([(ts.getD t (0, 0)).1, (ts.getD t (0, 0)).2].filter fun h => decide (h ∉ R)).length = 1 then [(ts.getD t (0, 0)).1, (ts.getD t (0, 0)).2].filter fun h => decide (h ∉ R) else []) = _
        rw [ep]
      rw [eu] at q
      have hpl : H pa = some (.tup (vn [pr.1, pr.2])) := hpl
      refine ⟨_, rfl, w, W, dx, _, _, rfl, h1, T.cl, T.nT, wf_t _ _, _, rfl, a, _, (1 : Int), .int (t : Int), rfl, rfl, SqT.of ha, at_i e1, ta, _, (t : Int), .ref pa, rfl, rfl, SqT.of g1, at_i (map_at hpa), pa, rfl, ⟨_, SqT.of hpl⟩, fun D0 hD0 => lc_tup (K := K) (a := pa) (xs := vn [pr.1, pr.2]) (fun i H3 => Same H H3 ∧ H3 D0 = some (.lst (vn (([pr.1, pr.2].take i).filter fun h => decide (h ∉ R))))) ⟨same_new hD0, by rw [upd_same]; rfl⟩ (fun i H3 _ ⟨s3, _⟩ => SqT.of (s3 _ _ hpl)) ?_ ?_⟩
      · rintro i x H3 hx ⟨s3, hD3⟩
        obtain ⟨h, hh, rfl⟩ := at_vn hx
        have hi := lt_at hh
        refine ⟨rfl, ?_⟩
        refine ⟨_, rfl, _, rfl, r, vn R, rfl, .inr (SqT.of (s3 _ _ hR)), rfl, flat_vn R, ?_⟩
        rw [inV_vn]
        refine ⟨_, rfl, ifD (fun e => ?_) fun e => ?_⟩
        · have nin : h ∉ R := by simpa using e
          refine ⟨_, rfl, _, hD3, szl (by rw [vn_len]; have := List.length_filter_le (fun h => decide (h ∉ R)) ([pr.1, pr.2].take i); rw [List.length_take] at this; simp only [List.length_cons, List.length_nil] at this; omega), fun c o e => by rw [upd_ne (ne_of_none e hD0)]; exact s3 _ _ e, ?_⟩
          rw [upd_same, take_succ hh, List.filter_append, show [h].filter (fun h => decide (h ∉ R)) = [h] from by rw [List.filter_cons, if_pos (decide_eq_true nin)]; rfl, vn, vn, List.map_append]; rfl
        · have nin : h ∈ R := by simpa using e
          refine ⟨s3, ?_⟩
          rw [take_succ hh, List.filter_append, show [h].filter (fun h => decide (h ∉ R)) = [] from by rw [List.filter_cons, if_neg (by simpa using nin)]; rfl, List.append_nil]; exact hD3
      · rintro H3 ⟨s3, hD3⟩
        rw [List.take_of_length_le (by rw [vn_len]; exact Nat.le_refl _)] at hD3
        dsimp only [List.set]
        refine ⟨_, rfl, D0, _, rfl, .inl (SqL.of hD3), ⟨rfl, _, rfl, ifD (fun e => ?_) fun e => ?_⟩⟩
        · have e1 : ([pr.1, pr.2].filter fun h => decide (h ∉ R)).length = 1 := by
            have := of_decide_eq_true e
            injection this with this
            rw [vn_len] at this
            exact Int.ofNat.inj this
          rw [if_pos e1] at q
          exact ⟨_, rfl, q D0 _ s3 hD0 hD3⟩
        · have e1 : ¬ ([pr.1, pr.2].filter fun h => decide (h ∉ R)).length = 1 := fun z => by
            refine of_decide_eq_false e ?_
            rw [vn_len, z]; rfl
          rw [if_neg e1] at q
          exact ⟨(by show 0 ≤ sizeLine; decide), fun l hl => q l _ (s3.trans (same_new hl)) (s3.free hl) upd_same⟩
abbrev nWM : List Str := ["sums", "counts", "times", "total", "count"]
theorem scWM : FnScope nWM ["sums", "counts", "times"] (defScope sWithMore) := ⟨rfl, rfl, rfl, by decide +kernel, rfl, by decide +kernel, by decide +kernel⟩
theorem ok_more {f : Addr} {fd : FuncData} (D : Df K mg "with_more" sWithMore ["sums", "counts", "times"] f fd) (B : Bt mg) : FnOk P w K mg base CX0 1 f fd ["sums", "counts", "times"] spMore := by
  refine D.F.ok scWM (fun vs H Q E h => ?_) (fun cdv A outer s H vs Q E hr h => ?_)
  · obtain ⟨a, b, xs, ys, k, rfl, _⟩ := h
    rfl
  · obtain ⟨a, b, xs, ys, k, rfl, ha, hb, hl, l3, hk1, q⟩ := h
    refine ⟨_, (pss_one (ps_ret (pe_callTy call_tuple_of (by rfl) B.tuple PyProof.Rows.boot_tuple (pa_cons (pe_lc (own := [("total", 3), ("count", 4)]) (g := gTup K 2 (gCons (gName 3) (gCons (gName 4) gNil))) (tt := tYes) rfl scWM.nd (ZM.pi_zipM (by rfl) B.zip (pa_cons (pv 0) (pa_cons (pv 1) pa_nil))) (blkOk_by (N := nWM) (sc := defScope sWithMore) (by decide +kernel)) (fun _ _ _ _ _ => (pg_tup rfl (pgs_cons (pg_name (i := 3) scWM.nd rfl (Or.inl rfl)) (pgs_cons (pg_name (i := 4) scWM.nd rfl (Or.inl rfl)) pgs_nil)))) (fun _ _ _ _ _ => pts_nil) (fun _ _ _ _ _ => (pe_op op_add (pv 3) (pe_op op_mul (pv 2) (pv 4))))) pa_nil)))), ?_⟩
    have hkm : ∀ {j : Int}, CMul k j := fun {j} => by
      rcases hk1 with rfl | rfl
      · exact .inl ⟨by decide, by decide⟩
      · exact .inl ⟨by decide, by decide⟩
    have ll := madd_len (xs := xs) (ys := ys) (k := k) rfl hl.symm
    refine ⟨_, rfl, _, rfl, true, true, a, b, _, _, rfl, SqT.of ha, SqT.of hb, fun D0 hD0 => ZM.lc_zipM (K := K) (by rw [vrow_len, vrow_len]; exact hl) (fun i H' => Same H H' ∧ H' D0 = some (.lst (vrow ((madd xs ys k).take i)))) ⟨same_new hD0, by rw [upd_same]; rfl⟩ (fun i H' _ ⟨s1, _⟩ => ⟨SqT.of (s1 _ _ ha), SqT.of (s1 _ _ hb)⟩) ?_ ?_⟩
    · rintro i x y T H1 hx hy hT ⟨s1, hD1⟩
      obtain ⟨x', hx', rfl⟩ := vrow_at hx
      obtain ⟨y', hy', rfl⟩ := vrow_at hy
      have sT := same_new (o := HO.tup [V.int x', .int y']) hT
      refine ⟨T, _, rfl, SqT.of upd_same, rfl, _, _, rfl, _, _, rfl, rfl, rfl, ?_⟩
      have hi := lt_at hx'
      refine ⟨_, rfl, _, rfl, _, rfl, _, _, rfl, rfl, hkm, _, _, rfl, rfl, _, sT _ _ hD1, szl (by rw [vrow_len, List.length_take]; omega), fun c' o e => ?_, ?_⟩
      · rw [upd_ne (ne_of_none e hD0)]
        exact sT _ _ (s1 _ _ e)
      · have e : (madd xs ys k)[i]? = some (x' + k * y') := by
          unfold madd
          rw [List.getElem?_zipWith, hx', hy']
        rw [upd_same, take_succ e, vrow, vrow, List.map_append]; rfl
    · rintro H1 ⟨s1, hD1⟩
      rw [List.take_of_length_le (by rw [vrow_len, ll]; exact Nat.le_refl _)] at hD1
      exact ⟨D0, _, rfl, .inl ⟨SqL.of hD1, fun l hl => q l _ (s1.trans (same_new hl)) upd_same⟩⟩
abbrev nTR : List Str := ["web", "house", "read", "tie", "other"]
theorem scTR : FnScope nTR ["web", "house", "read"] (defScope sTiesRead) := ⟨rfl, rfl, rfl, by decide +kernel, rfl, by decide +kernel, by decide +kernel⟩
theorem ok_tr {f fW W : Addr} {fd fdW : FuncData} (D : Df K mg "ties_read" sTiesRead ["web", "house", "read"] f fd) (DW : Df K mg "ways_on" sWays ["web", "house"] fW fdW) (GW : FnOk P w K mg base CX0 1 fW fdW ["web", "house"] (spWays W)) : FnOk P w K mg base CX0 2 f fd ["web", "house", "read"] (spTR W) := by
  refine D.F.ok scTR (fun vs H Q E h => ?_) (fun cdv A outer s H vs Q E hr h => ?_)
  · obtain ⟨w, r, n, ts, h, R, rfl, _⟩ := h
    rfl
  · obtain ⟨w, r, n, ts, h, R, rfl, hw, hW, hn, hR, q⟩ := h
    refine ⟨_, (pss_one (ps_ret (pe_lc (own := [("tie", 3), ("other", 4)]) (g := gTup K 2 (gCons (gName 3) (gCons (gName 4) gNil))) rfl scTR.nd (pi_list (pc DW GW hr pass0 (pa_cons (pv 0) (pa_cons (pv 1) pa_nil)))) (blkOk_by (N := nTR) (sc := defScope sTiesRead) (by decide +kernel)) (fun _ _ _ _ _ => (pg_tup rfl (pgs_cons (pg_name (i := 3) scTR.nd rfl (Or.inl rfl)) (pgs_cons (pg_name (i := 4) scTR.nd rfl (Or.inl rfl)) pgs_nil)))) (fun _ _ _ _ _ => pts_one (pt_cmpR (opInK (K := K) rfl) (pv 4) (pv 2) rfl)) (fun _ _ _ _ _ => (pv 3))))), ?_⟩
    refine ⟨_, rfl, _, rfl, w, n, ts, h, rfl, hw, hW, hn, fun l as H1 s1 hl0 hl hA => ?_⟩
    have lw := wOnK_len ts h ts.length
    have t20 := hW.t20
    refine ⟨l, rfl, ⟨_, SqL.of hl⟩, fun D0 hD0 => lc_list (K := K) (a := l) (xs := as.map V.ref) (fun i H3 => Same H1 H3 ∧ H3 D0 = some (.lst (vn ((((wOn ts h).take i).filter fun q => decide (q.2 ∈ R)).map (·.1))))) ⟨same_new hD0, by rw [upd_same]; rfl⟩ (fun i H3 _ ⟨s3, _⟩ => SqL.of (s3 _ _ hl)) ?_ ?_⟩
    · rintro i x H3 hx ⟨s3, hD3⟩
      obtain ⟨a, t, rfl, ha, ht, hat⟩ := hA.get' hx
      have hat3 := s3 _ _ hat
      have hR3 := s3 _ _ (s1 _ _ hR)
      have hi := lt_at ht
      have lw' : (wOn ts h).length ≤ ts.length := lw
      refine ⟨a, _, rfl, SqT.of hat3, rfl, _, _, rfl, _, _, rfl, rfl, rfl, ?_⟩
      refine ⟨_, rfl, _, rfl, r, vn R, rfl, .inr (SqT.of hR3), rfl, flat_vn R, ?_⟩
      rw [inV_vn]
      refine ⟨_, rfl, ifD (fun e => ?_) fun e => ?_⟩
      · have nin : t.2 ∈ R := by simpa using e
        refine ⟨_, rfl, _, hD3, szl (by rw [vn_len, List.length_map]; have := List.length_filter_le (fun q : Nat × Nat => decide (q.2 ∈ R)) ((wOn ts h).take i); rw [List.length_take] at this; omega), fun c o e => by rw [upd_ne (ne_of_none e hD0)]; exact s3 _ _ e, ?_⟩
        rw [upd_same, take_succ ht, List.filter_append, show [t].filter (fun q : Nat × Nat => decide (q.2 ∈ R)) = [t] from by rw [List.filter_cons, if_pos (decide_eq_true nin)]; rfl, vn, vn, List.map_append, List.map_append]; rfl
      · have nin : t.2 ∉ R := by simpa using e
        refine ⟨s3, ?_⟩
        rw [take_succ ht, List.filter_append, show [t].filter (fun q : Nat × Nat => decide (q.2 ∈ R)) = [] from by rw [List.filter_cons, if_neg (by simpa using nin)]; rfl, List.append_nil]; exact hD3
    · rintro H3 ⟨s3, hD3⟩
      rw [List.length_map, hA.1, List.take_length] at hD3
      exact q D0 H3 (s1.trans s3) (s1.free hD0) hD3
end
end K1
namespace K1
open PySem PySem.Spec PyProof.Rows L2
/-! ### the sums of a walk -/
def crs (ts : Prs) (ws : List Pc) : List Nat := (List.range ws.length).filter fun i => !(uEnds ts (rds (ws.take i)) (ws.getD i (.rd 0))).isEmpty
def unP (R : List Nat) : Pc → List Bool | .st (.dd h _) => [decide (h ∉ R)] | _ => []
def unB : List Nat → List Pc → List Bool
  | _, [] => []
  | R, p :: l => unP R p ++ unB (R ++ rds [p]) l
theorem unB_snoc : ∀ (l : List Pc) (R : List Nat) (p : Pc), unB R (l ++ [p]) = unB R l ++ unP (R ++ rds l) p
  | [], R, p => by
    show unP R p ++ [] = [] ++ unP (R ++ []) p
    rw [List.append_nil, List.append_nil]; rfl
  | q :: l, R, p => by
    show unP R q ++ unB (R ++ rds [q]) (l ++ [p]) = (unP R q ++ unB (R ++ rds [q]) l) ++ unP (R ++ rds (q :: l)) p
    rw [unB_snoc l, List.append_assoc, List.append_assoc, ← rds_app]; rfl
theorem unB_len (l : List Pc) : ∀ R, (unB R l).length ≤ l.length := by
  induction l with
  | nil => intro R; exact Nat.le_refl _
  | cons p l ih =>
    intro R
    show (unP R p ++ unB (R ++ rds [p]) l).length ≤ l.length + 1
    have z := ih (R ++ rds [p])
    have y : (unP R p).length ≤ 1 := by cases p with
      | rd h => exact Nat.zero_le _
      | st s => cases s with
        | dd h d => exact Nat.le_refl _
        | mt t => exact Nat.zero_le _
    rw [List.length_append]; omega
def unA (ws : List Pc) : List Nat := (List.range (unB [] ws).length).filter fun i => (unB [] ws).getD i false
def cuK (n : Nat) (ps : Prs) (k : Nat) (ws : List Pc) (i : Nat) : Cu := cur ps (cu0 n ps.length k) (sts (ws.take i))
def swS (ps : Prs) (u : Cu) (R : List Nat) (s : List Int) : Pc → List Int
  | .rd h => (trd ps h R).foldl (fun s t => madd s (u.ts.getD t []) (-1)) (madd s (u.hs.getD h []) 1)
  | .st _ => s
def sw (n : Nat) (ps : Prs) (k : Nat) (ws : List Pc) : Nat → List Int
  | 0 => List.replicate k 0
  | i + 1 => swS ps (cuK n ps k ws i) (rds (ws.take i)) (sw n ps k ws i) (ws.getD i (.rd 0))
def pcTie : Pc → Nat | .st (.mt t) => t | _ => 0
def cwS (ps : Prs) (u : Cu) (R : List Nat) (s : List Int) (p : Pc) : List Int := (uEnds ps R p).foldl (fun s h => madd (madd s (u.hs.getD h []) 1) (u.ts.getD (pcTie p) []) (-1)) s
def cw (n : Nat) (ps : Prs) (k : Nat) (ws : List Pc) : Nat → List Int
  | 0 => List.replicate k 0
  | i + 1 => cwS ps (cuK n ps k ws i) (rds (ws.take i)) (cw n ps k ws i) (ws.getD i (.rd 0))
def actN (ws : List Pc) : Nat := (actD (sts ws)).length
def swR (n : Nat) (ps : Prs) (ws : List Pc) : List Int := sw n ps (actN ws) ws ws.length
def cwR (n : Nat) (ps : Prs) (ws : List Pc) : List Int := cw n ps (actN ws) ws ws.length
theorem actN_le (ws : List Pc) : actN ws ≤ ws.length := Nat.le_trans (actD_len _) (sts_len _)
theorem actN_take (ws : List Pc) (i : Nat) : actN (ws.take i) ≤ actN ws := by
  have z := congrArg (fun l => (actD (sts l)).length) (List.take_append_drop i ws)
  simp only [sts_app, actD_app, List.length_append] at z
  unfold actN; omega
theorem getP {ws : List Pc} {i : Nat} {p : Pc} (h : ws[i]? = some p) : ws.getD i (.rd 0) = p := by rw [List.getD_eq_getElem?_getD, h]; rfl
section
variable {n d : Nat} {ps : Prs} {ws : List Pc}
theorem sts_ok (ok : ∀ p ∈ ws, okP n ps.length d p) : ∀ s ∈ sts ws, okS n ps.length d s := fun s hs => ok _ (mem_sts.mp hs)
theorem rds_ok (ok : ∀ p ∈ ws, okP n ps.length d p) : ∀ h ∈ rds ws, h < n := fun h hs => ok _ (mem_rds.mp hs)
theorem cuK_cur (hW : Wv n ps) (ok : ∀ p ∈ ws, okP n ps.length d p) (i : Nat) {k : Nat} (hk : actN ws ≤ k) : Cur n ps k (sts (ws.take i)) (cuK n ps k ws i) :=
  cur_all hW k _ (sts_ok (fun p hp => ok p (List.mem_of_mem_take hp))) (Nat.le_trans (actN_take ws i) hk)
theorem cuK_succ {k i : Nat} {p : Pc} (h : ws[i]? = some p) : cuK n ps k ws (i + 1) = match p with | .rd _ => cuK n ps k ws i | .st s => (cuK n ps k ws i).st ps s := by
  unfold cuK
  rw [take_succ h, sts_app]
  cases p with
  | rd h => show cur ps _ (_ ++ []) = _; rw [List.append_nil]
  | st s => show cur ps _ (_ ++ [s]) = _; rw [cur_snoc]
theorem sw_succ {k i : Nat} {p : Pc} (h : ws[i]? = some p) : sw n ps k ws (i + 1) = swS ps (cuK n ps k ws i) (rds (ws.take i)) (sw n ps k ws i) p := by
  show swS ps (cuK n ps k ws i) (rds (ws.take i)) (sw n ps k ws i) (ws.getD i (.rd 0)) = _
  rw [getP h]
theorem cw_succ {k i : Nat} {p : Pc} (h : ws[i]? = some p) : cw n ps k ws (i + 1) = cwS ps (cuK n ps k ws i) (rds (ws.take i)) (cw n ps k ws i) p := by
  show cwS ps (cuK n ps k ws i) (rds (ws.take i)) (cw n ps k ws i) (ws.getD i (.rd 0)) = _
  rw [getP h]
theorem trd_lt {h : Nat} {R : List Nat} {t : Nat} (ht : t ∈ trd ps h R) : t < ps.length := by
  obtain ⟨q, hq, rfl⟩ := List.mem_map.mp ht
  obtain ⟨p, e, _⟩ := wOn_mem.mp (List.mem_filter.mp hq).1
  exact lt_at e
theorem fold_trd {u : Cu} {k : Nat} (o : CuOk n ps.length k u) : ∀ (l : List Nat) (s : List Int), (∀ t ∈ l, t < ps.length) → s.length = k → (l.foldl (fun s t => madd s (u.ts.getD t []) (-1)) s).length = k
  | [], s, _, hs => hs
  | t :: l, s, ht, hs => fold_trd o l _ (fun x hx => ht x (List.mem_cons_of_mem _ hx)) (madd_len hs (o.rowT (ht t List.mem_cons_self)))
theorem sw_len (hW : Wv n ps) (ok : ∀ p ∈ ws, okP n ps.length d p) {k : Nat} (hk : actN ws ≤ k) : ∀ i, i ≤ ws.length → (sw n ps k ws i).length = k
  | 0, _ => List.length_replicate
  | i + 1, hi => by
    obtain ⟨p, hp⟩ := ex_at (show i < ws.length by omega)
    have ih := sw_len hW ok hk i (by omega)
    have I := (cuK_cur hW ok i hk).ok
    rw [sw_succ hp]
    cases p with
    | rd h => exact fold_trd I _ _ (fun t ht => trd_lt ht) (madd_len ih (I.row (ok _ (List.mem_of_getElem? hp))))
    | st s => exact ih
theorem uEnds_mt {R : List Nat} {p : Pc} {h : Nat} (hh : h ∈ uEnds ps R p) : ∃ t, p = .st (.mt t) ∧ h ∉ R ∧ (h = (ps.getD t (0, 0)).1 ∨ h = (ps.getD t (0, 0)).2) := by
  cases p with
  | rd k => cases hh
  | st s =>
    cases s with
    | dd k d => cases hh
    | mt t =>
      have hh : h ∈ (if ([(ps.getD t (0, 0)).1, (ps.getD t (0, 0)).2].filter fun h => decide (h ∉ R)).length = 1 then [(ps.getD t (0, 0)).1, (ps.getD t (0, 0)).2].filter fun h => decide (h ∉ R) else []) := hh
      split at hh
      · obtain ⟨h1, h2⟩ := List.mem_filter.mp hh
        refine ⟨t, rfl, by simpa using h2, ?_⟩
        simpa using h1
      · cases hh
theorem uEnds_lt (hW : Wv n ps) {R : List Nat} {p : Pc} (hp : okP n ps.length d p) {h : Nat} (hh : h ∈ uEnds ps R p) : h < n ∧ pcTie p < ps.length := by
  obtain ⟨t, rfl, _, e⟩ := uEnds_mt hh
  obtain ⟨pr, hpr⟩ := ex_at (show t < ps.length from hp)
  have ep : ps.getD t (0, 0) = pr := by rw [List.getD_eq_getElem?_getD, hpr]; rfl
  obtain ⟨p1, p2, _⟩ := hW.at_ hpr
  rw [ep] at e
  exact ⟨by rcases e with rfl | rfl <;> assumption, hp⟩
theorem cw_len (hW : Wv n ps) (ok : ∀ p ∈ ws, okP n ps.length d p) {k : Nat} (hk : actN ws ≤ k) : ∀ i, i ≤ ws.length → (cw n ps k ws i).length = k
  | 0, _ => List.length_replicate
  | i + 1, hi => by
    obtain ⟨p, hp⟩ := ex_at (show i < ws.length by omega)
    have ih := cw_len hW ok hk i (by omega)
    have I := (cuK_cur hW ok i hk).ok
    have hok := ok _ (List.mem_of_getElem? hp)
    rw [cw_succ hp]
    unfold cwS
    have key : ∀ (l : List Nat) (s : List Int), (∀ h ∈ l, h < n ∧ pcTie p < ps.length) → s.length = k → (l.foldl (fun s h => madd (madd s ((cuK n ps k ws i).hs.getD h []) 1) ((cuK n ps k ws i).ts.getD (pcTie p) []) (-1)) s).length = k := fun l => by
      induction l with
      | nil => intro s _ hs; exact hs
      | cons h l ih2 =>
        intro s hl hs
        have z := hl h List.mem_cons_self
        exact ih2 _ (fun x hx => hl x (List.mem_cons_of_mem _ hx)) (madd_len (madd_len hs (I.row z.1)) (I.rowT z.2))
    exact key _ _ (fun h hh => uEnds_lt hW hok hh) ih
end
/-- a test that is its value's truth, with the fragment told -/
def tTru (K : PySem.W.Frag) (ta : TE) : TT := fun σ H Q => ta σ H fun x H' => ∃ k, TruV K x H' k ∧ Q k H'
theorem pt_tru {X : Cx} {K : PySem.W.Frag} {a : Expr} {ta : TE} (h : X.K = K) (ha : PE X a ta) (he : ∀ whole, isTrue a X.env whole = (do let v ← whole; standAt a.pos; holding [v] (truthy v)) := by intros; rfl) : PT X a (tTru K ta) := by
  subst h
  exact pt_truth ha he
/-- what is asked of a walk and answered by a tuple -/
def spAskW (K : PySem.W.Frag) (W C : Addr) (G : Nat → Prs → List Pc → List V) : Sp := fun vs H Q E => ∃ (w : Addr) (v : V) (o : Option (List (Option (List V)))) (n : Nat) (ts : Prs), vs = [.ref w, v] ∧ WebAt W H w n ts ∧ Wv n ts ∧ Svs K H v o ∧ (∀ z, wfV n ts.length 8 o = .int z → Rz C "at" (.int z) H E) ∧
  ∀ ws : List Pc, o = some (ws.map fun p => some (pcV p)) → WkO n ts.length 8 ws → ∀ p H', Same H H' → H' p = some (.tup (G n ts ws)) → Q (.ref p) H'
def gSw (n : Nat) (ts : Prs) (ws : List Pc) : List V := vrow (swR n ts ws)
def gCw (n : Nat) (ts : Prs) (ws : List Pc) : List V := vrow (cwR n ts ws)
def gUn (_ : Nat) (_ : Prs) (ws : List Pc) : List V := vn (unA ws)
def gCr (_ : Nat) (ts : Prs) (ws : List Pc) : List V := vn (crs ts ws)
def spCO (W : Addr) : Sp := fun vs H Q _ => ∃ (w p : Addr) (n d : Nat) (ts : Prs) (ws : List Pc), vs = [.ref w, .ref p] ∧ WebAt W H w n ts ∧ PcsT H p ws ∧ (∀ q ∈ ws, okP n ts.length d q) ∧ ws.length ≤ 401 ∧ ∀ l H', Same H H' → H' l = some (.lst (vn (crs ts ws))) → Q (.ref l) H'
def spSR (W : Addr) : Sp := fun vs H Q _ => ∃ (w p : Addr) (n d : Nat) (ts : Prs) (ws : List Pc), vs = [.ref w, .ref p] ∧ WebAt W H w n ts ∧ Wv n ts ∧ PcsT H p ws ∧ (∀ q ∈ ws, okP n ts.length d q) ∧ ws.length ≤ 400 ∧ ∀ q H', Same H H' → H' q = some (.tup (vrow (swR n ts ws))) → Q (.ref q) H'
section
variable {P : Program} {w : World} {K : PySem.W.Frag} {mg : Str → Option Value} {base : Heap}
abbrev nCO : List Str := ["web", "paces", "ahead", "at", "pace"]
theorem scCO : FnScope nCO ["web", "paces"] (defScope sCrossingsOf) := ⟨rfl, rfl, rfl, by decide +kernel, rfl, by decide +kernel, by decide +kernel⟩
theorem ok_co {f fH fU W : Addr} {fd fdH fdU : FuncData} (D : Df K mg "crossings_of" sCrossingsOf ["web", "paces"] f fd) (DH : Df K mg "read_ahead" sReadAhead ["paces"] fH fdH) (DU : Df K mg "unread_ends" sUnreadEnds ["web", "pace", "read"] fU fdU) (B : Bt mg)
    (GH : FnOk P w K mg base CX0 1 fH fdH ["paces"] spRA) (GU : FnOk P w K mg base CX0 1 fU fdU ["web", "pace", "read"] (spUE W)) : FnOk P w K mg base CX0 2 f fd ["web", "paces"] (spCO W) := by
  refine D.F.ok scCO (fun vs H Q E h => ?_) (fun cdv A outer s H vs Q E hr h => ?_)
  · obtain ⟨w, p, n, d, ts, ws, rfl, _⟩ := h
    rfl
  · obtain ⟨w, p, n, d, ts, ws, rfl, hw, ⟨as, hp1, hp2⟩, hok, hl, q⟩ := h
    refine ⟨_, (pss_cons (ps_set (i := 2) scCO.nd rfl (.inr rfl) (pc DH GH hr pass0 (pa_cons (pv 1) pa_nil)))
    (pss_one (ps_ret (pe_lc (own := [("at", 3), ("pace", 4)]) (g := gTup K 2 (gCons (gName 3) (gCons (gName 4) gNil))) rfl scCO.nd (pi_enumA (by rfl) B.enumerate (pa_cons (pv 1) pa_nil)) (blkOk_by (N := nCO) (sc := defScope sCrossingsOf) (by decide +kernel)) (fun _ _ _ _ _ => (pg_tup rfl (pgs_cons (pg_name (i := 3) scCO.nd rfl (Or.inl rfl)) (pgs_cons (pg_name (i := 4) scCO.nd rfl (Or.inl rfl)) pgs_nil)))) (fun _ _ _ _ _ => pts_one (pt_tru (K := K) rfl (pc DU GU hr pass0 (pa_cons (pv 0) (pa_cons (pv 4) (pa_cons (pe_ix (ixLK (K := K) rfl) (pv 2) (pv 3) (fun _ _ => rfl)) pa_nil)))))) (fun _ _ _ _ _ => (pv 3)))))), ?_⟩
    refine ⟨_, rfl, p, ws, rfl, ⟨as, hp1, hp2⟩, hl, fun L H1 s1 hL0 ⟨bs, hL, lb, hb⟩ => ?_⟩
    dsimp only [List.set]
    refine ⟨_, rfl, p, rfl, .inr ⟨_, SqT.of (s1 _ _ hp1), fun D0 hD0 => lc_enumT (K := K) (a := p) (xs := as.map V.ref) (fun i H3 => Same H1 H3 ∧ H3 D0 = some (.lst (vn ((List.range i).filter fun i => !(uEnds ts (rds (ws.take i)) (ws.getD i (.rd 0))).isEmpty)))) ⟨same_new hD0, by rw [upd_same]; rfl⟩ (fun i H3 _ ⟨s3, _⟩ => SqT.of (s3 _ _ (s1 _ _ hp1))) ?_ ?_⟩⟩
    · rintro i x T H3 hx hT ⟨s3, hD3⟩
      obtain ⟨a, st, rfl, ha, hst, hat⟩ := hp2.get' hx
      have sT := same_new (o := HO.tup [V.int (i : Nat), .ref a]) hT
      have hi := lt_at hst
      have s13 := (s1.trans s3).trans sT
      obtain ⟨b, hb0⟩ := ex_at (show i < bs.length by omega)
      refine ⟨T, _, rfl, SqT.of upd_same, rfl, _, _, rfl, _, _, rfl, rfl, rfl, ?_⟩
      refine ⟨_, rfl, _, rfl, _, rfl, _, rfl, L, _, (i : Int), .ref b, rfl, rfl, SqL.of (sT _ _ (s3 _ _ hL)), at_i (map_at hb0), ?_⟩
      refine ⟨w, a, b, n, d, ts, st, rds (ws.take i), rfl, hw.same s13, s13 _ _ hat, sT _ _ (s3 _ _ (hb i b hb0)), hok st (List.mem_of_getElem? hst), fun l H4 s4 hl0 hl4 => ?_⟩
      have hD4 := s4 _ _ (sT _ _ hD3)
      have s34 := (s3.trans sT).trans s4
      refine ⟨_, .inl ⟨_, SqL.of hl4, rfl⟩, ?_⟩
      have er : ∀ m, vn ((List.range m).filter fun i => !(uEnds ts (rds (ws.take i)) (ws.getD i (.rd 0))).isEmpty) = vn ((List.range m).filter fun i => !(uEnds ts (rds (ws.take i)) (ws.getD i (.rd 0))).isEmpty) := fun m => rfl
      have ev : (vn (uEnds ts (rds (ws.take i)) st)).isEmpty = (uEnds ts (rds (ws.take i)) st).isEmpty := by
        cases uEnds ts (rds (ws.take i)) st <;> rfl
      rw [ev]
      refine ifD (fun e => ?_) fun e => ?_
      · refine ⟨_, rfl, _, hD4, szl (by rw [vn_len]; have := List.length_filter_le (fun i => !(uEnds ts (rds (ws.take i)) (ws.getD i (.rd 0))).isEmpty) (List.range i); rw [List.length_range] at this; omega), fun c o e => by rw [upd_ne (ne_of_none e hD0)]; exact s34 _ _ e, ?_⟩
        rw [upd_same, List.range_succ, List.filter_append, show [i].filter (fun i => !(uEnds ts (rds (ws.take i)) (ws.getD i (.rd 0))).isEmpty) = [i] from by rw [List.filter_cons, if_pos (by rw [getP hst]; exact e)]; rfl, vn, vn, List.map_append]; rfl
      · refine ⟨s34, ?_⟩
        rw [List.range_succ, List.filter_append, show [i].filter (fun i => !(uEnds ts (rds (ws.take i)) (ws.getD i (.rd 0))).isEmpty) = [] from by rw [List.filter_cons, if_neg (by rw [getP hst, e]; decide)]; rfl, List.append_nil]; exact hD4
    · rintro H3 ⟨s3, hD3⟩
      rw [List.length_map, hp2.1] at hD3
      exact q D0 H3 (s1.trans s3) hD3
abbrev nCR : List Str := ["web", "walk"]
theorem scCR : FnScope nCR ["web", "walk"] (defScope sCrossings) := ⟨rfl, rfl, rfl, by decide +kernel, rfl, by decide +kernel, by decide +kernel⟩
theorem ok_cr {f fO fC W C : Addr} {fd fdO fdC : FuncData} (D : Df K mg "crossings" sCrossings ["web", "walk"] f fd) (DO : Df K mg "crossings_of" sCrossingsOf ["web", "paces"] fO fdO) (DC : Df K mg "check_walk" sCheckWalk ["web", "value"] fC fdC) (B : Bt mg)
    (GO : FnOk P w K mg base CX0 2 fO fdO ["web", "paces"] (spCO W)) (GC : FnOk P w K mg base (L2.CX P w) 6 fC fdC ["web", "value"] (spCkW K W C)) : FnOk P w K mg base (L2.CX P w) 7 f fd ["web", "walk"] (spAskW K W C gCr) := by
  refine D.F.okX scCR (fun vs H Q E h => ?_) (fun cdv A outer s H vs Q E hr h => ?_)
  · obtain ⟨w, v, o, n, ts, rfl, _⟩ := h
    rfl
  · obtain ⟨w, v, o, n, ts, rfl, hw, hW, hv, qE, q⟩ := h
    have r2 := hr.mono (show 2 ≤ 6 by decide)
    refine ⟨_, (pss_one (ps_ret (pe_callTy call_tuple_of (by rfl) B.tuple PyProof.Rows.boot_tuple (pa_cons (pc DO GO r2 pass0 (pa_cons (pv 0) (pa_cons (pc DC GC hr (pass1 (takes_of rfl rfl rfl rfl)) (pa_cons (pv 0) (pa_cons (pv 1) pa_nil))) pa_nil))) pa_nil)))), ?_⟩
    refine ⟨_, rfl, _, rfl, _, rfl, w, v, o, n, ts, rfl, hw, hv, qE, fun ws e hk p H1 s1 hp => ?_⟩
    refine ⟨w, p, n, 8, ts, ws, rfl, hw.same s1, hp, hk.ok, Nat.le_succ_of_le hk.ln, fun l H2 s2 hl => ?_⟩
    exact ⟨l, _, rfl, .inl ⟨SqL.of hl, fun t ht => q ws e hk t _ ((s1.trans s2).trans (same_new ht)) upd_same⟩⟩
abbrev nUA : List Str := ["web", "walk", "paces", "unread", "pace", "read", "act", "is_unread"]
theorem scUA : FnScope nUA ["web", "walk"] (defScope sUnreadActs) := ⟨rfl, rfl, rfl, by decide +kernel, rfl, by decide +kernel, by decide +kernel⟩
theorem ok_ua {f fH fC W C : Addr} {fd fdH fdC : FuncData} (D : Df K mg "unread_acts" sUnreadActs ["web", "walk"] f fd) (DH : Df K mg "read_ahead" sReadAhead ["paces"] fH fdH) (DC : Df K mg "check_walk" sCheckWalk ["web", "value"] fC fdC) (B : Bt mg) (c : Cs mg)
    (GH : FnOk P w K mg base CX0 1 fH fdH ["paces"] spRA) (GC : FnOk P w K mg base (L2.CX P w) 6 fC fdC ["web", "value"] (spCkW K W C)) : FnOk P w K mg base (L2.CX P w) 7 f fd ["web", "walk"] (spAskW K W C gUn) := by
  obtain ⟨t1, hc1⟩ := c.doo
  refine D.F.okX scUA (fun vs H Q E h => ?_) (fun cdv A outer s H vs Q E hr h => ?_)
  · obtain ⟨w, v, o, n, ts, rfl, _⟩ := h
    rfl
  · obtain ⟨w, v, o, n, ts, rfl, hw, hW, hv, qE, q⟩ := h
    have r1 := hr.mono (show 1 ≤ 6 by decide)
    refine ⟨_, (pss_cons (ps_set (i := 2) scUA.nd rfl (.inl rfl) (pc DC GC hr (pass1 (takes_of rfl rfl rfl rfl)) (pa_cons (pv 0) (pa_cons (pv 1) pa_nil))))
    (pss_cons (ps_setLc (i := 3) (own := [("pace", 4), ("read", 5)]) (g := gTup K 2 (gCons (gName 4) (gCons (gName 5) gNil))) rfl scUA.nd rfl rfl (sw_true rfl rfl rfl (by decide +kernel)) (ZM.pi_zipM (by rfl) B.zip (pa_cons (pv 2) (pa_cons (pc DH GH r1 pass0 (pa_cons (pv 2) pa_nil)) pa_nil))) (blkOk_by (N := nUA) (sc := defScope sUnreadActs) (by decide +kernel)) (fun _ _ _ _ _ => (pg_tup rfl (pgs_cons (pg_name (i := 4) scUA.nd rfl (Or.inl rfl)) (pgs_cons (pg_name (i := 5) scUA.nd rfl (Or.inl rfl)) pgs_nil)))) (fun _ _ _ _ _ => pts_one (pt_cmpR op_eq (pe_ix (ixTK (K := K) rfl) (pv 4) pe_int (fun _ _ => rfl)) (pe_glob (v := .str "do") (by rfl) hc1 ⟨_, rfl⟩) (nomark _))) (fun _ _ _ _ _ => (pe_cmpR (opNotInK (K := K) rfl) (pe_ix (ixTK (K := K) rfl) (pv 4) pe_int (fun _ _ => rfl)) (pv 5) rfl)))
    (pss_one (ps_ret (pe_callTy call_tuple_of (by rfl) B.tuple PyProof.Rows.boot_tuple (pa_cons (pe_lc (own := [("act", 6), ("is_unread", 7)]) (g := gTup K 2 (gCons (gName 6) (gCons (gName 7) gNil))) rfl scUA.nd (pi_enumA (by rfl) B.enumerate (pa_cons (pv 3) pa_nil)) (blkOk_by (N := nUA) (sc := defScope sUnreadActs) (by decide +kernel)) (fun _ _ _ _ _ => (pg_tup rfl (pgs_cons (pg_name (i := 6) scUA.nd rfl (Or.inl rfl)) (pgs_cons (pg_name (i := 7) scUA.nd rfl (Or.inl rfl)) pgs_nil)))) (fun _ _ _ _ _ => pts_one (pt_val (pv 7))) (fun _ _ _ _ _ => (pv 6))) pa_nil)))))), ?_⟩
    refine ⟨_, rfl, _, rfl, w, v, o, n, ts, rfl, hw, hv, qE, fun ws e hk p H1 s1 ⟨as, hp1, hp2⟩ => ?_⟩
    dsimp only [List.set]
    have l4 : ws.length ≤ 401 := Nat.le_succ_of_le hk.ln
    refine ⟨_, rfl, _, rfl, p, ws, rfl, ⟨as, hp1, hp2⟩, l4, fun L H2 s2 hL0 ⟨bs, hL, lb, hb⟩ => ?_⟩
    refine ⟨true, false, p, L, _, _, rfl, SqT.of (s2 _ _ hp1), SqL.of hL, fun D0 hD0 => ZM.lc_zipM (K := K) (by rw [List.length_map, List.length_map, lb, hp2.1]) (fun i H' => Same H2 H' ∧ H' D0 = some (.lst ((unB [] (ws.take i)).map V.bl))) ⟨same_new hD0, by rw [upd_same]; rfl⟩ (fun i H' _ ⟨s3, _⟩ => ⟨SqT.of (s3 _ _ (s2 _ _ hp1)), SqL.of (s3 _ _ hL)⟩) ?_ ?_⟩
    · rintro i x y T H3 hx hy hT ⟨s3, hD3⟩
      obtain ⟨a, st, rfl, ha, hst, hat⟩ := hp2.get' hx
      obtain ⟨b, hb0, rfl⟩ := at_map hy
      have sT := same_new (o := HO.tup [V.ref a, .ref b]) hT
      have hi := lt_at hst
      have s23 := s3.trans sT
      have hat3 := s23 _ _ (s2 _ _ hat)
      have hb3 := s23 _ _ (hb i b hb0)
      have hD4 := sT _ _ hD3
      have eu : unB [] (ws.take (i + 1)) = unB [] (ws.take i) ++ unP (rds (ws.take i)) st := by rw [take_succ hst, unB_snoc, List.nil_append]
      have hlu := unB_len (ws.take i) []
      rw [List.length_take] at hlu
      have hT2 : (upd H3 T (HO.tup [V.ref a, .ref b])) T = some (.tup [V.ref a, .ref b]) := upd_same
      generalize upd H3 T (HO.tup [V.ref a, .ref b]) = H4 at sT s23 hat3 hb3 hD4 hT2 ⊢
      refine ⟨T, _, rfl, SqT.of hT2, rfl, _, _, rfl, _, _, rfl, rfl, rfl, ?_⟩
      rcases pc_read st with ⟨h, rfl, e0, e1⟩ | ⟨h, d, rfl, e0, e1, _⟩ | ⟨t, rfl, e0, e1⟩
      · refine ⟨_, rfl, a, _, (0 : Int), .str "read", rfl, rfl, SqT.of hat3, at_i e0, ⟨rfl, false, congrArg V.bl (decide_eq_false (by decide +kernel)), iteF ?_⟩⟩
        refine ⟨s23, ?_⟩
        rw [eu, show unP (rds (ws.take i)) (Pc.rd h) = [] from rfl, List.append_nil]; exact hD4
      · refine ⟨_, rfl, a, _, (0 : Int), .str "do", rfl, rfl, SqT.of hat3, at_i e0, ⟨rfl, true, congrArg V.bl (decide_eq_true rfl), iteT ?_⟩⟩
        refine ⟨_, rfl, a, _, (1 : Int), .int (h : Int), rfl, rfl, SqT.of hat3, at_i e1, _, rfl, b, vn (rds (ws.take i)), rfl, .inr (SqT.of hb3), rfl, flat_vn _, ?_⟩
        rw [inV_vn]
        refine ⟨_, hD4, szl (by rw [List.length_map]; omega), fun c o e => by rw [upd_ne (ne_of_none e hD0)]; exact s23 _ _ e, ?_⟩
        rw [upd_same, eu, List.map_append]
        show some (HO.lst (_ ++ [V.bl (!decide (h ∈ rds (ws.take i)))])) = some (HO.lst (_ ++ [V.bl (decide (h ∉ rds (ws.take i)))]))
        rw [decide_not]
      · refine ⟨_, rfl, a, _, (0 : Int), .str "meet", rfl, rfl, SqT.of hat3, at_i e0, ⟨rfl, false, congrArg V.bl (decide_eq_false (by decide +kernel)), iteF ?_⟩⟩
        refine ⟨s23, ?_⟩
        rw [eu, show unP (rds (ws.take i)) (Pc.st (Stp.mt t)) = [] from rfl, List.append_nil]; exact hD4
    · rintro H3 ⟨s3, hD3⟩
      rw [List.length_map, hp2.1, List.take_length] at hD3
      have hlu := unB_len ws []
      dsimp only [List.set]
      refine ⟨_, rfl, D0, rfl, .inl ⟨_, SqL.of hD3, fun D1 hD1 => lc_enumL (K := K) (a := D0) (xs := (unB [] ws).map V.bl) (fun i H4 => Same H3 H4 ∧ H4 D1 = some (.lst (vn ((List.range i).filter fun i => (unB [] ws).getD i false)))) ⟨same_new hD1, by rw [upd_same]; rfl⟩ (fun i H4 _ ⟨s4, _⟩ => SqL.of (s4 _ _ hD3)) ?_ ?_⟩⟩
      · rintro i x T H4 hx hT ⟨s4, hD4⟩
        obtain ⟨b, hb0, rfl⟩ := at_map hx
        have sT := same_new (o := HO.tup [V.int (i : Nat), .bl b]) hT
        have hi := lt_at hb0
        have eb : (unB [] ws).getD i false = b := by rw [List.getD_eq_getElem?_getD, hb0]; rfl
        refine ⟨T, _, rfl, SqT.of upd_same, rfl, _, _, rfl, _, _, rfl, rfl, rfl, ?_⟩
        refine ⟨_, rfl, _, rfl, ifD (fun e => ?_) fun e => ?_⟩
        · refine ⟨_, rfl, _, sT _ _ hD4, szl (by rw [vn_len]; have := List.length_filter_le (fun i => (unB [] ws).getD i false) (List.range i); rw [List.length_range] at this; omega), fun c o e => by rw [upd_ne (ne_of_none e hD1)]; exact sT _ _ (s4 _ _ e), ?_⟩
          rw [upd_same, List.range_succ, List.filter_append, show [i].filter (fun i => (unB [] ws).getD i false) = [i] from by rw [List.filter_cons, if_pos (by rw [eb]; exact e)]; rfl, vn, vn, List.map_append]; rfl
        · refine ⟨s4.trans sT, ?_⟩
          rw [List.range_succ, List.filter_append, show [i].filter (fun i => (unB [] ws).getD i false) = [] from by rw [List.filter_cons, if_neg (by rw [eb, e]; decide)]; rfl, List.append_nil]; exact sT _ _ hD4
      · rintro H4 ⟨s4, hD4⟩
        rw [List.length_map] at hD4
        exact ⟨D1, _, rfl, .inl ⟨SqL.of hD4, fun t ht => q ws e hk t _ ((((s1.trans s2).trans s3).trans s4).trans (same_new ht)) upd_same⟩⟩
end
end K1
namespace K1
open PySem PySem.Spec PyProof.Rows L2
/-! ### the sums told by the program -/
theorem CuAt.hrow {Cc W : Addr} {H : Hp} {c w : Addr} {n : Nat} {ps : Prs} {k : Nat} {u : Cu} (h : CuAt Cc W H c w n ps k u) {i : Nat} (hi : i < n) : ∃ (dx dd ha ta : Addr) (hs : List Addr), H c = some (.ins Cc dx (cf w dd ha ta)) ∧ H ha = some (.tup (hs.map V.ref)) ∧ ∃ a : Addr, hs[i]? = some a ∧ H a = some (.tup (vrow (u.hs.getD i []))) := by
  obtain ⟨dx, dd, ha, ta, h1, h2, ⟨hs, h3, h4⟩, h5⟩ := h.ob
  obtain ⟨a, e1, e2⟩ := h4.get (getL (l := u.hs) (i := i) (by rw [h.ok.lh]; exact hi))
  exact ⟨dx, dd, ha, ta, hs, h1, h3, a, e1, e2⟩
theorem CuAt.trow {Cc W : Addr} {H : Hp} {c w : Addr} {n : Nat} {ps : Prs} {k : Nat} {u : Cu} (h : CuAt Cc W H c w n ps k u) {i : Nat} (hi : i < ps.length) : ∃ (dx dd ha ta : Addr) (hs : List Addr), H c = some (.ins Cc dx (cf w dd ha ta)) ∧ H ta = some (.tup (hs.map V.ref)) ∧ ∃ a : Addr, hs[i]? = some a ∧ H a = some (.tup (vrow (u.ts.getD i []))) := by
  obtain ⟨dx, dd, ha, ta, h1, h2, h5, ⟨hs, h3, h4⟩⟩ := h.ob
  obtain ⟨a, e1, e2⟩ := h4.get (getL (l := u.ts) (i := i) (by rw [h.ok.lt]; exact hi))
  exact ⟨dx, dd, ha, ta, hs, h1, h3, a, e1, e2⟩
theorem acts_left {ws : List Pc} {i h d : Nat} (e : ws[i]? = some (.st (.dd h d))) : (actD (sts (ws.take i))).length < actN ws := by
  have z := actN_take ws (i + 1)
  unfold actN at z
  rw [take_succ e, sts_app, actD_app, List.length_append] at z
  simp only [sts, actD, List.length_cons, List.length_nil] at z
  unfold actN; omega
section
variable {P : Program} {w : World} {K : PySem.W.Frag} {mg : Str → Option Value} {base : Heap}
abbrev nSR : List Str := ["web", "paces", "counts", "sums", "pace", "read", "tie"]
theorem scSR : FnScope nSR ["web", "paces"] (defScope sSumsRead) := ⟨rfl, rfl, rfl, by decide +kernel, rfl, by decide +kernel, by decide +kernel⟩
theorem ok_sr {f fO fH fM fT fK fI W Cc : Addr} {fd fdO fdH fdM fdT fdK fdI : FuncData} (D : Df K mg "sums_read" sSumsRead ["web", "paces"] f fd) (DO : Df K mg "deeds_of" sDeedsOf ["steps"] fO fdO) (DH : Df K mg "read_ahead" sReadAhead ["paces"] fH fdH) (DM : Df K mg "with_more" sWithMore ["sums", "counts", "times"] fM fdM) (DT : Df K mg "ties_read" sTiesRead ["web", "house", "read"] fT fdT) (DK : Df K mg "take" sPTake ["books", "step"] fK fdK)
    (B : Bt mg) (cr : Cr mg) (CT : CcT K mg Cc) (MI : Mk K Cc fI) (BI : Binds K fdI ["self", "web", "acts"] []) (GI : FnOk P w K mg base CX0 1 fI fdI ["self", "web", "acts"] (spKInit Cc W))
    (GO : FnOk P w K mg base CX0 1 fO fdO ["steps"] spDeedsP) (GH : FnOk P w K mg base CX0 1 fH fdH ["paces"] spRA) (GM : FnOk P w K mg base CX0 1 fM fdM ["sums", "counts", "times"] spMore) (GT : FnOk P w K mg base CX0 2 fT fdT ["web", "house", "read"] (spTR W)) (GK : FnOk P w K mg base CX0 3 fK fdK ["books", "step"] (spCTake Cc W)) :
    FnOk P w K mg base CX0 4 f fd ["web", "paces"] (spSR W) := by
  obtain ⟨t1, hcR⟩ := cr.read
  refine D.F.ok scSR (fun vs H Q E h => ?_) (fun cdv A outer s H vs Q E hr h => ?_)
  · obtain ⟨w, p, n, d, ps, ws, rfl, _⟩ := h
    rfl
  · obtain ⟨w, p, n, d, ps, ws, rfl, hw, hW, hS, hok, hl, q⟩ := h
    have r1 := hr.mono (show 1 ≤ 3 by decide)
    have r2 := hr.mono (show 2 ≤ 3 by decide)
    refine ⟨_, (pss_cons (ps_set (i := 2) scSR.nd rfl (.inl rfl) (pe_make MI GI (hr.mono (by decide)) rfl CT.g BI .nil pass0 (pa_cons (pv 0) (pa_cons (pe_callB call_len_seq (by rfl) B.len PySem.boot_len (pa_cons (pc DO GO r1 pass0 (pa_cons (pv 1) pa_nil)) pa_nil)) pa_nil))))
    (pss_cons (ps_set (i := 3) scSR.nd rfl (.inl rfl) (pe_op (TM.op_repG (K := K) rfl) (pe_tup (pa_cons pe_int pa_nil)) (pe_callB call_len_seq (by rfl) B.len PySem.boot_len (pa_cons (pc DO GO r1 pass0 (pa_cons (pv 1) pa_nil)) pa_nil))))
    (pss_cons (ps_for PassesOwn.never rfl (ZM.pi_zipM (by rfl) B.zip (pa_cons (pv 1) (pa_cons (pc DH GH r1 pass0 (pa_cons (pv 1) pa_nil)) pa_nil))) (pg_tup rfl (pgs_cons (pg_name (i := 4) scSR.nd rfl (.inl rfl)) (pgs_cons (pg_name (i := 5) scSR.nd rfl (.inl rfl)) pgs_nil)))
      (pss_one (ps_if (pt_cmpR op_eq (pe_ix ix_tup (pv 4) pe_int (fun _ _ => rfl)) (pe_glob (v := .str "read") (by rfl) hcR ⟨_, rfl⟩) (nomark _))
        (pss_cons (ps_set (i := 3) scSR.nd rfl (.inl rfl) (pc DM GM r1 pass0 (pa_cons (pv 3) (pa_cons (pe_ix ix_tup (pe_fld (pv 2) rfl) (pe_ix ix_tup (pv 4) pe_int (fun _ _ => rfl)) (fun _ _ => rfl)) (pa_cons pe_int pa_nil)))))
        (pss_one (ps_for PassesOwn.never rfl (pi_list (pc DT GT r2 pass0 (pa_cons (pv 0) (pa_cons (pe_ix ix_tup (pv 4) pe_int (fun _ _ => rfl)) (pa_cons (pv 5) pa_nil))))) (pg_name (i := 6) scSR.nd rfl (.inl rfl))
          (pss_one (ps_set (i := 3) scSR.nd rfl (.inl rfl) (pc DM GM r1 pass0 (pa_cons (pv 3) (pa_cons (pe_ix ix_tup (pe_fld (pv 2) rfl) (pv 6) (fun _ _ => rfl)) (pa_cons (pe_un un_neg pe_int) pa_nil)))))))))
        (pss_one (ps_expr (pc DK GK hr pass0 (pa_cons (pv 2) (pa_cons (pv 4) pa_nil))))))))
    (pss_one (ps_ret (pv 3)))))), ?_⟩
    have l4 : ws.length ≤ 401 := Nat.le_succ_of_le hl
    have al : actN ws ≤ 400 := Nat.le_trans (actN_le ws) hl
    have t20 := hW.t20
    refine ⟨_, rfl, _, rfl, p, ws, rfl, hS, l4, fun ad H1 s1 had => ⟨ad, _, rfl, .inr (SqT.of had), fun c dxc hc0 hdc0 nec => ?_⟩⟩
    rw [vrow_len]
    have smc := mkSameN (o1 := HO.own c) (o2 := HO.ins Cc dxc []) hc0 hdc0 nec
    have hw1 := hw.same s1
    obtain ⟨dxw, tw, w1, _⟩ := id hw1
    have nwc : w ≠ c := ne_of_none w1 hc0
    refine ⟨c, dxc, w, n, ps, actN ws, rfl, upd_same, hw1.same smc, hW, nwc, al, fun H2 b2 hN => ⟨rfl, ?_⟩⟩
    dsimp only [List.set]
    have s2 : Same H1 H2 := fun d o e => b2 _ _ (smc _ _ e) (ne_of_none e hc0)
    have s12 := s1.trans s2
    have fc : H c = none := s1.free hc0
    refine ⟨(by show 1 ≤ sizeLine; decide), fun p1 hp1 => ?_⟩
    have sp1 := same_new (o := HO.tup [V.int 0]) hp1
    have hpp : (upd H2 p1 (HO.tup [V.int 0])) p1 = some (.tup [.int 0]) := upd_same
    have s1p := s12.trans sp1
    have hNp := hN.same sp1
    generalize upd H2 p1 (HO.tup [V.int 0]) = H3 at sp1 hpp s1p hNp ⊢
    refine ⟨_, rfl, p, ws, rfl, hS.same s1p, l4, fun ad2 H4 s4 had2 => ⟨ad2, _, rfl, .inr (SqT.of had2), ?_⟩⟩
    rw [vrow_len]
    refine ⟨p1, (actN ws : Int), _, rfl, rfl, s4 _ _ hpp, by simp, by omega, by omega, (by show 1 ≤ 1000; decide), fun sm0 H5 s5 hsm0 => ?_⟩
    rw [Int.toNat_natCast, rep_v] at hsm0
    refine gn ?_
    dsimp only [List.set]
    have s15 := (s1p.trans s4).trans s5
    have hN5 := (hNp.same s4).same s5
    refine ⟨_, rfl, _, rfl, p, ws, rfl, hS.same s15, l4, fun L H6 s6 hL0 ⟨bs, hL, lb, hb⟩ => ?_⟩
    have s16 := s15.trans s6
    have hN6 := hN5.same s6
    obtain ⟨as, hp1, hp2⟩ := hS.same s16
    have nT : ∀ {H' : Hp} {u : Cu} {a : Addr} {xs : List V}, CuAt Cc W H' c w n ps (actN ws) u → H' a = some (.tup xs) → a ≠ c := fun hN e z => by
      obtain ⟨_, _, _, _, g1, _⟩ := hN.ob
      rw [z, g1] at e; cases e
    have nL : ∀ {H' : Hp} {u : Cu} {a : Addr} {xs : List V}, CuAt Cc W H' c w n ps (actN ws) u → H' a = some (.lst xs) → a ≠ c := fun hN e z => by
      obtain ⟨_, _, _, _, g1, _⟩ := hN.ob
      rw [z, g1] at e; cases e
    refine ⟨true, false, p, L, _, _, rfl, SqT.of hp1, SqL.of hL, ZM.for_zipM (K := K) (by rw [List.length_map, List.length_map, lb, hp2.1]) (fun i σ H' => ∃ (v4 v5 v6 : Option V) (sm : Addr), σ = [some (.ref w), some (.ref p), some (.ref c), some (.ref sm), v4, v5, v6] ∧ But c H6 H' ∧ CuAt Cc W H' c w n ps (actN ws) (cuK n ps (actN ws) ws i) ∧ H' sm = some (.tup (vrow (sw n ps (actN ws) ws i))))
      ⟨none, none, none, sm0, rfl, .refl, hN6, s6 _ _ hsm0⟩ (fun i σ H' ⟨_, _, _, _, _, bb, _⟩ => ⟨SqT.of (bb _ _ hp1 (nT hN6 hp1)), SqL.of (bb _ _ hL (nL hN6 hL))⟩) ?_ ?_⟩
    · rintro i x y T σ H' hx hy ⟨v4, v5, v6, sm, rfl, bb, hN', hsm⟩ hT
      obtain ⟨a, st, rfl, ha, hst, hat⟩ := hp2.get' hx
      obtain ⟨b, hb0, rfl⟩ := at_map hy
      have hat0 := bb _ _ hat (nT hN6 hat)
      have hbt0 := bb _ _ (hb i b hb0) (nT hN6 (hb i b hb0))
      have sT := same_new (o := HO.tup [V.ref a, .ref b]) hT
      have hT2 : (upd H' T (HO.tup [V.ref a, .ref b])) T = some (.tup [V.ref a, .ref b]) := upd_same
      have bb7 := bb.same sT
      have hN7 := hN'.same sT
      have hsm7 := sT _ _ hsm
      have hat7 := sT _ _ hat0
      have hbt7 := sT _ _ hbt0
      generalize upd H' T (HO.tup [V.ref a, .ref b]) = H7 at sT hT2 bb7 hN7 hsm7 hat7 hbt7 ⊢
      have hokp := hok st (List.mem_of_getElem? hst)
      have esw := sw_succ (n := n) (ps := ps) (k := actN ws) hst
      have ecu := cuK_succ (n := n) (ps := ps) (k := actN ws) hst
      have lsw := sw_len hW hok (Nat.le_refl (actN ws)) i (Nat.le_of_lt (lt_at hst))
      have I := cuK_cur hW hok i (Nat.le_refl (actN ws))
      refine ⟨T, _, rfl, SqT.of hT2, rfl, _, _, rfl, _, _, rfl, rfl, ?_⟩
      have byTake : ∀ s : Stp, st = .st s → ∀ Qn : L2.St → Hp → Prop, (∀ H8, But c H7 H8 → CuAt Cc W H8 c w n ps (actN ws) (cuK n ps (actN ws) ws (i + 1)) → Qn [some (.ref w), some (.ref p), some (.ref c), some (.ref sm), some (.ref a), some (.ref b), v6] H8) → spCTake Cc W [.ref c, .ref a] H7 (fun _ H8 => Qn [some (.ref w), some (.ref p), some (.ref c), some (.ref sm), some (.ref a), some (.ref b), v6] H8) E0 := fun s e Qn k => by
        subst e
        refine ⟨c, a, w, n, d, ps, _, _, s, rfl, hN7, hat7, hokp, fun h e z => ?_, fun H8 b8 N8 => k H8 b8 (by rw [ecu]; exact N8)⟩
        subst z
        rw [I.ds]; exact acts_left hst
      have fin : ∀ s : Stp, st = .st s → ∀ H8, But c H7 H8 → CuAt Cc W H8 c w n ps (actN ws) (cuK n ps (actN ws) ws (i + 1)) → ∃ (v4 v5 v6' : Option V) (sm' : Addr), [some (V.ref w), some (.ref p), some (.ref c), some (.ref sm), some (.ref a), some (.ref b), v6] = [some (.ref w), some (.ref p), some (.ref c), some (.ref sm'), v4, v5, v6'] ∧ But c H6 H8 ∧ CuAt Cc W H8 c w n ps (actN ws) (cuK n ps (actN ws) ws (i + 1)) ∧ H8 sm' = some (.tup (vrow (sw n ps (actN ws) ws (i + 1)))) := fun s e H8 b8 N8 => by
        subst e
        exact ⟨_, _, _, sm, rfl, bb7.trans b8, N8, by rw [esw]; exact b8 _ _ hsm7 (nT hN7 hsm7)⟩
      rcases pc_read st with ⟨h, rfl, e0, e1⟩ | ⟨h, d', rfl, e0, e1, _⟩ | ⟨t, rfl, e0, e1⟩
      · refine ⟨_, rfl, a, _, (0 : Int), .str "read", rfl, rfl, SqT.of hat7, at_i e0, ⟨rfl, true, congrArg V.bl (decide_eq_true rfl), iteT ?_⟩⟩
        have hh : h < n := hokp
        obtain ⟨dx, dd, ha', ta', hs, g1, g2, a1, ea1, ha1⟩ := hN7.hrow hh
        have lrow := I.ok.row hh
        refine ⟨_, rfl, _, rfl, c, Cc, dx, _, _, rfl, g1, CT.cl, CT.nH, cf_h _ _ _ _, _, rfl, a, _, (1 : Int), .int (h : Int), rfl, rfl, SqT.of hat7, at_i e1, ha', _, (h : Int), .ref a1, rfl, rfl, SqT.of g2, at_i (map_at ea1), sm, a1, _, _, 1, rfl, hsm7, ha1, by rw [lsw, lrow], by omega, .inl rfl, fun sm1 H8 s8 hsm1 => ?_⟩
        refine gn ?_
        dsimp only [List.set]
        have hN8 := hN7.same s8
        have bb8 := bb7.same s8
        refine ⟨_, rfl, _, rfl, a, _, (1 : Int), .int (h : Int), rfl, rfl, SqT.of (s8 _ _ hat7), at_i e1, _, rfl, w, b, n, ps, h, rds (ws.take i), rfl, hN8.wb, hW, hh, s8 _ _ hbt7, fun l H9 s9 hl0 hl9 => ?_⟩
        have hN9 := hN8.same s9
        refine ⟨l, rfl, ⟨_, SqL.of hl9⟩, for_list (K := K) (a := l) (xs := vn (trd ps h (rds (ws.take i)))) (fun j σ H' => ∃ (v6 : Option V) (sm' : Addr), σ = [some (.ref w), some (.ref p), some (.ref c), some (.ref sm'), some (.ref a), some (.ref b), v6] ∧ Same H9 H' ∧ H' sm' = some (.tup (vrow (((trd ps h (rds (ws.take i))).take j).foldl (fun s t => madd s ((cuK n ps (actN ws) ws i).ts.getD t []) (-1)) (madd (sw n ps (actN ws) ws i) ((cuK n ps (actN ws) ws i).hs.getD h []) 1)))))
          ⟨_, sm1, rfl, fun _ _ e => e, s9 _ _ hsm1⟩ (fun j σ H' _ ⟨_, _, _, sm9, _⟩ => SqL.of (sm9 _ _ hl9)) ?_ ?_⟩
        · rintro j x σ H' hx ⟨v6', sm', rfl, sm9, hsm'⟩
          obtain ⟨t, ht, rfl⟩ := at_vn hx
          have htl : t < ps.length := trd_lt (List.mem_of_getElem? ht)
          refine gn ?_
          dsimp only [List.set]
          have hN10 := hN9.same sm9
          obtain ⟨dx, dd, ha', ta', hs, g1, g2, a1, ea1, ha1⟩ := hN10.trow htl
          have lt := I.ok.rowT htl
          have lf := fold_trd I.ok ((trd ps h (rds (ws.take i))).take j) (madd (sw n ps (actN ws) ws i) ((cuK n ps (actN ws) ws i).hs.getD h []) 1) (fun t ht => trd_lt (List.mem_of_mem_take ht)) (madd_len lsw lrow)
          refine ⟨_, rfl, _, rfl, c, Cc, dx, _, _, rfl, g1, CT.cl, CT.nT, cf_t _ _ _ _, _, rfl, ta', _, (t : Int), .ref a1, rfl, rfl, SqT.of g2, at_i (map_at ea1), 1, rfl, sm', a1, _, _, -1, rfl, hsm', ha1, by rw [lf, lt], by omega, .inr rfl, fun sm2 H10 s10 hsm2 => ?_⟩
          refine ⟨_, sm2, rfl, sm9.trans s10, ?_⟩
          rw [hsm2, take_succ ht, List.foldl_append]; rfl
        · rintro σ H' ⟨v6', sm', rfl, sm9, hsm'⟩
          rw [vn_len, List.take_length] at hsm'
          exact ⟨_, _, _, sm', rfl, (bb8.same s9).same sm9, by rw [ecu]; exact hN9.same sm9, by rw [hsm', esw]; rfl⟩
      · refine ⟨_, rfl, a, _, (0 : Int), .str "do", rfl, rfl, SqT.of hat7, at_i e0, ⟨rfl, false, congrArg V.bl (decide_eq_false (by decide +kernel)), iteF ?_⟩⟩
        exact ⟨_, rfl, _, rfl, byTake _ rfl _ fun H8 b8 N8 => fin _ rfl H8 b8 N8⟩
      · refine ⟨_, rfl, a, _, (0 : Int), .str "meet", rfl, rfl, SqT.of hat7, at_i e0, ⟨rfl, false, congrArg V.bl (decide_eq_false (by decide +kernel)), iteF ?_⟩⟩
        exact ⟨_, rfl, _, rfl, byTake _ rfl _ fun H8 b8 N8 => fin _ rfl H8 b8 N8⟩
    · rintro σ H' ⟨v4, v5, v6, sm, rfl, bb, hN', hsm⟩
      rw [List.length_map, hp2.1] at hsm
      exact ⟨_, rfl, q sm H' (fun d u e => bb _ _ (s16 _ _ e) (ne_of_none e fc)) hsm⟩
abbrev nWC : List Str := ["web", "walk"]
theorem scWC : FnScope nWC ["web", "walk"] (defScope sWalkedCounts) := ⟨rfl, rfl, rfl, by decide +kernel, rfl, by decide +kernel, by decide +kernel⟩
theorem ok_wc {f fR fC W C : Addr} {fd fdR fdC : FuncData} (D : Df K mg "walked_counts" sWalkedCounts ["web", "walk"] f fd) (DR : Df K mg "sums_read" sSumsRead ["web", "paces"] fR fdR) (DC : Df K mg "check_walk" sCheckWalk ["web", "value"] fC fdC)
    (GR : FnOk P w K mg base CX0 4 fR fdR ["web", "paces"] (spSR W)) (GC : FnOk P w K mg base (L2.CX P w) 6 fC fdC ["web", "value"] (spCkW K W C)) : FnOk P w K mg base (L2.CX P w) 7 f fd ["web", "walk"] (spAskW K W C gSw) := by
  refine D.F.okX scWC (fun vs H Q E h => ?_) (fun cdv A outer s H vs Q E hr h => ?_)
  · obtain ⟨w, v, o, n, ts, rfl, _⟩ := h
    rfl
  · obtain ⟨w, v, o, n, ts, rfl, hw, hW, hv, qE, q⟩ := h
    have r4 := hr.mono (show 4 ≤ 6 by decide)
    refine ⟨_, (pss_one (ps_ret (pc DR GR r4 pass0 (pa_cons (pv 0) (pa_cons (pc DC GC hr (pass1 (takes_of rfl rfl rfl rfl)) (pa_cons (pv 0) (pa_cons (pv 1) pa_nil))) pa_nil))))), ?_⟩
    refine ⟨_, rfl, _, rfl, _, rfl, w, v, o, n, ts, rfl, hw, hv, qE, fun ws e hk p H1 s1 hp => ?_⟩
    exact ⟨w, p, n, 8, ts, ws, rfl, hw.same s1, hW, hp, hk.ok, hk.ln, fun l H2 s2 hl => q ws e hk l _ (s1.trans s2) hl⟩
end
end K1
namespace K1
open PySem PySem.Spec PyProof.Rows L2
/-! ### what the crossings take -/
section
variable {P : Program} {w : World} {K : PySem.W.Frag} {mg : Str → Option Value} {base : Heap}
abbrev nCC : List Str := ["web", "walk", "paces", "counts", "sums", "pace", "read", "house"]
theorem scCC : FnScope nCC ["web", "walk"] (defScope sCrossedCounts) := ⟨rfl, rfl, rfl, by decide +kernel, rfl, by decide +kernel, by decide +kernel⟩
theorem ok_cc {f fC fO fH fM fU fK fI W C Cc : Addr} {fd fdC fdO fdH fdM fdU fdK fdI : FuncData} (D : Df K mg "crossed_counts" sCrossedCounts ["web", "walk"] f fd) (DC : Df K mg "check_walk" sCheckWalk ["web", "value"] fC fdC) (DO : Df K mg "deeds_of" sDeedsOf ["steps"] fO fdO) (DH : Df K mg "read_ahead" sReadAhead ["paces"] fH fdH) (DM : Df K mg "with_more" sWithMore ["sums", "counts", "times"] fM fdM) (DU : Df K mg "unread_ends" sUnreadEnds ["web", "pace", "read"] fU fdU) (DK : Df K mg "take" sPTake ["books", "step"] fK fdK)
    (B : Bt mg) (cr : Cr mg) (CT : CcT K mg Cc) (MI : Mk K Cc fI) (BI : Binds K fdI ["self", "web", "acts"] []) (GI : FnOk P w K mg base CX0 1 fI fdI ["self", "web", "acts"] (spKInit Cc W)) (GC : FnOk P w K mg base (L2.CX P w) 6 fC fdC ["web", "value"] (spCkW K W C))
    (GO : FnOk P w K mg base CX0 1 fO fdO ["steps"] spDeedsP) (GH : FnOk P w K mg base CX0 1 fH fdH ["paces"] spRA) (GM : FnOk P w K mg base CX0 1 fM fdM ["sums", "counts", "times"] spMore) (GU : FnOk P w K mg base CX0 1 fU fdU ["web", "pace", "read"] (spUE W)) (GK : FnOk P w K mg base CX0 3 fK fdK ["books", "step"] (spCTake Cc W)) :
    FnOk P w K mg base (L2.CX P w) 7 f fd ["web", "walk"] (spAskW K W C gCw) := by
  obtain ⟨t1, hcR⟩ := cr.read
  refine D.F.okX scCC (fun vs H Q E h => ?_) (fun cdv A outer s H vs Q E hr h => ?_)
  · obtain ⟨w, v, o, n, ts, rfl, _⟩ := h
    rfl
  · obtain ⟨w, v, o, n, ps, rfl, hw0, hW, hv, qE, q⟩ := h
    have r1 := hr.mono (show 1 ≤ 6 by decide)
    have r3 := hr.mono (show 3 ≤ 6 by decide)
    refine ⟨_, (pss_cons (ps_set (i := 2) scCC.nd rfl (.inl rfl) (pc DC GC hr (pass1 (takes_of rfl rfl rfl rfl)) (pa_cons (pv 0) (pa_cons (pv 1) pa_nil))))
    (pss_cons (ps_set (i := 3) scCC.nd rfl (.inl rfl) (pe_make MI GI (hr.mono (by decide)) rfl CT.g BI .nil pass0 (pa_cons (pv 0) (pa_cons (pe_callB call_len_seq (by rfl) B.len PySem.boot_len (pa_cons (pc DO GO r1 pass0 (pa_cons (pv 2) pa_nil)) pa_nil)) pa_nil))))
    (pss_cons (ps_set (i := 4) scCC.nd rfl (.inl rfl) (pe_op (TM.op_repG (K := K) rfl) (pe_tup (pa_cons pe_int pa_nil)) (pe_callB call_len_seq (by rfl) B.len PySem.boot_len (pa_cons (pc DO GO r1 pass0 (pa_cons (pv 2) pa_nil)) pa_nil))))
    (pss_cons (ps_for (passes_of rfl) rfl (ZM.pi_zipM (by rfl) B.zip (pa_cons (pv 2) (pa_cons (pc DH GH r1 pass0 (pa_cons (pv 2) pa_nil)) pa_nil))) (pg_tup rfl (pgs_cons (pg_name (i := 5) scCC.nd rfl (.inl rfl)) (pgs_cons (pg_name (i := 6) scCC.nd rfl (.inl rfl)) pgs_nil)))
      (pss_cons (ps_for (passes_of rfl) rfl (pi_list (pc DU GU r1 pass0 (pa_cons (pv 0) (pa_cons (pv 5) (pa_cons (pv 6) pa_nil))))) (pg_name (i := 7) scCC.nd rfl (.inl rfl))
        (pss_one (ps_set (i := 4) scCC.nd rfl (.inl rfl) (pc DM GM r1 pass0 (pa_cons (pc DM GM r1 pass0 (pa_cons (pv 4) (pa_cons (pe_ix ix_tup (pe_fld (pv 3) rfl) (pv 7) (fun _ _ => rfl)) (pa_cons pe_int pa_nil)))) (pa_cons (pe_ix ix_tup (pe_fld (pv 3) rfl) (pe_ix ix_tup (pv 5) pe_int (fun _ _ => rfl)) (fun _ _ => rfl)) (pa_cons (pe_un un_neg pe_int) pa_nil)))))))
      (pss_one (ps_if (pt_cmpR op_ne (pe_ix ix_tup (pv 5) pe_int (fun _ _ => rfl)) (pe_glob (v := .str "read") (by rfl) hcR ⟨_, rfl⟩) (nomark _))
        (pss_one (ps_expr (pc DK GK r3 pass0 (pa_cons (pv 3) (pa_cons (pv 5) pa_nil)))))
        pss_nil))))
    (pss_one (ps_ret (pv 4))))))), ?_⟩
    refine ⟨_, rfl, _, rfl, w, v, o, n, ps, rfl, hw0, hv, qE, fun ws eo hk p H0 s0 hS => ?_⟩
    dsimp only [List.set]
    have hw := hw0.same s0
    have hok := hk.ok
    have hl := hk.ln
    have l4 : ws.length ≤ 401 := Nat.le_succ_of_le hl
    have al : actN ws ≤ 400 := Nat.le_trans (actN_le ws) hl
    have t20 := hW.t20
    refine ⟨_, rfl, _, rfl, p, ws, rfl, hS, l4, fun ad H1 s1 had => ⟨ad, _, rfl, .inr (SqT.of had), fun c dxc hc0 hdc0 nec => ?_⟩⟩
    rw [vrow_len]
    have smc := mkSameN (o1 := HO.own c) (o2 := HO.ins Cc dxc []) hc0 hdc0 nec
    have hw1 := hw.same s1
    obtain ⟨dxw, tw, w1, _⟩ := id hw1
    have nwc : w ≠ c := ne_of_none w1 hc0
    refine ⟨c, dxc, w, n, ps, actN ws, rfl, upd_same, hw1.same smc, hW, nwc, al, fun H2 b2 hN => ⟨rfl, ?_⟩⟩
    dsimp only [List.set]
    have s2 : Same H1 H2 := fun d o e => b2 _ _ (smc _ _ e) (ne_of_none e hc0)
    have s12 := s1.trans s2
    have fc : H0 c = none := s1.free hc0
    refine ⟨(by show 1 ≤ sizeLine; decide), fun p1 hp1 => ?_⟩
    have sp1 := same_new (o := HO.tup [V.int 0]) hp1
    have hpp : (upd H2 p1 (HO.tup [V.int 0])) p1 = some (.tup [.int 0]) := upd_same
    have s1p := s12.trans sp1
    have hNp := hN.same sp1
    generalize upd H2 p1 (HO.tup [V.int 0]) = H3 at sp1 hpp s1p hNp ⊢
    refine ⟨_, rfl, p, ws, rfl, hS.same s1p, l4, fun ad2 H4 s4 had2 => ⟨ad2, _, rfl, .inr (SqT.of had2), ?_⟩⟩
    rw [vrow_len]
    refine ⟨p1, (actN ws : Int), _, rfl, rfl, s4 _ _ hpp, by simp, by omega, by omega, (by show 1 ≤ 1000; decide), fun sm0 H5 s5 hsm0 => ?_⟩
    rw [Int.toNat_natCast, rep_v] at hsm0
    refine gn ?_
    dsimp only [List.set]
    have s15 := (s1p.trans s4).trans s5
    have hN5 := (hNp.same s4).same s5
    refine ⟨_, rfl, _, rfl, p, ws, rfl, hS.same s15, l4, fun L H6 s6 hL0 ⟨bs, hL, lb, hb⟩ => ?_⟩
    have s16 := s15.trans s6
    have hN6 := hN5.same s6
    obtain ⟨as, hp1, hp2⟩ := hS.same s16
    have nT : ∀ {H' : Hp} {u : Cu} {a : Addr} {xs : List V}, CuAt Cc W H' c w n ps (actN ws) u → H' a = some (.tup xs) → a ≠ c := fun hN e z => by
      obtain ⟨_, _, _, _, g1, _⟩ := hN.ob
      rw [z, g1] at e; cases e
    have nL : ∀ {H' : Hp} {u : Cu} {a : Addr} {xs : List V}, CuAt Cc W H' c w n ps (actN ws) u → H' a = some (.lst xs) → a ≠ c := fun hN e z => by
      obtain ⟨_, _, _, _, g1, _⟩ := hN.ob
      rw [z, g1] at e; cases e
    refine ⟨true, false, p, L, _, _, rfl, SqT.of hp1, SqL.of hL, ZM.for_zipM (K := K) (by rw [List.length_map, List.length_map, lb, hp2.1]) (fun i σ H' => ∃ (v4 v5 v6 : Option V) (sm : Addr), σ = [some (.ref w), some v, some (.ref p), some (.ref c), some (.ref sm), v4, v5, v6] ∧ But c H6 H' ∧ CuAt Cc W H' c w n ps (actN ws) (cuK n ps (actN ws) ws i) ∧ H' sm = some (.tup (vrow (cw n ps (actN ws) ws i))))
      ⟨none, none, none, sm0, rfl, .refl, hN6, s6 _ _ hsm0⟩ (fun i σ H' ⟨_, _, _, _, _, bb, _⟩ => ⟨SqT.of (bb _ _ hp1 (nT hN6 hp1)), SqL.of (bb _ _ hL (nL hN6 hL))⟩) ?_ ?_⟩
    · rintro i x y T σ H' hx hy ⟨v4, v5, v6, sm, rfl, bb, hN', hsm⟩ hT
      obtain ⟨a, st, rfl, ha, hst, hat⟩ := hp2.get' hx
      obtain ⟨b, hb0, rfl⟩ := at_map hy
      have hat0 := bb _ _ hat (nT hN6 hat)
      have hbt0 := bb _ _ (hb i b hb0) (nT hN6 (hb i b hb0))
      have sT := same_new (o := HO.tup [V.ref a, .ref b]) hT
      have hT2 : (upd H' T (HO.tup [V.ref a, .ref b])) T = some (.tup [V.ref a, .ref b]) := upd_same
      have bb7 := bb.same sT
      have hN7 := hN'.same sT
      have hsm7 := sT _ _ hsm
      have hat7 := sT _ _ hat0
      have hbt7 := sT _ _ hbt0
      generalize upd H' T (HO.tup [V.ref a, .ref b]) = H7 at sT hT2 bb7 hN7 hsm7 hat7 hbt7 ⊢
      have hokp := hok st (List.mem_of_getElem? hst)
      have ecw := cw_succ (n := n) (ps := ps) (k := actN ws) hst
      have ecu := cuK_succ (n := n) (ps := ps) (k := actN ws) hst
      have lcw := cw_len hW hok (Nat.le_refl (actN ws)) i (Nat.le_of_lt (lt_at hst))
      have I := cuK_cur hW hok i (Nat.le_refl (actN ws))
      refine ⟨T, _, rfl, SqT.of hT2, rfl, _, _, rfl, _, _, rfl, rfl, ?_⟩
      refine gn ?_
      dsimp only [List.set]
      refine ⟨_, rfl, _, rfl, _, rfl, w, a, b, n, 8, ps, st, rds (ws.take i), rfl, hN7.wb, hat7, hbt7, hokp, fun l H9 s9 hl0 hl9 => ?_⟩
      have hN9 := hN7.same s9
      refine ⟨l, rfl, ⟨_, SqL.of hl9⟩, for_list (K := K) (a := l) (xs := vn (uEnds ps (rds (ws.take i)) st)) (fun j σ H' => ∃ (v6 : Option V) (sm' : Addr), σ = [some (.ref w), some v, some (.ref p), some (.ref c), some (.ref sm'), some (.ref a), some (.ref b), v6] ∧ Same H9 H' ∧ H' sm' = some (.tup (vrow (((uEnds ps (rds (ws.take i)) st).take j).foldl (fun s h => madd (madd s ((cuK n ps (actN ws) ws i).hs.getD h []) 1) ((cuK n ps (actN ws) ws i).ts.getD (pcTie st) []) (-1)) (cw n ps (actN ws) ws i)))))
        ⟨_, sm, rfl, fun _ _ e => e, s9 _ _ hsm7⟩ (fun j σ H' _ ⟨_, _, _, sm9, _⟩ => SqL.of (sm9 _ _ hl9)) ?_ ?_⟩
      · rintro j x σ H' hx ⟨v6', sm', rfl, sm9, hsm'⟩
        obtain ⟨h, hh, rfl⟩ := at_vn hx
        have hmem := List.mem_of_getElem? hh
        obtain ⟨hhn, htl⟩ := uEnds_lt hW hokp hmem
        obtain ⟨t, rfl, _, _⟩ := uEnds_mt hmem
        have htl : t < ps.length := htl
        refine gn ?_
        dsimp only [List.set]
        have hN10 := hN9.same sm9
        have hat10 := sm9 _ _ (s9 _ _ hat7)
        obtain ⟨dx, dd, ha', ta', hs, g1, g2, a1, ea1, ha1⟩ := hN10.hrow hhn
        have lrow := I.ok.row hhn
        have lt := I.ok.rowT htl
        have hl1 := uEnds_len ps (rds (ws.take i)) (.st (.mt t))
        have hj := lt_at hh
        obtain rfl : j = 0 := by omega
        refine ⟨_, rfl, _, rfl, c, Cc, dx, _, _, rfl, g1, CT.cl, CT.nH, cf_h _ _ _ _, _, rfl, ha', _, (h : Int), .ref a1, rfl, rfl, SqT.of g2, at_i (map_at ea1), sm', a1, _, _, 1, rfl, hsm', ha1, by rw [lrow]; exact lcw, by show (cw n ps (actN ws) ws i).length ≤ 1000; omega, .inl rfl, fun sm1 H10 s10 hsm1 => ?_⟩
        have hN11 := hN10.same s10
        obtain ⟨dx2, dd2, ha2, ta2, ts2, g3, g4, a2, ea2, ha2'⟩ := hN11.trow htl
        have lm : (madd (cw n ps (actN ws) ws i) ((cuK n ps (actN ws) ws i).hs.getD h []) 1).length = actN ws := madd_len lcw lrow
        refine ⟨_, rfl, c, Cc, dx2, _, _, rfl, g3, CT.cl, CT.nT, cf_t _ _ _ _, _, rfl, a, _, (1 : Int), .int (t : Int), rfl, rfl, SqT.of (s10 _ _ hat10), at_i (xs := pcV (.st (.mt t))) (i := 1) rfl, ta2, _, (t : Int), .ref a2, rfl, rfl, SqT.of g4, at_i (map_at ea2), 1, rfl, sm1, a2, _, _, -1, rfl, hsm1, ha2', by rw [lt]; exact lm, by show (madd (cw n ps (actN ws) ws i) ((cuK n ps (actN ws) ws i).hs.getD h []) 1).length ≤ 1000; omega, .inr rfl, fun sm2 H11 s11 hsm2 => ?_⟩
        refine ⟨_, sm2, rfl, (sm9.trans s10).trans s11, ?_⟩
        rw [hsm2, take_succ hh]; rfl
      · rintro σ H' ⟨v6', sm', rfl, sm9, hsm'⟩
        rw [vn_len, List.take_length] at hsm'
        have hsm' : H' sm' = some (.tup (vrow (cw n ps (actN ws) ws (i + 1)))) := by rw [hsm', ecw]; rfl
        have s79 := s9.trans sm9
        have hN' := hN7.same s79
        have hat' := s79 _ _ hat7
        have bb' := bb7.same s79
        have byTake : ∀ s : Stp, st = .st s → ∀ Qn : L2.St → Hp → Prop, (∀ H8, But c H' H8 → CuAt Cc W H8 c w n ps (actN ws) (cuK n ps (actN ws) ws (i + 1)) → Qn [some (.ref w), some v, some (.ref p), some (.ref c), some (.ref sm'), some (.ref a), some (.ref b), v6'] H8) → spCTake Cc W [.ref c, .ref a] H' (fun _ H8 => Qn [some (.ref w), some v, some (.ref p), some (.ref c), some (.ref sm'), some (.ref a), some (.ref b), v6'] H8) E0 := fun s e Qn k => by
          subst e
          refine ⟨c, a, w, n, 8, ps, _, _, s, rfl, hN', hat', hokp, fun h e z => ?_, fun H8 b8 N8 => k H8 b8 (by rw [ecu]; exact N8)⟩
          subst z
          rw [I.ds]; exact acts_left hst
        have fin : ∀ H8, But c H' H8 → CuAt Cc W H8 c w n ps (actN ws) (cuK n ps (actN ws) ws (i + 1)) → ∃ (v4 v5 v6'' : Option V) (sm'' : Addr), [some (V.ref w), some v, some (.ref p), some (.ref c), some (.ref sm'), some (.ref a), some (.ref b), v6'] = [some (.ref w), some v, some (.ref p), some (.ref c), some (.ref sm''), v4, v5, v6''] ∧ But c H6 H8 ∧ CuAt Cc W H8 c w n ps (actN ws) (cuK n ps (actN ws) ws (i + 1)) ∧ H8 sm'' = some (.tup (vrow (cw n ps (actN ws) ws (i + 1)))) := fun H8 b8 N8 =>
          ⟨_, _, _, sm', rfl, bb'.trans b8, N8, b8 _ _ hsm' (nT hN' hsm')⟩
        rcases pc_read st with ⟨h, rfl, e0, e1⟩ | ⟨h, d', rfl, e0, e1, _⟩ | ⟨t, rfl, e0, e1⟩
        · refine ⟨_, rfl, a, _, (0 : Int), .str "read", rfl, rfl, SqT.of hat', at_i e0, ⟨rfl, false, congrArg V.bl (by rw [decide_eq_true rfl]; rfl), iteF ?_⟩⟩
          exact fin H' .refl (by rw [ecu]; exact hN')
        · refine ⟨_, rfl, a, _, (0 : Int), .str "do", rfl, rfl, SqT.of hat', at_i e0, ⟨rfl, true, congrArg V.bl (by rw [decide_eq_false (by decide +kernel)]; rfl), iteT ?_⟩⟩
          exact ⟨_, rfl, _, rfl, byTake _ rfl _ fun H8 b8 N8 => fin H8 b8 N8⟩
        · refine ⟨_, rfl, a, _, (0 : Int), .str "meet", rfl, rfl, SqT.of hat', at_i e0, ⟨rfl, true, congrArg V.bl (by rw [decide_eq_false (by decide +kernel)]; rfl), iteT ?_⟩⟩
          exact ⟨_, rfl, _, rfl, byTake _ rfl _ fun H8 b8 N8 => fin H8 b8 N8⟩
    · rintro σ H' ⟨v4, v5, v6, sm, rfl, bb, hN', hsm⟩
      rw [List.length_map, hp2.1] at hsm
      exact ⟨_, rfl, q ws eo hk sm H' (s0.trans fun d u e => bb _ _ (s16 _ _ e) (ne_of_none e fc)) hsm⟩
end
end K1
namespace K1
open PySem PySem.Spec PyProof.Rows L2
/-- a source of draws -/
def BoxO (H : Hp) (b : Addr) : Prop := ∃ x y : Int, H b = some (.lst [.int x, .int y])
/-- all but the source stands, which is one again -/
def Bx (b : Addr) (H H' : Hp) : Prop := BoxO H' b ∧ ∀ c o, H c = some o → c ≠ b → H' c = some o
theorem Bx.refl {b : Addr} {H : Hp} (h : BoxO H b) : Bx b H H := ⟨h, fun _ _ e _ => e⟩
theorem Bx.trans {b : Addr} {H H1 H2 : Hp} (a : Bx b H H1) (c : Bx b H1 H2) : Bx b H H2 := ⟨c.1, fun d o e n => c.2 d o (a.2 d o e n) n⟩
theorem BoxO.same {b : Addr} {H H' : Hp} (h : BoxO H b) (s : Same H H') : BoxO H' b := let ⟨x, y, e⟩ := h; ⟨x, y, s _ _ e⟩
theorem Bx.same {b : Addr} {H H1 H2 : Hp} (a : Bx b H H1) (s : Same H1 H2) : Bx b H H2 := ⟨a.1.same s, fun d o e n => s _ _ (a.2 d o e n)⟩
theorem Same.bx {b : Addr} {H H1 H2 : Hp} (s : Same H H1) (a : Bx b H1 H2) : Bx b H H2 := ⟨a.1, fun d o e n => a.2 d o (s _ _ e) n⟩
theorem Bx.set {b : Addr} {H : Hp} {x y : Int} : Bx b H (upd H b (.lst [.int x, .int y])) := ⟨⟨x, y, upd_same⟩, fun c o e n => by rw [upd_ne n]; exact e⟩
theorem Bx.free {b c : Addr} {H H' : Hp} (a : Bx b H H') (hb : c ≠ b) (h : H' c = none) : H c = none := by
  cases q : H c with
  | none => rfl
  | some o => rw [a.2 c o q hb] at h; cases h
theorem BoxO.ne {b c : Addr} {H : Hp} {o : HO} (h : BoxO H b) (e : H c = some o) (n : ∀ xs, o ≠ .lst xs) : c ≠ b := fun z => by
  obtain ⟨x, y, hb⟩ := h
  rw [z, hb] at e
  exact n _ (Option.some.inj e).symm
theorem Bx.ne {b c : Addr} {H H' : Hp} (a : Bx b H H') (h : H' c = none) : c ≠ b := fun z => by
  obtain ⟨x, y, hb⟩ := a.1
  rw [z, hb] at h
  cases h
theorem Bx.new {b p : Addr} {H H' : Hp} {o : HO} (a : Bx b H H') (h : H' p = none) : Bx b H (upd H' p o) := a.same (same_new h)
theorem Bx.put {b p : Addr} {H H' : Hp} {o : HO} (a : Bx b H H') (hp : H p = none) (n : p ≠ b) : Bx b H (upd H' p o) := ⟨let ⟨x, y, e⟩ := a.1; ⟨x, y, by rw [upd_ne n.symm]; exact e⟩, fun c o' e n' => by rw [upd_ne (ne_of_none e hp)]; exact a.2 c o' e n'⟩
theorem Bx.tup {b c : Addr} {H H' : Hp} {xs : List V} (x : Bx b H H') (hb : BoxO H b) (h : H c = some (.tup xs)) : H' c = some (.tup xs) := x.2 _ _ h (hb.ne h fun xs => by intro z; cases z)
def spTake : Sp := fun vs H Q _ => ∃ b n, vs = [.ref b, .int n] ∧ BoxO H b ∧ 1 ≤ n ∧ n < 1073741824 ∧ ∀ r H', 0 ≤ r → r < n → Bx b H H' → Q (.int r) H'
def spPick : Sp := fun vs H Q _ => ∃ (b l : Addr) (xs : List V), vs = [.ref b, .ref l] ∧ BoxO H b ∧ H l = some (.lst xs) ∧ l ≠ b ∧ 1 ≤ xs.length ∧ xs.length ≤ 1000 ∧ ∀ (i : Nat) v H', xs[i]? = some v → Bx b H H' → Q v H'
def spBox (K : PySem.W.Frag) : Sp := fun vs H Q _ => ∃ (a : Addr) (ns : List Int) (k : Int), vs = [.ref a, .int k] ∧ SqL K H a (ns.map V.int) ∧ ns.length ≤ 63 ∧ 0 ≤ k ∧ k ≤ 10 ∧ ∀ b H', Same H H' → H b = none → BoxO H' b → Q (.ref b) H'
section
variable {P : Program} {w : World} {K : PySem.W.Frag} {mg : Str → Option Value} {base : Heap}
theorem scTk : FnScope ["_law_box_here", "_law_many", "_law_digit", "_law_raw"] ["_law_box_here", "_law_many"] (defScope sLTake) := ⟨rfl, rfl, rfl, by decide +kernel, rfl, by decide +kernel, by decide +kernel⟩
theorem ok_take {f : Addr} {fd : FuncData} (D : Df K mg "_law_take" sLTake ["_law_box_here", "_law_many"] f fd) (B : Bt mg) : FnOk P w K mg base CX0 1 f fd ["_law_box_here", "_law_many"] spTake := by
  refine D.F.ok scTk (fun vs H Q E h => ?_) (fun cdv A outer s H vs Q E hr h => ?_)
  · obtain ⟨b, n, rfl, _⟩ := h
    rfl
  · obtain ⟨b, n, rfl, ⟨x, y, hb⟩, h1, h2, q⟩ := h
    refine ⟨_, pss_cons (ps_if (pt_cmpR op_gt (pe_ix ix_list (pv 0) pe_int (fun _ _ => rfl)) pe_int (nomark _))
        (pss_cons (ps_set (i := 2) scTk.nd rfl (.inl rfl) (pe_op op_mod (pe_callTy call_int1 (by rfl) B.int PyProof.Rows.boot_int (pa_cons (pe_ix ix_list (pv 0) pe_int (fun _ _ => rfl)) pa_nil)) (pv 1)))
        (pss_cons (ps_asg (pe_op op_fdivN (pe_ix ix_list (pv 0) pe_int (fun _ _ => rfl)) (pv 1)) (pg_sub (pv 0) pe_int set_list))
        (pss_one (ps_ret (pv 2))))) pss_nil)
      (pss_cons (ps_set (i := 3) scTk.nd rfl (.inl rfl) (pe_op op_mod (pe_callTy call_int1 (by rfl) B.int PyProof.Rows.boot_int (pa_cons (pe_op op_add (pe_op op_mul (pe_ix ix_list (pv 0) pe_int (fun _ _ => rfl)) pe_int) pe_int) pa_nil)) pe_int))
      (pss_cons (ps_asg (pe_op op_add (pe_op op_mod (pe_callTy call_int1 (by rfl) B.int PyProof.Rows.boot_int (pa_cons (pe_op op_add (pe_op op_mul (pv 3) pe_int) pe_int) pa_nil)) pe_int) pe_int) (pg_sub (pv 0) pe_int set_list))
      (pss_one (ps_ret (pe_op op_mod (pe_callTy call_int1 (by rfl) B.int PyProof.Rows.boot_int (pa_cons (pe_op op_fdivN (pe_op op_add (pe_op op_mul (pv 3) pe_int) (pe_ix ix_list (pv 0) pe_int (fun _ _ => rfl))) pe_int) pa_nil)) (pv 1)))))), ?_⟩
    have a0 : ∀ {u v : Int}, atI [V.int u, V.int v] 0 = some (V.int u) := fun {u v} => atI_nat (j := 0) rfl
    have a1 : ∀ {u v : Int}, atI [V.int u, V.int v] 1 = some (V.int v) := fun {u v} => atI_nat (j := 1) rfl
    have np : 0 < n := by omega
    refine ⟨_, rfl, b, _, 0, .int x, rfl, rfl, SqL.of hb, a0, _, _, rfl, rfl, _, rfl, ifD (fun e => ?_) fun e => ?_⟩
    · refine ⟨_, rfl, b, _, 0, .int x, rfl, rfl, SqL.of hb, a0, .inl ⟨x, rfl, _, rfl, _, _, rfl, rfl, np, ?_⟩⟩
      refine ⟨_, rfl, b, _, 0, .int x, rfl, rfl, SqL.of hb, a0, _, rfl, _, _, rfl, rfl, ⟨by omega, by omega⟩, _, rfl, b, _, 0, 0, rfl, rfl, hb, rfl, ?_⟩
      exact ⟨_, rfl, q _ _ (Int.emod_nonneg _ (by omega)) (Int.emod_lt_of_pos _ np) Bx.set⟩
    · refine ⟨_, rfl, b, _, 1, .int y, rfl, rfl, SqL.of hb, a1, _, _, rfl, rfl, .inr ⟨by decide, by decide⟩, _, _, rfl, rfl, .inl ⟨_, rfl, _, _, rfl, rfl, (by decide : (0 : Int) < 2147483399), ?_⟩⟩
      refine ⟨_, rfl, _, _, rfl, rfl, .inr ⟨by decide, by decide⟩, _, _, rfl, rfl, .inl ⟨_, rfl, _, _, rfl, rfl, (by decide : (0 : Int) < 2147483587), _, _, rfl, rfl, _, rfl, b, _, 1, 1, rfl, rfl, hb, rfl, ?_⟩⟩
      generalize hH2 : upd H b _ = H2
      have hb2 : ∃ y', H2 b = some (.lst [.int x, .int y']) := ⟨_, by rw [← hH2, upd_same]; rfl⟩
      obtain ⟨y', hb2⟩ := hb2
      have bx : Bx b H H2 := ⟨⟨_, _, hb2⟩, fun c o e n => by rw [← hH2, upd_ne n]; exact e⟩
      refine ⟨_, rfl, _, _, rfl, rfl, .inr ⟨by decide, by decide⟩, _, rfl, b, _, 1, .int y', rfl, rfl, SqL.of hb2, a1, _, _, rfl, rfl, _, _, rfl, rfl, ⟨by decide, by decide⟩, .inl ⟨_, rfl, _, rfl, _, _, rfl, rfl, np, ?_⟩⟩
      exact q _ _ (Int.emod_nonneg _ (by omega)) (Int.emod_lt_of_pos _ np) bx
theorem scPi : FnScope ["_law_box_here", "_law_some"] ["_law_box_here", "_law_some"] (defScope sLPick) := ⟨rfl, rfl, rfl, by decide +kernel, rfl, by decide +kernel, by decide +kernel⟩
theorem ok_pick {f fT : Addr} {fd fdT : FuncData} (D : Df K mg "_law_pick" sLPick ["_law_box_here", "_law_some"] f fd) (DT : Df K mg "_law_take" sLTake ["_law_box_here", "_law_many"] fT fdT) (B : Bt mg) (GT : FnOk P w K mg base CX0 1 fT fdT ["_law_box_here", "_law_many"] spTake) :
    FnOk P w K mg base CX0 2 f fd ["_law_box_here", "_law_some"] spPick := by
  refine D.F.ok scPi (fun vs H Q E h => ?_) (fun cdv A outer s H vs Q E hr h => ?_)
  · obtain ⟨b, l, xs, rfl, _⟩ := h
    rfl
  · obtain ⟨b, l, xs, rfl, hb, hl, hne, h1, h2, q⟩ := h
    refine ⟨_, pss_one (ps_ret (pe_ix ix_list (pv 1) (pc DT GT hr pass0 (pa_cons (pv 0) (pa_cons (pe_callB call_len_seq (by rfl) B.len PySem.boot_len (pa_cons (pv 1) pa_nil)) pa_nil))) (fun _ _ => rfl))), ?_⟩
    refine ⟨_, rfl, _, rfl, _, rfl, l, xs, rfl, .inl (SqL.of hl), b, _, rfl, hb, by omega, by omega, fun r H' r0 r1 bx => ?_⟩
    have hi : r.toNat < xs.length := by omega
    refine ⟨l, xs, r, xs[r.toNat], rfl, rfl, SqL.of (bx.2 _ _ hl hne), at_of (j := r.toNat) (by omega) (List.getElem?_eq_getElem hi), q r.toNat _ H' (List.getElem?_eq_getElem hi) bx⟩
theorem scBx : FnScope ["_law_script", "_law_k", "_law_cell", "_law_great"] ["_law_script", "_law_k"] (defScope sLBox) := ⟨rfl, rfl, rfl, by decide +kernel, rfl, by decide +kernel, by decide +kernel⟩
theorem ok_box {f : Addr} {fd : FuncData} (D : Df K mg "_law_box" sLBox ["_law_script", "_law_k"] f fd) (B : Bt mg) : FnOk P w K mg base CX0 1 f fd ["_law_script", "_law_k"] (spBox K) := by
  refine D.F.ok scBx (fun vs H Q E h => ?_) (fun cdv A outer s H vs Q E hr h => ?_)
  · obtain ⟨a, ns, k, rfl, _⟩ := h
    rfl
  · obtain ⟨a, ns, k, rfl, hS, hl, k0, k1, q⟩ := h
    refine ⟨_, pss_cons (ps_set (i := 2) scBx.nd rfl (.inl rfl) (pe_op op_add (pe_op op_mul pe_int (pv 1)) pe_int))
      (pss_cons (ps_if (pt_cmpR op_lt (pv 1) (pe_callB call_len_seq (by rfl) B.len PySem.boot_len (pa_cons (pv 0) pa_nil)) (nomark _))
        (pss_one (ps_set (i := 2) scBx.nd rfl (.inl rfl) (pe_callB call_abs (by rfl) B.abs (by decide +kernel) (pa_cons (pe_callTy call_int1 (by rfl) B.int PyProof.Rows.boot_int (pa_cons (pe_ix ix_list (pv 0) (pv 1) (fun _ _ => rfl)) pa_nil)) pa_nil))))
        (pss_one (ps_if (pt_cmpR op_gt (pe_callB call_len_seq (by rfl) B.len PySem.boot_len (pa_cons (pv 0) pa_nil)) pe_int (nomark _))
          (pss_one (ps_set (i := 2) scBx.nd rfl (.inl rfl) (pe_op op_add (pv 2) (pe_op op_mul (pe_op op_mod (pe_callTy call_int1 (by rfl) B.int PyProof.Rows.boot_int (pa_cons (pe_callB call_abs (by rfl) B.abs (by decide +kernel) (pa_cons (pe_callTy call_int1 (by rfl) B.int PyProof.Rows.boot_int (pa_cons (pe_ix ix_list (pv 0)
            (pe_op op_mod (pe_callTy call_int1 (by rfl) B.int PyProof.Rows.boot_int (pa_cons (pv 1) pa_nil)) (pe_callB call_len_seq (by rfl) B.len PySem.boot_len (pa_cons (pv 0) pa_nil))) (fun _ _ => rfl)) pa_nil)) pa_nil)) pa_nil)) pe_int) pe_int)))) pss_nil)))
      (pss_cons (ps_set (i := 3) scBx.nd rfl (.inl rfl) (pe_ifExp (pt_cmpR op_ge (pv 2) (pe_op op_pow pe_int pe_int) (nomark _)) (pv 2) pe_int))
      (pss_one (ps_ret (pe_lst (pa_cons (pv 3)
        (pa_cons (pe_op op_add (pe_op op_mod (pe_callTy call_int1 (by rfl) B.int PyProof.Rows.boot_int (pa_cons (pe_op op_add (pe_op op_mul (pe_op op_mod (pe_callTy call_int1 (by rfl) B.int PyProof.Rows.boot_int (pa_cons (pv 2) pa_nil)) pe_int) pe_int) (pe_op op_mul pe_int (pv 1))) pa_nil)) pe_int) pe_int) pa_nil))))))), ?_⟩
    have hget : ∀ (j : Int), 0 ≤ j → j < (ns.length : Int) → ∃ z : Int, atI (ns.map V.int) j = some (V.int z) := fun j h0 h1 => by
      have hj : j.toNat < ns.length := by omega
      exact ⟨ns[j.toNat], at_of (j := j.toNat) (by omega) (by rw [List.getElem?_map, List.getElem?_eq_getElem hj]; rfl)⟩
    refine ⟨_, rfl, _, _, rfl, rfl, .inl ⟨by decide, by decide⟩, _, _, rfl, rfl, ?_⟩
    refine gn ?_
    dsimp only
    refine seqG (fun σ H' => ∃ c : Int, σ = [some (.ref a), some (.int k), some (.int c), none] ∧ H' = H) ?_ (fun kk => ?_)
    · rintro σ H' ⟨c, rfl, rfl⟩
      refine seqG (fun σ H'' => ∃ g : Int, σ = [some (.ref a), some (.int k), some (.int c), some (.int g)] ∧ H'' = H') ?_ (fun k2 => ⟨_, rfl, _, _, rfl, rfl, ⟨by decide, by decide, by decide⟩, _, _, rfl, rfl, _, rfl, ifD (fun e => ⟨_, rfl, k2 _ _ ⟨_, rfl, rfl⟩⟩) fun e => k2 _ _ ⟨_, rfl, rfl⟩⟩)
      rintro σ H'' ⟨g, rfl, e⟩
      subst e
      refine ⟨_, rfl, _, rfl, .inl ⟨_, rfl, _, _, rfl, rfl, (by decide : (0 : Int) < 2147483587), _, _, rfl, rfl, .inr ⟨by decide, by decide⟩, _, rfl, _, _, rfl, rfl, .inl ⟨by decide, by decide⟩, _, _, rfl, rfl, .inl ⟨_, rfl, _, _, rfl, rfl, (by decide : (0 : Int) < 2147483587), _, _, rfl, rfl, (by show 2 ≤ sizeLine; decide), fun p hp => ?_⟩⟩⟩
      exact q p _ (same_new hp) hp ⟨_, _, upd_same⟩
    · refine ⟨_, rfl, _, rfl, a, _, rfl, .inl (hS), _, _, rfl, rfl, _, rfl, ifD (fun e => ?_) fun e => ?_⟩
      · have e' : k < (ns.length : Int) := by
          have z := of_decide_eq_true e
          rw [List.length_map] at z
          exact z
        obtain ⟨z, hz⟩ := hget k k0 e'
        refine ⟨_, rfl, _, rfl, a, _, k, _, rfl, rfl, hS, hz, ?_⟩
        refine .inl ⟨z, rfl, _, rfl, ?_⟩
        exact kk _ _ ⟨_, rfl, rfl⟩
      · refine ⟨_, rfl, a, _, rfl, .inl hS, _, _, rfl, rfl, _, rfl, ifD (fun e => ?_) fun e => ?_⟩
        · have e' : 0 < (ns.length : Int) := by
            have z := of_decide_eq_true e
            rw [List.length_map] at z
            omega
          have em : (k % ((ns.map V.int).length : Int)) = k % (ns.length : Int) := by rw [List.length_map]
          obtain ⟨z, hz⟩ := hget (k % (ns.length : Int)) (Int.emod_nonneg _ (by omega)) (Int.emod_lt_of_pos _ e')
          refine ⟨_, rfl, _, rfl, _, rfl, .inl ⟨_, rfl, _, rfl, a, _, rfl, .inl hS, _, _, rfl, rfl, (by rw [List.length_map]; exact e'), a, _, _, _, rfl, rfl, hS, (by rw [em]; exact hz), ?_⟩⟩
          refine .inl ⟨z, rfl, _, rfl, .inl ⟨_, rfl, _, _, rfl, rfl, (by decide : (0 : Int) < 2147483587), _, _, rfl, rfl, .inr ⟨by decide, by decide⟩, _, _, rfl, rfl, ?_⟩⟩
          exact kk _ _ ⟨_, rfl, rfl⟩
        · exact kk _ _ ⟨_, rfl, rfl⟩
end
end K1
namespace InsM
open PySem PySem.Spec PyProof.Rows L2
theorem fits_nat {i n : Nat} (h : i ≤ n) (h2 : n < sizeLine) : Builtin.List.listFitsIndex (i : Int) = true := by
  have hs : sizeLine < 9223372036854775808 := by decide
  exact fitsIndex_both (by omega) (by omega)
theorem ins_arr {its : List Value} {u : Value} {i : Nat} (hi : i ≤ its.length) : (its.toArray.extract 0 (if (i : Int) < 0 then ((i : Int) + (its.toArray.size : Int)).toNat else min (i : Int).toNat its.toArray.size)).push u ++ its.toArray.extract (if (i : Int) < 0 then ((i : Int) + (its.toArray.size : Int)).toNat else min (i : Int).toNat its.toArray.size) = (its.take i ++ u :: its.drop i).toArray := by
  have e1 : min (i : Int).toNat its.toArray.size = i := by rw [List.size_toArray]; omega
  rw [if_neg (by omega), e1]
  simp
  exact List.take_of_length_le (by rw [List.length_drop]; exact Nat.le_refl _)
/-- l.insert(i, y) -/
def rInsert : V → List V → Hp → VK → Prop := fun x vs H Q => ∃ (l : Addr) (xs : List V) (i : Nat) (y : V), x = .ref l ∧ vs = [.int (i : Int), y] ∧ H l = some (.lst xs) ∧ i ≤ xs.length ∧ xs.length < sizeLine ∧ Q .non (upd H l (.lst (xs.take i ++ y :: xs.drop i)))
theorem mt_insert {X : Cx} : MtM X "list.insert" rInsert := by
  intro pins s σ H x vs v us Q I rx rv h
  obtain ⟨l, xs, i, y, rfl, rfl, hH, hi, hz, q⟩ := h
  cases rx
  cases rv with
  | cons r1 r2 =>
    obtain ⟨t, rfl⟩ := r1
    obtain ⟨u, rfl, ru⟩ := Vals.one r2
    obtain ⟨z, its, n, r, hl, e⟩ := I.lstM hH
    have h2 : its.toArray.size ≤ sizeLine := by rw [List.size_toArray]; omega
    have h1 := fits_nat hi hz
    have key := ins_arr (its := its) (u := u) (i := i) (by omega)
    obtain ⟨A, hA⟩ : ∃ A, A = its.toArray := ⟨_, rfl⟩
    obtain ⟨x, hx⟩ : ∃ x : Int, x = (i : Int) := ⟨_, rfl⟩
    rw [← hA] at e h2 key
    rw [← hx] at h1 key ⊢
    have h1' : ¬(!Builtin.List.listFitsIndex x) = true := by rw [h1]; exact Bool.false_ne_true
    refine call_meets PySem.F.slot_list_insert ⟨_, e, rfl⟩ PySem.F.entry_list_insert (PySem.F.args_list_insert_3 _ _ _) (PySem.AutoSeq1.list_insert_list_int_val_1 l A n x t u h1' h2) ⟨e, ?_⟩
    rw [hA] at e key
    refine ⟨.non, _, I.lset (its' := its.take i ++ u :: its.drop i) hH e key ((r.take i).append (.cons ru (r.drop i))) ?_, rfl, q⟩
    rw [List.length_append, List.length_cons, List.length_take, List.length_drop]
    omega
end InsM
namespace K1
open PySem PySem.Spec PyProof.Rows L2
/-! ### a drawn web -/
theorem PrsA.ins {H : Hp} {as : List Addr} {ts : Prs} {a : Addr} {t : Nat × Nat} (h : PrsA H as ts) (ha : H a = some (.tup (pV t))) {i : Nat} (hi : i ≤ as.length) : PrsA H (as.take i ++ a :: as.drop i) (ts.take i ++ t :: ts.drop i) := by
  have l := h.1
  have l1 : (as.take i).length = i := by rw [List.length_take]; omega
  have l2 : (ts.take i).length = i := by rw [List.length_take]; omega
  refine ⟨by rw [List.length_append, List.length_append, List.length_cons, List.length_cons, List.length_drop, List.length_drop, l1, l2, l], fun j b u e1 e2 => ?_⟩
  rcases Nat.lt_trichotomy j i with c | c | c
  · rw [List.getElem?_append_left (by omega), List.getElem?_take, if_pos c] at e1 e2
    exact h.2 j b u e1 e2
  · subst c
    rw [List.getElem?_append_right (by omega), l1, Nat.sub_self] at e1
    rw [List.getElem?_append_right (by omega), l2, Nat.sub_self] at e2
    obtain rfl : a = b := Option.some.inj e1
    obtain rfl : t = u := Option.some.inj e2
    exact ha
  · obtain ⟨k, hk⟩ : ∃ k, j - i = k + 1 := ⟨j - i - 1, by omega⟩
    rw [List.getElem?_append_right (by omega), l1, hk, List.getElem?_cons_succ, List.getElem?_drop] at e1
    rw [List.getElem?_append_right (by omega), l2, hk, List.getElem?_cons_succ, List.getElem?_drop] at e2
    exact h.2 _ b u e1 e2
theorem ref_ins (as : List Addr) (a : Addr) (i : Nat) : (as.map V.ref).take i ++ V.ref a :: (as.map V.ref).drop i = (as.take i ++ a :: as.drop i).map V.ref := by
  rw [List.map_append, List.map_cons, List.map_take, List.map_drop]
theorem oth_house {n a y : Nat} (ha : a < n) (hy : y + 1 < n) : (a + 1 + y) % n < n ∧ (a + 1 + y) % n ≠ a := by
  refine ⟨Nat.mod_lt _ (by omega), ?_⟩
  rcases Nat.lt_or_ge (a + 1 + y) n with c | c
  · rw [Nat.mod_eq_of_lt c]; omega
  · rw [Nat.mod_eq_sub_mod c, Nat.mod_eq_of_lt (by omega)]; omega
/-- the web that is being drawn -/
structure Tz (b L : Addr) (n : Nat) (H H' : Hp) (as : List Addr) (ts : Prs) : Prop where
  bx : Bx b H H'
  l : H' L = some (.lst (as.map V.ref))
  pa : PrsA H' as ts
  pr : ∀ p ∈ ts, p.1 < n ∧ p.2 < n ∧ p.1 ≠ p.2
theorem Tz.box {b L : Addr} {n : Nat} {H H1 H2 : Hp} {as : List Addr} {ts : Prs} (h : Tz b L n H H1 as ts) (hb : BoxO H b) (nL : L ≠ b) (x : Bx b H1 H2) : Tz b L n H H2 as ts :=
  ⟨h.bx.trans x, x.2 _ _ h.l nL, ⟨h.pa.1, fun i a t e1 e2 => x.tup h.bx.1 (h.pa.2 i a t e1 e2)⟩, h.pr⟩
theorem Tz.same {b L : Addr} {n : Nat} {H H1 H2 : Hp} {as : List Addr} {ts : Prs} (h : Tz b L n H H1 as ts) (s : Same H1 H2) : Tz b L n H H2 as ts := ⟨h.bx.same s, s _ _ h.l, h.pa.same s, h.pr⟩
/-- one tie more, at any place -/
theorem Tz.put {b L p : Addr} {n i : Nat} {H H1 H2 : Hp} {as : List Addr} {ts : Prs} {t : Nat × Nat} (h : Tz b L n H H1 as ts) (hL : H L = none) (nL : L ≠ b) (hp : H1 p = some (.tup (pV t))) (hi : i ≤ as.length) (ht : t.1 < n ∧ t.2 < n ∧ t.1 ≠ t.2) (e : H2 = upd H1 L (.lst ((as.map V.ref).take i ++ V.ref p :: (as.map V.ref).drop i))) : Tz b L n H H2 (as.take i ++ p :: as.drop i) (ts.take i ++ t :: ts.drop i) := by
  subst e
  have k : ∀ c o, H1 c = some o → c ≠ L → (upd H1 L (.lst ((as.map V.ref).take i ++ V.ref p :: (as.map V.ref).drop i))) c = some o := fun c o e n => by rw [upd_ne n]; exact e
  have kt : ∀ c xs, H1 c = some (.tup xs) → (upd H1 L (.lst ((as.map V.ref).take i ++ V.ref p :: (as.map V.ref).drop i))) c = some (.tup xs) := fun c xs e => k c _ e (fun z => by rw [z, h.l] at e; cases e)
  refine ⟨⟨?_, fun c o e n => k c o (h.bx.2 c o e n) (ne_of_none e hL)⟩, by rw [upd_same, ref_ins], PrsA.ins ⟨h.pa.1, fun i a t e1 e2 => kt _ _ (h.pa.2 i a t e1 e2)⟩ (kt _ _ hp) hi, fun q hq => ?_⟩
  · obtain ⟨x, y, e⟩ := h.bx.1
    exact ⟨x, y, k _ _ e nL.symm⟩
  · rcases List.mem_append.mp hq with z | z
    · exact h.pr q (List.mem_of_mem_take z)
    · rcases List.mem_cons.mp z with rfl | z
      · exact ht
      · exact h.pr q (List.mem_of_mem_drop z)
def spLW : Sp := fun vs H Q _ => ∃ (b : Addr) (m : Nat), vs = [.ref b, .int (m : Int)] ∧ BoxO H b ∧ 1 ≤ m ∧ m ≤ 12 ∧ ∀ (n : Nat) (ts : Prs) (r l : Addr) (as : List Addr) H', Wv n ts → ts.length ≤ 13 → Bx b H H' → H l = none → H r = none → H' r = some (.lst [.int (n : Int), .ref l]) → H' l = some (.lst (as.map V.ref)) → PrsA H' as ts → Q (.ref r) H'
section
variable {P : Program} {w : World} {K : PySem.W.Frag} {mg : Str → Option Value} {base : Heap}
abbrev nLw : List Str := ["_law_box_here", "_law_most", "_law_houses", "_law_ties", "_law_house", "_law_other", "_law_turn"]
theorem scLw : FnScope nLw ["_law_box_here", "_law_most"] (defScope sLWeb) := ⟨rfl, rfl, rfl, by decide +kernel, rfl, by decide +kernel, by decide +kernel⟩
theorem ok_lw {f fT fP : Addr} {fd fdT fdP : FuncData} (D : Df K mg "_law_web" sLWeb ["_law_box_here", "_law_most"] f fd) (DT : Df K mg "_law_take" sLTake ["_law_box_here", "_law_many"] fT fdT) (DP : Df K mg "_law_pick" sLPick ["_law_box_here", "_law_some"] fP fdP) (B : Bt mg)
    (GT : FnOk P w K mg base CX0 1 fT fdT ["_law_box_here", "_law_many"] spTake) (GP : FnOk P w K mg base CX0 2 fP fdP ["_law_box_here", "_law_some"] spPick) : FnOk P w K mg base CX0 3 f fd ["_law_box_here", "_law_most"] spLW := by
  refine D.F.ok scLw (fun vs H Q E h => ?_) (fun cdv A outer s H vs Q E hr h => ?_)
  · obtain ⟨b, m, rfl, _⟩ := h
    rfl
  · obtain ⟨b, m, rfl, hb, hm1, hm2, q⟩ := h
    have r1 := hr.mono (show 1 ≤ 2 by decide)
    refine ⟨_, (pss_cons (ps_set (i := 2) scLw.nd rfl (.inl rfl) (pe_op op_add pe_int (pc DT GT r1 pass0 (pa_cons (pv 0) (pa_cons (pv 1) pa_nil)))))
    (pss_cons (ps_set (i := 3) scLw.nd rfl (.inl rfl) (pe_lst pa_nil))
    (pss_cons (ps_for PassesOwn.never rfl (pi_range2 (by rfl) B.range (pa_cons pe_int (pa_cons (pv 2) pa_nil))) (pg_name (i := 4) scLw.nd rfl (.inl rfl))
      (pss_one (ps_if (pt_cmpR op_gt (pc DT GT r1 pass0 (pa_cons (pv 0) (pa_cons pe_int pa_nil))) pe_int (nomark _))
        (pss_cons (ps_set (i := 5) scLw.nd rfl (.inl rfl) (pc DT GT r1 pass0 (pa_cons (pv 0) (pa_cons (pv 4) pa_nil))))
        (pss_one (ps_expr (pe_bm PySem.F.plainAttrs_list PySem.F.slot_list_append PySem.F.type_list_append mt_append (pv 3) (pa_cons (pe_ifExp (pt_cmpR op_eq (pc DT GT r1 pass0 (pa_cons (pv 0) (pa_cons pe_int pa_nil))) pe_int (nomark _)) (pe_tup (pa_cons (pv 4) (pa_cons (pv 5) pa_nil))) (pe_tup (pa_cons (pv 5) (pa_cons (pv 4) pa_nil)))) pa_nil)))))
        pss_nil)))
    (pss_cons (ps_for PassesOwn.never rfl (pi_range1 (by rfl) B.range (pa_cons (pe_ifExp (pt_cmpR op_gt (pv 2) pe_int (nomark _)) (pc DP GP hr pass0 (pa_cons (pv 0) (pa_cons (pe_lst (pa_cons pe_int (pa_cons pe_int (pa_cons pe_int (pa_cons pe_int pa_nil))))) pa_nil))) pe_int) pa_nil)) (pg_name (i := 6) scLw.nd rfl (.inl rfl))
      (pss_cons (ps_set (i := 4) scLw.nd rfl (.inl rfl) (pc DT GT r1 pass0 (pa_cons (pv 0) (pa_cons (pv 2) pa_nil))))
      (pss_one (ps_expr (pe_bm PySem.F.plainAttrs_list PySem.F.slot_list_insert PySem.F.type_list_insert InsM.mt_insert (pv 3) (pa_cons (pc DT GT r1 pass0 (pa_cons (pv 0) (pa_cons (pe_op op_add (pe_callB call_len_seq (by rfl) B.len PySem.boot_len (pa_cons (pv 3) pa_nil)) pe_int) pa_nil))) (pa_cons (pe_tup (pa_cons (pv 4) (pa_cons (pe_op op_mod (pe_callTy call_int1 (by rfl) B.int PyProof.Rows.boot_int (pa_cons (pe_op op_add (pe_op op_add (pv 4) pe_int) (pc DT GT r1 pass0 (pa_cons (pv 0) (pa_cons (pe_op op_sub (pv 2) pe_int) pa_nil)))) pa_nil)) (pv 2)) pa_nil))) pa_nil)))))))
    (pss_one (ps_ret (pe_lst (pa_cons (pv 2) (pa_cons (pv 3) pa_nil))))))))), ?_⟩
    refine ⟨_, rfl, _, rfl, b, _, rfl, hb, by omega, by omega, fun r H1 r0 r1' bx1 => ⟨_, _, rfl, rfl, ?_⟩⟩
    dsimp only [List.set]
    obtain ⟨n, hn⟩ : ∃ n : Nat, 1 + r = (n : Int) := ⟨(1 + r).toNat, by omega⟩
    rw [hn]
    have n1 : 1 ≤ n := by omega
    have n12 : n ≤ 12 := by omega
    refine ⟨(by show 0 ≤ sizeLine; decide), fun L hL1 => ?_⟩
    dsimp only [List.set]
    have nL : L ≠ b := bx1.ne hL1
    have hL : H L = none := bx1.free nL hL1
    have T0 : Tz b L n H (upd H1 L (HO.lst [])) [] [] := ⟨bx1.new hL1, upd_same, ⟨rfl, fun i a t e => (by cases e)⟩, fun p hp => (by cases hp)⟩
    generalize upd H1 L (HO.lst []) = H2 at T0 ⊢
    refine ⟨_, rfl, 1, (n : Int), rfl, ⟨by decide, by decide, by omega, by omega⟩, for_range (fun i σ H' => ∃ (v4 v5 v6 : Option V) (as : List Addr) (ts : Prs), σ = [some (.ref b), some (.int (m : Int)), some (.int (n : Int)), some (.ref L), v4, v5, v6] ∧ Tz b L n H H' as ts ∧ ts.length ≤ i)
      ⟨none, none, none, [], [], rfl, T0, Nat.le_refl _⟩ ?_ ?_⟩
    · rintro i σ H3 hi ⟨v4, v5, v6, as, ts, rfl, T, ht⟩
      refine gn ?_
      dsimp only [List.set]
      have hin : (i : Int) + 1 < (n : Int) := by omega
      refine ⟨_, rfl, b, _, rfl, T.bx.1, by omega, by omega, fun r2 H4 _ _ bx4 => ?_⟩
      have T4 := T.box hb nL bx4
      refine ⟨_, _, rfl, rfl, _, rfl, ifD (fun e => ?_) fun e => ?_⟩
      · refine ⟨_, rfl, _, rfl, b, _, rfl, T4.bx.1, by omega, by omega, fun r3 H5 r30 r31 bx5 => ?_⟩
        have T5 := T4.box hb nL bx5
        obtain ⟨k3, rfl⟩ : ∃ k : Nat, r3 = (k : Int) := ⟨r3.toNat, by omega⟩
        have ei : (1 + (i : Int)) = ((i + 1 : Nat) : Int) := by omega
        dsimp only [List.set]
        refine ⟨_, rfl, .inl ⟨rfl, _, SqL.of T5.l⟩, ?_⟩
        refine ⟨_, rfl, b, _, rfl, T5.bx.1, by omega, by omega, fun r4 H6 _ _ bx6 => ?_⟩
        have T6 := T5.box hb nL bx6
        have la := T6.pa.1
        have fin : ∀ (p : Addr) (t : Nat × Nat) H7, H6 p = none → H7 = upd H6 p (.tup (pV t)) → (t.1 < n ∧ t.2 < n ∧ t.1 ≠ t.2) → ∃ (l : Addr) (xs : List V) (y : V), V.ref L = .ref l ∧ [V.ref p] = [y] ∧ H7 l = some (.lst xs) ∧ xs.length < sizeLine ∧ ∃ (v4' v5' v6' : Option V) (as' : List Addr) (ts' : Prs), [some (V.ref b), some (.int (m : Int)), some (.int (n : Int)), some (.ref L), some (.int (1 + (i : Int))), some (.int (k3 : Int)), v6] = [some (.ref b), some (.int (m : Int)), some (.int (n : Int)), some (.ref L), v4', v5', v6'] ∧ Tz b L n H (upd H7 l (.lst (xs ++ [y]))) as' ts' ∧ ts'.length ≤ i + 1 := fun p t H7 hp e ht' => by
          subst e
          have T7 := T6.same (same_new (o := HO.tup (pV t)) hp)
          refine ⟨L, _, _, rfl, rfl, T7.l, szl (by rw [List.length_map]; omega), _, _, _, _, _, rfl, T7.put (i := as.length) (t := t) hL nL upd_same (Nat.le_refl _) ht' (by rw [List.take_of_length_le (by rw [List.length_map]; exact Nat.le_refl _), List.drop_of_length_le (by rw [List.length_map]; exact Nat.le_refl _)]), ?_⟩
          rw [List.length_append, List.length_cons, List.length_take, List.length_drop]
          omega
        refine ⟨rfl, _, rfl, ifD (fun e => ?_) fun e => ?_⟩
        · refine ⟨_, rfl, _, rfl, (by show 2 ≤ sizeLine; decide), fun p hp => ?_⟩
          refine fin p (i + 1, k3) _ hp ?_ ⟨by omega, by omega, by omega⟩
          show upd H6 p (HO.tup [V.int (1 + (i : Int)), V.int (k3 : Int)]) = upd H6 p (HO.tup [V.int ((i + 1 : Nat) : Int), V.int (k3 : Int)])
          rw [ei]
        · refine ⟨_, rfl, _, rfl, (by show 2 ≤ sizeLine; decide), fun p hp => ?_⟩
          refine fin p (k3, i + 1) _ hp ?_ ⟨by omega, by omega, by omega⟩
          show upd H6 p (HO.tup [V.int (k3 : Int), V.int (1 + (i : Int))]) = upd H6 p (HO.tup [V.int (k3 : Int), V.int ((i + 1 : Nat) : Int)])
          rw [ei]
      · exact ⟨_, _, _, as, ts, rfl, T4, by omega⟩
    · rintro σ H3 ⟨v4, v5, v6, as, ts, rfl, T, ht⟩
      have fin : ∀ as ts H', Tz b L n H H' as ts → ts.length ≤ 13 → ∀ r, H' r = none → Q (.ref r) (upd H' r (.lst [.int (n : Int), .ref L])) := fun as ts H' T l r hr => by
        have T' := T.same (same_new (o := HO.lst [.int (n : Int), .ref L]) hr)
        exact q n ts r L as _ ⟨n1, n12, by omega, T.pr⟩ l T'.bx hL (T.bx.free (T.bx.ne hr) hr) upd_same T'.l T'.pa
      have ht0 : ts.length ≤ 11 := by omega
      refine ⟨_, rfl, _, _, rfl, rfl, _, rfl, ifD (fun e => ?_) fun e => ?_⟩
      · have n2 : 1 < n := by
          have := of_decide_eq_true e
          omega
        refine ⟨_, rfl, (by show 4 ≤ sizeLine; decide), fun l hl => ?_⟩
        have T4 := T.same (same_new (o := HO.lst [V.int 0, .int 0, .int 1, .int 2]) hl)
        refine ⟨b, l, _, rfl, T4.bx.1, upd_same, T.bx.ne hl, by decide, by decide, fun j v H5 hv bx5 => ?_⟩
        have T5 := T4.box hb nL bx5
        obtain ⟨c, rfl, hc⟩ : ∃ c : Nat, v = .int (c : Int) ∧ c ≤ 2 := by
          match j, hv with
          | 0, hv => exact ⟨0, (Option.some.inj hv).symm, by decide⟩
          | 1, hv => exact ⟨0, (Option.some.inj hv).symm, by decide⟩
          | 2, hv => exact ⟨1, (Option.some.inj hv).symm, by decide⟩
          | 3, hv => exact ⟨2, (Option.some.inj hv).symm, by decide⟩
          | k + 4, hv => cases hv
        refine ⟨(c : Int), rfl, by omega, by omega, for_range (fun i σ H' => ∃ (v4 v5 v6 : Option V) (as : List Addr) (ts : Prs), σ = [some (.ref b), some (.int (m : Int)), some (.int (n : Int)), some (.ref L), v4, v5, v6] ∧ Tz b L n H H' as ts ∧ ts.length ≤ 11 + i)
          ⟨_, _, _, as, ts, rfl, T5, ht0⟩ ?_ ?_⟩
        · rintro i σ H6 hi ⟨v4, v5, v6, as, ts, rfl, T, ht⟩
          refine gn ?_
          dsimp only [List.set]
          refine ⟨_, rfl, _, rfl, b, _, rfl, T.bx.1, by omega, by omega, fun r2 H7 r20 r21 bx7 => ?_⟩
          have T7 := T.box hb nL bx7
          dsimp only [List.set]
          refine ⟨_, rfl, .inl ⟨rfl, _, SqL.of T7.l⟩, ?_⟩
          refine ⟨_, rfl, _, rfl, L, _, rfl, .inl (SqL.of T7.l), _, _, rfl, rfl, ?_⟩
          rw [List.length_map]
          refine ⟨b, _, rfl, T7.bx.1, by omega, by have := T7.pa.1; omega, fun r3 H8 r30 r31 bx8 => ?_⟩
          have T8 := T7.box hb nL bx8
          refine ⟨_, rfl, _, rfl, _, _, rfl, rfl, _, rfl, _, rfl, _, _, rfl, rfl, b, _, rfl, T8.bx.1, by omega, by omega, fun r4 H9 r40 r41 bx9 => ?_⟩
          have T9 := T8.box hb nL bx9
          have la := T9.pa.1
          obtain ⟨k2, rfl⟩ : ∃ k : Nat, r2 = (k : Int) := ⟨r2.toNat, by omega⟩
          obtain ⟨k3, rfl⟩ : ∃ k : Nat, r3 = (k : Int) := ⟨r3.toNat, by omega⟩
          obtain ⟨k4, rfl⟩ : ∃ k : Nat, r4 = (k : Int) := ⟨r4.toNat, by omega⟩
          refine ⟨_, _, rfl, rfl, .inl ⟨_, rfl, _, rfl, _, _, rfl, rfl, by omega, (by show 2 ≤ sizeLine; decide), fun p hp => ?_⟩⟩
          obtain ⟨o1, o2⟩ := oth_house (n := n) (a := k2) (y := k4) (by omega) (by omega)
          have ep : ((k2 : Int) + 1 + (k4 : Int)) % (n : Int) = (((k2 + 1 + k4) % n : Nat) : Int) := by rw [Int.natCast_emod]; rfl
          dsimp only
          rw [ep]
          have T10 := T9.same (same_new (o := HO.tup (pV (k2, (k2 + 1 + k4) % n))) hp)
          refine ⟨L, _, k3, .ref p, rfl, rfl, T10.l, by rw [List.length_map]; omega, szl (by rw [List.length_map]; omega), ?_⟩
          refine ⟨_, _, _, _, _, rfl, T10.put (i := k3) (t := (k2, (k2 + 1 + k4) % n)) hL nL upd_same (by omega) ⟨by omega, o1, o2.symm⟩ rfl, ?_⟩
          rw [List.length_append, List.length_cons, List.length_take, List.length_drop]
          omega
        · rintro σ H6 ⟨v4, v5, v6, as, ts, rfl, T, ht⟩
          exact ⟨_, rfl, _, rfl, (by show 2 ≤ sizeLine; decide), fun r hr => fin as ts H6 T (by omega) r hr⟩
      · refine ⟨0, rfl, by decide, by decide, for_range (fun i σ H' => ∃ (v4 v5 v6 : Option V) (as : List Addr) (ts : Prs), σ = [some (.ref b), some (.int (m : Int)), some (.int (n : Int)), some (.ref L), v4, v5, v6] ∧ Tz b L n H H' as ts ∧ ts.length ≤ 11 + i)
          ⟨_, _, _, as, ts, rfl, T, ht0⟩ (fun i σ H6 hi _ => absurd hi (Nat.not_lt_zero _)) ?_⟩
        rintro σ H6 ⟨v4, v5, v6, as, ts, rfl, T, ht⟩
        exact ⟨_, rfl, _, rfl, (by show 2 ≤ sizeLine; decide), fun r hr => fin as ts H6 T (by simp only [Int.toNat_zero] at ht; omega) r hr⟩
end
end K1
namespace K1
open PySem PySem.Spec PyProof.Rows L2
theorem layA_ints : ∀ t : List Int, PyData.canLayAll0 (dI t) = true
  | [] => rfl
  | i :: r => by
    show (PyData.canLay0 (.int i) && PyData.canLayAll0 (dI r)) = true
    rw [layA_ints r]
    rfl
theorem depA_ints : ∀ t : List Int, PyData.depthAll (dI t) = 0
  | [] => rfl
  | i :: r => by
    show max (PyData.depth (.int i)) (PyData.depthAll (dI r)) = 0
    rw [depA_ints r]
    rfl
theorem shL_ints (t : List Int) : SeqAt.shaped (.list (dI t)) = true := by
  unfold SeqAt.shaped
  rw [show PyData.canLay0 (.list (dI t)) = true from layA_ints t, show PyData.depth (.list (dI t)) = 1 from by show PyData.depthAll (dI t) + 1 = 1; rw [depA_ints]]
  rfl
theorem eqv_nil (r : List Int) : PyData.eqv (.list (dI r)) (.list []) = decide (r = []) := by
  cases r with
  | nil => rfl
  | cons i r => rfl
theorem neNil {K : PySem.W.Frag} {H : Hp} {l e : Addr} {ns : List Int} {Q : VK} (hl : H l = some (.lst (vrow ns))) (he : H e = some (.lst [])) (q : Q (.bl (!decide (ns = []))) H) : rNeD K (.ref l) (.ref e) H Q :=
  ⟨.list (dI ns), .list [], .lst (SqL.of hl) (dp_ints ns), .lst (SqL.of he) .nil, shL_ints ns, shL_ints [], qbl (by rw [eqv_nil]) q⟩
def nats (n : Nat) : List Int := (List.range n).map fun i : Nat => (i : Int)
theorem rgV_nats (n : Nat) : rgV 0 (n : Int) = vrow (nats n) := by
  unfold rgV vrow nats
  rw [List.map_map, show (((n : Int) - 0).toNat) = n by omega]
  refine List.map_congr_left fun i _ => ?_
  show V.int (0 + (i : Int)) = V.int (i : Int)
  rw [Int.zero_add]
theorem nats_len (n : Nat) : (nats n).length = n := by rw [nats, List.length_map, List.length_range]
theorem erase_map {α β : Type} (f : α → β) : ∀ (l : List α) (i : Nat), (l.map f).eraseIdx i = (l.eraseIdx i).map f
  | [], _ => rfl
  | _ :: _, 0 => rfl
  | a :: l, i + 1 => congrArg (f a :: ·) (erase_map f l i)
theorem erase_perm {α : Type} : ∀ (l : List α) (i : Nat) (h : i < l.length), (l[i] :: l.eraseIdx i).Perm l
  | a :: l, 0, _ => List.Perm.refl _
  | a :: l, i + 1, h => (List.Perm.swap a (l[i]'(Nat.lt_of_succ_lt_succ h)) (l.eraseIdx i)).trans (.cons a (erase_perm l i (Nat.lt_of_succ_lt_succ h)))
theorem seqI {i n : Nat} (h : i < n) : seqIndex? (i : Int) n = some i := (ixN_seq (by unfold ixN; rw [if_pos (by omega), if_pos (by omega)]; simp)).1
theorem ifG {t : TT} {A B : TS} {D : Ends} {σ : L2.St} {H : Hp} (G : Bool → Hp → Prop) (hq : ∀ c H1, G c H1 → if c = true then A D σ H1 else B D σ H1) (ht : (∀ c H1, G c H1 → if c = true then A D σ H1 else B D σ H1) → t σ H fun c H1 => if c = true then A D σ H1 else B D σ H1) : tIfS t A B D σ H := ht hq
/-! ### a drawn walk -/
theorem vn_vrow (l : List Nat) : vn l = vrow (l.map fun x : Nat => (x : Int)) := by
  unfold vn vrow; rw [List.map_map]; rfl
def tsI (ts : Prs) : Ts := ts.map fun p => [(p.1 : Int), (p.2 : Int)]
theorem dp_prs {K : PySem.W.Frag} {H : Hp} : ∀ {as : List Addr} {ts : Prs}, PrsA H as ts → DpAll K H (as.map V.ref) ((tsI ts).map fun t => PyData.tuple (dI t))
  | [], [], _ => .nil
  | [], _ :: _, h => absurd h.1 (by simp)
  | _ :: _, [], h => absurd h.1 (by simp)
  | a :: as, t :: ts, h => .cons (dp_tup (t := [(t.1 : Int), (t.2 : Int)]) (h.2 0 a t rfl rfl)) (dp_prs ⟨Nat.succ.inj h.1, fun i b u e1 e2 => h.2 (i + 1) b u e1 e2⟩)
theorem pl_prs {n : Nat} {ts : Prs} (hn : n ≤ 12) (ht : ts.length ≤ 20) (h : ∀ p ∈ ts, p.1 < n ∧ p.2 < n) : PlA ((tsI ts).map fun t => PyData.tuple (dI t)) 1 2620 := by
  refine (pla_rows (n := 2) (tsI ts) fun t hm => ?_).mono (Nat.le_refl _) ?_
  · obtain ⟨p, hp, rfl⟩ := List.mem_map.mp hm
    obtain ⟨h1, h2⟩ := h p hp
    refine ⟨Nat.le_refl _, fun i hi => ?_⟩
    rcases List.mem_cons.mp hi with rfl | hi
    · omega
    · rw [List.mem_singleton] at hi
      subst hi; omega
  · unfold tsI
    rw [List.length_map]
    have := Nat.mul_le_mul_right 131 ht
    omega
theorem eqNilT {K : PySem.W.Frag} {H : Hp} {l e : Addr} {as : List Addr} {ts : Prs} {n : Nat} {Q : VK} (hl : H l = some (.lst (as.map V.ref))) (hA : PrsA H as ts) (he : H e = some (.lst [])) (hn : n ≤ 12) (ht : ts.length ≤ 20) (h : ∀ p ∈ ts, p.1 < n ∧ p.2 < n) (q : Q (.bl (decide (ts = []))) H) : rEqD K (.ref l) (.ref e) H Q := by
  refine ⟨.list ((tsI ts).map fun t => PyData.tuple (dI t)), .list [], .lst (SqL.of hl) (dp_prs hA), .lst (SqL.of he) .nil, (Pl.list (pl_prs hn ht h)).shaped (by decide), (Pl.list PlA.nil).shaped (by decide), qbl ?_ q⟩
  cases ts with
  | nil => rfl
  | cons t ts => rfl
structure Wk (b L F n m d : Nat) (H H' : Hp) (as : List Addr) (ws : List Pc) (lf : List Nat) : Prop where
  bx : Bx b H H'
  l : H' L = some (.lst (as.map V.ref))
  f : H' F = some (.lst (vn lf))
  pa : PcsA H' as ws
  ok : ∀ p ∈ ws, okP n m d p
  pm : (rds ws ++ lf).Perm (List.range n)
theorem PcsA.snoc {H : Hp} {as : List Addr} {ws : List Pc} {a : Addr} {p : Pc} (h : PcsA H as ws) (ha : H a = some (.tup (pcV p))) : PcsA H (as ++ [a]) (ws ++ [p]) := by
  refine ⟨by rw [List.length_append, List.length_append, h.1]; rfl, fun i c q e1 e2 => ?_⟩
  rcases snoc_at e1 with e1 | ⟨ei, rfl⟩
  · rcases snoc_at e2 with e2 | ⟨ei, rfl⟩
    · exact h.2 i c q e1 e2
    · have := lt_at e1
      have := h.1
      omega
  · rcases snoc_at e2 with e2 | ⟨_, rfl⟩
    · have := lt_at e2
      have := h.1
      omega
    · exact ha
section
variable {b L F n m d : Nat} {H H1 : Hp} {as : List Addr} {ws : List Pc} {lf : List Nat}
theorem Wk.box {H2 : Hp} (h : Wk b L F n m d H H1 as ws lf) (nL : L ≠ b) (nF : F ≠ b) (x : Bx b H1 H2) : Wk b L F n m d H H2 as ws lf :=
  ⟨h.bx.trans x, x.2 _ _ h.l nL, x.2 _ _ h.f nF, ⟨h.pa.1, fun i a t e1 e2 => x.tup h.bx.1 (h.pa.2 i a t e1 e2)⟩, h.ok, h.pm⟩
theorem Wk.same {H2 : Hp} (h : Wk b L F n m d H H1 as ws lf) (s : Same H1 H2) : Wk b L F n m d H H2 as ws lf := ⟨h.bx.same s, s _ _ h.l, s _ _ h.f, h.pa.same s, h.ok, h.pm⟩
/-- a step more -/
theorem Wk.app {a : Addr} {st : Stp} (h : Wk b L F n m d H H1 as ws lf) (hL : H L = none) (nL : L ≠ b) (nLF : L ≠ F) (ha : H1 a = some (.tup (stV st))) (hs : okS n m d st) : Wk b L F n m d H (upd H1 L (.lst (as.map V.ref ++ [V.ref a]))) (as ++ [a]) (ws ++ [.st st]) lf := by
  have k : ∀ c o, H1 c = some o → c ≠ L → (upd H1 L (.lst (as.map V.ref ++ [V.ref a]))) c = some o := fun c o e n => by rw [upd_ne n]; exact e
  have kt : ∀ c xs, H1 c = some (.tup xs) → (upd H1 L (.lst (as.map V.ref ++ [V.ref a]))) c = some (.tup xs) := fun c xs e => k c _ e (fun z => by rw [z, h.l] at e; cases e)
  refine ⟨⟨?_, fun c o e n => k c o (h.bx.2 c o e n) (ne_of_none e hL)⟩, by rw [upd_same, List.map_append]; rfl, k _ _ h.f nLF.symm, (h.pa.kp kt).snoc (kt _ _ ha), fun p hp => ?_, ?_⟩
  · obtain ⟨x, y, e⟩ := h.bx.1
    exact ⟨x, y, k _ _ e nL.symm⟩
  · rcases List.mem_append.mp hp with z | z
    · exact h.ok p z
    · rw [List.mem_singleton] at z
      rw [z]; exact hs
  · rw [rds_app, show rds [Pc.st st] = [] from rfl, List.append_nil]; exact h.pm
/-- a house is read -/
theorem Wk.rdh {a : Addr} {k h : Nat} (W : Wk b L F n m d H H1 as ws lf) (hL : H L = none) (hF : H F = none) (nL : L ≠ b) (nF : F ≠ b) (nLF : L ≠ F) (hk : lf[k]? = some h) (ha : (upd H1 F (.lst ((vn lf).eraseIdx k))) a = none) : ∃ H3, H3 = upd (upd H1 F (.lst ((vn lf).eraseIdx k))) a (.tup (pcV (.rd h))) ∧ H3 L = some (.lst (as.map V.ref)) ∧ Wk b L F n m d H (upd H3 L (.lst (as.map V.ref ++ [V.ref a]))) (as ++ [a]) (ws ++ [.rd h]) (lf.eraseIdx k) := by
  refine ⟨_, rfl, ?_⟩
  have hkl := lt_at hk
  have naF : a ≠ F := fun z => by rw [z, upd_same] at ha; cases ha
  have ha1 : H1 a = none := by rw [upd_ne naF] at ha; exact ha
  have naL : a ≠ L := fun z => by rw [z, W.l] at ha1; cases ha1
  have k1 : ∀ c o, H1 c = some o → c ≠ F → (upd (upd H1 F (.lst ((vn lf).eraseIdx k))) a (.tup (pcV (.rd h)))) c = some o := fun c o e n => by rw [upd_ne (fun z => by rw [z, ha1] at e; cases e), upd_ne n]; exact e
  have hL3 := k1 _ _ W.l nLF
  refine ⟨hL3, ?_⟩
  have ha3 : (upd (upd H1 F (.lst ((vn lf).eraseIdx k))) a (.tup (pcV (.rd h)))) a = some (.tup (pcV (.rd h))) := upd_same
  have hF3 : (upd (upd H1 F (.lst ((vn lf).eraseIdx k))) a (.tup (pcV (.rd h)))) F = some (.lst (vn (lf.eraseIdx k))) := by rw [upd_ne naF.symm, upd_same, vn, vn, erase_map]
  generalize upd (upd H1 F (.lst ((vn lf).eraseIdx k))) a (.tup (pcV (.rd h))) = H3 at k1 hL3 ha3 hF3 ⊢
  have k3 : ∀ c o, H3 c = some o → c ≠ L → (upd H3 L (.lst (as.map V.ref ++ [V.ref a]))) c = some o := fun c o e n => by rw [upd_ne n]; exact e
  have kt : ∀ c xs, H1 c = some (.tup xs) → (upd H3 L (.lst (as.map V.ref ++ [V.ref a]))) c = some (.tup xs) := fun c xs e => k3 c _ (k1 c _ e (fun z => by rw [z, W.f] at e; cases e)) (fun z => by rw [z, W.l] at e; cases e)
  refine ⟨⟨?_, fun c o e n => k3 c o (k1 c o (W.bx.2 c o e n) (ne_of_none e hF)) (ne_of_none e hL)⟩, by rw [upd_same, List.map_append]; rfl, k3 _ _ hF3 nLF.symm, (W.pa.kp kt).snoc (k3 _ _ ha3 naL), fun p hp => ?_, ?_⟩
  · obtain ⟨x, y, e⟩ := W.bx.1
    exact ⟨x, y, k3 _ _ (k1 _ _ e nF.symm) nL.symm⟩
  · rcases List.mem_append.mp hp with z | z
    · exact W.ok p z
    · rw [List.mem_singleton] at z
      rw [z]
      exact List.mem_range.mp (W.pm.mem_iff.mp (List.mem_append_right _ (List.mem_of_getElem? hk)))
  · rw [rds_app, show rds [Pc.rd h] = [h] from rfl, List.append_assoc]
    have e : lf[k] = h := by rw [List.getElem?_eq_getElem hkl] at hk; exact Option.some.inj hk
    have z := erase_perm lf k hkl
    rw [e] at z
    exact (z.append_left (rds ws)).trans W.pm
end
def spLK : Sp := fun vs H Q _ => ∃ (b tl : Addr) (n d mo : Nat) (ts : Prs) (tas : List Addr), vs = [.ref b, .int (n : Int), .ref tl, .int (d : Int), .int (mo : Int)] ∧ BoxO H b ∧ tl ≠ b ∧ H tl = some (.lst (tas.map V.ref)) ∧ PrsA H tas ts ∧ Wv n ts ∧ 1 ≤ d ∧ d ≤ 8 ∧ 2 ≤ mo ∧ mo ≤ 34 ∧
  ∀ (ws : List Pc) (l : Addr) (as : List Addr) H', WkO n ts.length d ws → ws.length ≤ 52 → (∀ h, h < n → h ∈ rds ws) → Bx b H H' → H l = none → H' l = some (.lst (as.map V.ref)) → PcsA H' as ws → Q (.ref l) H'
section
variable {P : Program} {w : World} {K : PySem.W.Frag} {mg : Str → Option Value} {base : Heap}
abbrev nLk : List Str := ["_law_box_here", "_law_houses", "_law_ties", "_law_deeds", "_law_most", "_law_found", "_law_left", "_law_turn", "_law_often", "_law_at", "_law_way"]
theorem scLk : FnScope nLk ["_law_box_here", "_law_houses", "_law_ties", "_law_deeds", "_law_most"] (defScope sLWalk) := ⟨rfl, rfl, rfl, by decide +kernel, rfl, by decide +kernel, by decide +kernel⟩
theorem ok_lk {f fT fP : Addr} {fd fdT fdP : FuncData} (D : Df K mg "_law_walk" sLWalk ["_law_box_here", "_law_houses", "_law_ties", "_law_deeds", "_law_most"] f fd) (DT : Df K mg "_law_take" sLTake ["_law_box_here", "_law_many"] fT fdT) (DP : Df K mg "_law_pick" sLPick ["_law_box_here", "_law_some"] fP fdP) (B : Bt mg)
    (GT : FnOk P w K mg base CX0 1 fT fdT ["_law_box_here", "_law_many"] spTake) (GP : FnOk P w K mg base CX0 2 fP fdP ["_law_box_here", "_law_some"] spPick) : FnOk P w K mg base CX0 3 f fd ["_law_box_here", "_law_houses", "_law_ties", "_law_deeds", "_law_most"] spLK := by
  refine D.F.ok scLk (fun vs H Q E h => ?_) (fun cdv A outer s H vs Q E hr h => ?_)
  · obtain ⟨b, tl, n, d, mo, ts, tas, rfl, _⟩ := h
    rfl
  · obtain ⟨b, tl, n, d, mo, ts, tas, rfl, hb, ntl, htl, hta, hW, hd1, hd8, hm1, hm2, q⟩ := h
    have r1 := hr.mono (show 1 ≤ 2 by decide)
    have hu := hr.units
    have n12 := hW.n12
    have n1 := hW.n1
    have t20 := hW.t20
    refine ⟨_, (pss_cons (ps_asg (pe_tup (pa_cons (pe_lst pa_nil) (pa_cons (pe_listRg rfl (by rfl) B.list (prg_1 (by rfl) B.range (pv 1))) (pa_cons pe_int (pa_cons (pc DP GP hr pass0 (pa_cons (pv 0) (pa_cons (pe_lst (pa_cons pe_int (pa_cons pe_int (pa_cons pe_int pa_nil)))) pa_nil))) pa_nil))))) (pg_tup rfl (pgs_cons (pg_name (i := 5) scLk.nd rfl (.inl rfl)) (pgs_cons (pg_name (i := 6) scLk.nd rfl (.inl rfl)) (pgs_cons (pg_name (i := 7) scLk.nd rfl (.inl rfl)) (pgs_cons (pg_name (i := 8) scLk.nd rfl (.inl rfl)) pgs_nil))))))
    (pss_cons (ps_for PassesOwn.never rfl (pi_range1 (by rfl) B.range (pa_cons (pe_op op_add pe_int (pc DT GT r1 pass0 (pa_cons (pv 0) (pa_cons (pe_op op_sub (pv 4) pe_int) pa_nil)))) pa_nil)) (pg_name (i := 9) scLk.nd rfl (.inl rfl))
      (pss_cons (ps_set (i := 10) scLk.nd rfl (.inl rfl) (pc DT GT r1 pass0 (pa_cons (pv 0) (pa_cons pe_int pa_nil))))
      (pss_one (ps_if (PW.pt (pw_and (pt_cmpR (neD (K := K) rfl hu) (pv 6) (pe_lst pa_nil) (nomark _)) (pw_and1 (pt_cmpR op_eq (pc DT GT r1 pass0 (pa_cons (pv 0) (pa_cons (pv 8) pa_nil))) pe_int (nomark _)))))
        (pss_one (ps_expr (pe_bm PySem.F.plainAttrs_list PySem.F.slot_list_append PySem.F.type_list_append mt_append (pv 5) (pa_cons (pe_tup (pa_cons pe_str (pa_cons (pe_bm PySem.F.plainAttrs_list PySem.F.slot_list_pop PySem.F.type_list_pop mt_popAt (pv 6) (pa_cons (pc DT GT r1 pass0 (pa_cons (pv 0) (pa_cons (pe_callB call_len_seq (by rfl) B.len PySem.boot_len (pa_cons (pv 6) pa_nil)) pa_nil))) pa_nil)) pa_nil))) pa_nil))))
        (pss_one (ps_if (PW.pt (pw_or (pt_cmpR op_lt (pv 10) pe_int (nomark _)) (pw_or1 (pt_cmpR (eqD (K := K) rfl hu) (pv 2) (pe_lst pa_nil) (nomark _)))))
          (pss_one (ps_expr (pe_bm PySem.F.plainAttrs_list PySem.F.slot_list_append PySem.F.type_list_append mt_append (pv 5) (pa_cons (pe_tup (pa_cons pe_str (pa_cons (pc DT GT r1 pass0 (pa_cons (pv 0) (pa_cons (pv 1) pa_nil))) (pa_cons (pc DT GT r1 pass0 (pa_cons (pv 0) (pa_cons (pv 3) pa_nil))) pa_nil)))) pa_nil))))
          (pss_cons (ps_set (i := 7) scLk.nd rfl (.inl rfl) (pe_ifExp (pt_cmpR op_eq (pv 10) pe_int (nomark _)) (pe_op op_mod (pe_callTy call_int1 (by rfl) B.int PyProof.Rows.boot_int (pa_cons (pe_op op_add (pv 7) pe_int) pa_nil)) (pe_callB call_len_seq (by rfl) B.len PySem.boot_len (pa_cons (pv 2) pa_nil))) (pc DT GT r1 pass0 (pa_cons (pv 0) (pa_cons (pe_callB call_len_seq (by rfl) B.len PySem.boot_len (pa_cons (pv 2) pa_nil)) pa_nil)))))
          (pss_one (ps_expr (pe_bm PySem.F.plainAttrs_list PySem.F.slot_list_append PySem.F.type_list_append mt_append (pv 5) (pa_cons (pe_tup (pa_cons pe_str (pa_cons (pv 7) pa_nil))) pa_nil)))))))))))
    (pss_cons (ps_for PassesOwn.never rfl (pi_range1 (by rfl) B.range (pa_cons (pe_callB call_len_seq (by rfl) B.len PySem.boot_len (pa_cons (pv 6) pa_nil)) pa_nil)) (pg_name (i := 9) scLk.nd rfl (.inl rfl))
      (pss_one (ps_expr (pe_bm PySem.F.plainAttrs_list PySem.F.slot_list_append PySem.F.type_list_append mt_append (pv 5) (pa_cons (pe_tup (pa_cons pe_str (pa_cons (pe_bm PySem.F.plainAttrs_list PySem.F.slot_list_pop PySem.F.type_list_pop mt_popAt (pv 6) (pa_cons (pc DT GT r1 pass0 (pa_cons (pv 0) (pa_cons (pe_callB call_len_seq (by rfl) B.len PySem.boot_len (pa_cons (pv 6) pa_nil)) pa_nil))) pa_nil)) pa_nil))) pa_nil)))))
    (pss_one (ps_ret (pv 5)))))), ?_⟩
    --MAIN
    refine ⟨(by show 0 ≤ sizeLine; decide), fun L hL0 => ⟨_, rfl, _, rfl, RgOk.of_le (by omega) (by omega) (by omega) (by omega), fun F hF0 => ⟨_, rfl, (by show 3 ≤ sizeLine; decide), fun l3 hl3 => ?_⟩⟩⟩
    have sL := same_new (o := HO.lst []) hL0
    have sF := same_new (o := HO.lst (rgV 0 (n : Int))) hF0
    have s3 := same_new (o := HO.lst [V.int 2, .int 4, .int 12]) hl3
    have nLF : L ≠ F := fun z => by rw [← z, upd_same] at hF0; cases hF0
    have hF : H F = none := sL.free hF0
    have nL : L ≠ b := fun z => by
      obtain ⟨x, y, e⟩ := hb
      rw [z, e] at hL0; cases hL0
    have nF : F ≠ b := fun z => by
      obtain ⟨x, y, e⟩ := hb
      rw [z, e] at hF; cases hF
    have s13 := (sL.trans sF).trans s3
    have W0 : Wk b L F n ts.length d H (upd (upd (upd H L (HO.lst [])) F (HO.lst (rgV 0 (n : Int)))) l3 (HO.lst [V.int 2, .int 4, .int 12])) [] [] (List.range n) := by
      refine ⟨⟨hb.same s13, fun c o e _ => s13 _ _ e⟩, s3 _ _ (sF _ _ upd_same), s3 _ _ ?_, ⟨rfl, fun i a t e => (by cases e)⟩, fun p hp => (by cases hp), List.Perm.refl _⟩
      rw [upd_same, rgV_nats, vn_vrow]; rfl
    have nl3 : l3 ≠ b := fun z => by
      obtain ⟨x, y, e⟩ := (hb.same sL).same sF
      rw [z, e] at hl3; cases hl3
    have hl33 : (upd (upd (upd H L (HO.lst [])) F (HO.lst (rgV 0 (n : Int)))) l3 (HO.lst [V.int 2, .int 4, .int 12])) l3 = some (.lst [V.int 2, .int 4, .int 12]) := upd_same
    generalize upd (upd (upd H L (HO.lst [])) F (HO.lst (rgV 0 (n : Int)))) l3 (HO.lst [V.int 2, .int 4, .int 12]) = H1 at W0 hl33 ⊢
    refine ⟨b, l3, _, rfl, W0.bx.1, hl33, nl3, by decide, by decide, fun j v H2 hv bx2 => ⟨(by show 4 ≤ sizeLine; decide), fun T hT => ?_⟩⟩
    obtain ⟨c, rfl, hc1, hc2⟩ : ∃ c : Nat, v = .int (c : Int) ∧ 2 ≤ c ∧ c ≤ 12 := by
      match j, hv with
      | 0, hv => exact ⟨2, (Option.some.inj hv).symm, by decide, by decide⟩
      | 1, hv => exact ⟨4, (Option.some.inj hv).symm, by decide, by decide⟩
      | 2, hv => exact ⟨12, (Option.some.inj hv).symm, by decide, by decide⟩
      | k + 3, hv => cases hv
    have W2 := (W0.box nL nF bx2).same (same_new (o := HO.tup [V.ref L, .ref F, .int 0, .int (c : Int)]) hT)
    have hT2 : (upd H2 T (HO.tup [V.ref L, .ref F, .int 0, .int (c : Int)])) T = some (.tup [V.ref L, .ref F, .int 0, .int (c : Int)]) := upd_same
    generalize upd H2 T (HO.tup [V.ref L, .ref F, .int 0, .int (c : Int)]) = H3 at W2 hT2 ⊢
    refine ⟨T, _, rfl, SqT.of hT2, rfl, _, _, rfl, _, _, rfl, _, _, rfl, _, _, rfl, rfl, ?_⟩
    refine gn ?_
    dsimp only [List.set]
    refine ⟨_, rfl, _, rfl, _, _, rfl, rfl, b, _, rfl, W2.bx.1, by omega, by omega, fun r H4 r0 r1' bx4 => ⟨_, _, rfl, rfl, ?_⟩⟩
    have W4 := W2.box nL nF bx4
    refine ⟨2 + r, rfl, by omega, by omega, for_range (fun i σ H' => ∃ (v9 v10 : Option V) (tn : Int) (as : List Addr) (ws : List Pc) (lf : List Nat), σ = [some (.ref b), some (.int (n : Int)), some (.ref tl), some (.int (d : Int)), some (.int (mo : Int)), some (.ref L), some (.ref F), some (.int tn), some (.int (c : Int)), v9, v10] ∧ Wk b L F n ts.length d H H' as ws lf ∧ ws.length ≤ i)
      ⟨none, none, 0, [], [], List.range n, rfl, W4, Nat.le_refl _⟩ ?_ ?_⟩
    · rintro i σ H5 hi ⟨v9, v10, tn, as, ws, lf, rfl, W, hws⟩
      have hwl : ws.length ≤ 50 := by omega
      have lfn : lf.length ≤ 12 := by
        have := W.pm.length_eq
        rw [List.length_append, List.length_range] at this
        omega
      refine gn ?_
      dsimp only [List.set]
      refine ⟨_, rfl, b, _, rfl, W.bx.1, by omega, by omega, fun wy H5 wy0 wy1 bx5 => ?_⟩
      have W5 := W.box nL nF bx5
      dsimp only [List.set]
      refine ifG (fun cc H5 => Wk b L F n ts.length d H H5 as ws lf ∧ (cc = true → 0 < lf.length)) (fun cc H5 G5 => ?_) fun go => ⟨_, rfl, (by show 0 ≤ sizeLine; decide), fun e1 he1 => neNil (ns := lf.map fun x : Nat => (x : Int)) (by rw [← vn_vrow]; exact same_new he1 _ _ W5.f) upd_same ⟨_, rfl, ifD (fun e => ?_) fun e => go false _ ⟨W5.same (same_new he1), fun z => by cases z⟩⟩⟩
      rotate_left
      · have hlf : 0 < lf.length := by
          cases lf with
          | nil => cases e
          | cons x l => exact Nat.succ_pos _
        have W5 := W5.same (same_new (o := HO.lst []) he1)
        exact ⟨_, rfl, _, rfl, b, _, rfl, W5.bx.1, by omega, by omega, fun r2 H6 _ _ bx6 => ⟨rfl, _, rfl, go _ _ ⟨W5.box nL nF bx6, fun _ => hlf⟩⟩⟩
      · obtain ⟨W5, hlf⟩ := G5
        refine ifD (fun e => ?_) fun e => ?_
        · have hlf := hlf e
          refine ⟨_, rfl, .inl ⟨rfl, _, SqL.of W5.l⟩, _, rfl, .inl ⟨rfl, _, SqL.of W5.f⟩, _, rfl, _, rfl, F, _, rfl, .inl (SqL.of W5.f), b, _, rfl, W5.bx.1, by rw [vn_len]; omega, by rw [vn_len]; have := lfn; omega, fun r H6 r0 r1' bx6 => ?_⟩
          rw [vn_len] at r1'
          have W6 := W5.box nL nF bx6
          obtain ⟨k, rfl⟩ : ∃ k : Nat, r = (k : Int) := ⟨r.toNat, by omega⟩
          obtain ⟨h, hk⟩ := ex_at (l := lf) (i := k) (by omega)
          refine ⟨F, vn lf, (k : Int), k, _, rfl, rfl, W6.f, by omega, by have := lfn; omega, seqI (by rw [vn_len]; omega), vn_at hk, (by show 2 ≤ sizeLine; decide), fun p hp => ?_⟩
          obtain ⟨H3, e3, hL3, W7⟩ := W6.rdh hL0 hF nL nF nLF hk hp
          subst e3
          refine ⟨L, _, _, rfl, rfl, hL3, szl (by rw [List.length_map, W6.pa.1]; omega), ?_⟩
          refine ⟨_, _, _, as ++ [p], ws ++ [.rd h], lf.eraseIdx k, rfl, ?_, by rw [List.length_append]; exact Nat.succ_le_succ hws⟩
          exact W7
        · refine ifG (fun cc H6 => Wk b L F n ts.length d H H6 as ws lf ∧ (cc = false → ts ≠ [])) (fun cc H6 G6 => ?_) fun go => ⟨_, rfl, _, _, rfl, rfl, _, rfl, ifD (fun e => go true _ ⟨W5, fun z => by cases z⟩) fun e => ?_⟩
          rotate_left
          · refine ⟨_, rfl, (by show 0 ≤ sizeLine; decide), fun e2 he2 => ?_⟩
            have W6 := W5.same (same_new (o := HO.lst []) he2)
            refine eqNilT (W6.bx.2 _ _ htl ntl) ⟨hta.1, fun i a t e1 e2 => W6.bx.tup hb (hta.2 i a t e1 e2)⟩ upd_same n12 t20 (fun p hp => ⟨(hW.pr p hp).1, (hW.pr p hp).2.1⟩) ⟨_, rfl, go _ _ ⟨W6, fun z e => ?_⟩⟩
            rw [decide_eq_true e] at z; cases z
          · obtain ⟨W5, hts⟩ := G6
            refine ifD (fun e => ?_) fun e => ?_
            · refine ⟨_, rfl, .inl ⟨rfl, _, SqL.of W5.l⟩, _, rfl, _, rfl, b, _, rfl, W5.bx.1, by omega, by omega, fun r2 H6 r20 r21 bx6 => ?_⟩
              have W6 := W5.box nL nF bx6
              refine ⟨_, rfl, _, rfl, b, _, rfl, W6.bx.1, by omega, by omega, fun r3 H7 r30 r31 bx7 => ?_⟩
              have W7 := W6.box nL nF bx7
              obtain ⟨k2, rfl⟩ : ∃ k : Nat, r2 = (k : Int) := ⟨r2.toNat, by omega⟩
              obtain ⟨k3, rfl⟩ : ∃ k : Nat, r3 = (k : Int) := ⟨r3.toNat, by omega⟩
              refine ⟨(by show 3 ≤ sizeLine; decide), fun p hp => ?_⟩
              have W8 := W7.same (same_new (o := HO.tup (stV (.dd k2 k3))) hp)
              refine ⟨L, _, _, rfl, rfl, W8.l, szl (by rw [List.length_map, W8.pa.1]; omega), ?_⟩
              refine ⟨_, _, _, as ++ [p], ws ++ [.st (.dd k2 k3)], lf, rfl, ?_, by rw [List.length_append]; exact Nat.succ_le_succ hws⟩
              have W9 := W8.app hL0 nL nLF (a := p) (st := .dd k2 k3) upd_same ⟨by omega, by omega⟩
              exact W9
            · have hne := hts (by simpa using e)
              have tpos : 0 < ts.length := (by cases ts with | nil => exact absurd rfl hne | cons t ts => exact Nat.succ_pos _)
              have htl5 := W5.bx.2 _ _ htl ntl
              have ltl : (tas.map V.ref).length = ts.length := by rw [List.length_map, hta.1]
              refine ⟨_, rfl, ⟨rfl, _, rfl, ifD (fun e => ?_) fun e => ?_⟩⟩
              · refine ⟨_, rfl, _, _, rfl, rfl, .inl ⟨_, rfl, _, rfl, tl, _, rfl, .inl (SqL.of htl5), _, _, rfl, rfl, by rw [ltl]; omega, ?_⟩⟩
                rw [ltl]
                have W6 := W5
                obtain ⟨k6, ek6⟩ : ∃ k : Nat, (tn + 1) % (ts.length : Int) = (k : Int) := ⟨((tn + 1) % (ts.length : Int)).toNat, by have := Int.emod_nonneg (tn + 1) (show (ts.length : Int) ≠ 0 by omega); omega⟩
                have h6 : k6 < ts.length := by have := Int.emod_lt_of_pos (tn + 1) (show 0 < (ts.length : Int) by omega); omega
                dsimp only
                rw [ek6]
                dsimp only [List.set]
                refine ⟨_, rfl, .inl ⟨rfl, _, SqL.of W6.l⟩, _, rfl, (by show 2 ≤ sizeLine; decide), fun p hp => ?_⟩
                have W8 := W6.same (same_new (o := HO.tup (stV (.mt k6))) hp)
                refine ⟨L, _, _, rfl, rfl, W8.l, szl (by rw [List.length_map, W8.pa.1]; omega), ?_⟩
                refine ⟨_, _, _, as ++ [p], ws ++ [.st (.mt k6)], lf, rfl, ?_, by rw [List.length_append]; exact Nat.succ_le_succ hws⟩
                have W9 := W8.app hL0 nL nLF (a := p) (st := .mt k6) upd_same h6
                exact W9
              · refine ⟨_, rfl, _, rfl, tl, _, rfl, .inl (SqL.of htl5), b, _, rfl, W5.bx.1, by rw [ltl]; omega, by rw [ltl]; omega, fun r6 H7 r60 r61 bx7 => ?_⟩
                rw [ltl] at r61
                have W6 := W5.box nL nF bx7
                obtain ⟨k6, rfl⟩ : ∃ k : Nat, r6 = (k : Int) := ⟨r6.toNat, by omega⟩
                have h6 : k6 < ts.length := by omega
                dsimp only [List.set]
                refine ⟨_, rfl, .inl ⟨rfl, _, SqL.of W6.l⟩, _, rfl, (by show 2 ≤ sizeLine; decide), fun p hp => ?_⟩
                have W8 := W6.same (same_new (o := HO.tup (stV (.mt k6))) hp)
                refine ⟨L, _, _, rfl, rfl, W8.l, szl (by rw [List.length_map, W8.pa.1]; omega), ?_⟩
                refine ⟨_, _, _, as ++ [p], ws ++ [.st (.mt k6)], lf, rfl, ?_, by rw [List.length_append]; exact Nat.succ_le_succ hws⟩
                have W9 := W8.app hL0 nL nLF (a := p) (st := .mt k6) upd_same h6
                exact W9
    · rintro σ H5 ⟨v9, v10, tn, as, ws, lf, rfl, W, hws⟩
      have hwl : ws.length ≤ 40 := by omega
      have lfn : lf.length ≤ 12 := by
        have := W.pm.length_eq
        rw [List.length_append, List.length_range] at this
        omega
      refine ⟨_, rfl, F, _, rfl, .inl (SqL.of W.f), ?_⟩
      rw [vn_len]
      refine ⟨(lf.length : Int), rfl, by omega, by omega, for_range (fun i σ H' => ∃ (v9 : Option V) (as : List Addr) (ws : List Pc) (lf' : List Nat), σ = [some (.ref b), some (.int (n : Int)), some (.ref tl), some (.int (d : Int)), some (.int (mo : Int)), some (.ref L), some (.ref F), some (.int tn), some (.int (c : Int)), v9, v10] ∧ Wk b L F n ts.length d H H' as ws lf' ∧ ws.length ≤ 40 + i ∧ lf'.length + i = lf.length)
        ⟨_, as, ws, lf, rfl, W, hwl, rfl⟩ ?_ ?_⟩
      · rintro i σ H5 hi ⟨v9, as, ws, lf', rfl, W5, hws, hlf'⟩
        refine gn ?_
        dsimp only [List.set]
        have hi' : i < lf.length := by omega
        have lfn : lf'.length ≤ 12 := by omega
        refine ⟨_, rfl, .inl ⟨rfl, _, SqL.of W5.l⟩, _, rfl, .inl ⟨rfl, _, SqL.of W5.f⟩, _, rfl, _, rfl, F, _, rfl, .inl (SqL.of W5.f), b, _, rfl, W5.bx.1, by rw [vn_len]; omega, by rw [vn_len]; have := lfn; omega, fun r H6 r0 r1' bx6 => ?_⟩
        rw [vn_len] at r1'
        have W6 := W5.box nL nF bx6
        obtain ⟨k, rfl⟩ : ∃ k : Nat, r = (k : Int) := ⟨r.toNat, by omega⟩
        obtain ⟨h, hk⟩ := ex_at (l := lf') (i := k) (by omega)
        refine ⟨F, vn lf', (k : Int), k, _, rfl, rfl, W6.f, by omega, by have := lfn; omega, seqI (by rw [vn_len]; omega), vn_at hk, (by show 2 ≤ sizeLine; decide), fun p hp => ?_⟩
        obtain ⟨H3, e3, hL3, W7⟩ := W6.rdh hL0 hF nL nF nLF hk hp
        subst e3
        refine ⟨L, _, _, rfl, rfl, hL3, szl (by rw [List.length_map, W6.pa.1]; omega), ?_⟩
        refine ⟨_, as ++ [p], ws ++ [.rd h], lf'.eraseIdx k, rfl, ?_, by rw [List.length_append]; exact Nat.succ_le_succ hws, by rw [List.length_eraseIdx_of_lt (lt_at hk)]; omega⟩
        exact W7
      · rintro σ H5 ⟨v9, as, ws, lf', rfl, W5, hws, hlf'⟩
        obtain rfl : lf' = [] := List.eq_nil_of_length_eq_zero (by omega)
        have pm := W5.pm
        rw [List.append_nil] at pm
        exact ⟨_, rfl, q ws L as H5 ⟨W5.ok, pm.nodup_iff.mpr List.nodup_range, by omega⟩ (by omega) (fun h hh => pm.mem_iff.mpr (List.mem_range.mpr hh)) W5.bx hL0 W5.l W5.pa⟩
end
end K1
namespace K1
open PySem PySem.Spec PyProof.Rows L2
/-! ### lists of lists in the making (wip/k20/M1) -/
/-- a list of lists -/
def LLq (H : Hp) (p : Addr) (as : List Addr) (ts : Ts) : Prop := H p = some (.lst (as.map V.ref)) ∧ as.length = ts.length ∧ ∀ (i : Nat) a t, as[i]? = some a → ts[i]? = some t → H a = some (.lst (vrow t))
theorem LLq.same {H H' : Hp} {p : Addr} {as : List Addr} {ts : Ts} (h : LLq H p as ts) (s : Same H H') : LLq H' p as ts := ⟨s _ _ h.1, h.2.1, fun i a t e1 e2 => s _ _ (h.2.2 i a t e1 e2)⟩
theorem ixN_of {i n : Nat} (h : i < n) : ixN n (i : Int) = some i := by unfold ixN; rw [if_pos (by omega), if_pos (by omega)]; simp
theorem rep_by {Q : VK} {H : Hp} {l : Addr} {x : V} (k : Nat) (h : H l = some (.lst [x])) (hk : k ≤ 100000) (q : ∀ p, H p = none → Q (.ref p) (upd H p (.lst (List.replicate k x)))) : rRep (.ref l) (.int (k : Int)) H Q :=
  ⟨l, k, [x], rfl, rfl, h, by omega, by omega, by rw [sizeLine_eq]; show 1 * (k : Int).toNat ≤ _; omega, fun p hp => by rw [flat_rep]; exact q p hp⟩
theorem LLq.keep {H : Hp} {D x : Addr} {o : HO} {as : List Addr} {rs : Rwz} (l : LLq H D as rs) (n : x ≠ D) (na : x ∉ as) : LLq (upd H x o) D as rs :=
  ⟨by rw [upd_ne (Ne.symm n)]; exact l.1, l.2.1, fun i c q e1 e2 => by rw [upd_ne (fun z => na (by rw [← z]; exact List.mem_of_getElem? e1))]; exact l.2.2 i c q e1 e2⟩
theorem LLq.set {H : Hp} {D x : Addr} {as : List Addr} {rs : Rwz} {h : Nat} {r : List Int} (l : LLq H D as rs) (n : ∀ a ∈ as, a ≠ D) (hx : H x = some (.lst (vrow r))) (nx : x ≠ D) : LLq (upd H D (.lst ((as.map V.ref).set h (.ref x)))) D (as.set h x) (rs.set h r) := by
  refine ⟨by rw [upd_same, List.map_set], by rw [List.length_set, List.length_set]; exact l.2.1, fun i c q e1 e2 => ?_⟩
  by_cases z : i = h
  · subst z
    have hi : i < as.length := by have := lt_at e1; rwa [List.length_set] at this
    rw [List.getElem?_set_self hi] at e1
    rw [List.getElem?_set_self (by rw [← l.2.1]; exact hi)] at e2
    obtain rfl := Option.some.inj e1
    obtain rfl := Option.some.inj e2
    rw [upd_ne nx]; exact hx
  · rw [List.getElem?_set_ne (Ne.symm z)] at e1 e2
    rw [upd_ne (n c (List.mem_of_getElem? e1))]
    exact l.2.2 i c q e1 e2
/-- two lists of lists in the making, apart from each other, and from what was -/
structure Cl (H0 H : Hp) (hl al : Addr) (hs as : List Addr) (u : Cu) : Prop where
  s : Same H0 H
  h : LLq H hl hs u.hs
  a : LLq H al as u.ts
  h0 : H0 hl = none
  a0 : H0 al = none
  ne : hl ≠ al
  nh : ∀ x ∈ hs, x ≠ hl ∧ x ≠ al
  na : ∀ x ∈ as, x ≠ hl ∧ x ≠ al
  f : ∀ x ∈ hs, H0 x = none
theorem Cl.same {H0 H H' : Hp} {hl al : Addr} {hs as : List Addr} {u : Cu} (c : Cl H0 H hl al hs as u) (s : Same H H') : Cl H0 H' hl al hs as u := ⟨c.s.trans s, c.h.same s, c.a.same s, c.h0, c.a0, c.ne, c.nh, c.na, c.f⟩
theorem mem_set {α : Type} {l : List α} {i : Nat} {x y : α} (h : y ∈ l.set i x) : y ∈ l ∨ y = x := by
  rcases List.mem_or_eq_of_mem_set h with h | h
  · exact .inl h
  · exact .inr h
theorem Cl.setH {H0 H : Hp} {hl al : Addr} {hs as : List Addr} {u : Cu} (c : Cl H0 H hl al hs as u) {x : Addr} {h : Nat} {r : List Int} (hx : H x = some (.lst (vrow r))) (nx : x ≠ hl) (nx2 : x ≠ al) (nx0 : H0 x = none) : Cl H0 (upd H hl (.lst ((hs.map V.ref).set h (.ref x)))) hl al (hs.set h x) as ⟨u.hs.set h r, u.ts, u.ds⟩ :=
  ⟨fun d o e => by rw [upd_ne (ne_of_none e c.h0)]; exact c.s _ _ e, c.h.set (fun a ha => (c.nh a ha).1) hx nx, c.a.keep c.ne (fun z => (c.na hl z).1 rfl), c.h0, c.a0, c.ne, fun y hy => (mem_set hy).elim (c.nh y) (fun e => by rw [e]; exact ⟨nx, nx2⟩), c.na, fun y hy => (mem_set hy).elim (c.f y) (fun e => by rw [e]; exact nx0)⟩
theorem Cl.setA {H0 H : Hp} {hl al : Addr} {hs as : List Addr} {u : Cu} (c : Cl H0 H hl al hs as u) {x : Addr} {h : Nat} {r : List Int} (hx : H x = some (.lst (vrow r))) (nx : x ≠ hl) (nx2 : x ≠ al) : Cl H0 (upd H al (.lst ((as.map V.ref).set h (.ref x)))) hl al hs (as.set h x) ⟨u.hs, u.ts.set h r, u.ds⟩ :=
  ⟨fun d o e => by rw [upd_ne (ne_of_none e c.a0)]; exact c.s _ _ e, c.h.keep c.ne.symm (fun z => (c.nh al z).2 rfl), c.a.set (fun a ha => (c.na a ha).2) hx nx2, c.h0, c.a0, c.ne, c.nh, fun y hy => (mem_set hy).elim (c.na y) (fun e => by rw [e]; exact ⟨nx, nx2⟩), c.f⟩
theorem LLq.snoc {H : Hp} {D l : Addr} {as : List Addr} {rs : Rwz} {r : List Int} (t : LLq H D as rs) (hl : H l = some (.lst (vrow r))) (n : ∀ a ∈ as, a ≠ D) (nl : l ≠ D) : LLq (upd H D (.lst ((as ++ [l]).map V.ref))) D (as ++ [l]) (rs ++ [r]) := by
  refine ⟨upd_same, by rw [List.length_append, List.length_append, t.2.1]; rfl, fun i c q e1 e2 => ?_⟩
  by_cases hi : i < as.length
  · rw [List.getElem?_append_left hi] at e1
    rw [List.getElem?_append_left (by rw [← t.2.1]; exact hi)] at e2
    rw [upd_ne (n c (List.mem_of_getElem? e1))]
    exact t.2.2 i c q e1 e2
  · have h1 := lt_at e1
    rw [List.length_append] at h1
    obtain rfl : i = as.length := by simp only [List.length_cons, List.length_nil] at h1; omega
    rw [List.getElem?_append_right (Nat.le_refl _), Nat.sub_self] at e1
    rw [List.getElem?_append_right (by rw [t.2.1]; exact Nat.le_refl _), t.2.1, Nat.sub_self] at e2
    obtain rfl : l = c := Option.some.inj e1
    obtain rfl : r = q := Option.some.inj e2
    rw [upd_ne nl]; exact hl
theorem LLq.push {H : Hp} {D l : Addr} {as : List Addr} {z : Nat} {x : List Int} (t : LLq H D as (List.replicate z x)) (hl : H l = some (.lst (vrow x))) (n : ∀ a ∈ as, a ≠ D) (nl : l ≠ D) : LLq (upd H D (.lst (as.map V.ref ++ [.ref l]))) D (as ++ [l]) (List.replicate (z + 1) x) := by
  have := t.snoc hl n nl
  rw [List.map_append] at this
  rw [List.replicate_succ']; exact this
/-- rows of noughts in the making -/
structure Nt (H0 H : Hp) (D : Addr) (k z : Nat) (as : List Addr) : Prop where
  s : Same H0 H
  l : LLq H D as (List.replicate z (List.replicate k 0))
  f : ∀ x ∈ as, H0 x = none ∧ x ≠ D
  d : H0 D = none
theorem Nt.init {H0 : Hp} {D : Addr} {k : Nat} (h : H0 D = none) : Nt H0 (upd H0 D (.lst [])) D k 0 [] := ⟨same_new h, ⟨upd_same, rfl, fun i a t z => by cases z⟩, (fun x hx => nomatch hx), h⟩
theorem Nt.step {H0 H H2 : Hp} {D l : Addr} {k z : Nat} {as : List Addr} (I : Nt H0 H D k z as) (hz : z ≤ 1000) (s : Same H H2) (hl : H2 l = some (.lst (vrow (List.replicate k 0)))) (fl : H l = none) : ∃ acc, H2 D = some (.lst acc) ∧ acc.length < sizeLine ∧ ∃ as', Nt H0 (upd H2 D (.lst (acc ++ [.ref l]))) D k (z + 1) as' := by
  have l2 := I.l.same s
  have nl : l ≠ D := fun e => by rw [e, I.l.1] at fl; cases fl
  refine ⟨as.map V.ref, l2.1, szl (by rw [List.length_map, l2.2.1, List.length_replicate]; omega), as ++ [l], fun c o e => by rw [upd_ne (ne_of_none e I.d)]; exact s _ _ (I.s _ _ e), l2.push hl (fun a ha => (I.f a ha).2) nl, fun x hx => ?_, I.d⟩
  rcases List.mem_append.mp hx with h | h
  · exact I.f x h
  · rw [List.mem_singleton.mp h]
    refine ⟨?_, nl⟩
    cases e : H0 l with
    | none => rfl
    | some o => rw [I.s _ _ e] at fl; cases fl
end K1
namespace K1
open PySem PySem.Spec PyProof.Rows L2
/-! ### the sums of walks, exactly -/
def sumN : Nat → (Nat → Int) → Int
  | 0, _ => 0
  | n + 1, f => sumN n f + f n
theorem sumN_congr : ∀ {n : Nat} {f g : Nat → Int}, (∀ i, i < n → f i = g i) → sumN n f = sumN n g
  | 0, _, _, _ => rfl
  | n + 1, f, g, h => by
    show sumN n f + f n = sumN n g + g n
    rw [sumN_congr fun i hi => h i (by omega), h n (by omega)]
theorem sumN_add (n : Nat) (f g : Nat → Int) : sumN n (fun i => f i + g i) = sumN n f + sumN n g := by
  induction n with
  | zero => rfl
  | succ n ih => show sumN n (fun i => f i + g i) + (f n + g n) = (sumN n f + f n) + (sumN n g + g n); rw [ih]; omega
theorem sumN_zero {n : Nat} {f : Nat → Int} (h : ∀ i, i < n → f i = 0) : sumN n f = 0 := by
  induction n with
  | zero => rfl
  | succ n ih => show sumN n f + f n = 0; rw [ih fun i hi => h i (by omega), h n (by omega)]; rfl
/-- a sum that differs at one place -/
theorem sumN_at {n : Nat} {f g : Nat → Int} {k : Nat} (hk : k < n) (h : ∀ i, i < n → i ≠ k → g i = f i) : sumN n g = sumN n f + (g k - f k) := by
  induction n with
  | zero => omega
  | succ n ih =>
    show sumN n g + g n = sumN n f + f n + (g k - f k)
    by_cases e : k = n
    · subst e
      rw [sumN_congr (f := g) (g := f) fun i hi => h i (by omega) (by omega)]; omega
    · rw [ih (by omega) fun i hi ne => h i (by omega) ne, h n (by omega) (fun z => e z.symm)]; omega
theorem sumN_at2 {n : Nat} {f g : Nat → Int} {k l : Nat} (hk : k < n) (hl : l < n) (ne : k ≠ l) (h : ∀ i, i < n → i ≠ k → i ≠ l → g i = f i) : sumN n g = sumN n f + (g k - f k) + (g l - f l) := by
  have h1 := sumN_at (f := f) (g := fun i => if i = k then g k else f i) hk (fun i _ e => if_neg e)
  have h2 := sumN_at (f := fun i => if i = k then g k else f i) (g := g) hl (fun i hi e => by
    by_cases c : i = k
    · rw [if_pos c, c]
    · rw [if_neg c]; exact h i hi c e)
  rw [if_pos rfl] at h1
  rw [if_neg ne.symm] at h2
  omega
/-- what is to be read yet: the houses of no R less the ties that touch them -/
def hV (R : List Nat) (u : Cu) (a h : Nat) : Int := if h ∈ R then 0 else u.h h a
def tV' (ps : Prs) (R : List Nat) (u : Cu) (a t : Nat) : Int := if (ps.getD t (0, 0)).1 ∈ R ∧ (ps.getD t (0, 0)).2 ∈ R then 0 else u.t t a
def VV (n : Nat) (ps : Prs) (R : List Nat) (u : Cu) (a : Nat) : Int := sumN n (hV R u a) - sumN ps.length (tV' ps R u a)
section
variable {n d k : Nat} {ps : Prs} {ws : List Pc}
theorem foldM_at {u : Cu} (o : CuOk n ps.length k u) {a : Nat} (ha : a < k) : ∀ (l : List Nat) (s : List Int), (∀ t ∈ l, t < ps.length) → s.length = k → (l.foldl (fun s t => madd s (u.ts.getD t []) (-1)) s).getD a 0 = s.getD a 0 - (l.map fun t => u.t t a).sum
  | [], s, _, _ => by show _ = _ - (0 : Int); rw [Int.sub_zero]; rfl
  | t :: l, s, ht, hs => by
    have r := o.rowT (ht t List.mem_cons_self)
    rw [List.foldl_cons, foldM_at o ha l _ (fun x hx => ht x (List.mem_cons_of_mem _ hx)) (madd_len hs r), madd_at hs r ha, List.map_cons, List.sum_cons]
    show s.getD a 0 + -1 * u.t t a - _ = _
    omega
theorem trd_sum (h : Nat) (R : List Nat) (f : Nat → Int) : ∀ m, m ≤ ps.length → ((((wOnK ps h m).filter fun q => decide (q.2 ∈ R)).map (·.1)).map f).sum = sumN m fun t => if inc h (ps.getD t (0, 0)) = true ∧ oth h (ps.getD t (0, 0)) ∈ R then f t else 0
  | 0, _ => rfl
  | m + 1, hm => by
    obtain ⟨p, hp⟩ := ex_at (show m < ps.length by omega)
    have ep : ps.getD m (0, 0) = p := by rw [List.getD_eq_getElem?_getD, hp]; rfl
    show _ = sumN m _ + _
    rw [← trd_sum h R f m (by omega), wOnK_succ hp, List.filter_append, List.map_append, List.map_append, List.sum_append]
    dsimp only
    rw [ep]
    congr 1
    by_cases c : inc h p = true
    · rw [if_pos c, List.filter_cons]
      by_cases c2 : oth h p ∈ R
      · rw [if_pos (by simpa using c2), if_pos ⟨c, c2⟩]
        show f m + 0 = f m
        omega
      · rw [if_neg (by simpa using c2), if_neg (fun z => c2 z.2)]; rfl
    · rw [if_neg c, if_neg (fun z => c z.1)]; rfl
/-- a house is read: what the sums get is what leaves V -/
theorem VV_rd (hW : Wv n ps) {u : Cu} {R : List Nat} {a h : Nat} (hh : h < n) (hR : h ∉ R) : VV n ps (R ++ [h]) u a = VV n ps R u a - u.h h a + ((trd ps h R).map fun t => u.t t a).sum := by
  have e1 := sumN_at (f := hV R u a) (g := hV (R ++ [h]) u a) hh (fun i _ ne => by
    unfold hV
    by_cases c : i ∈ R
    · rw [if_pos c, if_pos (List.mem_append_left _ c)]
    · rw [if_neg c, if_neg (fun z => (List.mem_append.mp z).elim c fun z => ne (List.mem_singleton.mp z))])
  have g1 : hV (R ++ [h]) u a h = 0 := if_pos (List.mem_append_right _ (List.mem_singleton.mpr rfl))
  have g2 : hV R u a h = u.h h a := if_neg hR
  have e2 : sumN ps.length (tV' ps R u a) = sumN ps.length (tV' ps (R ++ [h]) u a) + ((trd ps h R).map fun t => u.t t a).sum := by
    have z := trd_sum (ps := ps) h R (fun t => u.t t a) ps.length (Nat.le_refl _)
    unfold trd wOn
    rw [z, ← sumN_add]
    refine sumN_congr fun t ht => ?_
    obtain ⟨p, hp⟩ := ex_at ht
    have ep : ps.getD t (0, 0) = p := by rw [List.getD_eq_getElem?_getD, hp]; rfl
    obtain ⟨p1, p2, p3⟩ := hW.at_ hp
    unfold tV'
    rw [ep]
    have mA : ∀ x, x ∈ R ++ [h] ↔ x ∈ R ∨ x = h := fun x => by rw [List.mem_append, List.mem_singleton]
    have io : (inc h p = true ∧ oth h p ∈ R) ↔ (p.1 = h ∧ p.2 ∈ R) ∨ (p.2 = h ∧ p.1 ∈ R) := by
      unfold inc oth
      simp only [Bool.or_eq_true, decide_eq_true_eq]
      constructor
      · rintro ⟨e | e, m⟩
        · left; subst e; rw [show p.1 + p.2 - p.1 = p.2 by omega] at m; exact ⟨rfl, m⟩
        · right; subst e; rw [show p.1 + p.2 - p.2 = p.1 by omega] at m; exact ⟨rfl, m⟩
      · rintro (⟨e, m⟩ | ⟨e, m⟩)
        · exact ⟨.inl e.symm, by rw [← e, show p.1 + p.2 - p.1 = p.2 by omega]; exact m⟩
        · exact ⟨.inr e.symm, by rw [← e, show p.1 + p.2 - p.2 = p.1 by omega]; exact m⟩
    by_cases c1 : p.1 ∈ R <;> by_cases c2 : p.2 ∈ R
    · rw [if_pos ⟨c1, c2⟩, if_pos ⟨(mA _).mpr (.inl c1), (mA _).mpr (.inl c2)⟩, if_neg (fun z => by rcases io.mp z with ⟨e, _⟩ | ⟨e, _⟩ <;> (rw [← e] at hR; first | exact hR c1 | exact hR c2))]; rfl
    · rw [if_neg (fun z => c2 z.2)]
      by_cases c3 : p.2 = h
      · rw [if_pos ⟨(mA _).mpr (.inl c1), (mA _).mpr (.inr c3)⟩, if_pos (io.mpr (.inr ⟨c3, c1⟩))]; omega
      · rw [if_neg (fun z => ((mA _).mp z.2).elim c2 c3), if_neg (fun z => by rcases io.mp z with ⟨_, m⟩ | ⟨e, _⟩; exact c2 m; exact c3 e)]; omega
    · rw [if_neg (fun z => c1 z.1)]
      by_cases c3 : p.1 = h
      · rw [if_pos ⟨(mA _).mpr (.inr c3), (mA _).mpr (.inl c2)⟩, if_pos (io.mpr (.inl ⟨c3, c2⟩))]; omega
      · rw [if_neg (fun z => ((mA _).mp z.1).elim c1 c3), if_neg (fun z => by rcases io.mp z with ⟨e, _⟩ | ⟨_, m⟩; exact c3 e; exact c1 m)]; omega
    · rw [if_neg (fun z => c1 z.1), if_neg (fun z => by
        rcases (mA _).mp z.1 with z1 | z1
        · exact c1 z1
        · rcases (mA _).mp z.2 with z2 | z2
          · exact c2 z2
          · exact p3 (z1.trans z2.symm)), if_neg (fun z => by rcases io.mp z with ⟨_, m⟩ | ⟨_, m⟩; exact c2 m; exact c1 m)]; omega
  unfold VV
  omega
end
end K1
namespace K1
open PySem PySem.Spec PyProof.Rows L2
theorem unB_acts : ∀ (l : List Pc) (R : List Nat), (unB R l).length = actN l
  | [], _ => rfl
  | .rd h :: l, R => by
    show ([] ++ unB (R ++ rds [.rd h]) l).length = actN l
    rw [List.nil_append]; exact unB_acts l _
  | .st (.dd h d) :: l, R => by
    show ([decide (h ∉ R)] ++ unB (R ++ rds [.st (.dd h d)]) l).length = (actD (sts l)).length + 1
    rw [List.length_append, unB_acts l]
    show 1 + (actD (sts l)).length = _
    omega
  | .st (.mt t) :: l, R => by
    show ([] ++ unB (R ++ rds [.st (.mt t)]) l).length = actN l
    rw [List.nil_append]; exact unB_acts l _
theorem acts_left0 {ws : List Pc} {i h d : Nat} (e : ws[i]? = some (.st (.dd h d))) : (actD (sts (ws.take i))).length < actN ws := by
  have z := actN_take ws (i + 1)
  unfold actN at z
  rw [take_succ e, sts_app, actD_app, List.length_append] at z
  simp only [sts, actD, List.length_cons, List.length_nil] at z
  unfold actN; omega
section
variable {n d k : Nat} {ps : Prs} {ws : List Pc}
theorem VV_dd {l : List Stp} {u : Cu} (I : Cur n ps k l u) {h : Nat} {e : Int} (hh : h < n) (hk : u.ds.length < k) (R : List Nat) (a : Nat) : VV n ps R (u.doo h e) a = VV n ps R u a + if h ∉ R ∧ a = u.ds.length then 1 else 0 := by
  have H := fun i => doo_h (d := e) I.ok hh hk i a
  have e2 : sumN ps.length (tV' ps R (u.doo h e) a) = sumN ps.length (tV' ps R u a) := rfl
  have e1 := sumN_at (f := hV R u a) (g := hV R (u.doo h e) a) hh (fun i _ ne => by
    have e := H i
    rw [if_neg (fun z => ne z.1)] at e
    unfold hV
    rw [e])
  have g : hV R (u.doo h e) a h - hV R u a h = if h ∉ R ∧ a = u.ds.length then 1 else 0 := by
    unfold hV
    by_cases c : h ∈ R
    · rw [if_pos c, if_pos c, if_neg (fun z => z.1 c)]; rfl
    · rw [if_neg c, if_neg c, H h]
      by_cases c2 : a = u.ds.length
      · rw [if_pos ⟨rfl, c2⟩, if_pos ⟨c, c2⟩, (I.z h a (by omega)).1]; rfl
      · rw [if_neg (fun z => c2 z.2), if_neg (fun z => c2 z.2)]; omega
  unfold VV
  rw [e2, e1, g]; omega
/-- what a meeting takes from V -/
def crX (ps : Prs) (u : Cu) (R : List Nat) (t a : Nat) : Int := ((uEnds ps R (.st (.mt t))).map fun h => u.h h a - u.t t a).sum
theorem VV_mt (hW : Wv n ps) {u : Cu} (o : CuOk n ps.length k u) {t a : Nat} (ht : t < ps.length) (ha : a < k) (R : List Nat) : VV n ps R (u.met (ps.getD t (0, 0)) t) a = VV n ps R u a - crX ps u R t a := by
  obtain ⟨p, hp⟩ := ex_at ht
  have ep : ps.getD t (0, 0) = p := by rw [List.getD_eq_getElem?_getD, hp]; rfl
  obtain ⟨p1, p2, p3⟩ := hW.at_ hp
  have H := met_h o p1 p2 ht ha
  have T := met_t o p1 p2 ht ha
  have cr : crX ps u R t a = if p.1 ∈ R then (if p.2 ∈ R then 0 else u.h p.2 a - u.t t a) else (if p.2 ∈ R then u.h p.1 a - u.t t a else 0) := by
    unfold crX
    show ((if ([(ps.getD t (0, 0)).1, (ps.getD t (0, 0)).2].filter fun h => decide (h ∉ R)).length = 1 then [(ps.getD t (0, 0)).1, (ps.getD t (0, 0)).2].filter fun h => decide (h ∉ R) else []).map fun h => u.h h a - u.t t a).sum = _
    rw [ep]
    by_cases c1 : p.1 ∈ R <;> by_cases c2 : p.2 ∈ R
    · simp [c1, c2]
    · simp [c1, c2]
    · simp [c1, c2]
    · simp [c1, c2]
  rw [ep, cr]
  have e1 := sumN_at2 (f := hV R u a) (g := hV R (u.met p t) a) p1 p2 p3 (fun i _ n1 n2 => by
    have e := H i
    rw [if_neg (fun z => z.elim n1 n2)] at e
    unfold hV
    rw [e])
  have e2 := sumN_at (f := tV' ps R u a) (g := tV' ps R (u.met p t) a) ht (fun i _ ne => by
    have e := T i
    rw [if_neg ne] at e
    unfold tV'
    rw [e])
  have h1 : hV R (u.met p t) a p.1 = if p.1 ∈ R then 0 else u.h p.1 a + u.h p.2 a - u.t t a := by have e := H p.1; rw [if_pos (Or.inl rfl)] at e; unfold hV; rw [e]
  have h2 : hV R (u.met p t) a p.2 = if p.2 ∈ R then 0 else u.h p.1 a + u.h p.2 a - u.t t a := by have e := H p.2; rw [if_pos (Or.inr rfl)] at e; unfold hV; rw [e]
  have h3 : hV R u a p.1 = if p.1 ∈ R then 0 else u.h p.1 a := rfl
  have h4 : hV R u a p.2 = if p.2 ∈ R then 0 else u.h p.2 a := rfl
  have h5 : tV' ps R (u.met p t) a t = if p.1 ∈ R ∧ p.2 ∈ R then 0 else u.h p.1 a + u.h p.2 a - u.t t a := by have e := T t; rw [if_pos rfl] at e; unfold tV'; rw [e, ep]
  have h6 : tV' ps R u a t = if p.1 ∈ R ∧ p.2 ∈ R then 0 else u.t t a := by unfold tV'; rw [ep]
  unfold VV
  rw [e1, e2, h1, h2, h3, h4, h5, h6]
  by_cases c1 : p.1 ∈ R <;> by_cases c2 : p.2 ∈ R
  · rw [if_pos c1, if_pos c2, if_pos c1, if_pos c2, if_pos ⟨c1, c2⟩, if_pos ⟨c1, c2⟩, if_pos c1, if_pos c2]; omega
  · rw [if_pos c1, if_neg c2, if_pos c1, if_neg c2, if_neg (fun z => c2 z.2), if_neg (fun z => c2 z.2), if_pos c1, if_neg c2]; omega
  · rw [if_neg c1, if_pos c2, if_neg c1, if_pos c2, if_neg (fun z => c1 z.1), if_neg (fun z => c1 z.1), if_neg c1, if_pos c2]; omega
  · rw [if_neg c1, if_neg c2, if_neg c1, if_neg c2, if_neg (fun z => c1 z.1), if_neg (fun z => c1 z.1), if_neg c1, if_neg c2]; omega
/-- what the crossings' sums get -/
theorem cwS_at {u : Cu} (o : CuOk n ps.length k u) (hW : Wv n ps) {R : List Nat} {s : List Int} (hs : s.length = k) {t a : Nat} (ht : t < ps.length) (ha : a < k) : (cwS ps u R s (.st (.mt t))).getD a 0 = s.getD a 0 + crX ps u R t a := by
  unfold cwS crX
  have hl := uEnds_len ps R (.st (.mt t))
  have hm : ∀ h ∈ uEnds ps R (.st (.mt t)), h < n := fun h hh => (uEnds_lt (d := 1) hW (p := .st (.mt t)) ht hh).1
  match he : uEnds ps R (.st (.mt t)), hl with
  | [], _ => show s.getD a 0 = s.getD a 0 + 0; omega
  | [h], _ =>
    have hh := hm h (by rw [he]; exact List.mem_singleton.mpr rfl)
    have r1 := o.row hh
    have r2 := o.rowT ht
    show (madd (madd s (u.hs.getD h []) 1) (u.ts.getD t []) (-1)).getD a 0 = s.getD a 0 + (u.h h a - u.t t a + 0)
    rw [madd_at (madd_len hs r1) r2 ha, madd_at hs r1 ha]
    show s.getD a 0 + 1 * u.h h a + -1 * u.t t a = _
    omega
  | _ :: _ :: _, hl => simp only [List.length_cons] at hl; omega
theorem cwS_st {u : Cu} {R : List Nat} {s : List Int} {p : Pc} (h : ∀ t, p ≠ .st (.mt t)) : cwS ps u R s p = s := by
  cases p with
  | rd x => rfl
  | st y => cases y with
    | dd a b => rfl
    | mt t => exact absurd rfl (h t)
theorem crX_nn {l : List Stp} {u : Cu} (I : Cur n ps k l u) {R : List Nat} {t a : Nat} (ht : t < ps.length) : 0 ≤ crX ps u R t a := by
  obtain ⟨p, hp⟩ := ex_at ht
  have ep : ps.getD t (0, 0) = p := by rw [List.getD_eq_getElem?_getD, hp]; rfl
  have up := I.up t p a hp
  unfold crX
  have hl := uEnds_len ps R (.st (.mt t))
  match he : uEnds ps R (.st (.mt t)), hl with
  | [], _ => exact Int.le_refl _
  | [h], _ =>
    obtain ⟨t', e, _, hh⟩ := uEnds_mt (ps := ps) (R := R) (p := .st (.mt t)) (h := h) (by rw [he]; exact List.mem_singleton.mpr rfl)
    injection e with e; injection e with e
    subst e
    rw [ep] at hh
    show 0 ≤ u.h h a - u.t t a + 0
    rcases hh with rfl | rfl <;> omega
  | _ :: _ :: _, hl => simp only [List.length_cons] at hl; omega
theorem exact_at (hW : Wv n ps) (ok : ∀ p ∈ ws, okP n ps.length d p) (nd : (rds ws).Nodup) {a : Nat} (ha : a < actN ws) : ∀ i, i ≤ ws.length → (sw n ps (actN ws) ws i).getD a 0 + VV n ps (rds (ws.take i)) (cuK n ps (actN ws) ws i) a = (if (unB [] (ws.take i)).getD a false = true then 1 else 0) - (cw n ps (actN ws) ws i).getD a 0 ∧ 0 ≤ (cw n ps (actN ws) ws i).getD a 0
  | 0, _ => by
    have z0 : (List.replicate (actN ws) (0 : Int)).getD a 0 = 0 := by
      rw [List.getD_eq_getElem?_getD, List.getElem?_replicate]; split <;> rfl
    have v0 : VV n ps (rds (ws.take 0)) (cuK n ps (actN ws) ws 0) a = 0 := by
      show sumN n _ - sumN ps.length _ = 0
      rw [sumN_zero (fun i _ => by
        unfold hV
        split
        · rfl
        · exact cu0_h _ _ _ _ _), sumN_zero (fun i _ => by
        unfold tV'
        split
        · rfl
        · exact cu0_t _ _ _ _ _)]
      rfl
    rw [v0]
    show (List.replicate (actN ws) (0 : Int)).getD a 0 + 0 = (if ([] : List Bool).getD a false = true then 1 else 0) - (List.replicate (actN ws) (0 : Int)).getD a 0 ∧ 0 ≤ (List.replicate (actN ws) (0 : Int)).getD a 0
    rw [z0]
    exact ⟨rfl, Int.le_refl _⟩
  | i + 1, hi => by
    obtain ⟨p, hp⟩ := ex_at (show i < ws.length by omega)
    obtain ⟨ih, ih0⟩ := exact_at hW ok nd ha i (by omega)
    have I := cuK_cur hW ok i (Nat.le_refl (actN ws))
    have hok := ok p (List.mem_of_getElem? hp)
    have lsw := sw_len hW ok (Nat.le_refl (actN ws)) i (by omega)
    have lcw := cw_len hW ok (Nat.le_refl (actN ws)) i (by omega)
    have et := take_succ hp
    have eu : unB [] (ws.take (i + 1)) = unB [] (ws.take i) ++ unP (rds (ws.take i)) p := by rw [et, unB_snoc, List.nil_append]
    have ecu := cuK_succ (n := n) (ps := ps) (k := actN ws) hp
    rw [sw_succ hp, cw_succ hp, eu]
    cases p with
    | rd h =>
      have hh : h < n := hok
      have er : rds (ws.take (i + 1)) = rds (ws.take i) ++ [h] := by rw [et, rds_app]; rfl
      have nin : h ∉ rds (ws.take i) := fun z => by
        have e := congrArg rds (List.take_append_drop (i + 1) ws)
        rw [rds_app, er] at e
        rw [← e, List.append_assoc, List.nodup_append] at nd
        exact nd.2.2 h z h (List.mem_append_left _ (List.mem_singleton.mpr rfl)) rfl
      have lr := I.ok.row hh
      have fm := foldM_at I.ok ha (trd ps h (rds (ws.take i))) (madd (sw n ps (actN ws) ws i) ((cuK n ps (actN ws) ws i).hs.getD h []) 1) (fun t ht => trd_lt ht) (madd_len lsw lr)
      rw [madd_at lsw lr ha] at fm
      have v := VV_rd (a := a) hW (u := cuK n ps (actN ws) ws i) hh nin
      have fm : (swS ps (cuK n ps (actN ws) ws i) (rds (ws.take i)) (sw n ps (actN ws) ws i) (.rd h)).getD a 0 = (sw n ps (actN ws) ws i).getD a 0 + 1 * (cuK n ps (actN ws) ws i).h h a - ((trd ps h (rds (ws.take i))).map fun t => (cuK n ps (actN ws) ws i).t t a).sum := fm
      rw [er, show cuK n ps (actN ws) ws (i + 1) = cuK n ps (actN ws) ws i from ecu, v, fm, cwS_st (fun t z => by cases z), show unP (rds (ws.take i)) (Pc.rd h) = [] from rfl, List.append_nil]
      exact ⟨by omega, ih0⟩
    | st s =>
      have er : rds (ws.take (i + 1)) = rds (ws.take i) := by rw [et, rds_app]; exact List.append_nil _
      rw [er, show cuK n ps (actN ws) ws (i + 1) = (cuK n ps (actN ws) ws i).st ps s from ecu, show swS ps (cuK n ps (actN ws) ws i) (rds (ws.take i)) (sw n ps (actN ws) ws i) (.st s) = sw n ps (actN ws) ws i from rfl]
      cases s with
      | dd h e =>
        have hd : (cuK n ps (actN ws) ws i).ds.length = (unB [] (ws.take i)).length := by rw [I.ds, unB_acts]; rfl
        have hlt : (cuK n ps (actN ws) ws i).ds.length < actN ws := by rw [I.ds]; exact acts_left0 hp
        have v := VV_dd I (e := (e : Int)) (h := h) hok.1 hlt (rds (ws.take i)) a
        rw [cwS_st (fun t z => by cases z), show (cuK n ps (actN ws) ws i).st ps (.dd h e) = (cuK n ps (actN ws) ws i).doo h (e : Int) from rfl, v]
        refine ⟨?_, ih0⟩
        show _ = (if ((unB [] (ws.take i)) ++ [decide (h ∉ rds (ws.take i))]).getD a false = true then 1 else 0) - _
        rw [hd]
        by_cases c : a < (unB [] (ws.take i)).length
        · rw [if_neg (fun z => by have := z.2; omega), List.getD_eq_getElem?_getD (l := _ ++ _), List.getElem?_append_left c, ← List.getD_eq_getElem?_getD]; omega
        · have z0 : (unB [] (ws.take i)).getD a false = false := by rw [List.getD_eq_getElem?_getD, List.getElem?_eq_none (by omega)]; rfl
          rw [z0, if_neg (by decide)] at ih
          by_cases c2 : a = (unB [] (ws.take i)).length
          · rw [List.getD_eq_getElem?_getD (l := _ ++ _), List.getElem?_append_right (by omega), show a - (unB [] (ws.take i)).length = 0 by omega]
            show _ = (if decide (h ∉ rds (ws.take i)) = true then (1 : Int) else 0) - _
            by_cases c3 : h ∈ rds (ws.take i)
            · rw [if_neg (fun z => z.1 c3), if_neg (by simpa using c3)]; omega
            · rw [if_pos ⟨c3, c2⟩, if_pos (by simpa using c3)]; omega
          · rw [if_neg (fun z => c2 z.2), List.getD_eq_getElem?_getD (l := _ ++ _), List.getElem?_eq_none (by rw [List.length_append]; simp only [List.length_cons, List.length_nil]; omega)]
            show _ = (if false = true then (1 : Int) else 0) - _
            rw [if_neg (by decide)]; omega
      | mt t =>
        have ht : t < ps.length := hok
        have v := VV_mt hW I.ok ht ha (rds (ws.take i))
        have cv := cwS_at I.ok hW (R := rds (ws.take i)) lcw ht ha
        have nn := crX_nn I (R := rds (ws.take i)) (a := a) ht
        rw [show (cuK n ps (actN ws) ws i).st ps (.mt t) = (cuK n ps (actN ws) ws i).met (ps.getD t (0, 0)) t from rfl, v, cv, show unP (rds (ws.take i)) (Pc.st (Stp.mt t)) = [] from rfl, List.append_nil]
        exact ⟨by omega, by omega⟩
end
end K1
namespace K1
open PySem PySem.Spec PyProof.Rows L2
section
variable {n d : Nat} {ps : Prs} {ws : List Pc}
theorem VV_end (hW : Wv n ps) {R : List Nat} (u : Cu) (a : Nat) (h : ∀ x, x < n → x ∈ R) : VV n ps R u a = 0 := by
  unfold VV
  rw [sumN_zero (f := hV R u a) (fun i hi => if_pos (h i hi)), sumN_zero (f := tV' ps R u a) (fun t ht => by
    obtain ⟨p, hp⟩ := ex_at ht
    have ep : ps.getD t (0, 0) = p := by rw [List.getD_eq_getElem?_getD, hp]; rfl
    obtain ⟨p1, p2, _⟩ := hW.at_ hp
    unfold tV'
    rw [ep]
    exact if_pos ⟨h _ p1, h _ p2⟩)]
  rfl
theorem mem_unA {a : Nat} : a ∈ unA ws ↔ (unB [] ws).getD a false = true := by
  unfold unA
  rw [List.mem_filter, List.mem_range]
  constructor
  · exact fun h => h.2
  · intro h
    refine ⟨?_, h⟩
    by_cases c : a < (unB [] ws).length
    · exact c
    · rw [List.getD_eq_getElem?_getD, List.getElem?_eq_none (by omega)] at h; cases h
/-- each sum is 1 or 0, less what the crossings took -/
theorem exact_all (hW : Wv n ps) (ok : ∀ p ∈ ws, okP n ps.length d p) (nd : (rds ws).Nodup) (all : ∀ x, x < n → x ∈ rds ws) {a : Nat} (ha : a < actN ws) : (swR n ps ws).getD a 0 = (if a ∈ unA ws then 1 else 0) - (cwR n ps ws).getD a 0 ∧ 0 ≤ (cwR n ps ws).getD a 0 := by
  obtain ⟨h1, h2⟩ := exact_at hW ok nd ha ws.length (Nat.le_refl _)
  rw [List.take_length, VV_end hW _ _ all] at h1
  refine ⟨?_, h2⟩
  unfold swR cwR
  by_cases c : (unB [] ws).getD a false = true
  · rw [if_pos c] at h1
    rw [if_pos (mem_unA.mpr c)]; omega
  · rw [if_neg c] at h1
    rw [if_neg (fun z => c (mem_unA.mp z))]; omega
theorem cw_mono (hW : Wv n ps) (ok : ∀ p ∈ ws, okP n ps.length d p) {a : Nat} (ha : a < actN ws) {i : Nat} : ∀ j, i ≤ j → j ≤ ws.length → (cw n ps (actN ws) ws i).getD a 0 ≤ (cw n ps (actN ws) ws j).getD a 0
  | 0, h, _ => by
    obtain rfl : i = 0 := by omega
    exact Int.le_refl _
  | j + 1, h, hj => by
    by_cases e : i = j + 1
    · rw [e]; exact Int.le_refl _
    · obtain ⟨p, hp⟩ := ex_at (show j < ws.length by omega)
      have ih := cw_mono hW ok ha (i := i) j (by omega) (by omega)
      have I := cuK_cur hW ok j (Nat.le_refl (actN ws))
      have hok := ok p (List.mem_of_getElem? hp)
      have lcw := cw_len hW ok (Nat.le_refl (actN ws)) j (by omega)
      rw [cw_succ hp]
      cases p with
      | rd h => rw [cwS_st (fun t z => by cases z)]; exact ih
      | st s =>
        cases s with
        | dd h e => rw [cwS_st (fun t z => by cases z)]; exact ih
        | mt t =>
          have ht : t < ps.length := hok
          have nn := crX_nn I (R := rds (ws.take j)) (a := a) ht
          rw [cwS_at I.ok hW lcw ht ha]; omega
/-- one act more ahead of a crossing, at its unread house, counts 0 times or less -/
theorem one_more (hW : Wv n ps) (ok : ∀ p ∈ ws, okP n ps.length d p) (nd : (rds ws).Nodup) (all : ∀ x, x < n → x ∈ rds ws) {j t h e : Nat} (hj : ws[j]? = some (.st (.mt t))) (hu : uEnds ps (rds (ws.take j)) (.st (.mt t)) = [h]) (he : e < d) (hh : h < n) :
    (∀ p ∈ ws.take j ++ .st (.dd h e) :: ws.drop j, okP n ps.length d p) ∧ (rds (ws.take j ++ .st (.dd h e) :: ws.drop j)).Nodup ∧ actN (ws.take j) < actN (ws.take j ++ .st (.dd h e) :: ws.drop j) ∧ (swR n ps (ws.take j ++ .st (.dd h e) :: ws.drop j)).getD (actN (ws.take j)) 0 ≤ 0 := by
  have jl := lt_at hj
  have er : rds (ws.take j ++ .st (.dd h e) :: ws.drop j) = rds ws := by
    rw [rds_app]
    show rds (ws.take j) ++ rds (ws.drop j) = rds ws
    rw [← rds_app, List.take_append_drop]
  have ok' : ∀ p ∈ ws.take j ++ .st (.dd h e) :: ws.drop j, okP n ps.length d p := fun p hp => by
    rcases List.mem_append.mp hp with z | z
    · exact ok p (List.mem_of_mem_take z)
    · rcases List.mem_cons.mp z with rfl | z
      · exact ⟨hh, he⟩
      · exact ok p (List.mem_of_mem_drop z)
  have hl : (ws.take j).length = j := by rw [List.length_take]; omega
  have hal : actN (ws.take j) < actN (ws.take j ++ .st (.dd h e) :: ws.drop j) := by
    unfold actN
    rw [sts_app, actD_app, List.length_append]
    show _ < _ + ((e : Int) :: actD (sts (ws.drop j))).length
    rw [List.length_cons]; omega
  refine ⟨ok', by rw [er]; exact nd, hal, ?_⟩
  have nd' : (rds (ws.take j ++ .st (.dd h e) :: ws.drop j)).Nodup := by rw [er]; exact nd
  have all' : ∀ x, x < n → x ∈ rds (ws.take j ++ .st (.dd h e) :: ws.drop j) := fun x hx => by rw [er]; exact all x hx
  have t0 : (ws.take j ++ .st (.dd h e) :: ws.drop j).take j = ws.take j := by rw [List.take_append_of_le_length (by omega), List.take_of_length_le (by omega)]
  have g0 : (ws.take j ++ .st (.dd h e) :: ws.drop j)[j]? = some (.st (.dd h e)) := by
    rw [List.getElem?_append_right (by omega), hl, Nat.sub_self]; rfl
  have g1 : (ws.take j ++ .st (.dd h e) :: ws.drop j)[j + 1]? = some (.st (.mt t)) := by
    rw [List.getElem?_append_right (by omega), hl, show j + 1 - j = 0 + 1 by omega, List.getElem?_cons_succ, List.getElem?_drop]; exact hj
  have ln : (ws.take j ++ .st (.dd h e) :: ws.drop j).length = ws.length + 1 := by rw [List.length_append, List.length_cons, List.length_drop, hl]; omega
  generalize ws.take j ++ .st (.dd h e) :: ws.drop j = xs at er ok' hal nd' all' t0 g0 g1 ln ⊢
  have I := cuK_cur hW ok' j (Nat.le_refl (actN xs))
  have ds0 : (cuK n ps (actN xs) xs j).ds.length = actN (ws.take j) := by rw [I.ds, t0]; rfl
  have t1 : rds (xs.take (j + 1)) = rds (ws.take j) := by rw [take_succ g0, rds_app, t0]; exact List.append_nil _
  have u1 : cuK n ps (actN xs) xs (j + 1) = (cuK n ps (actN xs) xs j).doo h (e : Int) := cuK_succ g0
  have I1 := cuK_cur hW ok' (j + 1) (Nat.le_refl (actN xs))
  have ht : t < ps.length := ok _ (List.mem_of_getElem? hj)
  have l1 := cw_len hW ok' (Nat.le_refl (actN xs)) (j + 1) (by omega)
  have c2 : (cw n ps (actN xs) xs (j + 1 + 1)).getD (actN (ws.take j)) 0 = (cw n ps (actN xs) xs (j + 1)).getD (actN (ws.take j)) 0 + crX ps (cuK n ps (actN xs) xs (j + 1)) (rds (xs.take (j + 1))) t (actN (ws.take j)) := by
    rw [cw_succ g1, cwS_at I1.ok hW l1 ht hal]
  have cr : crX ps (cuK n ps (actN xs) xs (j + 1)) (rds (xs.take (j + 1))) t (actN (ws.take j)) = 1 := by
    unfold crX
    rw [t1, hu]
    show (cuK n ps (actN xs) xs (j + 1)).h h (actN (ws.take j)) - (cuK n ps (actN xs) xs (j + 1)).t t (actN (ws.take j)) + 0 = 1
    rw [u1, doo_h I.ok hh (by rw [ds0]; exact hal), if_pos ⟨rfl, ds0.symm⟩]
    show 1 - (cuK n ps (actN xs) xs j).t t (actN (ws.take j)) + 0 = 1
    rw [(I.z t _ (by rw [ds0]; exact Nat.le_refl _)).2]; rfl
  have c1 := (exact_at hW ok' nd' hal (j + 1) (by omega)).2
  have mo := cw_mono hW ok' hal (i := j + 1 + 1) xs.length (by omega) (Nat.le_refl _)
  have ex := (exact_all hW ok' nd' all' hal).1
  have cR : (cwR n ps xs).getD (actN (ws.take j)) 0 = (cw n ps (actN xs) xs xs.length).getD (actN (ws.take j)) 0 := rfl
  rw [ex]
  split <;> omega
end
end K1
namespace K1
open PySem PySem.Spec PyProof.Rows L2
/-! ### what the law's tally holds -/
structure Ty (H0 H : Hp) (hl al ol rl tt cc ul : Addr) (hs as : List Addr) (u : Cu) (R ov ub : List Nat) (s c : List Int) : Prop where
  cl : Cl H0 H hl al hs as u
  o : H ol = some (.lst (vn ov))
  o0 : H0 ol = none
  no1 : ol ≠ hl
  no2 : ol ≠ al
  no3 : ol ∉ hs
  no4 : ol ∉ as
  r : H rl = some (.lst (vn R))
  t : H tt = some (.lst (vrow s))
  x : H cc = some (.lst (vrow c))
  q : H ul = some (.lst (vn ub))
  nr : rl ≠ hl ∧ rl ≠ al ∧ rl ≠ ol
  nt : tt ≠ hl ∧ tt ≠ al ∧ tt ≠ ol
  nx : cc ≠ hl ∧ cc ≠ al ∧ cc ≠ ol
  nq : ul ≠ hl ∧ ul ≠ al ∧ ul ≠ ol
section
variable {H0 H H2 : Hp} {hl al ol rl tt cc ul : Addr} {hs as : List Addr} {u : Cu} {R ov ub : List Nat} {s c : List Int}
theorem Ty.same (T : Ty H0 H hl al ol rl tt cc ul hs as u R ov ub s c) (z : Same H H2) : Ty H0 H2 hl al ol rl tt cc ul hs as u R ov ub s c :=
  ⟨T.cl.same z, z _ _ T.o, T.o0, T.no1, T.no2, T.no3, T.no4, z _ _ T.r, z _ _ T.t, z _ _ T.x, z _ _ T.q, T.nr, T.nt, T.nx, T.nq⟩
/-- a new thing is none of these -/
theorem Ty.ne (T : Ty H0 H hl al ol rl tt cc ul hs as u R ov ub s c) {p : Addr} (h : H p = none) : p ≠ hl ∧ p ≠ al ∧ p ≠ ol :=
  ⟨(fun z => by rw [z, T.cl.h.1] at h; cases h), (fun z => by rw [z, T.cl.a.1] at h; cases h), (fun z => by rw [z, T.o] at h; cases h)⟩
theorem Ty.putR (T : Ty H0 H hl al ol rl tt cc ul hs as u R ov ub s c) {p : Addr} {R' : List Nat} (n : p ≠ hl ∧ p ≠ al ∧ p ≠ ol) (h : H p = some (.lst (vn R'))) : Ty H0 H hl al ol p tt cc ul hs as u R' ov ub s c :=
  ⟨T.cl, T.o, T.o0, T.no1, T.no2, T.no3, T.no4, h, T.t, T.x, T.q, n, T.nt, T.nx, T.nq⟩
theorem Ty.putT (T : Ty H0 H hl al ol rl tt cc ul hs as u R ov ub s c) {p : Addr} {s' : List Int} (n : p ≠ hl ∧ p ≠ al ∧ p ≠ ol) (h : H p = some (.lst (vrow s'))) : Ty H0 H hl al ol rl p cc ul hs as u R ov ub s' c :=
  ⟨T.cl, T.o, T.o0, T.no1, T.no2, T.no3, T.no4, T.r, h, T.x, T.q, T.nr, n, T.nx, T.nq⟩
theorem Ty.putX (T : Ty H0 H hl al ol rl tt cc ul hs as u R ov ub s c) {p : Addr} {c' : List Int} (n : p ≠ hl ∧ p ≠ al ∧ p ≠ ol) (h : H p = some (.lst (vrow c'))) : Ty H0 H hl al ol rl tt p ul hs as u R ov ub s c' :=
  ⟨T.cl, T.o, T.o0, T.no1, T.no2, T.no3, T.no4, T.r, T.t, h, T.q, T.nr, T.nt, n, T.nq⟩
theorem Ty.putQ (T : Ty H0 H hl al ol rl tt cc ul hs as u R ov ub s c) {p : Addr} {ub' : List Nat} (n : p ≠ hl ∧ p ≠ al ∧ p ≠ ol) (h : H p = some (.lst (vn ub'))) : Ty H0 H hl al ol rl tt cc p hs as u R ov ub' s c :=
  ⟨T.cl, T.o, T.o0, T.no1, T.no2, T.no3, T.no4, T.r, T.t, T.x, h, T.nr, T.nt, T.nx, n⟩
theorem Ty.cu {u' : Cu} (T : Ty H0 H hl al ol rl tt cc ul hs as u R ov ub s c) (h1 : u.hs = u'.hs) (h2 : u.ts = u'.ts) : Ty H0 H hl al ol rl tt cc ul hs as u' R ov ub s c :=
  ⟨⟨T.cl.s, h1 ▸ T.cl.h, h2 ▸ T.cl.a, T.cl.h0, T.cl.a0, T.cl.ne, T.cl.nh, T.cl.na, T.cl.f⟩, T.o, T.o0, T.no1, T.no2, T.no3, T.no4, T.r, T.t, T.x, T.q, T.nr, T.nt, T.nx, T.nq⟩
/-- a row of houses is put -/
theorem Ty.setH (T : Ty H0 H hl al ol rl tt cc ul hs as u R ov ub s c) {x : Addr} {h : Nat} {r : List Int} (hx : H x = some (.lst (vrow r))) (n : x ≠ hl ∧ x ≠ al ∧ x ≠ ol) (n0 : H0 x = none) : Ty H0 (upd H hl (.lst ((hs.map V.ref).set h (.ref x)))) hl al ol rl tt cc ul (hs.set h x) as ⟨u.hs.set h r, u.ts, u.ds⟩ R ov ub s c := by
  have k : ∀ c o, H c = some o → c ≠ hl → (upd H hl (.lst ((hs.map V.ref).set h (.ref x)))) c = some o := fun c o e n => by rw [upd_ne n]; exact e
  exact ⟨T.cl.setH hx n.1 n.2.1 n0, k _ _ T.o T.no1, T.o0, T.no1, T.no2, fun z => (mem_set z).elim T.no3 (fun e => n.2.2 e.symm), T.no4, k _ _ T.r T.nr.1, k _ _ T.t T.nt.1, k _ _ T.x T.nx.1, k _ _ T.q T.nq.1, T.nr, T.nt, T.nx, T.nq⟩
theorem Ty.setA (T : Ty H0 H hl al ol rl tt cc ul hs as u R ov ub s c) {x : Addr} {h : Nat} {r : List Int} (hx : H x = some (.lst (vrow r))) (n : x ≠ hl ∧ x ≠ al ∧ x ≠ ol) : Ty H0 (upd H al (.lst ((as.map V.ref).set h (.ref x)))) hl al ol rl tt cc ul hs (as.set h x) ⟨u.hs, u.ts.set h r, u.ds⟩ R ov ub s c := by
  have k : ∀ c o, H c = some o → c ≠ al → (upd H al (.lst ((as.map V.ref).set h (.ref x)))) c = some o := fun c o e n => by rw [upd_ne n]; exact e
  exact ⟨T.cl.setA hx n.1 n.2.1, k _ _ T.o T.no2, T.o0, T.no1, T.no2, T.no3, fun z => (mem_set z).elim T.no4 (fun e => n.2.2 e.symm), k _ _ T.r T.nr.2.1, k _ _ T.t T.nt.2.1, k _ _ T.x T.nx.2.1, k _ _ T.q T.nq.2.1, T.nr, T.nt, T.nx, T.nq⟩
/-- a crossing is set down -/
theorem Ty.app (T : Ty H0 H hl al ol rl tt cc ul hs as u R ov ub s c) {i : Nat} : Ty H0 (upd H ol (.lst (vn ov ++ [.int (i : Int)]))) hl al ol rl tt cc ul hs as u R (ov ++ [i]) ub s c := by
  have k : ∀ c o, H c = some o → c ≠ ol → (upd H ol (.lst (vn ov ++ [.int (i : Int)]))) c = some o := fun c o e n => by rw [upd_ne n]; exact e
  exact ⟨⟨fun c o e => k c o (T.cl.s _ _ e) (ne_of_none e T.o0), T.cl.h.keep T.no1 T.no3, T.cl.a.keep T.no2 T.no4, T.cl.h0, T.cl.a0, T.cl.ne, T.cl.nh, T.cl.na, T.cl.f⟩, by rw [upd_same, vn, vn, List.map_append]; rfl, T.o0, T.no1, T.no2, T.no3, T.no4, k _ _ T.r T.nr.2.2, k _ _ T.t T.nt.2.2, k _ _ T.x T.nx.2.2, k _ _ T.q T.nq.2.2, T.nr, T.nt, T.nx, T.nq⟩
end
/-- crossings and unread acts of a walk's first paces -/
def crK (ts : Prs) (ws : List Pc) (i : Nat) : List Nat := (List.range i).filter fun j => !(uEnds ts (rds (ws.take j)) (ws.getD j (.rd 0))).isEmpty
def unK (ws : List Pc) (i : Nat) : List Nat := (List.range (unB [] (ws.take i)).length).filter fun j => (unB [] (ws.take i)).getD j false
theorem crK_succ {ts : Prs} {ws : List Pc} {i : Nat} {p : Pc} (h : ws[i]? = some p) : crK ts ws (i + 1) = crK ts ws i ++ if (uEnds ts (rds (ws.take i)) p).isEmpty = true then [] else [i] := by
  unfold crK
  rw [List.range_succ, List.filter_append, List.filter_cons, getP h]
  congr 1
  cases (uEnds ts (rds (ws.take i)) p).isEmpty <;> rfl
theorem unK_of (l : List Bool) (b : Bool) : ((List.range (l ++ [b]).length).filter fun j => (l ++ [b]).getD j false) = ((List.range l.length).filter fun j => l.getD j false) ++ if b = true then [l.length] else [] := by
  rw [List.length_append, show l.length + [b].length = l.length + 1 from rfl, List.range_succ, List.filter_append]
  congr 1
  · refine List.filter_congr fun j hj => ?_
    have := List.mem_range.mp hj
    rw [List.getD_eq_getElem?_getD, List.getElem?_append_left this, ← List.getD_eq_getElem?_getD]
  · rw [List.filter_cons, List.getD_eq_getElem?_getD, List.getElem?_append_right (Nat.le_refl _), Nat.sub_self]
    cases b <;> rfl
theorem unK_dd {ws : List Pc} {i h d : Nat} (e : ws[i]? = some (.st (.dd h d))) : unK ws (i + 1) = unK ws i ++ if h ∈ rds (ws.take i) then [] else [actN (ws.take i)] := by
  have z : unB [] (ws.take (i + 1)) = unB [] (ws.take i) ++ [decide (h ∉ rds (ws.take i))] := by
    rw [take_succ e, unB_snoc, List.nil_append]; rfl
  unfold unK
  rw [z, unK_of, unB_acts]
  congr 1
  by_cases c : h ∈ rds (ws.take i)
  · rw [if_neg (by simpa using c), if_pos c]
  · rw [if_pos (by simpa using c), if_neg c]
theorem unK_rd {ws : List Pc} {i : Nat} {p : Pc} (e : ws[i]? = some p) (h : unP (rds (ws.take i)) p = []) : unK ws (i + 1) = unK ws i := by
  have z : unB [] (ws.take (i + 1)) = unB [] (ws.take i) := by
    rw [take_succ e, unB_snoc, List.nil_append, h, List.append_nil]
  unfold unK
  rw [z]
theorem unK_all (ws : List Pc) : unK ws ws.length = unA ws := by unfold unK unA; rw [List.take_length]
theorem crK_all (ts : Prs) (ws : List Pc) : crK ts ws ws.length = crs ts ws := rfl
/-- what the law asks of a tie where a house is read -/
theorem trd_fold {n : Nat} {ps : Prs} (hW : Wv n ps) {h : Nat} {R : List Nat} (hR : h ∉ R) (f : List Int → Nat → List Int) (s0 : List Int) : ∀ m, m ≤ ps.length → ((((wOnK ps h m).filter fun q => decide (q.2 ∈ R)).map (·.1)).foldl f s0) = (List.range m).foldl (fun s t => if inc h (ps.getD t (0, 0)) = true ∧ (ps.getD t (0, 0)).1 ∈ R ++ [h] ∧ (ps.getD t (0, 0)).2 ∈ R ++ [h] then f s t else s) s0
  | 0, _ => rfl
  | m + 1, hm => by
    obtain ⟨p, hp⟩ := ex_at (show m < ps.length by omega)
    have ep : ps.getD m (0, 0) = p := by rw [List.getD_eq_getElem?_getD, hp]; rfl
    obtain ⟨p1, p2, p3⟩ := hW.at_ hp
    rw [wOnK_succ hp, List.filter_append, List.map_append, List.foldl_append, trd_fold hW hR f s0 m (by omega), List.range_succ, List.foldl_append]
    generalize (List.range m).foldl _ s0 = s1
    show _ = (if inc h (ps.getD m (0, 0)) = true ∧ (ps.getD m (0, 0)).1 ∈ R ++ [h] ∧ (ps.getD m (0, 0)).2 ∈ R ++ [h] then f s1 m else s1)
    rw [ep]
    by_cases c : inc h p = true
    · rw [if_pos c, List.filter_cons]
      have io : oth h p ∈ R ↔ p.1 ∈ R ++ [h] ∧ p.2 ∈ R ++ [h] := by
        have c' := c
        unfold inc at c'
        simp only [Bool.or_eq_true, decide_eq_true_eq] at c'
        unfold oth
        rw [List.mem_append, List.mem_append, List.mem_singleton, List.mem_singleton]
        rcases c' with e | e
        · rw [e, show p.1 + p.2 - p.1 = p.2 by omega]
          exact ⟨fun z => ⟨.inr rfl, .inl z⟩, fun z => z.2.elim id fun y => absurd y.symm p3⟩
        · rw [e, show p.1 + p.2 - p.2 = p.1 by omega]
          exact ⟨fun z => ⟨.inl z, .inr rfl⟩, fun z => z.1.elim id fun y => absurd y p3⟩
      by_cases c2 : oth h p ∈ R
      · rw [if_pos (by simpa using c2), if_pos ⟨c, io.mp c2⟩]; rfl
      · rw [if_neg (by simpa using c2), if_neg (fun z => c2 (io.mpr z.2))]; rfl
    · rw [if_neg c, if_neg (fun z => c z.1)]; rfl
end K1
namespace K1
open PySem PySem.Spec PyProof.Rows L2
/-! ### the law's own tally -/
def spTally : Sp := fun vs H Q _ => ∃ (tl wl : Addr) (n d : Nat) (ts : Prs) (tas was : List Addr) (ws : List Pc), vs = [.int (n : Int), .ref tl, .ref wl] ∧ H tl = some (.lst (tas.map V.ref)) ∧ PrsA H tas ts ∧ Wv n ts ∧ H wl = some (.lst (was.map V.ref)) ∧ PcsA H was ws ∧ (∀ p ∈ ws, okP n ts.length d p) ∧ (rds ws).Nodup ∧ ws.length ≤ 400 ∧
  ∀ r a1 a2 a3 a4 a5 H', Same H H' → H r = none → H' r = some (.lst [.ref a1, .ref a2, .ref a3, .ref a4, .ref a5]) → H' a1 = some (.lst (vrow (swR n ts ws))) → H' a2 = some (.lst (vrow (cwR n ts ws))) → H' a3 = some (.lst (vn (unA ws))) → H' a4 = some (.lst (vn (crs ts ws))) → H' a5 = some (.lst (vrow (actD (sts ws)))) → Q (.ref r) H'
section
variable {P : Program} {w : World} {K : PySem.W.Frag} {mg : Str → Option Value} {base : Heap}
abbrev nTy : List Str := ["_law_houses", "_law_ties", "_law_walk_here", "_law_pace", "_law_acts", "_law_tie", "_law_rows", "_law_books", "_law_read", "_law_total", "_law_crossed", "_law_unread", "_law_over", "_law_act", "_law_at", "_law_row", "_law_pair", "_law_here", "_law_there", "_law_more", "_law_house", "_law_one", "_law_other", "_law_last"]
theorem scTy : FnScope nTy ["_law_houses", "_law_ties", "_law_walk_here"] (defScope sLTally) := ⟨rfl, rfl, rfl, by decide +kernel, rfl, by decide +kernel, by decide +kernel⟩
theorem ok_tally {f : Addr} {fd : FuncData} (D : Df K mg "_law_tally" sLTally ["_law_houses", "_law_ties", "_law_walk_here"] f fd) (B : Bt mg) : FnOk P w K mg base CX0 1 f fd ["_law_houses", "_law_ties", "_law_walk_here"] spTally := by
  refine D.F.ok scTy (fun vs H Q E h => ?_) (fun cdv A outer s H vs Q E hr h => ?_)
  · obtain ⟨tl, wl, n, d, ts, tas, was, ws, rfl, _⟩ := h
    rfl
  · obtain ⟨tl, wl, n, d, ts, tas, was, ws, rfl, htl, hta, hW, hwl, hwa, hok, hnd, hl4, q⟩ := h
    have hu := hr.units
    refine ⟨_, (pss_cons (ps_set (i := 4) scTy.nd rfl (.inr rfl) (pe_lc (own := [("_law_pace", 3)]) (g := gName 3) rfl scTy.nd (pi_list (pv 2)) (blkOk_by (N := nTy) (sc := defScope sLTally) (by decide +kernel)) (fun _ _ _ _ _ => (pg_name (i := 3) scTy.nd rfl (Or.inl rfl))) (fun _ _ _ _ _ => pts_one (pt_cmpR op_eq (pe_ix (ixTK (K := K) rfl) (pv 3) pe_int (fun _ _ => rfl)) pe_str (nomark _))) (fun _ _ _ _ _ => (pe_ix (ixTK (K := K) rfl) (pv 3) pe_int (fun _ _ => rfl)))))
    (pss_cons (ps_par3 (i := 6) (j := 7) (l := 8) rfl scTy.nd rfl rfl rfl (by decide) (by decide) (by decide) rfl rfl rfl (pa_cons (pe_lc (own := [("_law_house", 20)]) (g := gName 20) (tt := tYes) rfl scTy.nd (pi_range1 (by rfl) B.range (pa_cons (pv 0) pa_nil)) (blkOk_by (N := nTy) (sc := defScope sLTally) (by decide +kernel)) (fun _ _ _ _ _ => (pg_name (i := 20) scTy.nd rfl (Or.inl rfl))) (fun _ _ _ _ _ => pts_nil) (fun _ _ _ _ _ => (pe_op op_rep (pe_lst (pa_cons pe_int pa_nil)) (pe_callB (clen (K := K) rfl) (by rfl) B.len PySem.boot_len (pa_cons (pv 4) pa_nil))))) (pa_cons (pe_lc (own := [("_law_tie", 5)]) (g := gName 5) (tt := tYes) rfl scTy.nd (pi_list (pv 1)) (blkOk_by (N := nTy) (sc := defScope sLTally) (by decide +kernel)) (fun _ _ _ _ _ => (pg_name (i := 5) scTy.nd rfl (Or.inl rfl))) (fun _ _ _ _ _ => pts_nil) (fun _ _ _ _ _ => (pe_op op_rep (pe_lst (pa_cons pe_int pa_nil)) (pe_callB (clen (K := K) rfl) (by rfl) B.len PySem.boot_len (pa_cons (pv 4) pa_nil))))) (pa_cons (pe_lst pa_nil) pa_nil))) rfl)
    (pss_cons (ps_asg (pe_tup (pa_cons (pe_op op_rep (pe_lst (pa_cons pe_int pa_nil)) (pe_callB call_len_seq (by rfl) B.len PySem.boot_len (pa_cons (pv 4) pa_nil))) (pa_cons (pe_op op_rep (pe_lst (pa_cons pe_int pa_nil)) (pe_callB call_len_seq (by rfl) B.len PySem.boot_len (pa_cons (pv 4) pa_nil))) (pa_cons (pe_lst pa_nil) (pa_cons (pe_lst pa_nil) (pa_cons pe_int pa_nil)))))) (pg_tup rfl (pgs_cons (pg_name (i := 9) scTy.nd rfl (.inl rfl)) (pgs_cons (pg_name (i := 10) scTy.nd rfl (.inl rfl)) (pgs_cons (pg_name (i := 11) scTy.nd rfl (.inl rfl)) (pgs_cons (pg_name (i := 12) scTy.nd rfl (.inl rfl)) (pgs_cons (pg_name (i := 13) scTy.nd rfl (.inl rfl)) pgs_nil)))))))
    (pss_cons (ps_for PassesOwn.never rfl (pi_enumA (by rfl) B.enumerate (pa_cons (pv 2) pa_nil)) (pg_tup rfl (pgs_cons (pg_name (i := 14) scTy.nd rfl (.inl rfl)) (pgs_cons (pg_name (i := 3) scTy.nd rfl (.inl rfl)) pgs_nil)))
      (pss_one (ps_if (pt_cmpR op_eq (pe_ix ix_tup (pv 3) pe_int (fun _ _ => rfl)) pe_str (nomark _))
        (pss_cons (ps_set (i := 15) scTy.nd rfl (.inl rfl) (pe_ix ix_list (pv 6) (pe_ix ix_tup (pv 3) pe_int (fun _ _ => rfl)) (fun _ _ => rfl)))
        (pss_cons (ps_asg (pe_op op_cat (pe_op op_cat (pe_slice sl_list (pv 15) po_none (po_some (pv 13))) (pe_lst (pa_cons (pe_op op_add (pe_ix ix_list (pv 15) (pv 13) (fun _ _ => rfl)) pe_int) pa_nil))) (pe_slice sl_list (pv 15) (po_some (pe_op op_add (pv 13) pe_int)) po_none)) (pg_sub (pv 6) (pe_ix ix_tup (pv 3) pe_int (fun _ _ => rfl)) set_list))
        (pss_cons (ps_set (i := 11) scTy.nd rfl (.inl rfl) (pe_ifExp (pt_cmpR (opNotInK (K := K) rfl) (pe_ix ix_tup (pv 3) pe_int (fun _ _ => rfl)) (pv 8) rfl) (pe_op op_cat (pv 11) (pe_lst (pa_cons (pv 13) pa_nil))) (pv 11)))
        (pss_one (ps_aug (i := 13) scTy.nd rfl (.inl rfl) pe_int ip_add)))))
        (pss_one (ps_if (pt_cmpR op_eq (pe_ix ix_tup (pv 3) pe_int (fun _ _ => rfl)) pe_str (nomark _))
          (pss_cons (ps_set (i := 8) scTy.nd rfl (.inl rfl) (pe_op op_cat (pv 8) (pe_lst (pa_cons (pe_ix ix_tup (pv 3) pe_int (fun _ _ => rfl)) pa_nil))))
          (pss_cons (ps_setLc (i := 9) (own := [("_law_one", 21), ("_law_other", 22)]) (g := gTup K 2 (gCons (gName 21) (gCons (gName 22) gNil))) (tt := tYes) rfl scTy.nd rfl rfl (sw_true rfl rfl rfl (by decide +kernel)) (ZM.pi_zipM (by rfl) B.zip (pa_cons (pv 9) (pa_cons (pe_ix ix_list (pv 6) (pe_ix ix_tup (pv 3) pe_int (fun _ _ => rfl)) (fun _ _ => rfl)) pa_nil))) (blkOk_by (N := nTy) (sc := defScope sLTally) (by decide +kernel)) (fun _ _ _ _ _ => (pg_tup rfl (pgs_cons (pg_name (i := 21) scTy.nd rfl (Or.inl rfl)) (pgs_cons (pg_name (i := 22) scTy.nd rfl (Or.inl rfl)) pgs_nil)))) (fun _ _ _ _ _ => pts_nil) (fun _ _ _ _ _ => (pe_op op_add (pv 21) (pv 22))))
          (pss_one (ps_for PassesOwn.never rfl (pi_enumA (by rfl) B.enumerate (pa_cons (pv 1) pa_nil)) (pg_tup rfl (pgs_cons (pg_name (i := 5) scTy.nd rfl (.inl rfl)) (pgs_cons (pg_name (i := 16) scTy.nd rfl (.inl rfl)) pgs_nil)))
            (pss_one (ps_if (PW.pt (pw_and (pt_cmpR (opInK (K := K) rfl) (pe_ix ix_tup (pv 3) pe_int (fun _ _ => rfl)) (pv 16) rfl) (pw_and (pt_cmpR (opInK (K := K) rfl) (pe_ix ix_tup (pv 16) pe_int (fun _ _ => rfl)) (pv 8) rfl) (pw_and1 (pt_cmpR (opInK (K := K) rfl) (pe_ix ix_tup (pv 16) pe_int (fun _ _ => rfl)) (pv 8) rfl)))))
              (pss_one (ps_setLc (i := 9) (own := [("_law_one", 21), ("_law_other", 22)]) (g := gTup K 2 (gCons (gName 21) (gCons (gName 22) gNil))) (tt := tYes) rfl scTy.nd rfl rfl (sw_true rfl rfl rfl (by decide +kernel)) (ZM.pi_zipM (by rfl) B.zip (pa_cons (pv 9) (pa_cons (pe_ix ix_list (pv 7) (pv 5) (fun _ _ => rfl)) pa_nil))) (blkOk_by (N := nTy) (sc := defScope sLTally) (by decide +kernel)) (fun _ _ _ _ _ => (pg_tup rfl (pgs_cons (pg_name (i := 21) scTy.nd rfl (Or.inl rfl)) (pgs_cons (pg_name (i := 22) scTy.nd rfl (Or.inl rfl)) pgs_nil)))) (fun _ _ _ _ _ => pts_nil) (fun _ _ _ _ _ => (pe_op op_sub (pv 21) (pv 22)))))
              pss_nil))))))
          (pss_cons (ps_asg (pe_ix ix_list (pv 1) (pe_ix ix_tup (pv 3) pe_int (fun _ _ => rfl)) (fun _ _ => rfl)) (pg_tup rfl (pgs_cons (pg_name (i := 17) scTy.nd rfl (.inl rfl)) (pgs_cons (pg_name (i := 18) scTy.nd rfl (.inl rfl)) pgs_nil))))
          (pss_cons (ps_if (pt_cmpR op_ne (pe_cmpR (opInK (K := K) rfl) (pv 17) (pv 8) rfl) (pe_cmpR (opInK (K := K) rfl) (pv 18) (pv 8) rfl) (nomark _))
            (pss_cons (ps_expr (pe_bm PySem.F.plainAttrs_list PySem.F.slot_list_append PySem.F.type_list_append mt_append (pv 12) (pa_cons (pv 14) pa_nil)))
            (pss_cons (ps_set (i := 19) scTy.nd rfl (.inl rfl) (pe_ifExp (pt_cmpR (opInK (K := K) rfl) (pv 17) (pv 8) rfl) (pe_ix ix_list (pv 6) (pv 18) (fun _ _ => rfl)) (pe_ix ix_list (pv 6) (pv 17) (fun _ _ => rfl))))
            (pss_one (ps_setLc (i := 10) (own := [("_law_one", 21), ("_law_other", 22), ("_law_last", 23)]) (g := gTup K 3 (gCons (gName 21) (gCons (gName 22) (gCons (gName 23) gNil)))) (tt := tYes) rfl scTy.nd rfl rfl (sw_true rfl rfl rfl (by decide +kernel)) (ZT.pi_zip3 (by rfl) B.zip (pa_cons (pv 10) (pa_cons (pv 19) (pa_cons (pe_ix ix_list (pv 7) (pe_ix ix_tup (pv 3) pe_int (fun _ _ => rfl)) (fun _ _ => rfl)) pa_nil)))) (blkOk_by (N := nTy) (sc := defScope sLTally) (by decide +kernel)) (fun _ _ _ _ _ => (pg_tup rfl (pgs_cons (pg_name (i := 21) scTy.nd rfl (Or.inl rfl)) (pgs_cons (pg_name (i := 22) scTy.nd rfl (Or.inl rfl)) (pgs_cons (pg_name (i := 23) scTy.nd rfl (Or.inl rfl)) pgs_nil))))) (fun _ _ _ _ _ => pts_nil) (fun _ _ _ _ _ => (pe_op op_sub (pe_op op_add (pv 21) (pv 22)) (pv 23)))))))
            pss_nil)
          (pss_cons (ps_setLc (i := 15) (own := [("_law_one", 21), ("_law_other", 22), ("_law_last", 23)]) (g := gTup K 3 (gCons (gName 21) (gCons (gName 22) (gCons (gName 23) gNil)))) (tt := tYes) rfl scTy.nd rfl rfl (sw_true rfl rfl rfl (by decide +kernel)) (ZT.pi_zip3 (by rfl) B.zip (pa_cons (pe_ix ix_list (pv 6) (pv 17) (fun _ _ => rfl)) (pa_cons (pe_ix ix_list (pv 6) (pv 18) (fun _ _ => rfl)) (pa_cons (pe_ix ix_list (pv 7) (pe_ix ix_tup (pv 3) pe_int (fun _ _ => rfl)) (fun _ _ => rfl)) pa_nil)))) (blkOk_by (N := nTy) (sc := defScope sLTally) (by decide +kernel)) (fun _ _ _ _ _ => (pg_tup rfl (pgs_cons (pg_name (i := 21) scTy.nd rfl (Or.inl rfl)) (pgs_cons (pg_name (i := 22) scTy.nd rfl (Or.inl rfl)) (pgs_cons (pg_name (i := 23) scTy.nd rfl (Or.inl rfl)) pgs_nil))))) (fun _ _ _ _ _ => pts_nil) (fun _ _ _ _ _ => (pe_op op_sub (pe_op op_add (pv 21) (pv 22)) (pv 23))))
          (pss_one (ps_asg (pe_tup (pa_cons (pv 15) (pa_cons (pv 15) (pa_cons (pv 15) pa_nil)))) (pg_tup rfl (pgs_cons (pg_sub (pv 6) (pv 17) set_list) (pgs_cons (pg_sub (pv 6) (pv 18) set_list) (pgs_cons (pg_sub (pv 7) (pe_ix ix_tup (pv 3) pe_int (fun _ _ => rfl)) set_list) pgs_nil))))))))))))))
    (pss_one (ps_ret (pe_lst (pa_cons (pv 9) (pa_cons (pv 10) (pa_cons (pv 11) (pa_cons (pv 12) (pa_cons (pv 4) pa_nil)))))))))))), ?_⟩
    have n12 := hW.n12
    have t20 := hW.t20
    have k4 : actN ws ≤ 400 := Nat.le_trans (actN_le ws) hl4
    -- the acts
    refine ⟨_, rfl, wl, rfl, ⟨_, SqL.of hwl⟩, fun D1 hD1 => lc_list (K := K) (a := wl) (xs := was.map V.ref) (fun i H3 => Same H H3 ∧ H3 D1 = some (.lst (vrow (actD (sts (ws.take i)))))) ⟨same_new hD1, by rw [upd_same]; rfl⟩ (fun i H3 _ ⟨s3, _⟩ => SqL.of (s3 _ _ hwl)) ?_ ?_⟩
    · rintro i x H3 hx ⟨s3, hD3⟩
      obtain ⟨a, st, rfl, ha, hst, hat⟩ := hwa.get' hx
      have ea := take_succ hst
      have hla : (actD (sts (ws.take i))).length ≤ 401 := Nat.le_trans (actD_len _) (Nat.le_trans (sts_len _) (by rw [List.length_take]; omega))
      have hat3 := s3 _ _ hat
      refine ⟨rfl, ?_⟩
      rcases pc_read st with ⟨h, rfl, e0, _⟩ | ⟨h, d, rfl, e0, _, e2⟩ | ⟨t, rfl, e0, _⟩
      · refine ⟨_, rfl, a, _, (0 : Int), .str "read", rfl, rfl, SqT.of hat3, at_i e0, ⟨rfl, false, congrArg V.bl (decide_eq_false (by decide +kernel)), iteF ?_⟩⟩
        refine ⟨s3, ?_⟩
        rw [ea, sts_app, show sts [Pc.rd h] = [] from rfl, List.append_nil]; exact hD3
      · refine ⟨_, rfl, a, _, (0 : Int), .str "do", rfl, rfl, SqT.of hat3, at_i e0, ⟨rfl, true, congrArg V.bl (decide_eq_true rfl), iteT ?_⟩⟩
        refine ⟨_, rfl, a, _, (2 : Int), .int (d : Int), rfl, rfl, SqT.of hat3, at_i e2, _, hD3, szl (by rw [vrow_len]; omega), fun c o e => by rw [upd_ne (ne_of_none e hD1)]; exact s3 _ _ e, ?_⟩
        rw [upd_same, ea, sts_app, actD_app, vrow, vrow, List.map_append]; rfl
      · refine ⟨_, rfl, a, _, (0 : Int), .str "meet", rfl, rfl, SqT.of hat3, at_i e0, ⟨rfl, false, congrArg V.bl (decide_eq_false (by decide +kernel)), iteF ?_⟩⟩
        refine ⟨s3, ?_⟩
        rw [ea, sts_app, actD_app, show actD (sts [Pc.st (Stp.mt t)]) = [] from rfl, List.append_nil]; exact hD3
    rintro H6 ⟨s6, hD1'⟩
    rw [List.length_map, hwa.1, List.take_length] at hD1'
    dsimp only [List.set]
    have lact : (vrow (actD (sts ws))).length = actN ws := by rw [vrow_len]; rfl
    -- rows of noughts
    refine seqG (fun σ H' => ∃ (hl al rl : Addr) (hs as : List Addr), σ = [some (.int (n : Int)), some (.ref tl), some (.ref wl), none, some (.ref D1), none, some (.ref hl), some (.ref al), some (.ref rl), none, none, none, none, none, none, none, none, none, none, none, none, none, none, none] ∧ Cl H6 H' hl al hs as (cu0 n ts.length (actN ws)) ∧ H' rl = some (.lst []) ∧ rl ≠ hl ∧ rl ≠ al) ?_ fun go => ?_
    rotate_left
    · have rowk : ∀ {H3 : Hp} {l : Addr}, (upd H3 l (.lst (List.replicate (actN ws) (V.int 0)))) l = some (.lst (vrow (List.replicate (actN ws) 0))) := fun {H3 l} => by rw [upd_same, vrow, List.map_replicate]
      refine ⟨_, rfl, (n : Int), rfl, by omega, by omega, fun D2 hD2 => lc_range (fun i H' => ∃ hs, Nt H6 H' D2 (actN ws) i hs) ⟨[], Nt.init hD2⟩ ?_ ?_⟩
      · rintro i H7 hi ⟨hs, I⟩
        refine ⟨rfl, (by show 1 ≤ sizeLine; decide), fun l1 hl1 => ?_⟩
        have s1 := same_new (o := HO.lst [V.int 0]) hl1
        refine ⟨_, rfl, D1, _, rfl, .inl (SqL.of (s1 _ _ (I.s _ _ hD1'))), ?_⟩
        rw [lact]
        exact rep_by (actN ws) upd_same (by omega) fun l2 hl2 => I.step (by omega) (s1.trans (same_new hl2)) rowk (s1.free hl2)
      rintro H7 ⟨hs, I⟩
      have I := I
      rw [Int.toNat_natCast] at I
      refine ⟨_, rfl, tl, rfl, ⟨_, SqL.of (I.s _ _ (s6 _ _ htl))⟩, fun D3 hD3 => lc_list (K := K) (a := tl) (xs := tas.map V.ref) (fun i H' => ∃ as, Nt H7 H' D3 (actN ws) i as) ⟨[], Nt.init hD3⟩ (fun i H' _ ⟨_, J⟩ => SqL.of (J.s _ _ (I.s _ _ (s6 _ _ htl)))) ?_ ?_⟩
      · rintro i x H8 hx ⟨as, J⟩
        have hi := lt_at hx
        rw [List.length_map, hta.1] at hi
        refine ⟨rfl, (by show 1 ≤ sizeLine; decide), fun l1 hl1 => ?_⟩
        have s1 := same_new (o := HO.lst [V.int 0]) hl1
        refine ⟨_, rfl, D1, _, rfl, .inl (SqL.of (s1 _ _ (J.s _ _ (I.s _ _ hD1')))), ?_⟩
        rw [lact]
        exact rep_by (actN ws) upd_same (by omega) fun l2 hl2 => J.step (by omega) (s1.trans (same_new hl2)) rowk (s1.free hl2)
      rintro H8 ⟨as, J⟩
      rw [List.length_map, hta.1] at J
      have C : Cl H6 H8 D2 D3 hs as (cu0 n ts.length (actN ws)) :=
        ⟨I.s.trans J.s, I.l.same J.s, J.l, I.d, I.s.free J.d, fun z => (by have := J.d; rw [← z, I.l.1] at this; cases this), fun x hx => ⟨(I.f x hx).2, fun z => (by
          obtain ⟨i, hi⟩ := List.getElem?_of_mem hx
          obtain ⟨r, hr'⟩ := ex_at (l := List.replicate n (List.replicate (actN ws) (0 : Int))) (i := i) (by rw [← I.l.2.1]; exact lt_at hi)
          have := I.l.2.2 i x r hi hr'
          rw [z, J.d] at this; cases this)⟩, fun x hx => ⟨fun z => (by have := (J.f x hx).1; rw [z, I.l.1] at this; cases this), (J.f x hx).2⟩, fun x hx => (I.f x hx).1⟩
      refine ⟨(by show 0 ≤ sizeLine; decide), fun rl hrl => ?_⟩
      exact ⟨_, _, _, rfl, go _ _ ⟨D2, D3, rl, hs, as, rfl, C.same (same_new hrl), upd_same, (fun z => by rw [z, C.h.1] at hrl; cases hrl), (fun z => by rw [z, C.a.1] at hrl; cases hrl)⟩⟩
    rintro σ H7 ⟨hl, al, rl, hs, as, rfl, C7, hrl, nr1, nr2⟩
    have rowk : ∀ {H3 : Hp} {l : Addr}, (upd H3 l (.lst (List.replicate (actN ws) (V.int 0)))) l = some (.lst (vrow (List.replicate (actN ws) 0))) := fun {H3 l} => by rw [upd_same, vrow, List.map_replicate]
    refine seqG (fun σ H' => ∃ (ol tt cc ul : Addr), σ = [some (.int (n : Int)), some (.ref tl), some (.ref wl), none, some (.ref D1), none, some (.ref hl), some (.ref al), some (.ref rl), some (.ref tt), some (.ref cc), some (.ref ul), some (.ref ol), some (.int 0), none, none, none, none, none, none, none, none, none, none] ∧ Ty H6 H' hl al ol rl tt cc ul hs as (cu0 n ts.length (actN ws)) [] [] [] (List.replicate (actN ws) 0) (List.replicate (actN ws) 0)) ?_ fun go => ?_
    rotate_left
    · refine ⟨(by show 1 ≤ sizeLine; decide), fun l1 hl1 => ?_⟩
      have s1 := same_new (o := HO.lst [V.int 0]) hl1
      refine ⟨_, rfl, D1, _, rfl, .inl (SqL.of (s1 _ _ (C7.s _ _ hD1'))), ?_⟩
      rw [lact]
      refine rep_by (actN ws) upd_same (by omega) fun tt htt => ?_
      have s2 := s1.trans (same_new (o := HO.lst (List.replicate (actN ws) (V.int 0))) htt)
      have ktt := rowk (H3 := upd H7 l1 (HO.lst [V.int 0])) (l := tt)
      generalize upd (upd H7 l1 (HO.lst [V.int 0])) tt (HO.lst (List.replicate (actN ws) (V.int 0))) = H8 at s2 ktt ⊢
      refine ⟨(by show 1 ≤ sizeLine; decide), fun l2 hl2 => ?_⟩
      have s3 := same_new (o := HO.lst [V.int 0]) hl2
      refine ⟨_, rfl, D1, _, rfl, .inl (SqL.of (s3 _ _ (s2 _ _ (C7.s _ _ hD1')))), ?_⟩
      rw [lact]
      refine rep_by (actN ws) upd_same (by omega) fun cc hcc => ?_
      have s4 := s3.trans (same_new (o := HO.lst (List.replicate (actN ws) (V.int 0))) hcc)
      have kcc := rowk (H3 := upd H8 l2 (HO.lst [V.int 0])) (l := cc)
      generalize upd (upd H8 l2 (HO.lst [V.int 0])) cc (HO.lst (List.replicate (actN ws) (V.int 0))) = H9 at s4 kcc ⊢
      refine ⟨(by show 0 ≤ sizeLine; decide), fun ul hul => ?_⟩
      have s5 := same_new (o := HO.lst []) hul
      have kul : (upd H9 ul (HO.lst [])) ul = some (.lst []) := upd_same
      generalize upd H9 ul (HO.lst []) = H10 at s5 kul ⊢
      refine ⟨(by show 0 ≤ sizeLine; decide), fun ol hol => ?_⟩
      have s6' := same_new (o := HO.lst []) hol
      have kol : (upd H10 ol (HO.lst [])) ol = some (.lst []) := upd_same
      have s26 := (s2.trans s4).trans s5
      have fo : H7 ol = none := s26.free hol
      have nn : ∀ {c : Addr} {o : HO}, H10 c = some o → c ≠ ol := fun e => ne_of_none e hol
      generalize upd H10 ol (HO.lst []) = H11 at s6' kol ⊢
      refine ⟨(by show 5 ≤ sizeLine; decide), fun T hT => ?_⟩
      have s7 := same_new (o := HO.tup [V.ref tt, .ref cc, .ref ul, .ref ol, .int 0]) hT
      have C11 := C7.same ((s26.trans s6').trans s7)
      refine ⟨T, _, rfl, SqT.of upd_same, rfl, _, _, rfl, _, _, rfl, _, _, rfl, _, _, rfl, _, _, rfl, rfl, go _ _ ⟨ol, tt, cc, ul, rfl, ?_⟩⟩
      have C7h := C7.h.1
      have C7a := C7.a.1
      have tn : H7 tt = none := (same_new (o := HO.lst [V.int 0]) hl1).free htt
      have cn : H7 cc = none := s2.free (s3.free hcc)
      have un : H7 ul = none := (s2.trans s4).free hul
      refine ⟨C11, s7 _ _ kol, C7.s.free fo, (fun z => by rw [z, C7h] at fo; cases fo), (fun z => by rw [z, C7a] at fo; cases fo), (fun z => ?_), (fun z => ?_), s7 _ _ (s6' _ _ (s26 _ _ hrl)), s7 _ _ (s6' _ _ (s5 _ _ (s4 _ _ ktt))), s7 _ _ (s6' _ _ (s5 _ _ kcc)), s7 _ _ (s6' _ _ kul), ⟨nr1, nr2, nn (s26 _ _ hrl)⟩, ⟨(fun z => by rw [z, C7h] at tn; cases tn), (fun z => by rw [z, C7a] at tn; cases tn), nn (s5 _ _ (s4 _ _ ktt))⟩, ⟨(fun z => by rw [z, C7h] at cn; cases cn), (fun z => by rw [z, C7a] at cn; cases cn), nn (s5 _ _ kcc)⟩, ⟨(fun z => by rw [z, C7h] at un; cases un), (fun z => by rw [z, C7a] at un; cases un), nn kul⟩⟩
      · obtain ⟨j, hj⟩ := List.getElem?_of_mem z
        obtain ⟨r, hr'⟩ := ex_at (l := (cu0 n ts.length (actN ws)).hs) (i := j) (by rw [← C7.h.2.1]; exact lt_at hj)
        have := C7.h.2.2 j _ r hj hr'
        rw [fo] at this; cases this
      · obtain ⟨j, hj⟩ := List.getElem?_of_mem z
        obtain ⟨r, hr'⟩ := ex_at (l := (cu0 n ts.length (actN ws)).ts) (i := j) (by rw [← C7.a.2.1]; exact lt_at hj)
        have := C7.a.2.2 j _ r hj hr'
        rw [fo] at this; cases this
    rintro σ H8 ⟨ol, tt, cc, ul, rfl, T8⟩
    have hw6 := s6 _ _ hwl
    refine ⟨_, rfl, wl, rfl, .inl ⟨_, SqL.of (T8.cl.s _ _ hw6), for_enumL (K := K) (fun i σ H' => ∃ (v3 v5 v14 v15 v16 v17 v18 v19 : Option V) (rl tt cc ul : Addr) (hs as : List Addr), σ = [some (.int (n : Int)), some (.ref tl), some (.ref wl), v3, some (.ref D1), v5, some (.ref hl), some (.ref al), some (.ref rl), some (.ref tt), some (.ref cc), some (.ref ul), some (.ref ol), some (.int (actN (ws.take i) : Int)), v14, v15, v16, v17, v18, v19, none, none, none, none] ∧ Ty H6 H' hl al ol rl tt cc ul hs as (cuK n ts (actN ws) ws i) (rds (ws.take i)) (crK ts ws i) (unK ws i) (sw n ts (actN ws) ws i) (cw n ts (actN ws) ws i))
      ⟨none, none, none, none, none, none, none, none, rl, tt, cc, ul, hs, as, rfl, T8⟩ (fun i σ H' _ ⟨_, _, _, _, _, _, _, _, _, _, _, _, _, _, _, T⟩ => SqL.of (T.cl.s _ _ hw6)) ?_ ?_⟩⟩
    · rintro i x Tp σ H9 hx hTp ⟨v3, v5, v14, v15, v16, v17, v18, v19, rl, tt, cc, ul, hs, as, rfl, T⟩
      obtain ⟨a, st, rfl, ha, hst, hat⟩ := hwa.get' hx
      have T := T.same (same_new (o := HO.tup [V.int (i : Nat), .ref a]) hTp)
      have hTp2 : (upd H9 Tp (HO.tup [V.int (i : Nat), .ref a])) Tp = some (.tup [.int (i : Nat), .ref a]) := upd_same
      generalize upd H9 Tp (HO.tup [V.int (i : Nat), .ref a]) = H10 at T hTp2 ⊢
      have hat10 := T.cl.s _ _ (s6 _ _ hat)
      have hokp := hok st (List.mem_of_getElem? hst)
      have I := cuK_cur hW hok i (Nat.le_refl (actN ws))
      have lsw := sw_len hW hok (Nat.le_refl (actN ws)) i (Nat.le_of_lt (lt_at hst))
      have lcw := cw_len hW hok (Nat.le_refl (actN ws)) i (Nat.le_of_lt (lt_at hst))
      have hil := lt_at hst
      refine ⟨Tp, _, rfl, SqT.of hTp2, rfl, _, _, rfl, _, _, rfl, rfl, ?_⟩
      rcases pc_read st with ⟨h, rfl, e0, e1⟩ | ⟨h, d', rfl, e0, e1, _⟩ | ⟨t, rfl, e0, e1⟩
      · refine ⟨_, rfl, a, _, (0 : Int), .str "read", rfl, rfl, SqT.of hat10, at_i e0, ⟨rfl, false, congrArg V.bl (decide_eq_false (by decide +kernel)), iteF ?_⟩⟩
        refine ⟨_, rfl, a, _, (0 : Int), .str "read", rfl, rfl, SqT.of hat10, at_i e0, ⟨rfl, true, congrArg V.bl (decide_eq_true rfl), iteT ?_⟩⟩
        have hh : h < n := hokp
        have nin : h ∉ rds (ws.take i) := fun z => by
          have e := congrArg rds (List.take_append_drop (i + 1) ws)
          rw [rds_app, take_succ hst, rds_app] at e
          rw [← e, List.append_assoc, List.nodup_append] at hnd
          exact hnd.2.2 h z h (List.mem_append_left _ (List.mem_singleton.mpr rfl)) rfl
        have er : rds (ws.take (i + 1)) = rds (ws.take i) ++ [h] := by rw [take_succ hst, rds_app]; rfl
        have eo : crK ts ws (i + 1) = crK ts ws i := by rw [crK_succ hst]; exact List.append_nil _
        have ecw : cw n ts (actN ws) ws (i + 1) = cw n ts (actN ws) ws i := by rw [cw_succ hst]; rfl
        have euk : unK ws (i + 1) = unK ws i := unK_rd hst rfl
        have ecu : cuK n ts (actN ws) ws (i + 1) = cuK n ts (actN ws) ws i := cuK_succ hst
        have eac : actN (ws.take (i + 1)) = actN (ws.take i) := by
          rw [take_succ hst]; unfold actN; rw [sts_app]; exact congrArg (fun l => (actD l).length) (List.append_nil _)
        have lrd : (rds (ws.take i)).length ≤ 400 := by
          refine Nat.le_trans (rds_len _) ?_
          rw [List.length_take]; omega
        refine ⟨_, rfl, _, rfl, a, _, (1 : Int), .int (h : Int), rfl, rfl, SqT.of hat10, at_i e1, (by show 1 ≤ sizeLine; decide), fun p1 hp1 => ?_⟩
        have s1 := same_new (o := HO.lst [V.int (h : Int)]) hp1
        refine ⟨rl, p1, _, _, rfl, rfl, s1 _ _ T.r, upd_same, sz (by rw [vn_len]; simp only [List.length_cons, List.length_nil]; omega), fun p2 hp2 => ?_⟩
        have n2 := (T.same s1).ne hp2
        have T2 := ((T.same s1).same (same_new (o := HO.lst (vn (rds (ws.take i)) ++ [V.int (h : Int)])) hp2)).putR (R' := rds (ws.take (i + 1))) n2 (by rw [upd_same, er, vn, vn, List.map_append]; rfl)
        generalize upd (upd H10 p1 (HO.lst [V.int (h : Int)])) p2 (HO.lst (vn (rds (ws.take i)) ++ [V.int (h : Int)])) = H11 at T2 ⊢
        refine gn ?_
        dsimp only [List.set]
        have hat11 := T2.cl.s _ _ (s6 _ _ hat)
        obtain ⟨x1, hx1⟩ := ex_at (l := hs) (i := h) (by rw [T2.cl.h.2.1, I.ok.lh]; exact hh)
        have hxr := T2.cl.h.2.2 h x1 _ hx1 (getL (by rw [I.ok.lh]; exact hh))
        have rl' := I.ok.row hh
        have lm := madd_len (k := 1) lsw rl'
        refine ⟨_, rfl, _, rfl, _, rfl, a, _, (1 : Int), .int (h : Int), rfl, rfl, SqT.of hat11, at_i e1, hl, _, (h : Int), .ref x1, rfl, rfl, SqL.of T2.cl.h.1, at_i (map_at hx1), false, false, tt, x1, _, _, rfl, SqL.of T2.t, SqL.of hxr, fun J hJ => ZM.lc_zipM (K := K) (by rw [vrow_len, vrow_len, lsw, rl']) (fun j H3 => Same H11 H3 ∧ H3 J = some (.lst (vrow ((madd (sw n ts (actN ws) ws i) ((cuK n ts (actN ws) ws i).hs.getD h []) 1).take j)))) ⟨same_new hJ, by rw [upd_same]; rfl⟩ (fun j H3 _ ⟨s3, _⟩ => ⟨SqL.of (s3 _ _ T2.t), SqL.of (s3 _ _ hxr)⟩) ?_ ?_⟩
        · rintro j x y T0 H3 hx hy hT0 ⟨s3, hJ3⟩
          obtain ⟨x', hx', rfl⟩ := vrow_at hx
          obtain ⟨y', hy', rfl⟩ := vrow_at hy
          have sT := same_new (o := HO.tup [V.int x', .int y']) hT0
          refine ⟨T0, _, rfl, SqT.of upd_same, rfl, _, _, rfl, _, _, rfl, rfl, rfl, ?_⟩
          have hj := lt_at hx'
          refine ⟨_, rfl, _, rfl, _, _, rfl, rfl, _, sT _ _ hJ3, szl (by rw [vrow_len, List.length_take]; omega), fun c' o e => ?_, ?_⟩
          · rw [upd_ne (ne_of_none e hJ)]
            exact sT _ _ (s3 _ _ e)
          · have e : (madd (sw n ts (actN ws) ws i) ((cuK n ts (actN ws) ws i).hs.getD h []) 1)[j]? = some (x' + y') := by
              unfold madd
              rw [List.getElem?_zipWith, hx', hy']
              show some (x' + 1 * y') = _
              rw [Int.one_mul]
            rw [upd_same, take_succ e, vrow, vrow, List.map_append]; rfl
        rintro H12 ⟨s12, hJ12⟩
        rw [List.take_of_length_le (by rw [vrow_len, lm, lsw]; exact Nat.le_refl _)] at hJ12
        dsimp only [List.set]
        have T3 := (T2.same s12).putT (T2.ne hJ) hJ12
        have htl12 := T3.cl.s _ _ (s6 _ _ htl)
        refine ⟨_, rfl, tl, rfl, .inl ⟨_, SqL.of htl12, for_enumL (K := K) (fun j σ H' => ∃ (v5 v16 : Option V) (tt' : Addr), σ = [some (.int (n : Int)), some (.ref tl), some (.ref wl), some (.ref a), some (.ref D1), v5, some (.ref hl), some (.ref al), some (.ref p2), some (.ref tt'), some (.ref cc), some (.ref ul), some (.ref ol), some (.int (actN (ws.take i) : Int)), some (.int (i : Int)), v15, v16, v17, v18, v19, none, none, none, none] ∧ Ty H6 H' hl al ol p2 tt' cc ul hs as (cuK n ts (actN ws) ws i) (rds (ws.take (i + 1))) (crK ts ws i) (unK ws i) ((List.range j).foldl (fun s t => if inc h (ts.getD t (0, 0)) = true ∧ (ts.getD t (0, 0)).1 ∈ rds (ws.take i) ++ [h] ∧ (ts.getD t (0, 0)).2 ∈ rds (ws.take i) ++ [h] then madd s ((cuK n ts (actN ws) ws i).ts.getD t []) (-1) else s) (madd (sw n ts (actN ws) ws i) ((cuK n ts (actN ws) ws i).hs.getD h []) 1)) (cw n ts (actN ws) ws i))
          ⟨_, _, J, rfl, T3⟩ (fun j σ H' _ ⟨_, _, _, _, T⟩ => SqL.of (T.cl.s _ _ (s6 _ _ htl))) ?_ ?_⟩⟩
        · rintro j x T0 σ H13 hx hT0 ⟨v5', v16', tt', rfl, T4⟩
          obtain ⟨pa, p, rfl, hpa, hp, hpat⟩ := hta.get' hx
          have hjl := lt_at hp
          have ep : ts.getD j (0, 0) = p := by rw [List.getD_eq_getElem?_getD, hp]; rfl
          have T5 := T4.same (same_new (o := HO.tup [V.int (j : Nat), .ref pa]) hT0)
          have hT02 : (upd H13 T0 (HO.tup [V.int (j : Nat), .ref pa])) T0 = some (.tup [.int (j : Nat), .ref pa]) := upd_same
          generalize upd H13 T0 (HO.tup [V.int (j : Nat), .ref pa]) = H14 at T5 hT02 ⊢
          have hat14 := T5.cl.s _ _ (s6 _ _ hat)
          have hpat14 := T5.cl.s _ _ (s6 _ _ hpat)
          have lf : ∀ (l : List Nat) (s : List Int), (∀ t ∈ l, t < ts.length) → s.length = actN ws → (l.foldl (fun s t => if inc h (ts.getD t (0, 0)) = true ∧ (ts.getD t (0, 0)).1 ∈ rds (ws.take i) ++ [h] ∧ (ts.getD t (0, 0)).2 ∈ rds (ws.take i) ++ [h] then madd s ((cuK n ts (actN ws) ws i).ts.getD t []) (-1) else s) s).length = actN ws := fun l => by
            induction l with
            | nil => intro s _ hs; exact hs
            | cons t l ih =>
              intro s ht hs
              refine ih _ (fun x hx => ht x (List.mem_cons_of_mem _ hx)) ?_
              dsimp only
              split
              · exact madd_len hs (I.ok.rowT (ht t List.mem_cons_self))
              · exact hs
          have lj := lf (List.range j) (madd (sw n ts (actN ws) ws i) ((cuK n ts (actN ws) ws i).hs.getD h []) 1) (fun t ht => Nat.lt_trans (List.mem_range.mp ht) hjl) lm
          have es : (List.range (j + 1)).foldl (fun s t => if inc h (ts.getD t (0, 0)) = true ∧ (ts.getD t (0, 0)).1 ∈ rds (ws.take i) ++ [h] ∧ (ts.getD t (0, 0)).2 ∈ rds (ws.take i) ++ [h] then madd s ((cuK n ts (actN ws) ws i).ts.getD t []) (-1) else s) (madd (sw n ts (actN ws) ws i) ((cuK n ts (actN ws) ws i).hs.getD h []) 1) = if inc h p = true ∧ p.1 ∈ rds (ws.take i) ++ [h] ∧ p.2 ∈ rds (ws.take i) ++ [h] then madd ((List.range j).foldl (fun s t => if inc h (ts.getD t (0, 0)) = true ∧ (ts.getD t (0, 0)).1 ∈ rds (ws.take i) ++ [h] ∧ (ts.getD t (0, 0)).2 ∈ rds (ws.take i) ++ [h] then madd s ((cuK n ts (actN ws) ws i).ts.getD t []) (-1) else s) (madd (sw n ts (actN ws) ws i) ((cuK n ts (actN ws) ws i).hs.getD h []) 1)) ((cuK n ts (actN ws) ws i).ts.getD j []) (-1) else (List.range j).foldl (fun s t => if inc h (ts.getD t (0, 0)) = true ∧ (ts.getD t (0, 0)).1 ∈ rds (ws.take i) ++ [h] ∧ (ts.getD t (0, 0)).2 ∈ rds (ws.take i) ++ [h] then madd s ((cuK n ts (actN ws) ws i).ts.getD t []) (-1) else s) (madd (sw n ts (actN ws) ws i) ((cuK n ts (actN ws) ws i).hs.getD h []) 1) := by
            rw [List.range_succ, List.foldl_append, List.foldl_cons, List.foldl_nil]
            rw [ep]
          generalize (List.range (j + 1)).foldl (fun s t => if inc h (ts.getD t (0, 0)) = true ∧ (ts.getD t (0, 0)).1 ∈ rds (ws.take i) ++ [h] ∧ (ts.getD t (0, 0)).2 ∈ rds (ws.take i) ++ [h] then madd s ((cuK n ts (actN ws) ws i).ts.getD t []) (-1) else s) (madd (sw n ts (actN ws) ws i) ((cuK n ts (actN ws) ws i).hs.getD h []) 1) = sj1 at es ⊢
          generalize (List.range j).foldl (fun s t => if inc h (ts.getD t (0, 0)) = true ∧ (ts.getD t (0, 0)).1 ∈ rds (ws.take i) ++ [h] ∧ (ts.getD t (0, 0)).2 ∈ rds (ws.take i) ++ [h] then madd s ((cuK n ts (actN ws) ws i).ts.getD t []) (-1) else s) (madd (sw n ts (actN ws) ws i) ((cuK n ts (actN ws) ws i).hs.getD h []) 1) = sj at T5 lj es
          refine ⟨T0, _, rfl, SqT.of hT02, rfl, _, _, rfl, _, _, rfl, rfl, ?_⟩
          refine ifG (fun c H5 => H5 = H14 ∧ (c = true ↔ inc h p = true ∧ p.1 ∈ rds (ws.take i) ++ [h] ∧ p.2 ∈ rds (ws.take i) ++ [h])) (fun c H5 G => ?_) fun go => ?_
          rotate_left
          · refine ⟨_, rfl, a, _, (1 : Int), .int (h : Int), rfl, rfl, SqT.of hat14, at_i e1, _, rfl, pa, pV p, rfl, .inr (SqT.of hpat14), rfl, rfl, ?_⟩
            rw [inV_pV]
            refine ⟨_, rfl, ifD (fun c1 => ?_) fun c1 => go false _ ⟨rfl, ⟨fun z => (by cases z), fun z => absurd z.1 (by simpa using c1)⟩⟩⟩
            have c1' : inc h p = true := by simpa using c1
            refine ⟨_, rfl, pa, _, (0 : Int), .int (p.1 : Int), rfl, rfl, SqT.of hpat14, atI_nat (j := 0) rfl, _, rfl, p2, _, rfl, .inl (SqL.of T5.r), rfl, flat_vn _, ?_⟩
            rw [inV_vn]
            refine ⟨_, rfl, ifD (fun c2 => ?_) fun c2 => go false _ ⟨rfl, ⟨fun z => (by cases z), fun z => absurd z.2.1 (by rw [← er]; simpa using c2)⟩⟩⟩
            have c2' : p.1 ∈ rds (ws.take i) ++ [h] := by rw [← er]; simpa using c2
            refine ⟨_, rfl, pa, _, (1 : Int), .int (p.2 : Int), rfl, rfl, SqT.of hpat14, atI_nat (j := 1) rfl, _, rfl, p2, _, rfl, .inl (SqL.of T5.r), rfl, flat_vn _, ?_⟩
            rw [inV_vn]
            exact ⟨_, rfl, go _ _ ⟨rfl, ⟨fun z => ⟨c1', c2', by rw [← er]; exact of_decide_eq_true z⟩, fun z => decide_eq_true (by rw [er]; exact z.2.2)⟩⟩⟩
          obtain ⟨rfl, hc⟩ := G
          refine ifD (fun e => ?_) fun e => ?_
          · have hc := hc.mp e
            rw [if_pos hc] at es
            obtain ⟨x3, hx3⟩ := ex_at (l := as) (i := j) (by rw [T5.cl.a.2.1, I.ok.lt]; exact hjl)
            have hxr3 := T5.cl.a.2.2 j x3 _ hx3 (getL (by rw [I.ok.lt]; exact hjl))
            have r3 := I.ok.rowT hjl
            have lm3 := madd_len (k := -1) lj r3
            refine ⟨_, rfl, _, rfl, _, rfl, al, _, (j : Int), .ref x3, rfl, rfl, SqL.of T5.cl.a.1, at_i (map_at hx3), false, false, tt', x3, _, _, rfl, SqL.of T5.t, SqL.of hxr3, fun J2 hJ2 => ZM.lc_zipM (K := K) (by rw [vrow_len, vrow_len, lj, r3]) (fun m H3 => Same H5 H3 ∧ H3 J2 = some (.lst (vrow ((madd sj ((cuK n ts (actN ws) ws i).ts.getD j []) (-1)).take m)))) ⟨same_new hJ2, by rw [upd_same]; rfl⟩ (fun m H3 _ ⟨s3, _⟩ => ⟨SqL.of (s3 _ _ T5.t), SqL.of (s3 _ _ hxr3)⟩) ?_ ?_⟩
            · rintro m x y T1 H3 hx hy hT1 ⟨s3, hJ3⟩
              obtain ⟨x', hx', rfl⟩ := vrow_at hx
              obtain ⟨y', hy', rfl⟩ := vrow_at hy
              have sT := same_new (o := HO.tup [V.int x', .int y']) hT1
              refine ⟨T1, _, rfl, SqT.of upd_same, rfl, _, _, rfl, _, _, rfl, rfl, rfl, ?_⟩
              have hm := lt_at hx'
              refine ⟨_, rfl, _, rfl, _, _, rfl, rfl, _, sT _ _ hJ3, szl (by rw [vrow_len, List.length_take]; omega), fun c' o e => ?_, ?_⟩
              · rw [upd_ne (ne_of_none e hJ2)]
                exact sT _ _ (s3 _ _ e)
              · have e : (madd sj ((cuK n ts (actN ws) ws i).ts.getD j []) (-1))[m]? = some (x' - y') := by
                  unfold madd
                  rw [List.getElem?_zipWith, hx', hy']
                  show some (x' + -1 * y') = _
                  congr 1; omega
                rw [upd_same, take_succ e, vrow, vrow, List.map_append]; rfl
            rintro H15 ⟨s15, hJ15⟩
            rw [List.take_of_length_le (by rw [vrow_len, lm3, lj]; exact Nat.le_refl _), ← es] at hJ15
            exact ⟨_, _, J2, rfl, (T5.same s15).putT (T5.ne hJ2) hJ15⟩
          · have hc : ¬ (inc h p = true ∧ p.1 ∈ rds (ws.take i) ++ [h] ∧ p.2 ∈ rds (ws.take i) ++ [h]) := fun z => by
              have := hc.mpr z
              rw [this] at e; cases e
            rw [if_neg hc] at es
            exact ⟨_, _, tt', rfl, by rw [es]; exact T5⟩
        · rintro σ H13 ⟨v5', v16', tt', rfl, T4⟩
          rw [List.length_map, hta.1, ← trd_fold hW nin (fun s t => madd s ((cuK n ts (actN ws) ws i).ts.getD t []) (-1)) _ ts.length (Nat.le_refl _)] at T4
          refine ⟨_, _, _, _, _, _, _, _, p2, tt', cc, ul, hs, as, by rw [eac], ?_⟩
          rw [eo, ecw, euk, ecu, sw_succ hst]
          exact T4
      · refine ⟨_, rfl, a, _, (0 : Int), .str "do", rfl, rfl, SqT.of hat10, at_i e0, ⟨rfl, true, congrArg V.bl (decide_eq_true rfl), iteT ?_⟩⟩
        have hh : h < n := hokp.1
        obtain ⟨x1, hx1⟩ := ex_at (l := hs) (i := h) (by rw [T.cl.h.2.1, I.ok.lh]; exact hh)
        have hxr := T.cl.h.2.2 h x1 _ hx1 (getL (by rw [I.ok.lh]; exact hh))
        have rl' := I.ok.row hh
        refine ⟨_, rfl, _, rfl, a, _, (1 : Int), .int (h : Int), rfl, rfl, SqT.of hat10, at_i e1, hl, _, (h : Int), .ref x1, rfl, rfl, SqL.of T.cl.h.1, at_i (map_at hx1), ?_⟩
        refine gn ?_
        dsimp only [List.set]
        have hk0 : actN (ws.take i) < actN ws := acts_left hst
        have kd : (cuK n ts (actN ws) ws i).ds.length = actN (ws.take i) := by rw [I.ds]; rfl
        have z0 : ((cuK n ts (actN ws) ws i).hs.getD h []).getD (actN (ws.take i)) 0 = 0 := (I.z h _ (by rw [kd]; exact Nat.le_refl _)).1
        generalize hrw : (cuK n ts (actN ws) ws i).hs.getD h [] = rw0 at hxr rl' z0
        have sp1 := fun (p1 : Addr) (hp1 : H10 p1 = none) => same_new (o := HO.lst ((vrow rw0).take (actN (ws.take i)))) hp1
        refine ⟨_, rfl, _, rfl, _, rfl, x1, _, rfl, SqL.of hxr, fun p1 hp1 => ?_⟩
        rw [cut_to (by rw [vrow_len]; omega)]
        have s1 := same_new (o := HO.lst ((vrow rw0).take (actN (ws.take i)))) hp1
        have k1 : (upd H10 p1 (HO.lst ((vrow rw0).take (actN (ws.take i))))) p1 = some (.lst ((vrow rw0).take (actN (ws.take i)))) := upd_same
        generalize upd H10 p1 (HO.lst ((vrow rw0).take (actN (ws.take i)))) = H11 at s1 k1 ⊢
        refine ⟨_, rfl, _, rfl, x1, _, (actN (ws.take i) : Int), .int 0, rfl, rfl, SqL.of (s1 _ _ hxr), at_i (by rw [← z0]; exact vrow_get (by rw [rl']; exact hk0)), _, _, rfl, rfl, (by show 1 ≤ sizeLine; decide), fun p2 hp2 => ?_⟩
        have s2 := same_new (o := HO.lst [V.int (0 + 1)]) hp2
        refine ⟨p1, p2, _, _, rfl, rfl, s2 _ _ k1, upd_same, sz (by rw [List.length_take, vrow_len]; simp only [List.length_cons, List.length_nil]; omega), fun p3 hp3 => ?_⟩
        have s3 := same_new (o := HO.lst ((vrow rw0).take (actN (ws.take i)) ++ [V.int (0 + 1)])) hp3
        have k3 : (upd (upd H11 p2 (HO.lst [V.int (0 + 1)])) p3 (HO.lst ((vrow rw0).take (actN (ws.take i)) ++ [V.int (0 + 1)]))) p3 = some (.lst ((vrow rw0).take (actN (ws.take i)) ++ [V.int (0 + 1)])) := upd_same
        have s13 := (s1.trans s2).trans s3
        generalize upd (upd H11 p2 (HO.lst [V.int (0 + 1)])) p3 (HO.lst ((vrow rw0).take (actN (ws.take i)) ++ [V.int (0 + 1)])) = H12 at s13 k3 ⊢
        refine ⟨_, rfl, _, rfl, _, _, rfl, rfl, _, rfl, x1, _, rfl, SqL.of (s13 _ _ hxr), fun p4 hp4 => ?_⟩
        have ec : ((actN (ws.take i) : Nat) : Int) + 1 = ((actN (ws.take i) + 1 : Nat) : Int) := by omega
        rw [ec, cut_from (by rw [vrow_len]; omega)]
        have s4 := same_new (o := HO.lst ((vrow rw0).drop (actN (ws.take i) + 1))) hp4
        refine ⟨p3, p4, _, _, rfl, rfl, s4 _ _ k3, upd_same, sz (by rw [List.length_append, List.length_take, List.length_drop, vrow_len]; simp only [List.length_cons, List.length_nil]; omega), fun p5 hp5 => ?_⟩
        have erow : ((vrow rw0).take (actN (ws.take i)) ++ [V.int (0 + 1)]) ++ (vrow rw0).drop (actN (ws.take i) + 1) = vrow (rw0.set (actN (ws.take i)) 1) := by
          rw [vrow_set, List.set_eq_take_append_cons_drop, if_pos (by rw [vrow_len]; omega), List.append_assoc]; rfl
        rw [erow]
        have s5 := same_new (o := HO.lst (vrow (rw0.set (actN (ws.take i)) 1))) hp5
        have s15 := (s13.trans s4).trans s5
        have k5 : (upd (upd H12 p4 (HO.lst ((vrow rw0).drop (actN (ws.take i) + 1)))) p5 (HO.lst (vrow (rw0.set (actN (ws.take i)) 1)))) p5 = some (.lst (vrow (rw0.set (actN (ws.take i)) 1))) := upd_same
        have n5 := (T.same (s13.trans s4)).ne hp5
        have f5 := T.cl.s.free ((s13.trans s4).free hp5)
        have T5 := T.same s15
        generalize upd (upd H12 p4 (HO.lst ((vrow rw0).drop (actN (ws.take i) + 1)))) p5 (HO.lst (vrow (rw0.set (actN (ws.take i)) 1))) = H13 at s15 k5 T5 ⊢
        have T6 := T5.setH (h := h) k5 n5 f5
        refine ⟨_, rfl, _, rfl, a, _, (1 : Int), .int (h : Int), rfl, rfl, SqT.of (s15 _ _ hat10), at_i e1, hl, _, (h : Int), h, rfl, rfl, T5.cl.h.1, ixN_of (by rw [List.length_map, T5.cl.h.2.1, I.ok.lh]; exact hh), ?_⟩
        have hat14 := T6.cl.s _ _ (s6 _ _ hat)
        generalize upd H13 hl (.lst ((hs.map V.ref).set h (.ref p5))) = H14 at T6 hat14 ⊢
        refine ⟨_, rfl, a, _, (1 : Int), .int (h : Int), rfl, rfl, SqT.of hat14, at_i e1, _, rfl, rl, _, rfl, .inl (SqL.of T6.r), rfl, flat_vn _, ?_⟩
        rw [inV_vn]
        have eT : (⟨(cuK n ts (actN ws) ws i).hs.set h (rw0.set (actN (ws.take i)) 1), (cuK n ts (actN ws) ws i).ts, (cuK n ts (actN ws) ws i).ds⟩ : Cu).hs = (cuK n ts (actN ws) ws (i + 1)).hs := by
          rw [show cuK n ts (actN ws) ws (i + 1) = (cuK n ts (actN ws) ws i).doo h (d' : Int) from cuK_succ hst]
          show _ = (cuK n ts (actN ws) ws i).hs.set h (((cuK n ts (actN ws) ws i).hs.getD h []).set (cuK n ts (actN ws) ws i).ds.length 1)
          rw [hrw, kd]
        have T7 := T6.cu (u' := cuK n ts (actN ws) ws (i + 1)) eT (by rw [show cuK n ts (actN ws) ws (i + 1) = (cuK n ts (actN ws) ws i).doo h (d' : Int) from cuK_succ hst]; rfl)
        have er : rds (ws.take (i + 1)) = rds (ws.take i) := by rw [take_succ hst, rds_app]; exact List.append_nil _
        have eo : crK ts ws (i + 1) = crK ts ws i := by rw [crK_succ hst]; exact List.append_nil _
        have esw : sw n ts (actN ws) ws (i + 1) = sw n ts (actN ws) ws i := by rw [sw_succ hst]; rfl
        have ecw : cw n ts (actN ws) ws (i + 1) = cw n ts (actN ws) ws i := by rw [cw_succ hst]; rfl
        have eac : ((actN (ws.take i) : Nat) : Int) + 1 = ((actN (ws.take (i + 1)) : Nat) : Int) := by
          rw [take_succ hst]
          unfold actN
          rw [sts_app, actD_app, List.length_append]; rfl
        have luk : (unK ws i).length ≤ 400 := by
          unfold unK
          refine Nat.le_trans (List.length_filter_le _ _) ?_
          rw [List.length_range]
          refine Nat.le_trans (unB_len _ _) ?_
          rw [List.length_take]; omega
        refine ⟨_, rfl, ifD (fun e => ?_) fun e => ?_⟩
        · have nin : h ∉ rds (ws.take i) := by simpa using e
          have euk : unK ws (i + 1) = unK ws i ++ [actN (ws.take i)] := by rw [unK_dd hst, if_neg nin]
          refine ⟨_, rfl, _, rfl, (by show 1 ≤ sizeLine; decide), fun p6 hp6 => ?_⟩
          have s6a := same_new (o := HO.lst [V.int (actN (ws.take i) : Int)]) hp6
          refine ⟨ul, p6, _, _, rfl, rfl, s6a _ _ T7.q, upd_same, sz (by rw [vn_len]; simp only [List.length_cons, List.length_nil]; omega), fun p7 hp7 => ?_⟩
          have n7 := (T7.same s6a).ne hp7
          have T8 := ((T7.same s6a).same (same_new (o := HO.lst (vn (unK ws i) ++ [V.int (actN (ws.take i) : Int)])) hp7)).putQ (ub' := unK ws (i + 1)) n7 (by rw [upd_same, euk, vn, vn, List.map_append]; rfl)
          refine gn ?_
          dsimp only [List.set]
          refine ⟨_, rfl, _, _, rfl, rfl, ?_⟩
          dsimp only [List.set]
          rw [eac]
          exact ⟨_, _, _, _, _, _, _, _, rl, tt, cc, p7, _, _, rfl, by rw [er, eo, esw, ecw]; exact T8⟩
        · have nin : h ∈ rds (ws.take i) := by simpa using e
          have euk : unK ws (i + 1) = unK ws i := by rw [unK_dd hst, if_pos nin]; exact List.append_nil _
          refine ⟨_, rfl, ?_⟩
          refine gn ?_
          dsimp only [List.set]
          refine ⟨_, rfl, _, _, rfl, rfl, ?_⟩
          dsimp only [List.set]
          rw [eac]
          exact ⟨_, _, _, _, _, _, _, _, rl, tt, cc, ul, _, _, rfl, by rw [er, eo, esw, ecw, euk]; exact T7⟩
      · refine ⟨_, rfl, a, _, (0 : Int), .str "meet", rfl, rfl, SqT.of hat10, at_i e0, ⟨rfl, false, congrArg V.bl (decide_eq_false (by decide +kernel)), iteF ?_⟩⟩
        refine ⟨_, rfl, a, _, (0 : Int), .str "meet", rfl, rfl, SqT.of hat10, at_i e0, ⟨rfl, false, congrArg V.bl (decide_eq_false (by decide +kernel)), iteF ?_⟩⟩
        obtain ⟨pr, hpr⟩ := ex_at (show t < ts.length from hokp)
        obtain ⟨q1, q2, q3⟩ := hW.at_ hpr
        have tn := lt_at hpr
        have ep : ts.getD t (0, 0) = pr := by rw [List.getD_eq_getElem?_getD, hpr]; rfl
        obtain ⟨pa, hpa, hpl⟩ := hta.get hpr
        have hpl10 : H10 pa = some (.tup [.int (pr.1 : Int), .int (pr.2 : Int)]) := T.cl.s _ _ (s6 _ _ hpl)
        have er : rds (ws.take (i + 1)) = rds (ws.take i) := by rw [take_succ hst, rds_app]; exact List.append_nil _
        have euk : unK ws (i + 1) = unK ws i := unK_rd hst rfl
        have esw : sw n ts (actN ws) ws (i + 1) = sw n ts (actN ws) ws i := by rw [sw_succ hst]; rfl
        have eac : actN (ws.take (i + 1)) = actN (ws.take i) := by
          rw [take_succ hst]; unfold actN; rw [sts_app, actD_app]; exact congrArg List.length (List.append_nil _)
        refine ⟨_, rfl, _, rfl, a, _, (1 : Int), .int (t : Int), rfl, rfl, SqT.of hat10, at_i e1, tl, _, (t : Int), .ref pa, rfl, rfl, SqL.of (T.cl.s _ _ (s6 _ _ htl)), at_i (map_at hpa), pa, _, rfl, SqT.of hpl10, rfl, _, _, rfl, _, _, rfl, rfl, ?_⟩
        refine gn ?_
        dsimp only [List.set]
        refine seqG (fun σ H' => ∃ (v19 : Option V) (cc' : Addr), σ = [some (.int (n : Int)), some (.ref tl), some (.ref wl), some (.ref a), some (.ref D1), v5, some (.ref hl), some (.ref al), some (.ref rl), some (.ref tt), some (.ref cc'), some (.ref ul), some (.ref ol), some (.int (actN (ws.take i) : Int)), some (.int (i : Int)), v15, v16, some (.int (pr.1 : Int)), some (.int (pr.2 : Int)), v19, none, none, none, none] ∧ Ty H6 H' hl al ol rl tt cc' ul hs as (cuK n ts (actN ws) ws i) (rds (ws.take i)) (crK ts ws (i + 1)) (unK ws i) (sw n ts (actN ws) ws i) (cw n ts (actN ws) ws (i + 1))) ?_ fun go => ?_
        · rintro σ H11 ⟨v19', cc', rfl, T2⟩
          obtain ⟨x1, ex1⟩ := ex_at (l := hs) (i := pr.1) (by rw [T2.cl.h.2.1, I.ok.lh]; exact q1)
          obtain ⟨x2, ex2⟩ := ex_at (l := hs) (i := pr.2) (by rw [T2.cl.h.2.1, I.ok.lh]; exact q2)
          obtain ⟨x3, ex3⟩ := ex_at (l := as) (i := t) (by rw [T2.cl.a.2.1, I.ok.lt]; exact tn)
          have g1 := T2.cl.h.2.2 pr.1 x1 _ ex1 (getL (by rw [I.ok.lh]; exact q1))
          have g2 := T2.cl.h.2.2 pr.2 x2 _ ex2 (getL (by rw [I.ok.lh]; exact q2))
          have g3 := T2.cl.a.2.2 t x3 _ ex3 (getL (by rw [I.ok.lt]; exact tn))
          have r1 := I.ok.row q1
          have r2 := I.ok.row q2
          have r3 := I.ok.rowT tn
          have ll := ltie_len r1 r2 r3
          have hat11 := T2.cl.s _ _ (s6 _ _ hat)
          refine ⟨_, rfl, _, rfl, hl, _, (pr.1 : Int), .ref x1, rfl, rfl, SqL.of T2.cl.h.1, at_i (map_at ex1), _, rfl, _, rfl, hl, _, (pr.2 : Int), .ref x2, rfl, rfl, SqL.of T2.cl.h.1, at_i (map_at ex2), _, rfl, _, rfl, a, _, (1 : Int), .int (t : Int), rfl, rfl, SqT.of hat11, at_i e1, al, _, (t : Int), .ref x3, rfl, rfl, SqL.of T2.cl.a.1, at_i (map_at ex3), ?_⟩
          refine ⟨false, false, false, x1, x2, x3, _, _, _, rfl, SqL.of g1, SqL.of g2, SqL.of g3, fun J hJ => ZT.lc_zip3 (K := K) (t1 := false) (t2 := false) (t3 := false) (by rw [vrow_len, vrow_len, r1, r2]) (by rw [vrow_len, vrow_len, r1, r3]) (fun m H3 => Same H11 H3 ∧ H3 J = some (.lst (vrow (((cuK n ts (actN ws) ws i).jn pr t).take m)))) ⟨same_new hJ, by rw [upd_same]; rfl⟩ (fun m H' _ ⟨s3, _⟩ => ⟨SqL.of (s3 _ _ g1), SqL.of (s3 _ _ g2), SqL.of (s3 _ _ g3)⟩) ?_ ?_⟩
          · rintro m x y z T0 H3 hx hy hz hT' ⟨s3, hJ3⟩
            obtain ⟨x', hx', rfl⟩ := vrow_at hx
            obtain ⟨y', hy', rfl⟩ := vrow_at hy
            obtain ⟨z', hz', rfl⟩ := vrow_at hz
            have sT := same_new (o := HO.tup [V.int x', .int y', .int z']) hT'
            refine ⟨T0, _, rfl, SqT.of upd_same, rfl, _, _, rfl, _, _, rfl, _, _, rfl, rfl, rfl, ?_⟩
            have hi := lt_at hx'
            refine ⟨_, rfl, _, rfl, _, _, rfl, rfl, _, rfl, _, _, rfl, rfl, _, sT _ _ hJ3, szl (by rw [vrow_len, List.length_take]; omega), fun c' o e => ?_, ?_⟩
            · rw [upd_ne (ne_of_none e hJ)]
              exact sT _ _ (s3 _ _ e)
            · have e : ((cuK n ts (actN ws) ws i).jn pr t)[m]? = some (x' + y' - z') := by
                unfold Cu.jn ltie
                rw [List.getElem?_zipWith, List.getElem?_zipWith, hx', hy', hz']
              rw [upd_same, take_succ e, vrow, vrow, List.map_append]; rfl
          rintro H3 ⟨s3, hJ3⟩
          rw [List.take_of_length_le (by rw [vrow_len, r1]; show (ltie _ _ _).length ≤ _; rw [ll]; exact Nat.le_refl _)] at hJ3
          refine gn ?_
          dsimp only [List.set]
          refine ⟨_, rfl, _, rfl, _, rfl, (by show 3 ≤ sizeLine; decide), fun tp htp => ?_⟩
          have s4 := s3.trans (same_new (o := HO.tup [V.ref J, .ref J, .ref J]) htp)
          have kJ := (same_new (o := HO.tup [V.ref J, .ref J, .ref J]) htp) _ _ hJ3
          have ktp : (upd H3 tp (HO.tup [V.ref J, .ref J, .ref J])) tp = some (.tup [V.ref J, .ref J, .ref J]) := upd_same
          have T4 := T2.same s4
          have nJ := T2.ne hJ
          have nJ0 : H6 J = none := T2.cl.s.free hJ
          generalize upd H3 tp (HO.tup [V.ref J, .ref J, .ref J]) = H4 at kJ ktp T4 ⊢
          refine ⟨tp, _, rfl, SqT.of ktp, rfl, ?_⟩
          refine ⟨_, _, rfl, _, rfl, _, rfl, hl, _, (pr.1 : Int), pr.1, rfl, rfl, T4.cl.h.1, ixN_of (by rw [List.length_map, T4.cl.h.2.1, I.ok.lh]; exact q1), ?_⟩
          have T5 := T4.setH (h := pr.1) kJ nJ nJ0
          have kJ5 : (upd H4 hl (.lst ((hs.map V.ref).set pr.1 (.ref J)))) J = some (.lst (vrow ((cuK n ts (actN ws) ws i).jn pr t))) := by rw [upd_ne nJ.1]; exact kJ
          generalize upd H4 hl (.lst ((hs.map V.ref).set pr.1 (.ref J))) = H5' at T5 kJ5 ⊢
          refine ⟨_, _, rfl, _, rfl, _, rfl, hl, _, (pr.2 : Int), pr.2, rfl, rfl, T5.cl.h.1, ixN_of (by rw [List.length_map, T5.cl.h.2.1, List.length_set, I.ok.lh]; exact q2), ?_⟩
          have T6 := T5.setH (h := pr.2) kJ5 nJ nJ0
          have kJ6 : (upd H5' hl (.lst (((hs.set pr.1 J).map V.ref).set pr.2 (.ref J)))) J = some (.lst (vrow ((cuK n ts (actN ws) ws i).jn pr t))) := by rw [upd_ne nJ.1]; exact kJ5
          generalize upd H5' hl (.lst (((hs.set pr.1 J).map V.ref).set pr.2 (.ref J))) = H6' at T6 kJ6 ⊢
          refine ⟨_, _, rfl, _, rfl, _, rfl, a, _, (1 : Int), .int (t : Int), rfl, rfl, SqT.of (T6.cl.s _ _ (s6 _ _ hat)), at_i e1, al, _, (t : Int), t, rfl, rfl, T6.cl.a.1, ixN_of (by rw [List.length_map, T6.cl.a.2.1, I.ok.lt]; exact tn), ?_⟩
          have T7 := T6.setA (h := t) kJ6 nJ
          refine ⟨rfl, _, _, _, _, _, _, _, _, rl, tt, cc', ul, (hs.set pr.1 J).set pr.2 J, as.set t J, by rw [eac], ?_⟩
          have ecu : cuK n ts (actN ws) ws (i + 1) = (cuK n ts (actN ws) ws i).met pr t := by rw [← ep]; exact cuK_succ hst
          rw [er, euk, esw]
          exact T7.cu (by rw [ecu]; rfl) (by rw [ecu]; rfl)
        · have lck : (crK ts ws i).length ≤ 400 := by
            unfold crK
            refine Nat.le_trans (List.length_filter_le _ _) ?_
            rw [List.length_range]; omega
          refine ⟨_, rfl, _, rfl, rl, _, rfl, .inl (SqL.of T.r), rfl, flat_vn _, ?_⟩
          rw [inV_vn]
          refine ⟨_, rfl, _, rfl, rl, _, rfl, .inl (SqL.of T.r), rfl, flat_vn _, ?_⟩
          rw [inV_vn]
          have same0 : uEnds ts (rds (ws.take i)) (.st (.mt t)) = [] → crK ts ws (i + 1) = crK ts ws i ∧ cw n ts (actN ws) ws (i + 1) = cw n ts (actN ws) ws i := fun eu => ⟨by rw [crK_succ hst, eu]; exact List.append_nil _, by rw [cw_succ hst]; unfold cwS; rw [eu]; rfl⟩
          have none0 : (pr.1 ∈ rds (ws.take i) ↔ pr.2 ∈ rds (ws.take i)) → uEnds ts (rds (ws.take i)) (.st (.mt t)) = [] := fun io => by
            show (if ([(ts.getD t (0, 0)).1, (ts.getD t (0, 0)).2].filter fun h => decide (h ∉ rds (ws.take i))).length = 1 then [(ts.getD t (0, 0)).1, (ts.getD t (0, 0)).2].filter fun h => decide (h ∉ rds (ws.take i)) else []) = _
            rw [ep]
            by_cases c2 : pr.2 ∈ rds (ws.take i)
            · simp [io.mpr c2, c2]
            · simp [mt io.mp c2, c2]
          by_cases c1 : pr.1 ∈ rds (ws.take i) <;> by_cases c2 : pr.2 ∈ rds (ws.take i)
          · obtain ⟨eo, ecw⟩ := same0 (none0 ⟨fun _ => c2, fun _ => c1⟩)
            exact ⟨rfl, false, by rw [decide_eq_true c1, decide_eq_true c2]; rfl, iteF (go _ _ ⟨_, cc, rfl, by rw [eo, ecw]; exact T⟩)⟩
          · refine ⟨rfl, true, by rw [decide_eq_true c1, decide_eq_false c2]; rfl, iteT ?_⟩
            · have eu : uEnds ts (rds (ws.take i)) (.st (.mt t)) = [pr.2] := by
                show (if ([(ts.getD t (0, 0)).1, (ts.getD t (0, 0)).2].filter fun h => decide (h ∉ rds (ws.take i))).length = 1 then [(ts.getD t (0, 0)).1, (ts.getD t (0, 0)).2].filter fun h => decide (h ∉ rds (ws.take i)) else []) = _
                rw [ep]; simp [c1, c2]
              have eo : crK ts ws (i + 1) = crK ts ws i ++ [i] := by rw [crK_succ hst, eu]; rfl
              have ecw : cw n ts (actN ws) ws (i + 1) = madd (madd (cw n ts (actN ws) ws i) ((cuK n ts (actN ws) ws i).hs.getD pr.2 []) 1) ((cuK n ts (actN ws) ws i).ts.getD t []) (-1) := by rw [cw_succ hst]; unfold cwS; rw [eu]; rfl
              have T1 := T.app (i := i)
              rw [← eo] at T1
              refine ⟨_, rfl, .inl ⟨rfl, _, SqL.of T.o⟩, _, rfl, ol, _, _, rfl, rfl, T.o, szl (by rw [vn_len]; omega), ?_⟩
              generalize upd H10 ol (.lst (vn (crK ts ws i) ++ [V.int (i : Nat)])) = H12 at T1 ⊢
              have hat12 := T1.cl.s _ _ (s6 _ _ hat)
              obtain ⟨xu, exu⟩ := ex_at (l := hs) (i := pr.2) (by rw [T1.cl.h.2.1, I.ok.lh]; exact q2)
              obtain ⟨x3, ex3⟩ := ex_at (l := as) (i := t) (by rw [T1.cl.a.2.1, I.ok.lt]; exact tn)
              have g2 := T1.cl.h.2.2 pr.2 xu _ exu (getL (by rw [I.ok.lh]; exact q2))
              have g3 := T1.cl.a.2.2 t x3 _ ex3 (getL (by rw [I.ok.lt]; exact tn))
              have r2 := I.ok.row q2
              have r3 := I.ok.rowT tn
              have lm := madd_len (k := -1) (madd_len (k := 1) lcw r2) r3
              refine ⟨_, rfl, _, rfl, rl, _, rfl, .inl (SqL.of T1.r), rfl, flat_vn _, ?_⟩
              rw [inV_vn]
              refine ⟨_, rfl, iteY (decide_eq_true c1) ⟨_, rfl, _, rfl, hl, _, (pr.2 : Int), .ref xu, rfl, rfl, SqL.of T1.cl.h.1, at_i (map_at exu), ?_⟩⟩
              refine gn ?_
              dsimp only [List.set]
              refine ⟨_, rfl, _, rfl, _, rfl, _, rfl, a, _, (1 : Int), .int (t : Int), rfl, rfl, SqT.of hat12, at_i e1, al, _, (t : Int), .ref x3, rfl, rfl, SqL.of T1.cl.a.1, at_i (map_at ex3), false, false, false, cc, xu, x3, _, _, _, rfl, SqL.of T1.x, SqL.of g2, SqL.of g3, fun J hJ => ZT.lc_zip3 (K := K) (t1 := false) (t2 := false) (t3 := false) (by rw [vrow_len, vrow_len, lcw, r2]) (by rw [vrow_len, vrow_len, lcw, r3]) (fun m H3 => Same H12 H3 ∧ H3 J = some (.lst (vrow ((cw n ts (actN ws) ws (i + 1)).take m)))) ⟨same_new hJ, by rw [upd_same]; rfl⟩ (fun m H' _ ⟨s3, _⟩ => ⟨SqL.of (s3 _ _ T1.x), SqL.of (s3 _ _ g2), SqL.of (s3 _ _ g3)⟩) ?_ ?_⟩
              · rintro m x y z T0 H3 hx hy hz hT' ⟨s3, hJ3⟩
                obtain ⟨x', hx', rfl⟩ := vrow_at hx
                obtain ⟨y', hy', rfl⟩ := vrow_at hy
                obtain ⟨z', hz', rfl⟩ := vrow_at hz
                have sT := same_new (o := HO.tup [V.int x', .int y', .int z']) hT'
                refine ⟨T0, _, rfl, SqT.of upd_same, rfl, _, _, rfl, _, _, rfl, _, _, rfl, rfl, rfl, ?_⟩
                have hi := lt_at hx'
                refine ⟨_, rfl, _, rfl, _, _, rfl, rfl, _, rfl, _, _, rfl, rfl, _, sT _ _ hJ3, szl (by rw [vrow_len, List.length_take]; omega), fun c' o e => ?_, ?_⟩
                · rw [upd_ne (ne_of_none e hJ)]
                  exact sT _ _ (s3 _ _ e)
                · have e : (cw n ts (actN ws) ws (i + 1))[m]? = some (x' + y' - z') := by
                    rw [ecw]
                    unfold madd
                    rw [List.getElem?_zipWith, List.getElem?_zipWith, hx', hy', hz']
                    show some (x' + 1 * y' + -1 * z') = _
                    congr 1; omega
                  rw [upd_same, take_succ e, vrow, vrow, List.map_append]; rfl
              rintro H13 ⟨s13, hJ13⟩
              rw [List.take_of_length_le (by rw [vrow_len, ecw, lm, lcw]; exact Nat.le_refl _)] at hJ13
              exact go _ _ ⟨_, J, rfl, (T1.same s13).putX (T1.ne hJ) hJ13⟩
          · refine ⟨rfl, true, by rw [decide_eq_false c1, decide_eq_true c2]; rfl, iteT ?_⟩
            · have eu : uEnds ts (rds (ws.take i)) (.st (.mt t)) = [pr.1] := by
                show (if ([(ts.getD t (0, 0)).1, (ts.getD t (0, 0)).2].filter fun h => decide (h ∉ rds (ws.take i))).length = 1 then [(ts.getD t (0, 0)).1, (ts.getD t (0, 0)).2].filter fun h => decide (h ∉ rds (ws.take i)) else []) = _
                rw [ep]; simp [c1, c2]
              have eo : crK ts ws (i + 1) = crK ts ws i ++ [i] := by rw [crK_succ hst, eu]; rfl
              have ecw : cw n ts (actN ws) ws (i + 1) = madd (madd (cw n ts (actN ws) ws i) ((cuK n ts (actN ws) ws i).hs.getD pr.1 []) 1) ((cuK n ts (actN ws) ws i).ts.getD t []) (-1) := by rw [cw_succ hst]; unfold cwS; rw [eu]; rfl
              have T1 := T.app (i := i)
              rw [← eo] at T1
              refine ⟨_, rfl, .inl ⟨rfl, _, SqL.of T.o⟩, _, rfl, ol, _, _, rfl, rfl, T.o, szl (by rw [vn_len]; omega), ?_⟩
              generalize upd H10 ol (.lst (vn (crK ts ws i) ++ [V.int (i : Nat)])) = H12 at T1 ⊢
              have hat12 := T1.cl.s _ _ (s6 _ _ hat)
              obtain ⟨xu, exu⟩ := ex_at (l := hs) (i := pr.1) (by rw [T1.cl.h.2.1, I.ok.lh]; exact q1)
              obtain ⟨x3, ex3⟩ := ex_at (l := as) (i := t) (by rw [T1.cl.a.2.1, I.ok.lt]; exact tn)
              have g2 := T1.cl.h.2.2 pr.1 xu _ exu (getL (by rw [I.ok.lh]; exact q1))
              have g3 := T1.cl.a.2.2 t x3 _ ex3 (getL (by rw [I.ok.lt]; exact tn))
              have r2 := I.ok.row q1
              have r3 := I.ok.rowT tn
              have lm := madd_len (k := -1) (madd_len (k := 1) lcw r2) r3
              refine ⟨_, rfl, _, rfl, rl, _, rfl, .inl (SqL.of T1.r), rfl, flat_vn _, ?_⟩
              rw [inV_vn]
              refine ⟨_, rfl, iteN (decide_eq_false c1) ⟨_, rfl, _, rfl, hl, _, (pr.1 : Int), .ref xu, rfl, rfl, SqL.of T1.cl.h.1, at_i (map_at exu), ?_⟩⟩
              refine gn ?_
              dsimp only [List.set]
              refine ⟨_, rfl, _, rfl, _, rfl, _, rfl, a, _, (1 : Int), .int (t : Int), rfl, rfl, SqT.of hat12, at_i e1, al, _, (t : Int), .ref x3, rfl, rfl, SqL.of T1.cl.a.1, at_i (map_at ex3), false, false, false, cc, xu, x3, _, _, _, rfl, SqL.of T1.x, SqL.of g2, SqL.of g3, fun J hJ => ZT.lc_zip3 (K := K) (t1 := false) (t2 := false) (t3 := false) (by rw [vrow_len, vrow_len, lcw, r2]) (by rw [vrow_len, vrow_len, lcw, r3]) (fun m H3 => Same H12 H3 ∧ H3 J = some (.lst (vrow ((cw n ts (actN ws) ws (i + 1)).take m)))) ⟨same_new hJ, by rw [upd_same]; rfl⟩ (fun m H' _ ⟨s3, _⟩ => ⟨SqL.of (s3 _ _ T1.x), SqL.of (s3 _ _ g2), SqL.of (s3 _ _ g3)⟩) ?_ ?_⟩
              · rintro m x y z T0 H3 hx hy hz hT' ⟨s3, hJ3⟩
                obtain ⟨x', hx', rfl⟩ := vrow_at hx
                obtain ⟨y', hy', rfl⟩ := vrow_at hy
                obtain ⟨z', hz', rfl⟩ := vrow_at hz
                have sT := same_new (o := HO.tup [V.int x', .int y', .int z']) hT'
                refine ⟨T0, _, rfl, SqT.of upd_same, rfl, _, _, rfl, _, _, rfl, _, _, rfl, rfl, rfl, ?_⟩
                have hi := lt_at hx'
                refine ⟨_, rfl, _, rfl, _, _, rfl, rfl, _, rfl, _, _, rfl, rfl, _, sT _ _ hJ3, szl (by rw [vrow_len, List.length_take]; omega), fun c' o e => ?_, ?_⟩
                · rw [upd_ne (ne_of_none e hJ)]
                  exact sT _ _ (s3 _ _ e)
                · have e : (cw n ts (actN ws) ws (i + 1))[m]? = some (x' + y' - z') := by
                    rw [ecw]
                    unfold madd
                    rw [List.getElem?_zipWith, List.getElem?_zipWith, hx', hy', hz']
                    show some (x' + 1 * y' + -1 * z') = _
                    congr 1; omega
                  rw [upd_same, take_succ e, vrow, vrow, List.map_append]; rfl
              rintro H13 ⟨s13, hJ13⟩
              rw [List.take_of_length_le (by rw [vrow_len, ecw, lm, lcw]; exact Nat.le_refl _)] at hJ13
              exact go _ _ ⟨_, J, rfl, (T1.same s13).putX (T1.ne hJ) hJ13⟩
          · obtain ⟨eo, ecw⟩ := same0 (none0 ⟨fun z => absurd z c1, fun z => absurd z c2⟩)
            exact ⟨rfl, false, by rw [decide_eq_false c1, decide_eq_false c2]; rfl, iteF (go _ _ ⟨_, cc, rfl, by rw [eo, ecw]; exact T⟩)⟩
    · rintro σ H9 ⟨v3, v5, v14, v15, v16, v17, v18, v19, rl, tt, cc, ul, hs, as, rfl, T⟩
      rw [List.length_map, hwa.1, unK_all, crK_all] at T
      refine ⟨_, rfl, _, rfl, _, rfl, _, rfl, _, rfl, (by show 5 ≤ sizeLine; decide), fun r hr => ?_⟩
      have sr := same_new (o := HO.lst [V.ref tt, .ref cc, .ref ul, .ref ol, .ref D1]) hr
      have T' := T.same sr
      exact q r tt cc ul ol D1 _ (s6.trans T'.cl.s) (s6.free (T.cl.s.free hr)) upd_same T'.t T'.x T'.q T'.o (T'.cl.s _ _ hD1')
end
end K1
/-! several clauses 'except x as n', the same n -/
namespace K1
open PySem PySem.Spec PyProof.Rows L2
/-- what the clauses wish of an exception of the body, one after the other; slot i is the name's -/
def wAll (K : PySem.W.Frag) (i : Nat) (Wout : WX) (D : Ends) : List (Value × (Addr → Value → Option Addr → TS)) → WX
  | [] => Wout
  | (c, ts) :: r => fun cls d σ H => ∃ b, PySem.W.exmOne K cls c = some b ∧ (b = true → ∀ a, H a = none → ts a cls d { nx := fun σ' H' => D.nx (σ'.set i none) H', rt := D.rt, bk := fun σ' H' => D.bk (σ'.set i none) H', ct := fun σ' H' => D.ct (σ'.set i none) H' } (σ.set i (some (.ref a))) H) ∧
      (b = false → wAll K i Wout D r cls d σ H)
inductive HdsA (X : Cx) (n : Str) : List ExceptHandler → List (Value × (Addr → Value → Option Addr → TS)) → Prop
  | nil : HdsA X n [] []
  | cons {x : Str} {c : Value} {ts : Addr → Value → Option Addr → TS} {b₀ : Stmt} {suite : List Stmt} {np pos' : Pos} {hds : List ExceptHandler} {l : List (Value × (Addr → Value → Option Addr → TS))} (hc : Names X x c)
      (hsu : ∀ (a : Addr) (oe : Obj) (cls : Value) (d : Option Addr) (pn : List (Addr × Obj)), Zc cls d oe → (∃ vs, oe.data = .fields vs) → PSs (X.suite a ((a, oe) :: pn)) (b₀ :: suite) (ts a cls d)) (r : HdsA X n hds l) :
      HdsA X n (.ExceptHandler (some (.Name x np)) (some n) (b₀ :: suite) pos' :: hds) ((c, ts) :: l)
section
variable {X : Cx} {n : Str} {i : Nat} {body : List Stmt} {h₀ : ExceptHandler} {hds : List ExceptHandler} {l : List (Value × (Addr → Value → Option Addr → TS))} {pos : Pos} {tb : WX → TS} {Wout : WX}
theorem ps_try_all (hs : X.stack = X.env :: X.outer) (hf : X.env.frame = some X.env.locals) (hN : X.N.Nodup) (hi : X.N[i]? = some n) (hln : X.env.kindOf n = some .local) (tk : Takes X Wout)
    (hb : ∀ (W : WX) (pn : List (Addr × Obj)) (xe : Value → Shared → Prop), Takes (X.tr pn xe) W → PassesOwn (model X.prog X.w) X.A X.env xe → PSs (X.tr pn xe) body (tb W))
    (hh : HdsA X n (h₀ :: hds) l) : PS X (.Try body (h₀ :: hds) [] [] pos) (fun D σ H => tb (wAll X.K i Wout D l) D σ H) := by
  refine ⟨fun pins s σ H D I h => ?_⟩
  have ok := I.ok
  have hfr : X.A.frames = some (X.env :: X.outer) := by rw [ok.frames, hs]
  have hloc : Loc X.env.scope n := .inl hln
  refine wpAny_Try_except ?_
  refine wpAny_mono ((hb (wAll X.K i Wout D l) (X.pn ++ pins) (fun e s₁ => wpAny (model X.prog X.w) X.A (noteFrame e X.env) (fun _ s₂ => wpAny (model X.prog X.w) X.A (setFlight e none) (fun _ s₃ =>
    wpAny (model X.prog X.w) X.A (handleBy e X.env (h₀ :: hds)) (SP X pins D) X.xe s₃) X.xe s₂) X.xe s₁) (fun u s' xx => ?_) PassesOwn.looking).run [] s σ H D (I.toTry _) h) (fun f s1 hsp => ?_) (fun e s1 he => he)
  · -- the catch
    obtain ⟨a, B, sI, pins', σ', H', cls, d, rfl, J', nb, up, sky, na, os, ag, w⟩ := xx
    have J : Inv X pins σ' H' sI := J'.ofTry ok
    have sky' : Sky B (X.env :: X.outer) a (Zc cls d) X.env.locals s'.heap := by rw [← hs]; exact sky
    show wpAny (model X.prog X.w) X.A (noteFrame (.ref a) X.env) _ _ _
    refine Sky.land Zc.steady hfr hf sky' fun h3 fl3 up3 => ?_
    have J3 : Inv X pins σ' H' { s' with heap := h3 } := J.landed nb fl3.1 (up.trans up3) os ag
    obtain ⟨oe3, vs3, he3, hz3, hd3⟩ := fl3.there
    have notFr : ∀ {h : Heap} {o : Obj} {vs : Array Value}, h.FunFrames B (X.env :: X.outer) → h.get? a = some o → o.data = .fields vs → a ∉ frs (X.env :: X.outer) := fun {h o vs} ff e dd hm => by
      obtain ⟨_, o', e', hnf⟩ := ff.mem hm
      rw [e] at e'; cases e'
      exact hnf _ dd
    have nfr := notFr fl3.2.2.1 he3 hd3
    have nL : a ≠ X.env.locals := fun z => nfr (List.mem_filterMap.mpr ⟨X.env, List.mem_cons_self, by rw [hf, z]⟩)
    have nF : a ∉ X.fs := fun hm => by
      obtain ⟨e, he, q⟩ := List.mem_filterMap.mp hm
      exact nfr (List.mem_filterMap.mpr ⟨e, List.mem_cons_of_mem _ he, q⟩)
    have S3 := J3.suite he3 hd3 na nL nF
    have go : ∀ {hds' : List ExceptHandler} {l' : List (Value × (Addr → Value → Option Addr → TS))}, HdsA X n hds' l' → wAll X.K i Wout D l' cls d σ' H' →
        wpAny (model X.prog X.w) X.A (handleBy (.ref a) X.env hds') (SP X pins D) X.xe { s' with heap := h3 } := by
      intro hds' l' hk
      induction hk with
      | nil =>
        intro w
        refine wpAny_handleBy_nil ?_
        obtain ⟨k1, k2, k3, oe, vs, T, oT, ts', he, hz, hd, h1, hr⟩ := id fl3
        unfold PySem.passOn
        refine wpAny_bind (wpAny_field he hd h1 ?_)
        rw [if_neg (show ¬ ((Value.ref T == Value.none) = true) from by simp)]
        have fin : wpAny (model X.prog X.w) X.A (setFlight (.ref a) X.env.frame) (fun _ s4 => wpAny (model X.prog X.w) X.A (throw (.ref a) : Sem Flow) (SP X pins D) X.xe s4) X.xe { s' with heap := h3 } := by
          rw [hf]
          refine HandSPX.setFlight_upZ fl3 fun h4 hh4 up4 => wpAny_throw (tk _ _ ?_)
          exact ⟨a, B, sI, pins, σ', H', cls, d, rfl, J, nb, (up.trans up3).trans up4, .inr (.inr (by rw [hs]; exact hh4)), na, os, ag, w⟩
        first
          | exact wpAny_bind (wpAny_pure (wpAny_bind fin))
          | exact wpAny_bind fin
      | @cons x c ts b₀ suite np pos' hds2 l2 hc hsu r ih =>
        intro w
        obtain ⟨b, hb1, hyes, hno⟩ := w
        refine wpAny_handleBy_cons (codeAny_handlers_test ?_) (by intro q; cases q)
        have LT : PySem.W.Looks (model X.prog X.w) h3 (typeOf (.ref a)) cls := fun A Q E s k q => wpAny_typeOf_ref (k _ _ he3) (by rw [hz3.1]; exact q)
        have LM := PySem.W.exm_one (M := model X.prog X.w) (J3.kIn) LT hb1
        have test : ∀ {Q : Value → Shared → Prop} {E : Value → Shared → Prop}, Q c { s' with heap := h3 } → wpAny (model X.prog X.w) (X.A.mark (some (.ref a))) (eval (.Name x np) X.env) Q E { s' with heap := h3 } := fun {Q E} q => by
          obtain ⟨hg, hdbg, hm | ⟨hm, hv, hnn⟩⟩ := hc
          · exact ld_glob (X := X.suite a ((a, oe3) :: (X.pn ++ pins))) S3 hg hm q hdbg
          · exact ld_blt (X := X.suite a ((a, oe3) :: (X.pn ++ pins))) S3 hg hm hv q hnn hdbg
        refine test (LM.here ?_)
        cases b with
        | true =>
          refine codeAny_handlers_suite_as ?_
          refine HandSPX.lands_againZ fl3 fun h4 fl4 up4 => ?_
          have J4 : Inv X pins σ' H' { s' with heap := h4 } := J.landed nb fl4.1 ((up.trans up3).trans up4) os ag
          obtain ⟨oe4, vs4, he4, hz4, hd4⟩ := fl4.there
          have S4 := J4.suite he4 hd4 na nL nF
          refine store_ok (X := X.suite a ((a, oe4) :: (X.pn ++ pins))) (v := .ref a) S4 hN hi hloc rfl (fun s5 S5 => ?_) (.inr hln)
          refine wpAny_mono ((hsu a oe4 cls d (X.pn ++ pins) hz4 ⟨_, hd4⟩).run [] s5 _ H' _ S5 (hyes rfl a na)) (fun f s6 hsp => ?_) (fun _ _ z => False.elim z)
          have end_ : ∀ {σ6 : L2.St} {H6 : Hp} {Q : Shared → Prop}, Inv (X.suite a ((a, oe4) :: (X.pn ++ pins))) [] σ6 H6 s6 → (∀ s7, Inv X pins (σ6.set i none) H6 s7 → Q s7) →
              wpAny (model X.prog X.w) X.A (do bindName X.env n .none; unbindBehindTheSuite X.env n pos') (fun _ s7 => Q s7) X.xe s6 := fun {σ6 H6 Q} S6 hq => gone_ok (S6.unsuite ok) hN hi hln hq
          cases f with
          | next =>
            obtain ⟨σ6, H6, S6, q6⟩ := hsp
            exact end_ S6 fun s7 J7 => ⟨_, _, J7, q6⟩
          | brk =>
            obtain ⟨σ6, H6, S6, q6⟩ := hsp
            exact end_ S6 fun s7 J7 => ⟨_, _, J7, q6⟩
          | cont =>
            obtain ⟨σ6, H6, S6, q6⟩ := hsp
            exact end_ S6 fun s7 J7 => ⟨_, _, J7, q6⟩
          | ret u =>
            obtain ⟨v6, σ6, H6, S6, r6, q6⟩ := hsp
            exact end_ S6 fun s7 J7 => ⟨_, _, _, J7, r6, q6⟩
        | false =>
          show wpAny _ X.A (handleBy (.ref a) X.env hds2) _ _ _
          exact ih (hno rfl)
    exact go hh w
  · cases f with
    | next =>
      obtain ⟨σ', H', J', q⟩ := hsp
      exact wpAny_execs_nil ⟨σ', H', J'.ofTry ok, q⟩
    | brk =>
      obtain ⟨σ', H', J', q⟩ := hsp
      exact ⟨σ', H', J'.ofTry ok, q⟩
    | cont =>
      obtain ⟨σ', H', J', q⟩ := hsp
      exact ⟨σ', H', J'.ofTry ok, q⟩
    | ret u =>
      obtain ⟨v, σ', H', J', r, q⟩ := hsp
      exact ⟨v, σ', H', J'.ofTry ok, r, q⟩
end
end K1
namespace K1
open PySem PySem.Spec PyProof.Rows L2
theorem takes_len {X : Cx} {W : WX} (tk : Takes X W) : Takes X (fun cls d σ H => σ.length = X.N.length → W cls d σ H) := fun u s' ⟨a, B, sI, pins', σ', H', cls, d, e, J, nb, up, sky, na, os, ag, w⟩ =>
  tk u s' ⟨a, B, sI, pins', σ', H', cls, d, e, J, nb, up, sky, na, os, ag, w J.len⟩
/-- isinstance(e, N) in a suite, the exception's dict with any fields -/
def rIsF (K : PySem.W.Frag) (C : Addr) (cls : Value) (d : Option Addr) (a : Addr) : List V → Hp → VK → Prop := fun xs H Q => ∃ (dd N : Addr) (fs : List (Str × V)) (b : Bool), cls = .ref C ∧ d = some dd ∧ xs = [.ref a, .ref N] ∧ H dd = some (.xd fs) ∧ PySem.W.kitOne K (.ref C) (.ref N) = some b ∧ Q (.bl b) H
theorem call_isF {X : Cx} {a C : Addr} {cls : Value} {d : Option Addr} {oe : Obj} {pn : List (Addr × Obj)} (T : ExcK X.K C) (hz : Zc cls d oe) (hf : ∃ vs, oe.data = .fields vs) : CallR (X.suite a ((a, oe) :: pn)) (.builtin "isinstance") (rIsF X.K C cls d a) := by
  intro pins s σ H xs us Q I r h
  obtain ⟨dd, N, fs, b, rfl, rfl, rfl, hx, e, q⟩ := h
  obtain ⟨u1, u2, rfl, r1, r2⟩ := vals2 r
  cases r1
  cases r2
  obtain ⟨hget, _⟩ := I.pin (a, oe) (List.mem_append.mpr (.inl List.mem_cons_self))
  obtain ⟨vs, hd⟩ := hf
  have hx' : ObjOk X.prog X.w H s.heap dd (.xd fs) := I.hok dd _ hx
  obtain ⟨mA, hns, hr⟩ := hx'
  obtain ⟨od, ho, hl⟩ := lookIn_ns hns
  have J : PySem.W.InstAt s.heap a oe C (some od) := ⟨hget, hz.1, by unfold PySem.W.notCls; rw [hd] <;> rfl, by rw [hz.2]; exact ho⟩
  exact PySem.W.kia_one (PySem.W.kitx_exc T.cl T.ga T.gt T.sb T.ca T.sp T.tk T.mo) I.kIn J e (fun z => nomatch z) fun tk => ⟨.bl b, H, I.kept (t' := tk) fun _ _ z => z, rfl, q⟩
/-- x is the text that repr gives for v -/
def RS (v : V) (x : Str) : Prop := ∀ (H : Hp) (Q : VK), Q (.str x) H → rReprS [v] H Q
/-- what tells the classes apart -/
structure Exm (K : PySem.W.Frag) (CB CR N : Addr) : Prop where
  br : PySem.W.exmOne K (.ref CB) (.ref CR) = some false
  bb : PySem.W.exmOne K (.ref CB) (.ref CB) = some true
  ib : PySem.W.kitOne K (.ref CB) (.ref N) = some true
  xb : ExcK K CB
/-- no statement that is run -/
theorem pss_no {X : Cx} {L : List Stmt} : PSs X L (fun _ _ _ => False) := ⟨fun _ _ _ _ _ _ h => h.elim⟩
/-- what the law hears of an error -/
def HE (K : PySem.W.Frag) (CB : Addr) (Q : VK) : XK := fun cls d H => ∃ dd : Addr, d = some dd ∧ cls = .ref CB ∧ ∃ v, H dd = some (.xd [("at", v)]) ∧ ∃ x, RS v x ∧ ∀ p H', Same H H' → H' p = some (.lst [.str "steps", .str x, .bl true]) → Q (.ref p) H'
def TTh (K : PySem.W.Frag) (CB : Addr) : (XK → Hp → VK → Prop) → Hp → VK → Prop := fun tl H Q => tl (HE K CB Q) H fun _ _ => False
theorem scHe : FnScope ["_law_call", "fault"] ["_law_call"] (defScope sLFault) := ⟨rfl, rfl, rfl, by decide +kernel, rfl, by decide +kernel, by decide +kernel⟩
theorem heard_gives {X : Cx} {CB CR CU CH CS N i0 g : Addr} {k : Nat} {b0 : List Value} {q0 : Str} {cdg : Value} {q : Str} (B : Bt X.mg) (T0 : LAt.Txt X.K X.mg "BadSteps" q0 b0 CB i0) (gR : X.mg "Refused" = some (.ref CR)) (gU : X.mg "Uncommuting" = some (.ref CU)) (gH : X.mg "NoHouse" = some (.ref CH)) (gS : X.mg "NoState" = some (.ref CS))
    (hN : X.mg "NetError" = some (.ref N)) (ex : Exm X.K CB CR N) (hr : Room (k + 2) X.A) :
    LamX.GivesTo X ["_law_call", "fault"] "_law_fault" (defScope sLFault) g cdg (defBody sLFault) "_law_call" q (TTh X.K CB) := by
  intro f c' s H Q tl act hc h
  generalize hZ : (cxOf C8.CX0 X.prog X.w X.K X.mg X.base ["_law_call", "fault"] "_law_fault" (defScope sLFault) g cdg X.A X.stack s H C8.E0) = Z at act ⊢
  subst hZ
  refine ⟨_, pss_cons (ps_try_all (n := "fault") (i := 1) (tb := fun W D σ H => ∃ Ech : XK, (∀ cls d (σ' : L2.St) H', σ'.length = 2 → Ech cls d H' → W cls d σ' H') ∧ σ[0]? = some (some (.ref f)) ∧ H c' = some (LamX.CodeO c' q) ∧ tl Ech H fun v H1 => D.nx σ H1)
      rfl rfl scHe.nd rfl rfl LamX.takes0 (fun W pn xe tk _ => ?_)
      (.cons (c := .ref CR) ⟨rfl, by decide, .inl gR⟩ (fun a oe cls d pn hz hf => pss_no)
      (.cons (c := .ref CB) ⟨rfl, by decide, .inl T0.gC⟩ (fun a oe cls d pn hz hf => pss_one (ps_ret (pe_lst (pa_cons pe_str (pa_cons (pe_callB call_reprS rfl B.repr (by decide +kernel) (pa_cons (pe_by_LAt T0 hz hf (pv 1)) pa_nil)) (pa_cons (pe_callB (call_isF ex.xb hz hf) rfl B.isinstance (by decide +kernel) (pa_cons (pv 1) (pa_cons (pe_glob (v := .ref N) rfl hN rfl) pa_nil))) pa_nil))))))
      (.cons (c := .ref CU) ⟨rfl, by decide, .inl gU⟩ (fun a oe cls d pn hz hf => pss_no)
      (.cons (c := .ref CH) ⟨rfl, by decide, .inl gH⟩ (fun a oe cls d pn hz hf => pss_no)
      (.cons (c := .ref CS) ⟨rfl, by decide, .inl gS⟩ (fun a oe cls d pn hz hf => pss_no)
      .nil)))))) pss_no, ?_⟩
  · refine ⟨fun pins s' σ H' D I h' => ?_⟩
    obtain ⟨Ech, hW, h1, h2, h3⟩ := h'
    have hp := fun p1 p2 => act (fun cls d σ H => σ.length = 2 → W cls d σ H) pn xe Ech p1 p2 (takes_len tk) (fun cls d σ' H' e hl => hW cls d σ' H' hl e)
    exact (pss_one (ps_expr (hp _ _))).run pins s' σ H' D I ⟨h1, h2, h3⟩
  · refine ⟨HE X.K CB Q, fun cls d σ' H' hl he => ?_, rfl, hc, h⟩
    obtain ⟨dd, rfl, rfl, v, hx, x, rs, k⟩ := he
    obtain ⟨v0, v1, rfl⟩ : ∃ v0 v1, σ' = [v0, v1] := by
      match σ', hl with
      | [v0, v1], _ => exact ⟨v0, v1, rfl⟩
    refine ⟨false, ex.br, fun z => (by cases z), fun _ => ⟨true, ex.bb, fun _ a na => ?_, fun z => (by cases z)⟩⟩
    refine ⟨_, rfl, rfl, rfl, dd, v, rfl, hx, ?_⟩
    unfold tNil
    dsimp only
    exact rs _ _ ⟨_, rfl, dd, N, _, true, rfl, rfl, rfl, hx, ex.ib, (by show 3 ≤ sizeLine; decide), fun p hp => k p _ (same_new hp) upd_same⟩
structure FunC (K : PySem.W.Frag) (x qual : Str) (st : Stmt) (f : Addr) (fd : FuncData) (cdv : Value) : Prop where
  ex : ∃ (oc : Value) (od : Option Addr) (kV doc pm : Value) (an : Option Addr) (ct : Value) (osl : Array (Option Value)),
    fd = PySem.W.fnOf x qual (defArgs st) (defBody st) (defScope st) .none kV doc pm an cdv ct ∧ K.lookup f = some ⟨oc, od, .func fd, osl⟩ ∧ PySem.W.codeIn K cdv qual = true
  kp : PySem.W.keepIn K (.ref f) = true
theorem FunC.fun {K : PySem.W.Frag} {x qual : Str} {st : Stmt} {f : Addr} {fd : FuncData} {cdv : Value} (F : FunC K x qual st f fd cdv) : Fun K x qual st f fd := by
  obtain ⟨⟨oc, od, kV, doc, pm, an, ct, osl, h1, h2, h3⟩, kp⟩ := F
  exact ⟨⟨oc, od, kV, doc, pm, an, cdv, ct, osl, h1, h2, h3⟩, kp⟩
section
variable {P : Program} {w : World} {K : PySem.W.Frag} {mg : Str → Option Value} {base : Heap}
theorem FunC.ok {x qual : Str} {st : Stmt} {f : Addr} {fd : FuncData} {cdv : Value} {N ps : List Str} {k : Nat} {sp : Sp} (F : FunC K x qual st f fd cdv) (S : FnScope N ps (defScope st)) (len : ∀ vs H Q E, sp vs H Q E → vs.length = ps.length)
    (hbody : ∀ (A : Around) (outer : List Env) (s : Shared) (H : Hp) (vs : List V) (Q : VK) (E : XK), Room k (A.deeper (envOfC qual (defScope st) s.heap.objs.size f cdv)) → sp vs H Q E →
      ∃ t, PSs (cxOf CX0 P w K mg base N qual (defScope st) f cdv A outer s H E).nox (defBody st) t ∧ t { nx := fun _ H' => Q .non H', rt := Q } (start N vs) H) : FnOk P w K mg base CX0 (k + 1) f fd ps sp := by
  obtain ⟨oc, od, kV, doc, pm, an, ct, osl, rfl, lk, hcd⟩ := F.ex
  refine fn_of lk hcd S len fun A outer s H vs Q E hr hsp => ?_
  obtain ⟨t, h, q⟩ := hbody A outer s H vs Q E hr hsp
  exact ⟨t, h.nox, q⟩
theorem FunC.okG {x qual : Str} {st : Stmt} {f : Addr} {fd : FuncData} {cdv : Value} {N ps : List Str} {k : Nat} {sp : Sp} (F : FunC K x qual st f fd cdv) (S : FnScope N ps (defScope st)) (len : ∀ vs H Q E, sp vs H Q E → vs.length = ps.length)
    (hbody : ∀ (A : Around) (outer : List Env) (s : Shared) (H : Hp) (vs : List V) (Q : VK) (E : XK), Room k (A.deeper (envOfC qual (defScope st) s.heap.objs.size f cdv)) → (A.deeper (envOfC qual (defScope st) s.heap.objs.size f cdv)).guards = some [] → sp vs H Q E →
      ∃ t, PSs (cxOf CX0 P w K mg base N qual (defScope st) f cdv A outer s H E).nox (defBody st) t ∧ t { nx := fun _ H' => Q .non H', rt := Q } (start N vs) H) : FnG P w K mg base (k + 1) f fd ps sp := by
  obtain ⟨oc, od, kV, doc, pm, an, ct, osl, rfl, lk, hcd⟩ := F.ex
  refine ⟨len, fun A outer s H args us vs Q E hr hgd e0 hb r hsp => ?_⟩
  refine LamX.run_ofS lk hcd S hr e0 hb r (len _ _ _ _ hsp) fun hr' => ?_
  obtain ⟨t, h, q⟩ := hbody A outer s H vs Q E hr' hgd hsp
  exact ⟨t, h.nox, q⟩
end
structure Hd (K : PySem.W.Frag) (mg : Str → Option Value) (base : Heap) (CB : Addr) : Prop where
  B : Bt mg
  df : ∃ g fd, Df K mg "_law_fault" sLFault ["_law_call"] g fd
  t0 : ∃ q b i, LAt.Txt K mg "BadSteps" q b CB i
  ex : ∃ N CR CU CH CS, mg "NetError" = some (.ref N) ∧ mg "Refused" = some (.ref CR) ∧ mg "Uncommuting" = some (.ref CU) ∧ mg "NoHouse" = some (.ref CH) ∧ mg "NoState" = some (.ref CS) ∧ Exm K CB CR N
theorem pHeard {X : Cx} {c P CB : Addr} {k : Nat} {qn : Str} {T : List (Addr × Str)} {params : Arguments} {body : Expr} {scope : Scope} {t : XK → TE} {p lpos pos : Pos} (hd : Hd X.K X.mg X.base CB) (TB : LamX.TabB X.base X.mg c P) (hr : Room (k + 2) X.A) (hcode : X.env.code = .ref c)
    (hq : X.env.qual ++ "<lambda>" = qn) (hm : (P, qn) ∈ T) (hun : ∀ p ∈ T, p.1 = P → p.2 = qn) (hg : Gl X "_law_fault") (L : LamX.LamS X.env.scope scope) (hdef : defaultsOf params X.env = ([], []))
    (hbind : ∀ (q : Str) (cl : List (Str × Addr)) (pm cv ctv : Value), bindArgs (PySem.W.kla_fn "<lambda>" q params body scope cl pm cv ctv) ⟨[], []⟩ = pure [])
    (hbody : ∀ (A : Around) (outer : List Env) (s : Shared) (H : Hp) (E : XK) (f c' : Addr), Room k (A.deeper (LamX.lamEnv X scope s.heap.objs.size f c')) → PE (LamX.lamCx X A outer s H E scope f c') body (t E)) :
    PE X (.Call (.Name "_law_fault" p) [.Lambda params body scope lpos] [] pos) (LamX.tLam T (TTh X.K CB) t) := by
  obtain ⟨g, fd, D⟩ := hd.df
  obtain ⟨q0, b0, i0, T0⟩ := hd.t0
  obtain ⟨N, CR, CU, CH, CS, hN, gR, gU, gH, gS, ex⟩ := hd.ex
  have hb := D.b
  obtain ⟨oc, od, kV, doc, pm, an, cdv, ct, osl, rfl, lk, hcd⟩ := D.F.ex
  exact LamX.pe_lamcall (a := "_law_call") hg D.g D.F.kp lk hcd hb scHe rfl (.inl rfl) (heard_gives hd.B T0 gR gU gH gS hN ex hr) TB hcode (by rw [hq]; exact hm) (fun p hp e => by rw [hq]; exact hun p hp e) hr L hdef hbind hbody
section
variable {P : Program} {w : World} {K : PySem.W.Frag} {mg : Str → Option Value} {base : Heap}
theorem okG {x qual : Str} {st : Stmt} {f : Addr} {fd : FuncData} {N ps : List Str} {k : Nat} {sp : Sp} (F : Fun K x qual st f fd) (S : FnScope N ps (defScope st)) (len : ∀ vs H Q E, sp vs H Q E → vs.length = ps.length)
    (hbody : ∀ (cdv : Value) (A : Around) (outer : List Env) (s : Shared) (H : Hp) (vs : List V) (Q : VK) (E : XK), Room k (A.deeper (envOfC qual (defScope st) s.heap.objs.size f cdv)) → (A.deeper (envOfC qual (defScope st) s.heap.objs.size f cdv)).guards = some [] → sp vs H Q E →
      ∃ t, PSs (cxOf CX0 P w K mg base N qual (defScope st) f cdv A outer s H E).nox (defBody st) t ∧ t { nx := fun _ H' => Q .non H', rt := Q } (start N vs) H) : FnG P w K mg base (k + 1) f fd ps sp := by
  obtain ⟨oc, od, kV, doc, pm, an, cdv, ct, osl, rfl, lk, hcd⟩ := F.ex
  refine ⟨len, fun A outer s H args us vs Q E hr hgd e0 hb r hsp => ?_⟩
  refine LamX.run_ofS lk hcd S hr e0 hb r (len _ _ _ _ hsp) fun hr' => ?_
  obtain ⟨t, h, q⟩ := hbody cdv A outer s H vs Q E hr' hgd hsp
  exact ⟨t, h.nox, q⟩
end
section
variable {X : Cx} {k : Nat} {f : Addr} {fd : FuncData} {ps ks : List Str} {sp : Sp} {x : Str} {st : Stmt} {p pos : Pos} {e : Expr} {es : List Expr} {kws : List Keyword} {t tk : TA}
theorem pe_callG (D : Df X.K X.mg x st ps f fd) (G : FnG X.prog X.w X.K X.mg X.base k f fd ps sp) (hr : Room k X.A) (hgd : X.A.guards = some []) (ha : PA X (e :: es) t) (hg : Gl X x := by rfl)
    (hdb : (x == ("__debug__" : Str)) = false := by decide) (he : starEach (e :: es) X.env = (false, eval e X.env) :: starEach es X.env := by rfl) (hpl : (backTo pos (starEach es X.env)).any (·.1) = false := by rfl) :
    PE X (.Call (.Name x p) (e :: es) [] pos) (fun σ H Q => t σ H fun vs H1 => sp vs H1 Q fun _ _ _ => False) := by
  refine ⟨fun pins s σ H Q I h => ?_⟩
  refine wpAny_Call_Name_kw (ld_glob I hg D.g ?_ hdb)
  refine PySem.W.callWith_K (h₀ := X.base) I.ok.mod.kin D.F.kp (thn (ha.run pos pins s σ H _ I h) fun us s1 ⟨vs, H1, I1, r, q⟩ => ⟨I1.kIn, ?_⟩) he hpl
  have hl : us.length = ps.length := by rw [← r.length]; exact G.len _ _ _ _ q
  refine wpAny_call (codeAny_mono (G.run X.A X.stack s1 H1 ⟨us, []⟩ us vs Q (fun _ _ _ => False) hr hgd I1.env0 (by
    have z := D.b s1 us I1.kIn (by rw [List.append_nil]; exact hl)
    rw [List.append_nil] at z
    exact z) r q) fun r s' hq => ?_)
  cases r with
  | error e => exact (show False from hq).elim
  | ok fl =>
    cases fl with
    | ret u => exact I1.after hq
    | next => exact False.elim hq
    | brk => exact False.elim hq
    | cont => exact False.elim hq
theorem pe_callW {CX : CXT} {E : XK} {g : List Value → List Value → List Value} {gV : List V → List V → List V} (D : Df X.K X.mg x st ps f fd) (G : FnOk X.prog X.w X.K X.mg X.base CX k f fd ps sp) (hr : Room k X.A) (hb : KBn X.K fd ps 0 ks g gV) (hx : Passes CX X E) (hkw : PK X kws tk) (hg : Gl X x := by rfl)
    (hall : (backToKw pos (keywordEach kws X.env)).all (·.1.isSome) = true := by rfl) (hks : (backToKw pos (keywordEach kws X.env)).filterMap (·.1) = ks := by rfl) (hdb : (x == ("__debug__" : Str)) = false := by decide)
    (hpl : ((backTo pos (starEach [] X.env)).any (·.1) || (backToKw pos (keywordEach kws X.env)).any (·.1.isNone)) = false := by rfl) :
    PE X (.Call (.Name x p) [] kws pos) (fun σ H Q => tk σ H fun zs H1 => zs.length = ks.length ∧ sp (gV [] zs) H1 Q E) := by
  refine ⟨fun pins s σ H Q I h => ?_⟩
  refine wpAny_Call_Name_kw (ld_glob I hg D.g ?_ hdb)
  refine PySem.W.callWith_KW0 (h₀ := X.base) I.ok.mod.kin D.F.kp hall ?_ hpl
  refine thn (hkw.run pos pins s σ H _ I h) fun ws s2 ⟨zs, H2, I2, rz, l2, q2⟩ => ⟨I2.kIn, ?_⟩
  rw [hks]
  exact run_fnN (us := []) (vs := []) G hr hb hx I2 .nil rz rfl l2 q2
end
section
theorem call_or2 {X : Cx} {c : Value} {r q : List V → Hp → VK → Prop} (a : CallR X c r) (b : CallR X c q) : CallR X c (fun xs H Q => r xs H Q ∨ q xs H Q) := fun pins s σ H xs us Q I rv h => h.elim (a pins s σ H xs us Q I rv) (b pins s σ H xs us Q I rv)
theorem pe_or2 {X : Cx} {e : Expr} {t u : TE} (a : PE X e t) (b : PE X e u) : PE X e (fun σ H Q => t σ H Q ∨ u σ H Q) := ⟨fun pins s σ H Q I h => h.elim (a.run pins s σ H Q I) (b.run pins s σ H Q I)⟩
theorem op_or2 {X : Cx} {f : Value → Value → Sem Value} {r q : R2} (a : OpR X f r) (b : OpR X f q) : OpR X f (fun x y H Q => r x y H Q ∨ q x y H Q) := fun pins s σ H x y v u Q I rx ry h => h.elim (a pins s σ H x y v u Q I rx ry) (b pins s σ H x y v u Q I rx ry)
end
theorem BoxO.ext {b : Addr} {H1 H2 : Hp} (h : BoxO H1 b) (e : LamX.ExtN H1 H2) : BoxO H2 b := let ⟨x, y, q⟩ := h; ⟨x, y, e _ _ q (fun ps z => by cases z)⟩
theorem BoxO.nn {b p : Addr} {H : Hp} (h : BoxO H b) (hp : H p = none) : p ≠ b := (Bx.refl h).ne hp
theorem tabs_bx {b : Addr} {T : List (Addr × Str)} {H1 H2 : Hp} (t : LamX.Tabs T H1) (hb : BoxO H1 b) (x : Bx b H1 H2) : LamX.Tabs T H2 := fun p hp => by
  obtain ⟨ps, h1, h2, h3⟩ := t p hp
  refine ⟨ps, x.2 _ _ h1 (hb.ne h1 fun xs => by intro z; cases z), h2, fun pos cv hc => ?_⟩
  obtain ⟨c, e1, e2⟩ := h3 pos cv hc
  exact ⟨c, e1, x.2 _ _ e2 (hb.ne e2 fun xs => by intro z; unfold LamX.CodeO at z; cases z)⟩
structure Lw (b : Addr) (T : List (Addr × Str)) (xs : List Addr) (H H' : Hp) : Prop where
  bx : BoxO H' b
  tb : LamX.Tabs T H'
  ks : Ks (b :: xs) H H'
section
variable {b : Addr} {T : List (Addr × Str)} {xs : List Addr} {H H1 H2 : Hp}
theorem Lw.refl (hb : BoxO H b) (t : LamX.Tabs T H) : Lw b T xs H H := ⟨hb, t, Ks.refl⟩
theorem Lw.trans (a : Lw b T xs H H1) (c : Lw b T xs H1 H2) : Lw b T xs H H2 := ⟨c.bx, c.tb, a.ks.trans c.ks⟩
theorem Lw.same (a : Lw b T xs H H1) (s : Same H1 H2) : Lw b T xs H H2 := ⟨a.bx.same s, a.tb.ext s, a.ks.same s⟩
theorem Lw.new {p : Addr} {o : HO} (a : Lw b T xs H H1) (hp : H1 p = none) : Lw b T xs H (upd H1 p o) := a.same (same_new hp)
theorem ks_bx (x : Bx b H1 H2) : Ks (b :: xs) H1 H2 := fun c o e n _ => x.2 c o e fun z => n (by rw [z]; exact List.mem_cons_self)
theorem Lw.box (a : Lw b T xs H H1) (x : Bx b H1 H2) : Lw b T xs H H2 := ⟨x.1, tabs_bx a.tb a.bx x, a.ks.trans (ks_bx x)⟩
theorem Lw.ext (a : Lw b T xs H H1) (e : LamX.ExtN H1 H2) (t : LamX.Tabs T H2) : Lw b T xs H H2 := ⟨a.bx.ext e, t, a.ks.trans fun c o q _ n => e _ _ q n⟩
theorem Lw.nn {p : Addr} (a : Lw b T xs H H1) (hp : H1 p = none) : p ≠ b := a.bx.nn hp
end
theorem strOk_iff {x : Str} : PyData.strOk x = true ↔ ∀ c ∈ x.cps.toList, c < 0x110000 := by
  unfold PyData.strOk
  rw [← Array.all_toList, List.all_eq_true]
  exact ⟨fun h c hc => of_decide_eq_true (h c hc), fun h c hc => decide_eq_true (h c hc)⟩
theorem ok_int (i : Int) : PyData.strOk (PyData.int i).shown = true := strOk_iff.mpr fun c hc => by
  by_cases z : c ≠ 45 ∧ (c < 48 ∨ 57 < c)
  · exact absurd hc (shown_int_free' z i)
  · omega
theorem TiesT.kp {H H' : Hp} {ta : Addr} {ts : Prs} (h : TiesT H ta ts) (k : ∀ a xs, H a = some (.tup xs) → H' a = some (.tup xs)) : TiesT H' ta ts := let ⟨as, h1, h2⟩ := h; ⟨as, k _ _ h1, h2.kp k⟩
theorem WebAt.kp {W w : Addr} {H H' : Hp} {n : Nat} {ts : Prs} (h : WebAt W H w n ts) (k : ∀ a xs, H a = some (.tup xs) → H' a = some (.tup xs)) (k2 : ∀ dx fs, H w = some (.ins W dx fs) → H' w = some (.ins W dx fs)) : WebAt W H' w n ts := let ⟨dx, ta, h1, h2⟩ := h; ⟨dx, ta, k2 _ _ h1, h2.kp k⟩
theorem Lw.webK {W b w : Addr} {T : List (Addr × Str)} {H H' : Hp} {n : Nat} {ts : Prs} (hb : BoxO H b) (l : Lw b T [] H H') (h : WebAt W H w n ts) : WebAt W H' w n ts :=
  h.kp (fun a xs e => l.ks.tup e (by rw [List.mem_singleton]; exact hb.ne e fun xs => by intro z; cases z)) fun dx fs e => l.ks.ins e (by rw [List.mem_singleton]; exact hb.ne e fun xs => by intro z; cases z)
theorem Lw.lstK {b a : Addr} {T : List (Addr × Str)} {H H' : Hp} {xs : List V} (l : Lw b T [] H H') (h : H a = some (.lst xs)) (n : a ≠ b) : H' a = some (.lst xs) := l.ks.lst h (by rw [List.mem_singleton]; exact n)
theorem nn1 {σ : L2.St} {H : Hp} {Q : List V → Hp → Prop} (h : Q [.non] H) : tCons (tC .non) tNil σ H Q := h
theorem nn2 {σ : L2.St} {H : Hp} {Q : List V → Hp → Prop} (h : Q [.non, .non] H) : tCons (tC .non) (tCons (tC .non) tNil) σ H Q := h
end K1
namespace K1
open PySem PySem.Spec PyProof.Rows L2
/-! ### sums stay small -/
section
variable {n d : Nat} {ps : Prs} {ws : List Pc}
theorem sum_bd {B : Int} : ∀ (l : List Int), (∀ x ∈ l, 0 ≤ x ∧ x ≤ B) → 0 ≤ l.sum ∧ l.sum ≤ l.length * B
  | [], _ => by simp
  | x :: l, h => by
    have h1 := h x List.mem_cons_self
    have h2 := sum_bd l fun y hy => h y (List.mem_cons_of_mem _ hy)
    rw [List.sum_cons, List.length_cons, show ((l.length + 1 : Nat) : Int) = (l.length : Int) + 1 from rfl, Int.add_mul, Int.one_mul]
    omega
theorem trd_len (h : Nat) (R : List Nat) : (trd ps h R).length ≤ ps.length := by
  unfold trd
  rw [List.length_map]
  refine Nat.le_trans (List.length_filter_le _ _) ?_
  have key : ∀ m, m ≤ ps.length → (wOnK ps h m).length ≤ m := by
    intro m
    induction m with
    | zero => intro _; exact Nat.le_refl _
    | succ m ih =>
      intro hm
      obtain ⟨p, hp⟩ := ex_at (show m < ps.length by omega)
      rw [wOnK_succ hp, List.length_append]
      have := ih (by omega)
      split <;> simp <;> omega
  exact key _ (Nat.le_refl _)
theorem pow_mono {i j : Nat} (h : i ≤ j) : (2 : Int) ^ i ≤ 2 ^ j := by
  induction j with
  | zero => rw [Nat.le_zero.mp h]; exact Int.le_refl _
  | succ j ih =>
    rcases Nat.lt_or_ge j i with c | c
    · rw [show i = j + 1 by omega]; exact Int.le_refl _
    · have := ih c
      have p := two_pos j
      rw [two_succ]; omega
theorem cu_bd (hW : Wv n ps) (ok : ∀ p ∈ ws, okP n ps.length d p) {i a : Nat} : (∀ h, 0 ≤ (cuK n ps (actN ws) ws i).h h a ∧ (cuK n ps (actN ws) ws i).h h a ≤ 2 ^ i) ∧ ∀ t, t < ps.length → 0 ≤ (cuK n ps (actN ws) ws i).t t a ∧ (cuK n ps (actN ws) ws i).t t a ≤ 2 ^ i := by
  have I := cuK_cur hW ok i (Nat.le_refl (actN ws))
  have lb : (sts (ws.take i)).length ≤ i := Nat.le_trans (sts_len _) (by rw [List.length_take]; omega)
  have pm := pow_mono lb
  refine ⟨fun h => ⟨I.nn h a, Int.le_trans (I.bd h a) pm⟩, fun t ht => ?_⟩
  obtain ⟨p, hp⟩ := ex_at ht
  obtain ⟨u1, u2, _⟩ := I.up t p a hp
  exact ⟨u1, Int.le_trans u2 (Int.le_trans (I.bd _ a) pm)⟩
theorem sw_bd (hW : Wv n ps) (ok : ∀ p ∈ ws, okP n ps.length d p) {a : Nat} (ha : a < actN ws) : ∀ i, i ≤ ws.length → -(21 * 2 ^ i) ≤ (sw n ps (actN ws) ws i).getD a 0 ∧ (sw n ps (actN ws) ws i).getD a 0 ≤ 21 * 2 ^ i
  | 0, _ => by
    have z0 : (sw n ps (actN ws) ws 0).getD a 0 = 0 := by
      show (List.replicate (actN ws) (0 : Int)).getD a 0 = 0
      rw [List.getD_eq_getElem?_getD, List.getElem?_replicate]; split <;> rfl
    rw [z0]; exact ⟨by decide, by decide⟩
  | i + 1, hi => by
    obtain ⟨p, hp⟩ := ex_at (show i < ws.length by omega)
    have ih := sw_bd hW ok ha i (by omega)
    have I := cuK_cur hW ok i (Nat.le_refl (actN ws))
    have hok := ok p (List.mem_of_getElem? hp)
    have lsw := sw_len hW ok (Nat.le_refl (actN ws)) i (by omega)
    have tw := two_succ i
    have tp := two_pos i
    rw [sw_succ hp]
    cases p with
    | rd h =>
      have hh : h < n := hok
      have lr := I.ok.row hh
      have fm := foldM_at I.ok ha (trd ps h (rds (ws.take i))) (madd (sw n ps (actN ws) ws i) ((cuK n ps (actN ws) ws i).hs.getD h []) 1) (fun t ht => trd_lt ht) (madd_len lsw lr)
      rw [madd_at lsw lr ha] at fm
      have fm : (swS ps (cuK n ps (actN ws) ws i) (rds (ws.take i)) (sw n ps (actN ws) ws i) (.rd h)).getD a 0 = (sw n ps (actN ws) ws i).getD a 0 + 1 * (cuK n ps (actN ws) ws i).h h a - ((trd ps h (rds (ws.take i))).map fun t => (cuK n ps (actN ws) ws i).t t a).sum := fm
      obtain ⟨b1, b2⟩ := cu_bd (i := i) (a := a) hW ok
      have s := sum_bd (B := 2 ^ i) ((trd ps h (rds (ws.take i))).map fun t => (cuK n ps (actN ws) ws i).t t a) (fun x hx => by
        obtain ⟨t, ht, rfl⟩ := List.mem_map.mp hx
        exact b2 t (trd_lt ht))
      rw [List.length_map] at s
      have l20 : (trd ps h (rds (ws.take i))).length ≤ 20 := Nat.le_trans (trd_len _ _) hW.t20
      have lm : ((trd ps h (rds (ws.take i))).length : Int) * 2 ^ i ≤ 20 * 2 ^ i := Int.mul_le_mul_of_nonneg_right (by omega) (by omega)
      have bh := b1 h
      rw [fm, tw]
      omega
    | st s =>
      show -(21 * 2 ^ (i + 1)) ≤ (sw n ps (actN ws) ws i).getD a 0 ∧ (sw n ps (actN ws) ws i).getD a 0 ≤ 21 * 2 ^ (i + 1)
      rw [tw]; omega
theorem cw_bd (hW : Wv n ps) (ok : ∀ p ∈ ws, okP n ps.length d p) {a : Nat} (ha : a < actN ws) : ∀ i, i ≤ ws.length → 0 ≤ (cw n ps (actN ws) ws i).getD a 0 ∧ (cw n ps (actN ws) ws i).getD a 0 ≤ 21 * 2 ^ i
  | 0, _ => by
    have z0 : (cw n ps (actN ws) ws 0).getD a 0 = 0 := by
      show (List.replicate (actN ws) (0 : Int)).getD a 0 = 0
      rw [List.getD_eq_getElem?_getD, List.getElem?_replicate]; split <;> rfl
    rw [z0]; exact ⟨by decide, by decide⟩
  | i + 1, hi => by
    obtain ⟨p, hp⟩ := ex_at (show i < ws.length by omega)
    have ih := cw_bd hW ok ha i (by omega)
    have I := cuK_cur hW ok i (Nat.le_refl (actN ws))
    have hok := ok p (List.mem_of_getElem? hp)
    have lcw := cw_len hW ok (Nat.le_refl (actN ws)) i (by omega)
    have tw := two_succ i
    have tp := two_pos i
    rw [cw_succ hp]
    cases p with
    | rd h => rw [cwS_st (fun t z => by cases z), tw]; omega
    | st s =>
      cases s with
      | dd h e => rw [cwS_st (fun t z => by cases z), tw]; omega
      | mt t =>
        have ht : t < ps.length := hok
        have cv := cwS_at I.ok hW (R := rds (ws.take i)) lcw ht ha
        have nn := crX_nn I (R := rds (ws.take i)) (a := a) ht
        have le : crX ps (cuK n ps (actN ws) ws i) (rds (ws.take i)) t a ≤ 2 ^ i := by
          obtain ⟨b1, b2⟩ := cu_bd (i := i) (a := a) hW ok
          have l1 := uEnds_len ps (rds (ws.take i)) (.st (.mt t))
          unfold crX
          cases e : uEnds ps (rds (ws.take i)) (.st (.mt t)) with
          | nil => show (0 : Int) ≤ _; omega
          | cons h l =>
            rw [e] at l1
            obtain rfl : l = [] := List.eq_nil_of_length_eq_zero (by simp only [List.length_cons] at l1; omega)
            show (cuK n ps (actN ws) ws i).h h a - (cuK n ps (actN ws) ws i).t t a + 0 ≤ _
            have := b1 h
            have := b2 t ht
            omega
        rw [cv, tw]; omega
theorem small58 {i : Nat} (h : i ≤ 58) : (21 * 2 ^ i : Int) < 10 ^ 19 := by
  have := pow_mono h
  have e : (2 : Int) ^ 58 = 288230376151711744 := by decide +kernel
  have e2 : (10 : Int) ^ 19 = 10000000000000000000 := by decide +kernel
  omega
theorem sm_of {l : List Int} {k i : Nat} (hl : l.length = k) (h : ∀ a, a < k → -(21 * 2 ^ i) ≤ l.getD a 0 ∧ l.getD a 0 ≤ 21 * 2 ^ i) (h5 : i ≤ 58) : ∀ x ∈ l, x.natAbs < 10 ^ 19 := fun x hx => by
  obtain ⟨a, ha⟩ := List.getElem?_of_mem hx
  have z := h a (by rw [← hl]; exact lt_at ha)
  rw [List.getD_eq_getElem?_getD, ha] at z
  have z : -(21 * 2 ^ i) ≤ x ∧ x ≤ 21 * 2 ^ i := z
  have s := small58 h5
  have e2 : (10 : Int) ^ 19 = 10000000000000000000 := by decide +kernel
  have e3 : (10 : Nat) ^ 19 = 10000000000000000000 := by decide +kernel
  omega
theorem sw_sm (hW : Wv n ps) (ok : ∀ p ∈ ws, okP n ps.length d p) (hl : ws.length ≤ 58) : ∀ x ∈ swR n ps ws, x.natAbs < 10 ^ 19 :=
  sm_of (sw_len hW ok (Nat.le_refl _) _ (Nat.le_refl _)) (fun a ha => sw_bd hW ok ha _ (Nat.le_refl _)) hl
theorem cw_sm (hW : Wv n ps) (ok : ∀ p ∈ ws, okP n ps.length d p) (hl : ws.length ≤ 58) : ∀ x ∈ cwR n ps ws, x.natAbs < 10 ^ 19 :=
  sm_of (cw_len hW ok (Nat.le_refl _) _ (Nat.le_refl _)) (fun a ha => by
    have c : 0 ≤ (cwR n ps ws).getD a 0 ∧ (cwR n ps ws).getD a 0 ≤ 21 * 2 ^ ws.length := cw_bd hW ok ha _ (Nat.le_refl _)
    have p := two_pos ws.length
    show -(21 * 2 ^ ws.length) ≤ (cwR n ps ws).getD a 0 ∧ (cwR n ps ws).getD a 0 ≤ 21 * 2 ^ ws.length
    omega) hl
end
/-! ### paces as data -/
def pcI : Pc → List PyData | .rd h => [.str "read", .int (h : Int)] | .st (.dd h d) => [.str "do", .int (h : Int), .int (d : Int)] | .st (.mt t) => [.str "meet", .int (t : Int)]
def pcD (p : Pc) : PyData := .tuple (pcI p)
theorem dp_pc {K : PySem.W.Frag} {H : Hp} {a : Addr} {p : Pc} (h : H a = some (.tup (pcV p))) : Dp K H (.ref a) (pcD p) := by
  cases p with
  | rd h' => exact .tup (SqT.of h) (.cons (.str _) (.cons (.int _) .nil))
  | st s => cases s with
    | dd x y => exact .tup (SqT.of h) (.cons (.str _) (.cons (.int _) (.cons (.int _) .nil)))
    | mt x => exact .tup (SqT.of h) (.cons (.str _) (.cons (.int _) .nil))
theorem dp_pcs {K : PySem.W.Frag} {H : Hp} : ∀ {as : List Addr} {ws : List Pc}, PcsA H as ws → DpAll K H (as.map V.ref) (ws.map pcD)
  | [], [], _ => .nil
  | [], _ :: _, h => absurd h.1 (by simp)
  | _ :: _, [], h => absurd h.1 (by simp)
  | a :: as, t :: ts, h => .cons (dp_pc (h.2 0 a t rfl rfl)) (dp_pcs ⟨Nat.succ.inj h.1, fun i b u e1 e2 => h.2 (i + 1) b u e1 e2⟩)
theorem pl_tx {s : Str} (h : s = "read" ∨ s = "do" ∨ s = "meet") : Pl (.str s) 0 100 := by
  rcases h with rfl | rfl | rfl <;> exact pl_str (by decide +kernel) (by decide +kernel) (by decide +kernel)
theorem pl_pc {n t d : Nat} {p : Pc} (h : okP n t d p) (hn : n ≤ 1000) (ht : t ≤ 1000) (hd : d ≤ 1000) : Pl (pcD p) 1 300 := by
  have pi : ∀ {i : Nat}, i ≤ 1000 → Pl (.int (i : Int)) 0 64 := fun hi => Pl.int (by omega)
  cases p with
  | rd x => exact (Pl.tuple (PlA.cons (pl_tx (.inl rfl)) (PlA.cons (pi (Nat.le_trans (Nat.le_of_lt h) hn)) PlA.nil))).mono (by decide) (by decide)
  | st s => cases s with
    | dd x y => exact (Pl.tuple (PlA.cons (pl_tx (.inr (.inl rfl))) (PlA.cons (pi (Nat.le_trans (Nat.le_of_lt h.1) hn)) (PlA.cons (pi (Nat.le_trans (Nat.le_of_lt h.2) hd)) PlA.nil)))).mono (by decide) (by decide)
    | mt x => exact (Pl.tuple (PlA.cons (pl_tx (.inr (.inr rfl))) (PlA.cons (pi (Nat.le_trans (Nat.le_of_lt h) ht)) PlA.nil))).mono (by decide) (by decide)
theorem pla_pcs {n t d : Nat} (hn : n ≤ 1000) (ht : t ≤ 1000) (hd : d ≤ 1000) : ∀ ws : List Pc, (∀ p ∈ ws, okP n t d p) → PlA (ws.map pcD) 1 (ws.length * 301)
  | [], _ => PlA.nil.mono (by decide) (by decide)
  | p :: ws, h => (PlA.cons (pl_pc (h p List.mem_cons_self) hn ht hd) (pla_pcs hn ht hd ws fun q hq => h q (List.mem_cons_of_mem _ hq))).mono (by decide) (by simp only [List.length_cons]; omega)
/-! ### walks that are one -/
theorem sv_pc {K : PySem.W.Frag} {H : Hp} {x : V} {p : Pc} (h : KV K H x (some (pcV p))) : Sv K H x (some (pcV p)) := by
  refine ⟨⟨h, fun ys e y hy => ?_⟩, fun y r e => ?_⟩
  · obtain rfl := Option.some.inj e
    cases p with
    | rd h =>
      simp only [pcV, List.mem_cons, List.mem_nil_iff, or_false] at hy
      rcases hy with rfl | rfl
      · exact ⟨_, .str _⟩
      · exact ⟨_, .int _⟩
    | st s => cases s with
      | dd x y =>
        simp only [pcV, stV, List.mem_cons, List.mem_nil_iff, or_false] at hy
        rcases hy with rfl | rfl | rfl
        · exact ⟨_, .str _⟩
        · exact ⟨_, .int _⟩
        · exact ⟨_, .int _⟩
      | mt x =>
        simp only [pcV, stV, List.mem_cons, List.mem_nil_iff, or_false] at hy
        rcases hy with rfl | rfl
        · exact ⟨_, .str _⟩
        · exact ⟨_, .int _⟩
  · cases p with
    | rd h => injection e with e; injection e with e1 _; rw [← e1]; exact .inl ⟨_, rfl, by decide +kernel⟩
    | st s => cases s with
      | dd x y => injection e with e; injection e with e1 _; rw [← e1]; exact .inl ⟨_, rfl, by decide +kernel⟩
      | mt x => injection e with e; injection e with e1 _; rw [← e1]; exact .inl ⟨_, rfl, by decide +kernel⟩
theorem svs_pcs {K : PySem.W.Frag} {H : Hp} {v : V} {cs : List Addr} {ws : List Pc} (h : KV K H v (some (cs.map V.ref))) (hA : PcsA H cs ws) : Svs K H v (some (ws.map fun p => some (pcV p))) := by
  refine .yes h (by rw [List.length_map, List.length_map, hA.1]) fun i x r e1 e2 => ?_
  obtain ⟨a, s, rfl, ha, hs, hat⟩ := hA.get' e1
  rw [List.getElem?_map, hs] at e2
  obtain rfl := Option.some.inj e2
  exact sv_pc (.tup hat)
/-- paces as lists -/
def PcsH (H : Hp) (as : List Addr) (ws : List Pc) : Prop := as.length = ws.length ∧ ∀ (i : Nat) a p, as[i]? = some a → ws[i]? = some p → H a = some (.lst (pcV p))
theorem svs_pcsH {K : PySem.W.Frag} {H : Hp} {v : V} {cs : List Addr} {ws : List Pc} (h : KV K H v (some (cs.map V.ref))) (hA : PcsH H cs ws) : Svs K H v (some (ws.map fun p => some (pcV p))) := by
  refine .yes h (by rw [List.length_map, List.length_map, hA.1]) fun i x r e1 e2 => ?_
  obtain ⟨a, ha, rfl⟩ := at_map e1
  obtain ⟨p, hp⟩ := ex_at (l := ws) (i := i) (by rw [← hA.1]; exact lt_at ha)
  rw [List.getElem?_map, hp] at e2
  obtain rfl := Option.some.inj e2
  exact sv_pc (.lst (hA.2 i a p ha hp))
theorem pc_inj {p q : Pc} (h : pcV p = pcV q) : p = q := by
  cases p with
  | rd x => cases q with
    | rd y => injection h with _ h; injection h with h _; injection h with h; rw [Int.ofNat_inj.mp h]
    | st s => cases s with
      | dd a b => injection h with _ h; injection h with _ h; cases h
      | mt a => injection h with h _; injection h with h; exact absurd h (by decide +kernel)
  | st s => cases s with
    | dd a b => cases q with
      | rd y => injection h with _ h; injection h with _ h; cases h
      | st s => cases s with
        | dd c d => injection h with _ h; injection h with h1 h; injection h with h2 _; injection h1 with h1; injection h2 with h2; rw [Int.ofNat_inj.mp h1, Int.ofNat_inj.mp h2]
        | mt c => injection h with _ h; injection h with _ h; cases h
    | mt a => cases q with
      | rd y => injection h with h _; injection h with h; exact absurd h (by decide +kernel)
      | st s => cases s with
        | dd c d => injection h with _ h; injection h with _ h; cases h
        | mt c => injection h with _ h; injection h with h _; injection h with h; rw [Int.ofNat_inj.mp h]
theorem pcs_inj {a b : List Pc} (h : (some (a.map fun p => some (pcV p)) : Option (List (Option (List V)))) = some (b.map fun p => some (pcV p))) : a = b := by
  have h := Option.some.inj h
  induction a generalizing b with
  | nil => cases b with
    | nil => rfl
    | cons q b => cases h
  | cons p a ih => cases b with
    | nil => cases h
    | cons q b =>
      rw [List.map_cons, List.map_cons] at h
      injection h with h1 h2
      rw [pc_inj (Option.some.inj h1), ih (congrArg some h2) h2]
/-- what is asked of a walk that is one -/
theorem ask_yes {K : PySem.W.Frag} {W C : Addr} {G : Nat → Prs → List Pc → List V} {H : Hp} {Q : VK} {E : XK} {w : Addr} {n : Nat} {ps : Prs} {v : V} {ws : List Pc} (hw : WebAt W H w n ps) (hW : Wv n ps) (hv : Svs K H v (some (ws.map fun p => some (pcV p)))) (hk : WkO n ps.length 8 ws) (q : ∀ p H', Same H H' → H' p = some (.tup (G n ps ws)) → Q (.ref p) H') : spAskW K W C G [.ref w, v] H Q E :=
  ⟨w, v, _, n, ps, rfl, hw, hW, hv, fun z ez => (by rw [wf_good hk] at ez; cases ez), fun us e _ p H' s h => q p H' s (by rw [h, ← pcs_inj e])⟩
theorem ck_yes {K : PySem.W.Frag} {W C : Addr} {H : Hp} {Q : VK} {E : XK} {w : Addr} {n : Nat} {ps : Prs} {v : V} {ws : List Pc} (hw : WebAt W H w n ps) (hv : Svs K H v (some (ws.map fun p => some (pcV p)))) (hk : WkO n ps.length 8 ws) (q : ∀ p H', Same H H' → PcsT H' p ws → Q (.ref p) H') : spCkW K W C [.ref w, v] H Q E :=
  ⟨w, v, _, n, ps, rfl, hw, hv, fun z ez => (by rw [wf_good hk] at ez; cases ez), fun us e _ p H' s h => q p H' s (by rw [pcs_inj e]; exact h)⟩
theorem ask_no {K : PySem.W.Frag} {W C : Addr} {G : Nat → Prs → List Pc → List V} {H : Hp} {Q : VK} {E : XK} {w : Addr} {n : Nat} {k : Int} {ps : Prs} {v : V} {o : Option (List (Option (List V)))} (hw : WebAt W H w n ps) (hW : Wv n ps) (hv : Svs K H v o) (hf : wfV n ps.length 8 o = .int k) (q : Rz C "at" (.int k) H E) : spAskW K W C G [.ref w, v] H Q E :=
  ⟨w, v, o, n, ps, rfl, hw, hW, hv, fun z ez => (by
    have e2 : V.int z = V.int k := ez.symm.trans hf
    injection e2 with e2
    rw [e2]; exact q), fun ws e hok => (by rw [e, wf_good hok] at hf; cases hf)⟩
theorem ck_no {K : PySem.W.Frag} {W C : Addr} {H : Hp} {Q : VK} {E : XK} {w : Addr} {n : Nat} {k : Int} {ps : Prs} {v : V} {o : Option (List (Option (List V)))} (hw : WebAt W H w n ps) (hv : Svs K H v o) (hf : wfV n ps.length 8 o = .int k) (q : Rz C "at" (.int k) H E) : spCkW K W C [.ref w, v] H Q E :=
  ⟨w, v, o, n, ps, rfl, hw, hv, fun z ez => (by
    have e2 : V.int z = V.int k := ez.symm.trans hf
    injection e2 with e2
    rw [e2]; exact q), fun ws e hok => (by rw [e, wf_good hok] at hf; cases hf)⟩
end K1
namespace K1
open PySem PySem.Spec PyProof.Rows L2
/-! ### what is told of a walk -/
abbrev gM : List Value → List Value → List Value := fun us ws => us ++ ws.reverse
abbrev gMV : List V → List V → List V := fun us ws => us ++ ws.reverse
theorem kb_ck {K : PySem.W.Frag} {f : Addr} {fd : FuncData} (F : Fun K "check_walk" "check_walk" sCheckWalk f fd) : KBn K fd ["web", "value"] 0 ["value", "web"] gM gMV := by
  obtain ⟨oc, od, kV, doc, pm, an, cdv, ct, osl, rfl, lk, hcd⟩ := F.ex
  refine ⟨fun s us ws _ h0 h1 => .of_eq ?_, fun r q => r.append q.reverse⟩
  match us, ws, h0, h1 with
  | [], [_, _], _, _ => rfl
theorem kb_wc {K : PySem.W.Frag} {f : Addr} {fd : FuncData} (F : Fun K "walked_counts" "walked_counts" sWalkedCounts f fd) : KBn K fd ["web", "walk"] 0 ["walk", "web"] gM gMV := by
  obtain ⟨oc, od, kV, doc, pm, an, cdv, ct, osl, rfl, lk, hcd⟩ := F.ex
  refine ⟨fun s us ws _ h0 h1 => .of_eq ?_, fun r q => r.append q.reverse⟩
  match us, ws, h0, h1 with
  | [], [_, _], _, _ => rfl
theorem kb_cc {K : PySem.W.Frag} {f : Addr} {fd : FuncData} (F : Fun K "crossed_counts" "crossed_counts" sCrossedCounts f fd) : KBn K fd ["web", "walk"] 0 ["walk", "web"] gM gMV := by
  obtain ⟨oc, od, kV, doc, pm, an, cdv, ct, osl, rfl, lk, hcd⟩ := F.ex
  refine ⟨fun s us ws _ h0 h1 => .of_eq ?_, fun r q => r.append q.reverse⟩
  match us, ws, h0, h1 with
  | [], [_, _], _, _ => rfl
theorem kb_ua {K : PySem.W.Frag} {f : Addr} {fd : FuncData} (F : Fun K "unread_acts" "unread_acts" sUnreadActs f fd) : KBn K fd ["web", "walk"] 0 ["walk", "web"] gM gMV := by
  obtain ⟨oc, od, kV, doc, pm, an, cdv, ct, osl, rfl, lk, hcd⟩ := F.ex
  refine ⟨fun s us ws _ h0 h1 => .of_eq ?_, fun r q => r.append q.reverse⟩
  match us, ws, h0, h1 with
  | [], [_, _], _, _ => rfl
theorem kb_cr {K : PySem.W.Frag} {f : Addr} {fd : FuncData} (F : Fun K "crossings" "crossings" sCrossings f fd) : KBn K fd ["web", "walk"] 0 ["walk", "web"] gM gMV := by
  obtain ⟨oc, od, kV, doc, pm, an, cdv, ct, osl, rfl, lk, hcd⟩ := F.ex
  refine ⟨fun s us ws _ h0 h1 => .of_eq ?_, fun r q => r.append q.reverse⟩
  match us, ws, h0, h1 with
  | [], [_, _], _, _ => rfl
def spTold (W : Addr) : Sp := fun vs H Q _ => ∃ (w tl wl : Addr) (n : Nat) (ts : Prs) (tas was : List Addr) (ws : List Pc), vs = [.ref w, .int (n : Int), .ref tl, .ref wl] ∧ WebAt W H w n ts ∧ Wv n ts ∧ H tl = some (.lst (tas.map V.ref)) ∧ PrsA H tas ts ∧ H wl = some (.lst (was.map V.ref)) ∧ PcsA H was ws ∧ WkO n ts.length 8 ws ∧ ws.length ≤ 58 ∧ ∀ H', Same H H' → Q (.bl true) H'
/-- a tuple of numbers asked, and shown -/
theorem rep_ne {K : PySem.W.Frag} {p : Addr} {H : Hp} {Q : VK} {d : PyData} {n w : Nat} (hd : Dp K H (.ref p) d) (pl : Pl d n w) (hn : n ≤ 40) (hw : w ≤ 100000) (q : Q (.str d.shown) H) : rRepr K [.ref p] H Q := reprP hd pl hn hw q
theorem dp_vn {K : PySem.W.Frag} {H : Hp} {p : Addr} {l : List Nat} (h : H p = some (.tup (vn l))) : Dp K H (.ref p) (.tuple (dI (l.map fun x : Nat => (x : Int)))) := dp_tup (t := l.map fun x : Nat => (x : Int)) (by rw [h, vn_vrow])
theorem dp_pct {K : PySem.W.Frag} {H : Hp} {p : Addr} {ws : List Pc} (h : PcsT H p ws) : Dp K H (.ref p) (.tuple (ws.map pcD)) := let ⟨_, h1, h2⟩ := h; .tup (SqT.of h1) (dp_pcs h2)
theorem pl_rw {l : List Int} (hl : l.length ≤ 58) (h : ∀ x ∈ l, x.natAbs < 10 ^ 19) : Pl (.tuple (dI l)) 1 3770 := (Pl.tuple (pla_ints l h)).mono (by decide) (by have := Nat.mul_le_mul_right 65 hl; omega)
theorem PcsH.snoc {H : Hp} {as : List Addr} {ws : List Pc} {a : Addr} {p : Pc} (h : PcsH H as ws) (ha : H a = some (.lst (pcV p))) : PcsH H (as ++ [a]) (ws ++ [p]) := by
  refine ⟨by rw [List.length_append, List.length_append, h.1]; rfl, fun i c q e1 e2 => ?_⟩
  rcases snoc_at e1 with e1 | ⟨ei, rfl⟩
  · rcases snoc_at e2 with e2 | ⟨ei, rfl⟩
    · exact h.2 i c q e1 e2
    · have := lt_at e1
      have := h.1
      omega
  · rcases snoc_at e2 with e2 | ⟨_, rfl⟩
    · have := lt_at e2
      have := h.1
      omega
    · exact ha
theorem pcV_ne {p : Pc} {hs : List Addr} : pcV p ≠ hs.map V.ref := fun z => by
  cases hs with
  | nil => cases p with
    | rd h => cases z
    | st s => cases s <;> cases z
  | cons a l => cases p with
    | rd h => injection z with z _; cases z
    | st s => cases s <;> (injection z with z _; cases z)
theorem PcsH.step {H : Hp} {D l : Addr} {hs : List Addr} {ws : List Pc} {p : Pc} (h : PcsH H hs ws) (hD : H D = some (.lst (hs.map V.ref))) (hl : H l = none) : PcsH (upd (upd H l (.lst (pcV p))) D (.lst (hs.map V.ref ++ [.ref l]))) (hs ++ [l]) (ws ++ [p]) := by
  have nl : l ≠ D := fun z => by rw [z, hD] at hl; cases hl
  refine PcsH.snoc ⟨h.1, fun i a q e1 e2 => ?_⟩ (by rw [upd_ne nl, upd_same])
  have e := h.2 i a q e1 e2
  rw [upd_ne (fun z => by rw [z, hD] at e; injection e with e; injection e with e; exact pcV_ne e.symm), upd_ne (ne_of_none e hl)]
  exact e
theorem nat_sm {l : List Nat} {m : Nat} (hm : m ≤ 1000) (h : ∀ x ∈ l, x < m) : ∀ x ∈ l.map (fun x : Nat => (x : Int)), x.natAbs < 10 ^ 19 := fun x hx => by
  obtain ⟨y, hy, rfl⟩ := List.mem_map.mp hx
  have := h y hy
  omega
theorem unA_len (ws : List Pc) : (unA ws).length ≤ ws.length := by
  unfold unA
  refine Nat.le_trans (List.length_filter_le _ _) ?_
  rw [List.length_range]; exact unB_len ws []
theorem unA_lt (ws : List Pc) : ∀ x ∈ unA ws, x < ws.length := fun x hx => by
  unfold unA at hx
  exact Nat.lt_of_lt_of_le (List.mem_range.mp (List.mem_filter.mp hx).1) (unB_len ws [])
theorem crs_len (ts : Prs) (ws : List Pc) : (crs ts ws).length ≤ ws.length := by
  unfold crs
  refine Nat.le_trans (List.length_filter_le _ _) ?_
  rw [List.length_range]; exact Nat.le_refl _
theorem crs_lt (ts : Prs) (ws : List Pc) : ∀ x ∈ crs ts ws, x < ws.length := fun x hx => List.mem_range.mp (List.mem_filter.mp hx).1
section
variable {P : Program} {w : World} {K : PySem.W.Frag} {mg : Str → Option Value} {base : Heap}
abbrev nTr : List Str := ["_law_web_here", "_law_houses", "_law_ties", "_law_walk_here", "_law_total", "_law_crossed", "_law_unread", "_law_over", "_law_acts", "_law_handed", "_law_row", "_law_pace"]
theorem scTr : FnScope nTr ["_law_web_here", "_law_houses", "_law_ties", "_law_walk_here"] (defScope sLToldRight) := ⟨rfl, rfl, rfl, by decide +kernel, rfl, by decide +kernel, by decide +kernel⟩
theorem ok_told {f fT fC fS fX fU fR W C : Addr} {fd fdT fdC fdS fdX fdU fdR : FuncData} (D : Df K mg "_law_told_right" sLToldRight ["_law_web_here", "_law_houses", "_law_ties", "_law_walk_here"] f fd) (B : Bt mg) (DT : Df K mg "_law_tally" sLTally ["_law_houses", "_law_ties", "_law_walk_here"] fT fdT) (DC : Df K mg "check_walk" sCheckWalk ["web", "value"] fC fdC) (DS : Df K mg "walked_counts" sWalkedCounts ["web", "walk"] fS fdS) (DX : Df K mg "crossed_counts" sCrossedCounts ["web", "walk"] fX fdX) (DU : Df K mg "unread_acts" sUnreadActs ["web", "walk"] fU fdU) (DR : Df K mg "crossings" sCrossings ["web", "walk"] fR fdR)
    (GT : FnOk P w K mg base CX0 1 fT fdT ["_law_houses", "_law_ties", "_law_walk_here"] spTally) (GC : FnOk P w K mg base (L2.CX P w) 6 fC fdC ["web", "value"] (spCkW K W C)) (GS : FnOk P w K mg base (L2.CX P w) 7 fS fdS ["web", "walk"] (spAskW K W C gSw)) (GX : FnOk P w K mg base (L2.CX P w) 7 fX fdX ["web", "walk"] (spAskW K W C gCw)) (GU : FnOk P w K mg base (L2.CX P w) 7 fU fdU ["web", "walk"] (spAskW K W C gUn)) (GR : FnOk P w K mg base (L2.CX P w) 7 fR fdR ["web", "walk"] (spAskW K W C gCr)) :
    FnG P w K mg base 8 f fd ["_law_web_here", "_law_houses", "_law_ties", "_law_walk_here"] (spTold W) := by
  refine okG D.F scTr (fun vs H Q E h => ?_) (fun cdv A outer s H vs Q E hr hgd h => ?_)
  · obtain ⟨w, tl, wl, n, ts, tas, was, ws, rfl, _⟩ := h
    rfl
  · obtain ⟨w, tl, wl, n, ts, tas, was, ws, rfl, hw, hW, htl, hta, hwl, hwa, hk, hl, q⟩ := h
    have hu := hr.units
    have r1 := hr.mono (show 1 ≤ 7 by decide)
    have r6 := hr.mono (show 6 ≤ 7 by decide)
    refine ⟨_, (pss_cons (ps_asg (pc DT GT r1 pass0 (pa_cons (pv 1) (pa_cons (pv 2) (pa_cons (pv 3) pa_nil)))) (pg_lst rfl (pgs_cons (pg_name (i := 4) scTr.nd rfl (.inl rfl)) (pgs_cons (pg_name (i := 5) scTr.nd rfl (.inl rfl)) (pgs_cons (pg_name (i := 6) scTr.nd rfl (.inl rfl)) (pgs_cons (pg_name (i := 7) scTr.nd rfl (.inl rfl)) (pgs_cons (pg_name (i := 8) scTr.nd rfl (.inl rfl)) pgs_nil)))))))
    (pss_cons (ps_par (i := 9) (j := 10) rfl scTr.nd rfl rfl (by decide) rfl rfl (pa_cons (pe_lc (own := [("_law_pace", 11)]) (g := gName 11) (tt := tYes) rfl scTr.nd (pi_list (pv 3)) (blkOk_by (N := nTr) (sc := defScope sLToldRight) (by decide +kernel)) (fun _ _ _ _ _ => (pg_name (i := 11) scTr.nd rfl (Or.inl rfl))) (fun _ _ _ _ _ => pts_nil) (fun _ _ _ _ _ => (pe_callTy (clist (K := K) rfl) (by rfl) B.list PyProof.Rows.boot_list (pa_cons (pv 11) pa_nil)))) (pa_cons (pe_callTy call_tuple_of (by rfl) B.tuple PyProof.Rows.boot_tuple (pa_cons (pv 3) pa_nil)) pa_nil)) rfl)
    (pss_cons (ps_if (PW.pt (pw_or (pt_cmpR op_ne (pe_callB (call_repr hgd hu) (by rfl) B.repr (by decide +kernel) (pa_cons (pc DC GC r6 passF (pa_cons (pv 0) (pa_cons (pv 9) pa_nil))) pa_nil)) (pe_callB (call_repr hgd hu) (by rfl) B.repr (by decide +kernel) (pa_cons (pv 10) pa_nil)) (nomark _)) (pw_or1 (pt_cmpR (neD (K := K) rfl hu) (pe_callW DC GC r6 (kb_ck DC.F) passF (pk_cons (pv 10) (pk_cons (pv 0) pk_nil))) (pv 10) (nomark _)))))
      (pss_one (ps_ret pe_bl))
      pss_nil)
    (pss_cons (ps_if (PW.pt (pw_or (pt_cmpR op_ne (pe_callB (call_repr hgd hu) (by rfl) B.repr (by decide +kernel) (pa_cons (pc DS GS hr passF (pa_cons (pv 0) (pa_cons (pv 3) pa_nil))) pa_nil)) (pe_callB (call_repr hgd hu) (by rfl) B.repr (by decide +kernel) (pa_cons (pe_callTy call_tuple_of (by rfl) B.tuple PyProof.Rows.boot_tuple (pa_cons (pv 4) pa_nil)) pa_nil)) (nomark _)) (pw_or1 (pt_cmpR (neD (K := K) rfl hu) (pe_callW DS GS hr (kb_wc DS.F) passF (pk_cons (pv 10) (pk_cons (pv 0) pk_nil))) (pe_callTy call_tuple_of (by rfl) B.tuple PyProof.Rows.boot_tuple (pa_cons (pv 4) pa_nil)) (nomark _)))))
      (pss_one (ps_ret pe_bl))
      pss_nil)
    (pss_cons (ps_if (PW.pt (pw_or (pt_cmpR op_ne (pe_callB (call_repr hgd hu) (by rfl) B.repr (by decide +kernel) (pa_cons (pc DX GX hr passF (pa_cons (pv 0) (pa_cons (pv 3) pa_nil))) pa_nil)) (pe_callB (call_repr hgd hu) (by rfl) B.repr (by decide +kernel) (pa_cons (pe_callTy call_tuple_of (by rfl) B.tuple PyProof.Rows.boot_tuple (pa_cons (pv 5) pa_nil)) pa_nil)) (nomark _)) (pw_or1 (pt_cmpR (neD (K := K) rfl hu) (pe_callW DX GX hr (kb_cc DX.F) passF (pk_cons (pv 10) (pk_cons (pv 0) pk_nil))) (pe_callTy call_tuple_of (by rfl) B.tuple PyProof.Rows.boot_tuple (pa_cons (pv 5) pa_nil)) (nomark _)))))
      (pss_one (ps_ret pe_bl))
      pss_nil)
    (pss_cons (ps_if (PW.pt (pw_or (pt_cmpR op_ne (pe_callB (call_repr hgd hu) (by rfl) B.repr (by decide +kernel) (pa_cons (pc DU GU hr passF (pa_cons (pv 0) (pa_cons (pv 3) pa_nil))) pa_nil)) (pe_callB (call_repr hgd hu) (by rfl) B.repr (by decide +kernel) (pa_cons (pe_callTy call_tuple_of (by rfl) B.tuple PyProof.Rows.boot_tuple (pa_cons (pv 6) pa_nil)) pa_nil)) (nomark _)) (pw_or1 (pt_cmpR (neD (K := K) rfl hu) (pe_callW DU GU hr (kb_ua DU.F) passF (pk_cons (pv 10) (pk_cons (pv 0) pk_nil))) (pe_callTy call_tuple_of (by rfl) B.tuple PyProof.Rows.boot_tuple (pa_cons (pv 6) pa_nil)) (nomark _)))))
      (pss_one (ps_ret pe_bl))
      pss_nil)
    (pss_one (ps_ret (pe_and (pe_cmpR op_eq (pe_callB (call_repr hgd hu) (by rfl) B.repr (by decide +kernel) (pa_cons (pc DR GR hr passF (pa_cons (pv 0) (pa_cons (pv 3) pa_nil))) pa_nil)) (pe_callB (call_repr hgd hu) (by rfl) B.repr (by decide +kernel) (pa_cons (pe_callTy call_tuple_of (by rfl) B.tuple PyProof.Rows.boot_tuple (pa_cons (pv 7) pa_nil)) pa_nil)) (nomark _)) (pe_one (pe_cmpR (eqD (K := K) rfl hu) (pe_callW DR GR hr (kb_cr DR.F) passF (pk_cons (pv 10) (pk_cons (pv 0) pk_nil))) (pe_callTy call_tuple_of (by rfl) B.tuple PyProof.Rows.boot_tuple (pa_cons (pv 7) pa_nil)) (nomark _)))))))))))), ?_⟩
    --MAIN
    refine ⟨_, rfl, _, rfl, _, rfl, tl, wl, n, 8, ts, tas, was, ws, rfl, htl, hta, hW, hwl, hwa, hk.ok, hk.nd, by omega, fun r a1 a2 a3 a4 a5 H1 s1 hr0 hr1 ha1 ha2 ha3 ha4 ha5 => ?_⟩
    refine ⟨r, _, rfl, SqL.of hr1, rfl, _, _, rfl, _, _, rfl, _, _, rfl, _, _, rfl, _, _, rfl, rfl, ?_⟩
    dsimp only [List.set]
    refine ⟨_, rfl, wl, rfl, ⟨_, SqL.of (s1 _ _ hwl)⟩, fun D1 hD1 => lc_list (K := K) (a := wl) (xs := was.map V.ref) (fun i H3 => ∃ hs : List Addr, Same H1 H3 ∧ H3 D1 = some (.lst (hs.map V.ref)) ∧ PcsH H3 hs (ws.take i)) ⟨[], same_new hD1, upd_same, rfl, fun i a p e => by cases e⟩ (fun i H3 _ ⟨_, s3, _⟩ => SqL.of (s3 _ _ (s1 _ _ hwl))) ?_ ?_⟩
    · rintro i x H3 hx ⟨hs, s3, hD3, hh⟩
      obtain ⟨a, p, rfl, ha, hp, hat⟩ := hwa.get' hx
      have hi := lt_at hp
      refine ⟨rfl, _, rfl, a, _, rfl, .inr (SqT.of (s3 _ _ (s1 _ _ hat))), fun l hl3 => ⟨_, (same_new hl3) _ _ hD3, szl (by rw [List.length_map, hh.1, List.length_take]; omega), hs ++ [l], fun c o e => ?_, by rw [upd_same, List.map_append]; rfl, ?_⟩⟩
      · rw [upd_ne (ne_of_none e hD1)]
        exact (same_new hl3) _ _ (s3 _ _ e)
      · rw [take_succ hp]
        exact hh.step hD3 hl3
    rintro H2 ⟨hs, s2, hD2, hh⟩
    rw [List.length_map, hwa.1, List.take_length] at hh
    have s12 := s1.trans s2
    refine ⟨_, rfl, wl, _, rfl, .inl ⟨SqL.of (s12 _ _ hwl), fun T hT => ?_⟩⟩
    have s3 := same_new (o := HO.tup (was.map V.ref)) hT
    have hT3 : (upd H2 T (HO.tup (was.map V.ref))) T = some (.tup (was.map V.ref)) := upd_same
    generalize upd H2 T (HO.tup (was.map V.ref)) = H3 at s3 hT3 ⊢
    have s13 := s2.trans s3
    have s03 := s1.trans s13
    refine ⟨_, _, rfl, ?_⟩
    dsimp only [List.set]
    have hw3 := hw.same s03
    have hA3 := hwa.same s03
    have sH : Svs K H3 (.ref D1) (some (ws.map fun p => some (pcV p))) := svs_pcsH (.lst (s3 _ _ hD2)) ⟨hh.1, fun i a p e1 e2 => s3 _ _ (hh.2 i a p e1 e2)⟩
    have sT : Svs K H3 (.ref T) (some (ws.map fun p => some (pcV p))) := svs_pcs (.tup hT3) hA3
    have sL : Svs K H3 (.ref wl) (some (ws.map fun p => some (pcV p))) := svs_pcs (.lst (s03 _ _ hwl)) hA3
    have b1 := s13 _ _ ha1
    have b2 := s13 _ _ ha2
    have b3 := s13 _ _ ha3
    have b4 := s13 _ _ ha4
    have plW : Pl (.tuple (ws.map pcD)) 2 17458 := (Pl.tuple (pla_pcs (by have := hW.n12; omega) (by have := hW.t20; omega) (by decide) ws hk.ok)).mono (by decide) (by have := Nat.mul_le_mul_right 301 hl; omega)
    clear hD1 hT hr0 hr1 ha1 ha2 ha3 ha4 ha5 hh hD2
    have dT : ∀ {H'}, Same H3 H' → Dp K H' (.ref T) (.tuple (ws.map pcD)) := fun z => .tup (SqT.of (z _ _ hT3)) (dp_pcs (hA3.same z))
    have nm : actN ws ≤ 58 := Nat.le_trans (actN_le ws) hl
    have pl1 := pl_rw (l := swR n ts ws) (by rw [show (swR n ts ws).length = actN ws from sw_len hW hk.ok (Nat.le_refl _) _ (Nat.le_refl _)]; exact nm) (sw_sm hW hk.ok hl)
    have pl2 := pl_rw (l := cwR n ts ws) (by rw [show (cwR n ts ws).length = actN ws from cw_len hW hk.ok (Nat.le_refl _) _ (Nat.le_refl _)]; exact nm) (cw_sm hW hk.ok hl)
    have pl3 := pl_rw (l := (unA ws).map fun x : Nat => (x : Int)) (by rw [List.length_map]; exact Nat.le_trans (unA_len ws) hl) (nat_sm (by omega) (unA_lt ws))
    have pl4 := pl_rw (l := (crs ts ws).map fun x : Nat => (x : Int)) (by rw [List.length_map]; exact Nat.le_trans (crs_len ts ws) hl) (nat_sm (by omega) (crs_lt ts ws))
    have nm : actN ws ≤ 58 := Nat.le_trans (actN_le ws) hl
    have pl1 := pl_rw (l := swR n ts ws) (by rw [show (swR n ts ws).length = actN ws from sw_len hW hk.ok (Nat.le_refl _) _ (Nat.le_refl _)]; exact nm) (sw_sm hW hk.ok hl)
    have pl2 := pl_rw (l := cwR n ts ws) (by rw [show (cwR n ts ws).length = actN ws from cw_len hW hk.ok (Nat.le_refl _) _ (Nat.le_refl _)]; exact nm) (cw_sm hW hk.ok hl)
    have pl3 := pl_rw (l := (unA ws).map fun x : Nat => (x : Int)) (by rw [List.length_map]; exact Nat.le_trans (unA_len ws) hl) (nat_sm (by omega) (unA_lt ws))
    have pl4 := pl_rw (l := (crs ts ws).map fun x : Nat => (x : Int)) (by rw [List.length_map]; exact Nat.le_trans (crs_len ts ws) hl) (nat_sm (by omega) (crs_lt ts ws))
    have nm : actN ws ≤ 58 := Nat.le_trans (actN_le ws) hl
    have pl1 := pl_rw (l := swR n ts ws) (by rw [show (swR n ts ws).length = actN ws from sw_len hW hk.ok (Nat.le_refl _) _ (Nat.le_refl _)]; exact nm) (sw_sm hW hk.ok hl)
    have pl2 := pl_rw (l := cwR n ts ws) (by rw [show (cwR n ts ws).length = actN ws from cw_len hW hk.ok (Nat.le_refl _) _ (Nat.le_refl _)]; exact nm) (cw_sm hW hk.ok hl)
    have pl3 := pl_rw (l := (unA ws).map fun x : Nat => (x : Int)) (by rw [List.length_map]; exact Nat.le_trans (unA_len ws) hl) (nat_sm (by omega) (unA_lt ws))
    have pl4 := pl_rw (l := (crs ts ws).map fun x : Nat => (x : Int)) (by rw [List.length_map]; exact Nat.le_trans (crs_len ts ws) hl) (nat_sm (by omega) (crs_lt ts ws))
    refine ⟨_, rfl, _, rfl, nilP (ck_yes hw3 sH hk fun p1 H4 s4 hp1 => nilP (reprP (dp_pct hp1) plW (by decide) (by decide) ⟨_, rfl, nilP (reprP (dT s4) plW (by decide) (by decide) (neV rfl ⟨_, rfl, iteF ?_⟩))⟩))⟩
    refine ⟨_, rfl, _, rfl, nilP ⟨rfl, ck_yes (hw3.same s4) (sT.same s4) hk fun p2 H5 s5 hp2 => ⟨_, rfl, neDP (dp_pct hp2) (dT (s4.trans s5)) plW (by decide) ⟨_, rfl, iteF (nxP ?_)⟩⟩⟩⟩
    have S5 := s4.trans s5
    clear hp1 hp2
    refine ⟨_, rfl, _, rfl, nilP (ask_yes (hw3.same S5) hW (sL.same S5) hk fun p H6 z1 hp => nilP (reprP (dp_tup (t := swR n ts ws) hp) pl1 (by decide) (by decide) ⟨_, rfl, a1, _, rfl, .inl ⟨SqL.of (z1 _ _ (S5 _ _ b1)), fun t ht => nilP (reprP (dp_tup (t := swR n ts ws) upd_same) pl1 (by decide) (by decide) (neV rfl ⟨_, rfl, iteF ?_⟩))⟩⟩))⟩
    have S6 := S5.trans (z1.trans (same_new (o := HO.tup (vrow (swR n ts ws))) ht))
    refine ⟨_, rfl, _, rfl, nilP ⟨rfl, ask_yes (hw3.same S6) hW (sT.same S6) hk fun p2 H7 z2 hp2 => ⟨_, rfl, a1, _, rfl, .inl ⟨SqL.of (z2 _ _ (S6 _ _ b1)), fun t2 ht2 => neDP (dp_tup (t := swR n ts ws) (same_new ht2 _ _ hp2)) (dp_tup (t := swR n ts ws) upd_same) pl1 (by decide) ⟨_, rfl, iteF (nxP ?_)⟩⟩⟩⟩⟩
    have S7 := S6.trans (z2.trans (same_new (o := HO.tup (vrow (swR n ts ws))) ht2))
    clear hp hp2 S5 S6
    refine ⟨_, rfl, _, rfl, nilP (ask_yes (hw3.same S7) hW (sL.same S7) hk fun p H8 z1 hp => nilP (reprP (dp_tup (t := cwR n ts ws) hp) pl2 (by decide) (by decide) ⟨_, rfl, a2, _, rfl, .inl ⟨SqL.of (z1 _ _ (S7 _ _ b2)), fun t ht => nilP (reprP (dp_tup (t := cwR n ts ws) upd_same) pl2 (by decide) (by decide) (neV rfl ⟨_, rfl, iteF ?_⟩))⟩⟩))⟩
    have S8 := S7.trans (z1.trans (same_new (o := HO.tup (vrow (cwR n ts ws))) ht))
    refine ⟨_, rfl, _, rfl, nilP ⟨rfl, ask_yes (hw3.same S8) hW (sT.same S8) hk fun p2 H9 z2 hp2 => ⟨_, rfl, a2, _, rfl, .inl ⟨SqL.of (z2 _ _ (S8 _ _ b2)), fun t2 ht2 => neDP (dp_tup (t := cwR n ts ws) (same_new ht2 _ _ hp2)) (dp_tup (t := cwR n ts ws) upd_same) pl2 (by decide) ⟨_, rfl, iteF (nxP ?_)⟩⟩⟩⟩⟩
    have S9 := S8.trans (z2.trans (same_new (o := HO.tup (vrow (cwR n ts ws))) ht2))
    clear hp hp2 S7 S8
    refine ⟨_, rfl, _, rfl, nilP (ask_yes (hw3.same S9) hW (sL.same S9) hk fun p H10 z1 hp => nilP (reprP (dp_vn hp) pl3 (by decide) (by decide) ⟨_, rfl, a3, _, rfl, .inl ⟨SqL.of (z1 _ _ (S9 _ _ b3)), fun t ht => nilP (reprP (dp_vn upd_same) pl3 (by decide) (by decide) (neV rfl ⟨_, rfl, iteF ?_⟩))⟩⟩))⟩
    have S10 := S9.trans (z1.trans (same_new (o := HO.tup (vn (unA ws))) ht))
    refine ⟨_, rfl, _, rfl, nilP ⟨rfl, ask_yes (hw3.same S10) hW (sT.same S10) hk fun p2 H11 z2 hp2 => ⟨_, rfl, a3, _, rfl, .inl ⟨SqL.of (z2 _ _ (S10 _ _ b3)), fun t2 ht2 => neDP (dp_vn (same_new ht2 _ _ hp2)) (dp_vn upd_same) pl3 (by decide) ⟨_, rfl, iteF (nxP ?_)⟩⟩⟩⟩⟩
    have S11 := S10.trans (z2.trans (same_new (o := HO.tup (vn (unA ws))) ht2))
    clear hp hp2 S9 S10
    dsimp only
    refine ⟨_, rfl, _, rfl, nilP (ask_yes (hw3.same S11) hW (sL.same S11) hk fun p H12 z1 hp => nilP (reprP (dp_vn hp) pl4 (by decide) (by decide) ⟨_, rfl, a4, _, rfl, .inl ⟨SqL.of (z1 _ _ (S11 _ _ b4)), fun t ht => nilP (reprP (dp_vn upd_same) pl4 (by decide) (by decide) (eqVV rfl ⟨_, rfl, iteT ?_⟩))⟩⟩))⟩
    have S12 := S11.trans (z1.trans (same_new (o := HO.tup (vn (crs ts ws))) ht))
    refine ⟨_, rfl, _, rfl, nilP ⟨rfl, ask_yes (hw3.same S12) hW (sT.same S12) hk fun p2 H13 z2 hp2 => ⟨_, rfl, a4, _, rfl, .inl ⟨SqL.of (z2 _ _ (S12 _ _ b4)), fun t2 ht2 => eqDP (dp_vn (same_new ht2 _ _ hp2)) (dp_vn upd_same) pl4 (by decide) ?_⟩⟩⟩⟩
    exact q _ (s03.trans (S12.trans (z2.trans (same_new (o := HO.tup (vn (crs ts ws))) ht2))))
end
end K1
namespace K1
open PySem PySem.Spec PyProof.Rows L2
/-! ### exactly -/
theorem okS_mono {n t d e : Nat} (h : d ≤ e) {s : Stp} (o : okS n t d s) : okS n t e s := by
  cases s with
  | dd a b => exact ⟨o.1, Nat.lt_of_lt_of_le o.2 h⟩
  | mt a => exact o
theorem okP_mono {n t d e : Nat} (h : d ≤ e) {p : Pc} (o : okP n t d p) : okP n t e p := by
  cases p with
  | rd a => exact o
  | st s => exact okS_mono h (s := s) o
theorem WkO.mono {n t d e : Nat} {ws : List Pc} (h : d ≤ e) (k : WkO n t d ws) : WkO n t e ws := ⟨fun p hp => okP_mono h (k.ok p hp), k.nd, k.ln⟩
def spExact (W : Addr) : Sp := fun vs H Q _ => ∃ (w tl wl : Addr) (n d : Nat) (ts : Prs) (tas was : List Addr) (ws : List Pc), vs = [.ref w, .int (n : Int), .ref tl, .ref wl, .int (d : Int)] ∧ WebAt W H w n ts ∧ Wv n ts ∧ H tl = some (.lst (tas.map V.ref)) ∧ PrsA H tas ts ∧ H wl = some (.lst (was.map V.ref)) ∧ PcsA H was ws ∧ WkO n ts.length d ws ∧ ws.length ≤ 399 ∧ 1 ≤ d ∧ d ≤ 8 ∧ (∀ x, x < n → x ∈ rds ws) ∧ ∀ H', Same H H' → Q (.bl true) H'
theorem PcsA.get {H : Hp} {as : List Addr} {ws : List Pc} (h : PcsA H as ws) {i : Nat} {p : Pc} (e : ws[i]? = some p) : ∃ a, as[i]? = some a ∧ H a = some (.tup (pcV p)) := by
  obtain ⟨a, ha⟩ := ex_at (l := as) (i := i) (by rw [h.1]; exact lt_at e)
  exact ⟨a, ha, h.2 i a p ha e⟩
theorem PcsA.take {H : Hp} {as : List Addr} {ws : List Pc} (h : PcsA H as ws) (j : Nat) : PcsA H (as.take j) (ws.take j) := ⟨by rw [List.length_take, List.length_take, h.1], fun i a p e1 e2 => by
  rw [List.getElem?_take] at e1 e2
  by_cases c : i < j
  · rw [if_pos c] at e1 e2
    exact h.2 i a p e1 e2
  · rw [if_neg c] at e1; cases e1⟩
theorem PcsA.drop {H : Hp} {as : List Addr} {ws : List Pc} (h : PcsA H as ws) (j : Nat) : PcsA H (as.drop j) (ws.drop j) := ⟨by rw [List.length_drop, List.length_drop, h.1], fun i a p e1 e2 => by
  rw [List.getElem?_drop] at e1 e2
  exact h.2 _ a p e1 e2⟩
theorem PcsA.app {H : Hp} {as bs : List Addr} {ws us : List Pc} (h : PcsA H as ws) (g : PcsA H bs us) : PcsA H (as ++ bs) (ws ++ us) := ⟨by rw [List.length_append, List.length_append, h.1, g.1], fun i a p e1 e2 => by
  by_cases c : i < as.length
  · rw [List.getElem?_append_left c] at e1
    rw [List.getElem?_append_left (by rw [← h.1]; exact c)] at e2
    exact h.2 i a p e1 e2
  · rw [List.getElem?_append_right (by omega)] at e1
    rw [List.getElem?_append_right (by rw [← h.1]; omega), ← h.1] at e2
    exact g.2 _ a p e1 e2⟩
theorem mem_cut {xs : List V} {lo hi : Option Int} {x : V} (h : x ∈ cutV xs lo hi) : x ∈ xs := by
  unfold cutV at h
  exact List.mem_of_mem_drop (List.mem_of_mem_take h)
theorem crs_at {ts : Prs} {ws : List Pc} {n d j : Nat} (ok : ∀ p ∈ ws, okP n ts.length d p) (h : j ∈ crs ts ws) : ∃ (t : Nat) (pr : Nat × Nat) (u : Nat), ws[j]? = some (.st (.mt t)) ∧ t < ts.length ∧ ts[t]? = some pr ∧ uEnds ts (rds (ws.take j)) (.st (.mt t)) = [u] ∧ ([pr.1, pr.2].filter fun h => decide (h ∉ rds (ws.take j))) = [u] := by
  have hj := crs_lt ts ws j h
  obtain ⟨p, hp⟩ := ex_at hj
  have hne := (List.mem_filter.mp h).2
  rw [getP hp] at hne
  cases p with
  | rd x => exact absurd hne (by show ¬ (!([] : List Nat).isEmpty) = true; decide)
  | st s => cases s with
    | dd x y => exact absurd hne (by show ¬ (!([] : List Nat).isEmpty) = true; decide)
    | mt t =>
      have ht : t < ts.length := ok _ (List.mem_of_getElem? hp)
      obtain ⟨pr, hpr⟩ := ex_at ht
      have ep : ts.getD t (0, 0) = pr := by rw [List.getD_eq_getElem?_getD, hpr]; rfl
      have eu : uEnds ts (rds (ws.take j)) (.st (.mt t)) = if ([pr.1, pr.2].filter fun h => decide (h ∉ rds (ws.take j))).length = 1 then [pr.1, pr.2].filter fun h => decide (h ∉ rds (ws.take j)) else [] := by
        show (if ([(ts.getD t (0, 0)).1, (ts.getD t (0, 0)).2].filter fun h => decide (h ∉ rds (ws.take j))).length = 1 then [(ts.getD t (0, 0)).1, (ts.getD t (0, 0)).2].filter fun h => decide (h ∉ rds (ws.take j)) else []) = _
        rw [ep]
      by_cases c : ([pr.1, pr.2].filter fun h => decide (h ∉ rds (ws.take j))).length = 1
      · rw [if_pos c] at eu
        generalize hf : [pr.1, pr.2].filter (fun h => decide (h ∉ rds (ws.take j))) = l at c eu
        match l, c with
        | [u], _ => exact ⟨t, pr, u, hp, ht, hpr, eu, hf⟩
      · rw [if_neg c] at eu
        rw [eu] at hne
        exact absurd hne (by show ¬ (!([] : List Nat).isEmpty) = true; decide)
section
variable {P : Program} {w : World} {K : PySem.W.Frag} {mg : Str → Option Value} {base : Heap}
abbrev nEx : List Str := ["_law_web_here", "_law_houses", "_law_ties", "_law_walk_here", "_law_deeds", "_law_total", "_law_crossed", "_law_unread", "_law_over", "_law_acts", "_law_told", "_law_act", "_law_due", "_law_at", "_law_read", "_law_house", "_law_pace", "_law_one"]
theorem scEx : FnScope nEx ["_law_web_here", "_law_houses", "_law_ties", "_law_walk_here", "_law_deeds"] (defScope sLExact) := ⟨rfl, rfl, rfl, by decide +kernel, rfl, by decide +kernel, by decide +kernel⟩
theorem ok_exact {f fT fS W C : Addr} {fd fdT fdS : FuncData} (D : Df K mg "_law_exact" sLExact ["_law_web_here", "_law_houses", "_law_ties", "_law_walk_here", "_law_deeds"] f fd) (B : Bt mg) (DT : Df K mg "_law_tally" sLTally ["_law_houses", "_law_ties", "_law_walk_here"] fT fdT) (DS : Df K mg "walked_counts" sWalkedCounts ["web", "walk"] fS fdS)
    (GT : FnOk P w K mg base CX0 1 fT fdT ["_law_houses", "_law_ties", "_law_walk_here"] spTally) (GS : FnOk P w K mg base (L2.CX P w) 7 fS fdS ["web", "walk"] (spAskW K W C gSw)) :
    FnOk P w K mg base CX0 8 f fd ["_law_web_here", "_law_houses", "_law_ties", "_law_walk_here", "_law_deeds"] (spExact W) := by
  refine D.F.ok scEx (fun vs H Q E h => ?_) (fun cdv A outer s H vs Q E hr h => ?_)
  · obtain ⟨w, tl, wl, n, d, ts, tas, was, ws, rfl, _⟩ := h
    rfl
  · obtain ⟨w, tl, wl, n, d, ts, tas, was, ws, rfl, hw, hW, htl, hta, hwl, hwa, hk, hl, hd1, hd8, hall, q⟩ := h
    have hu := hr.units
    have r1 := hr.mono (show 1 ≤ 7 by decide)
    refine ⟨_, (pss_cons (ps_asg (pc DT GT r1 pass0 (pa_cons (pv 1) (pa_cons (pv 2) (pa_cons (pv 3) pa_nil)))) (pg_lst rfl (pgs_cons (pg_name (i := 5) scEx.nd rfl (.inl rfl)) (pgs_cons (pg_name (i := 6) scEx.nd rfl (.inl rfl)) (pgs_cons (pg_name (i := 7) scEx.nd rfl (.inl rfl)) (pgs_cons (pg_name (i := 8) scEx.nd rfl (.inl rfl)) (pgs_cons (pg_name (i := 9) scEx.nd rfl (.inl rfl)) pgs_nil)))))))
    (pss_cons (ps_set (i := 10) scEx.nd rfl (.inl rfl) (pc DS GS hr passF (pa_cons (pv 0) (pa_cons (pv 3) pa_nil))))
    (pss_cons (ps_for PassesOwn.never rfl (pi_range1 (by rfl) B.range (pa_cons (pe_callB call_len_seq (by rfl) B.len PySem.boot_len (pa_cons (pv 9) pa_nil)) pa_nil)) (pg_name (i := 11) scEx.nd rfl (.inl rfl))
      (pss_cons (ps_set (i := 12) scEx.nd rfl (.inl rfl) (pe_op op_sub (pe_ifExp (pt_cmpR (opInK (K := K) rfl) (pv 11) (pv 7) rfl) pe_int pe_int) (pe_ix ix_list (pv 6) (pv 11) (fun _ _ => rfl))))
      (pss_one (ps_if (PW.pt (pw_or (pt_cmpR op_lt (pe_ix ix_list (pv 6) (pv 11) (fun _ _ => rfl)) pe_int (nomark _)) (pw_or (pt_cmpR op_ne (pe_ix ix_list (pv 5) (pv 11) (fun _ _ => rfl)) (pv 12) (nomark _)) (pw_or1 (pt_cmpR op_ne (pe_ix ix_tup (pv 10) (pv 11) (fun _ _ => rfl)) (pv 12) (nomark _))))))
        (pss_one (ps_ret pe_bl))
        pss_nil))))
    (pss_cons (ps_for PassesOwn.never rfl (pi_list (pe_slice sl_list (pv 8) po_none (po_some pe_int))) (pg_name (i := 13) scEx.nd rfl (.inl rfl))
      (pss_cons (ps_set (i := 14) scEx.nd rfl (.inr rfl) (pe_lc (own := [("_law_pace", 16)]) (g := gName 16) rfl scEx.nd (pi_list (pe_slice sl_list (pv 3) po_none (po_some (pv 13)))) (blkOk_by (N := nEx) (sc := defScope sLExact) (by decide +kernel)) (fun _ _ _ _ _ => (pg_name (i := 16) scEx.nd rfl (Or.inl rfl))) (fun _ _ _ _ _ => pts_one (pt_cmpR op_eq (pe_ix (ixTK (K := K) rfl) (pv 16) pe_int (fun _ _ => rfl)) pe_str (nomark _))) (fun _ _ _ _ _ => (pe_ix (ixTK (K := K) rfl) (pv 16) pe_int (fun _ _ => rfl)))))
      (pss_cons (ps_set (i := 15) scEx.nd rfl (.inl rfl) (pe_ix ix_list (pe_lc (own := [("_law_one", 17)]) (g := gName 17) rfl scEx.nd (pi_tup (pe_ix ix_list (pv 2) (pe_ix ix_tup (pe_ix ix_list (pv 3) (pv 13) (fun _ _ => rfl)) pe_int (fun _ _ => rfl)) (fun _ _ => rfl))) (blkOk_by (N := nEx) (sc := defScope sLExact) (by decide +kernel)) (fun _ _ _ _ _ => (pg_name (i := 17) scEx.nd rfl (Or.inl rfl))) (fun _ _ _ _ _ => pts_one (pt_cmpR (opNotInK (K := K) rfl) (pv 17) (pv 14) rfl)) (fun _ _ _ _ _ => (pv 17))) pe_int (fun _ _ => rfl)))
      (pss_cons (ps_set (i := 11) scEx.nd rfl (.inl rfl) (pe_callB call_len_seq (by rfl) B.len PySem.boot_len (pa_cons (pe_lc (own := [("_law_pace", 16)]) (g := gName 16) rfl scEx.nd (pi_list (pe_slice sl_list (pv 3) po_none (po_some (pv 13)))) (blkOk_by (N := nEx) (sc := defScope sLExact) (by decide +kernel)) (fun _ _ _ _ _ => (pg_name (i := 16) scEx.nd rfl (Or.inl rfl))) (fun _ _ _ _ _ => pts_one (pt_cmpR op_eq (pe_ix (ixTK (K := K) rfl) (pv 16) pe_int (fun _ _ => rfl)) pe_str (nomark _))) (fun _ _ _ _ _ => (pv 16))) pa_nil)))
      (pss_one (ps_if (pt_cmpR op_gt (pe_ix ix_tup (pc DS GS hr passF (pa_cons (pv 0) (pa_cons (pe_op op_cat (pe_op op_cat (pe_slice sl_list (pv 3) po_none (po_some (pv 13))) (pe_lst (pa_cons (pe_tup (pa_cons pe_str (pa_cons (pv 15) (pa_cons (pe_op op_sub (pv 4) pe_int) pa_nil)))) pa_nil))) (pe_slice sl_list (pv 3) (po_some (pv 13)) po_none)) pa_nil))) (pv 11) (fun _ _ => rfl)) pe_int (nomark _))
        (pss_one (ps_ret pe_bl))
        pss_nil))))))
    (pss_one (ps_ret pe_bl)))))), ?_⟩
    --MAIN
    have hk8 := hk.mono hd8
    refine ⟨_, rfl, _, rfl, _, rfl, tl, wl, n, d, ts, tas, was, ws, rfl, htl, hta, hW, hwl, hwa, hk.ok, hk.nd, by omega, fun r a1 a2 a3 a4 a5 H1 s1 hr0 hr1 ha1 ha2 ha3 ha4 ha5 => ?_⟩
    refine ⟨r, _, rfl, SqL.of hr1, rfl, _, _, rfl, _, _, rfl, _, _, rfl, _, _, rfl, _, _, rfl, rfl, ?_⟩
    dsimp only [List.set]
    have sL : Svs K H1 (.ref wl) (some (ws.map fun p => some (pcV p))) := svs_pcs (.lst (s1 _ _ hwl)) (hwa.same s1)
    refine ⟨_, rfl, _, rfl, nilP (ask_yes (hw.same s1) hW sL hk8 fun p H2 s2 hp => ?_)⟩
    dsimp only [List.set]
    have lac : (vrow (actD (sts ws))).length = actN ws := by rw [vrow_len]; rfl
    have a4' : actN ws ≤ 400 := Nat.le_trans (actN_le ws) (by omega)
    have lsw : (swR n ts ws).length = actN ws := sw_len hW hk.ok (Nat.le_refl _) _ (Nat.le_refl _)
    have lcw : (cwR n ts ws).length = actN ws := cw_len hW hk.ok (Nat.le_refl _) _ (Nat.le_refl _)
    refine ⟨_, rfl, a5, _, rfl, .inl (SqL.of (s2 _ _ ha5)), ?_⟩
    rw [lac]
    refine ⟨(actN ws : Int), rfl, by omega, by omega, for_range (fun i σ H' => ∃ (v11 v12 : Option V), σ = [some (.ref w), some (.int (n : Int)), some (.ref tl), some (.ref wl), some (.int (d : Int)), some (.ref a1), some (.ref a2), some (.ref a3), some (.ref a4), some (.ref a5), some (.ref p), v11, v12, none, none, none, none, none] ∧ Same H2 H')
      ⟨none, none, rfl, Same.refl _⟩ ?_ ?_⟩
    · rintro i σ H3 hi ⟨v11, v12, rfl, s3⟩
      have hi' : i < actN ws := by omega
      obtain ⟨e1, e2⟩ := exact_all hW hk.ok hk.nd hall hi'
      have s23 := s2.trans s3
      refine gn ?_
      rw [Int.zero_add]
      dsimp only [List.set]
      --PART2
      have r3 := s3.trans (Same.refl _)
      have t1 := s23 _ _ ha1
      have t2 := s23 _ _ ha2
      have t3 := s23 _ _ ha3
      have tp := s3 _ _ hp
      have g1 := vrow_get (t := swR n ts ws) (i := i) (by omega)
      have g2 := vrow_get (t := cwR n ts ws) (i := i) (by omega)
      refine seqG (fun σ H' => σ = [some (.ref w), some (.int (n : Int)), some (.ref tl), some (.ref wl), some (.int (d : Int)), some (.ref a1), some (.ref a2), some (.ref a3), some (.ref a4), some (.ref a5), some (.ref p), some (.int (i : Int)), some (.int ((swR n ts ws).getD i 0)), none, none, none, none, none] ∧ H' = H3) ?_ fun go => ?_
      rotate_left
      · refine ⟨_, rfl, _, rfl, a3, _, rfl, .inl (SqL.of t3), rfl, flat_vn _, ?_⟩
        rw [inV_vn]
        by_cases c : i ∈ unA ws
        · rw [if_pos c] at e1
          refine ⟨_, rfl, iteY (decide_eq_true c) ⟨_, rfl, _, rfl, a2, _, (i : Int), .int ((cwR n ts ws).getD i 0), rfl, rfl, SqL.of t2, at_i g2, _, _, rfl, rfl, ?_⟩⟩
          refine go _ _ ⟨?_, rfl⟩
          rw [e1]; rfl
        · rw [if_neg c] at e1
          refine ⟨_, rfl, iteN (decide_eq_false c) ⟨_, rfl, _, rfl, a2, _, (i : Int), .int ((cwR n ts ws).getD i 0), rfl, rfl, SqL.of t2, at_i g2, _, _, rfl, rfl, ?_⟩⟩
          refine go _ _ ⟨?_, rfl⟩
          rw [e1]; rfl
      · rintro σ H' ⟨rfl, rfl⟩
        refine ⟨_, rfl, _, rfl, a2, _, (i : Int), .int ((cwR n ts ws).getD i 0), rfl, rfl, SqL.of t2, at_i g2, _, _, rfl, rfl, _, rfl, iteN (decide_eq_false (by omega)) ?_⟩
        refine ⟨_, rfl, _, rfl, a1, _, (i : Int), .int ((swR n ts ws).getD i 0), rfl, rfl, SqL.of t1, at_i g1, _, rfl, neV rfl ⟨_, rfl, iteF ?_⟩⟩
        refine ⟨_, rfl, _, rfl, p, _, (i : Int), .int ((swR n ts ws).getD i 0), rfl, rfl, SqT.of tp, at_i g1, _, rfl, neV rfl ⟨_, rfl, iteF (nxP ?_)⟩⟩
        exact ⟨_, _, rfl, s3⟩
    · rintro σ H3 ⟨v11, v12, rfl, s3⟩
      have s23 := s2.trans s3
      have s03 := s1.trans s23
      refine ⟨_, rfl, _, rfl, a4, _, rfl, SqL.of (s23 _ _ ha4), fun L hL => ?_⟩
      have sL1 := same_new (o := HO.lst (cutV (vn (crs ts ws)) none (some 3))) hL
      have kL : (upd H3 L (HO.lst (cutV (vn (crs ts ws)) none (some 3)))) L = some (.lst (cutV (vn (crs ts ws)) none (some 3))) := upd_same
      generalize upd H3 L (HO.lst (cutV (vn (crs ts ws)) none (some 3))) = H4 at sL1 kL ⊢
      have s04 := s03.trans sL1
      clear hr0 hr1 ha1 ha2 ha3 ha4 ha5 hp hL
      refine ⟨L, rfl, ⟨_, SqL.of kL⟩, for_list (K := K) (a := L) (xs := cutV (vn (crs ts ws)) none (some 3)) (fun i σ H' => ∃ (v11 v12 v13 v14 v15 v16 v17 : Option V), σ = [some (.ref w), some (.int (n : Int)), some (.ref tl), some (.ref wl), some (.int (d : Int)), some (.ref a1), some (.ref a2), some (.ref a3), some (.ref a4), some (.ref a5), some (.ref p), v11, v12, v13, v14, v15, v16, v17] ∧ Same H4 H')
        ⟨_, _, _, _, _, _, _, rfl, Same.refl _⟩ (fun i σ H' _ ⟨_, _, _, _, _, _, _, _, z⟩ => SqL.of (z _ _ kL)) ?_ ?_⟩
      rotate_left
      · rintro σ H5 ⟨v11, v12, v13, v14, v15, v16, v17, rfl, s5⟩
        exact q _ (s04.trans s5)
      rintro i x σ H5 hx ⟨v11, v12, v13, v14, v15, v16, v17, rfl, s5⟩
      obtain ⟨j, hj, rfl⟩ := List.mem_map.mp (mem_cut (List.mem_of_getElem? hx))
      obtain ⟨t, pr, u, hjt, ht, hpr, hu1, hfu⟩ := crs_at hk.ok hj
      refine gn ?_
      dsimp only [List.set]
      have s05 := s04.trans s5
      have lwm : (was.map V.ref).length = ws.length := by rw [List.length_map, hwa.1]
      have jl := lt_at hjt
      -- what was read
      refine ⟨_, rfl, _, rfl, _, rfl, wl, _, rfl, SqL.of (s05 _ _ hwl), fun L1 hL1 => ?_⟩
      rw [cut_to (by rw [lwm]; omega), ← List.map_take]
      have z1 := same_new (o := HO.lst ((was.take j).map V.ref)) hL1
      have k1 : (upd H5 L1 (HO.lst ((was.take j).map V.ref))) L1 = some (.lst ((was.take j).map V.ref)) := upd_same
      generalize upd H5 L1 (HO.lst ((was.take j).map V.ref)) = H6 at z1 k1 ⊢
      have s06 := s05.trans z1
      have e06 := z1
      have A6 := (hwa.same s06).take j
      refine ⟨L1, rfl, ⟨_, SqL.of k1⟩, fun D1 hD1 => lc_list (K := K) (a := L1) (xs := (was.take j).map V.ref) (fun i H' => Same H6 H' ∧ H' D1 = some (.lst (vn (rds ((ws.take j).take i))))) ⟨same_new hD1, by rw [upd_same]; rfl⟩ (fun i H' _ ⟨z, _⟩ => SqL.of (z _ _ k1)) ?_ ?_⟩
      · rintro i y H7 hy ⟨z, hD⟩
        obtain ⟨a, q', rfl, ha, hq, hat⟩ := A6.get' hy
        have hat7 := z _ _ hat
        have ea := take_succ hq
        refine ⟨rfl, ?_⟩
        rcases pc_read q' with ⟨h, rfl, e0, e1⟩ | ⟨h, d', rfl, e0, _⟩ | ⟨t', rfl, e0, _⟩
        · refine ⟨_, rfl, a, _, (0 : Int), .str "read", rfl, rfl, SqT.of hat7, at_i e0, ⟨rfl, true, congrArg V.bl (decide_eq_true rfl), iteT ?_⟩⟩
          refine ⟨_, rfl, a, _, (1 : Int), .int (h : Int), rfl, rfl, SqT.of hat7, at_i e1, _, hD, szl (by rw [vn_len]; have := rds_len ((ws.take j).take i); rw [List.length_take, List.length_take] at this; omega), fun c o e => by rw [upd_ne (ne_of_none e hD1)]; exact z _ _ e, ?_⟩
          rw [upd_same, ea, rds_app, vn, vn, List.map_append]; rfl
        · refine ⟨_, rfl, a, _, (0 : Int), .str "do", rfl, rfl, SqT.of hat7, at_i e0, ⟨rfl, false, congrArg V.bl (decide_eq_false (by decide +kernel)), iteF ⟨z, ?_⟩⟩⟩
          rw [ea, rds_app, show rds [Pc.st (.dd h d')] = [] from rfl, List.append_nil]; exact hD
        · refine ⟨_, rfl, a, _, (0 : Int), .str "meet", rfl, rfl, SqT.of hat7, at_i e0, ⟨rfl, false, congrArg V.bl (decide_eq_false (by decide +kernel)), iteF ⟨z, ?_⟩⟩⟩
          rw [ea, rds_app, show rds [Pc.st (.mt t')] = [] from rfl, List.append_nil]; exact hD
      rintro H7 ⟨z2, hD1'⟩
      rw [List.length_map, A6.1, List.take_length] at hD1'
      refine gn ?_
      dsimp only [List.set]
      have s07 := s06.trans z2
      have e07 := e06.trans z2
      clear k1 hL1 hD1 A6 z1 z2 s06
      -- the house
      obtain ⟨aj, hpj, hatj⟩ := hwa.get hjt
      obtain ⟨pa, hpa, hpl⟩ := hta.get hpr
      have hpl : H pa = some (.tup (vn [pr.1, pr.2])) := hpl
      refine ⟨_, rfl, _, rfl, _, rfl, wl, _, (j : Int), .ref aj, rfl, rfl, SqL.of (s07 _ _ hwl), at_i (map_at hpj), aj, _, (1 : Int), .int (t : Int), rfl, rfl, SqT.of (s07 _ _ hatj), at_i (i := 1) rfl, tl, _, (t : Int), .ref pa, rfl, rfl, SqL.of (s07 _ _ htl), at_i (map_at hpa), pa, rfl, ⟨_, SqT.of (s07 _ _ hpl)⟩, fun D0 hD0 => lc_tup (K := K) (a := pa) (xs := vn [pr.1, pr.2]) (fun i H3 => Same H7 H3 ∧ H3 D0 = some (.lst (vn (([pr.1, pr.2].take i).filter fun h => decide (h ∉ rds (ws.take j)))))) ⟨same_new hD0, by rw [upd_same]; rfl⟩ (fun i H3 _ ⟨z, _⟩ => SqT.of (z _ _ (s07 _ _ hpl))) ?_ ?_⟩
      · rintro i x H3 hx ⟨z, hD3⟩
        obtain ⟨h, hh, rfl⟩ := at_vn hx
        have hi := lt_at hh
        refine ⟨rfl, ?_⟩
        refine ⟨_, rfl, _, rfl, D1, _, rfl, .inl (SqL.of (z _ _ hD1')), rfl, flat_vn _, ?_⟩
        rw [inV_vn]
        refine ⟨_, rfl, ifD (fun e => ?_) fun e => ?_⟩
        · have nin : h ∉ rds (ws.take j) := by simpa using e
          refine ⟨_, rfl, _, hD3, szl (by rw [vn_len]; have := List.length_filter_le (fun h => decide (h ∉ rds (ws.take j))) ([pr.1, pr.2].take i); rw [List.length_take] at this; simp only [List.length_cons, List.length_nil] at this; omega), fun c o e => by rw [upd_ne (ne_of_none e hD0)]; exact z _ _ e, ?_⟩
          rw [upd_same, take_succ hh, List.filter_append, show [h].filter (fun h => decide (h ∉ rds (ws.take j))) = [h] from by rw [List.filter_cons, if_pos (decide_eq_true nin)]; rfl, vn, vn, List.map_append]; rfl
        · have nin : h ∈ rds (ws.take j) := by simpa using e
          refine ⟨z, ?_⟩
          rw [take_succ hh, List.filter_append, show [h].filter (fun h => decide (h ∉ rds (ws.take j))) = [] from by rw [List.filter_cons, if_neg (by simpa using nin)]; rfl, List.append_nil]; exact hD3
      rintro H8 ⟨z8, hD8⟩
      rw [show [pr.1, pr.2].take (vn [pr.1, pr.2]).length = [pr.1, pr.2] from rfl, hfu] at hD8
      refine ⟨D0, _, (0 : Int), .int (u : Int), rfl, rfl, SqL.of hD8, at_i (i := 0) rfl, ?_⟩
      refine gn ?_
      dsimp only [List.set]
      have s08 := s07.trans z8
      have e08 := e07.trans z8
      clear hD8 hD0 hD1' z8 s07
      -- the act
      refine ⟨_, rfl, _, rfl, _, rfl, wl, _, rfl, SqL.of (s08 _ _ hwl), fun L2 hL2 => ?_⟩
      rw [cut_to (by rw [lwm]; omega), ← List.map_take]
      have z1 := same_new (o := HO.lst ((was.take j).map V.ref)) hL2
      have k1 : (upd H8 L2 (HO.lst ((was.take j).map V.ref))) L2 = some (.lst ((was.take j).map V.ref)) := upd_same
      generalize upd H8 L2 (HO.lst ((was.take j).map V.ref)) = H9 at z1 k1 ⊢
      have s09 := s08.trans z1
      have e09 := e08.trans z1
      have A9 := (hwa.same s09).take j
      refine ⟨L2, rfl, ⟨_, SqL.of k1⟩, fun D2 hD2 => lc_list (K := K) (a := L2) (xs := (was.take j).map V.ref) (fun i H' => ∃ xs : List V, Same H9 H' ∧ H' D2 = some (.lst xs) ∧ xs.length = actN ((ws.take j).take i)) ⟨[], same_new hD2, by rw [upd_same], rfl⟩ (fun i H' _ ⟨_, z, _⟩ => SqL.of (z _ _ k1)) ?_ ?_⟩
      · rintro i y H10 hy ⟨xs, z, hD, hxs⟩
        obtain ⟨a, q', rfl, ha, hq, hat⟩ := A9.get' hy
        have hat7 := z _ _ hat
        have ea := take_succ hq
        have ex : actN ((ws.take j).take (i + 1)) = actN ((ws.take j).take i) + (actD (sts [q'])).length := by
          unfold actN
          rw [ea, sts_app, actD_app, List.length_append]
        refine ⟨rfl, ?_⟩
        rcases pc_read q' with ⟨h, rfl, e0, e1⟩ | ⟨h, d', rfl, e0, _⟩ | ⟨t', rfl, e0, _⟩
        · refine ⟨_, rfl, a, _, (0 : Int), .str "read", rfl, rfl, SqT.of hat7, at_i e0, ⟨rfl, false, congrArg V.bl (decide_eq_false (by decide +kernel)), iteF ⟨xs, z, hD, ?_⟩⟩⟩
          rw [ex, hxs]; rfl
        · refine ⟨_, rfl, a, _, (0 : Int), .str "do", rfl, rfl, SqT.of hat7, at_i e0, ⟨rfl, true, congrArg V.bl (decide_eq_true rfl), iteT ?_⟩⟩
          have l4 : actN ((ws.take j).take i) ≤ 400 := Nat.le_trans (actN_le _) (by rw [List.length_take, List.length_take]; omega)
          refine ⟨_, rfl, _, hD, szl (by rw [hxs]; omega), xs ++ [.ref a], fun c o e => by rw [upd_ne (ne_of_none e hD2)]; exact z _ _ e, upd_same, ?_⟩
          rw [ex, List.length_append, hxs]; rfl
        · refine ⟨_, rfl, a, _, (0 : Int), .str "meet", rfl, rfl, SqT.of hat7, at_i e0, ⟨rfl, false, congrArg V.bl (decide_eq_false (by decide +kernel)), iteF ⟨xs, z, hD, ?_⟩⟩⟩
          rw [ex, hxs]; rfl
      rintro H10 ⟨xs, z2, hD2', hxs⟩
      rw [List.length_map, A9.1, List.take_length] at hxs
      refine ⟨D2, _, rfl, .inl (SqL.of hD2'), ?_⟩
      rw [hxs]
      refine gn ?_
      dsimp only [List.set]
      have s10 := s09.trans z2
      have e10 := e09.trans z2
      clear k1 hL2 hD2 A9 z1 z2 s09 hD2'
      -- one act more
      refine ⟨_, rfl, _, rfl, _, rfl, _, rfl, wl, _, rfl, SqL.of (s10 _ _ hwl), fun p1 hp1 => ?_⟩
      rw [cut_to (by rw [lwm]; omega), ← List.map_take]
      have z1 := same_new (o := HO.lst ((was.take j).map V.ref)) hp1
      have k1 : (upd H10 p1 (HO.lst ((was.take j).map V.ref))) p1 = some (.lst ((was.take j).map V.ref)) := upd_same
      generalize upd H10 p1 (HO.lst ((was.take j).map V.ref)) = H11 at z1 k1 ⊢
      refine ⟨_, rfl, _, rfl, _, _, rfl, rfl, (by show 3 ≤ sizeLine; decide), fun nw hnw => ?_⟩
      have ed : ((d : Int) - 1) = ((d - 1 : Nat) : Int) := by omega
      generalize hH12 : upd H11 nw (HO.tup _) = H12
      have z2 : Same H11 H12 := hH12 ▸ same_new hnw
      have knw : H12 nw = some (.tup (pcV (.st (.dd u (d - 1))))) := by
        rw [← hH12, upd_same]
        show some (HO.tup [V.str "do", V.int (u : Int), V.int ((d : Int) - 1)]) = _
        rw [ed]; rfl
      clear hH12
      refine ⟨(by show 1 ≤ sizeLine; decide), fun p2 hp2 => ?_⟩
      have z3 := same_new (o := HO.lst [V.ref nw]) hp2
      have k2 : (upd H12 p2 (HO.lst [V.ref nw])) p2 = some (.lst [V.ref nw]) := upd_same
      generalize upd H12 p2 (HO.lst [V.ref nw]) = H13 at z3 k2 ⊢
      refine ⟨p1, p2, _, _, rfl, rfl, z3 _ _ (z2 _ _ k1), k2, sz (by rw [List.length_map, List.length_take]; simp only [List.length_cons, List.length_nil]; omega), fun p3 hp3 => ?_⟩
      have z4 := same_new (o := HO.lst ((was.take j).map V.ref ++ [V.ref nw])) hp3
      have k3 : (upd H13 p3 (HO.lst ((was.take j).map V.ref ++ [V.ref nw]))) p3 = some (.lst ((was.take j).map V.ref ++ [V.ref nw])) := upd_same
      generalize upd H13 p3 (HO.lst ((was.take j).map V.ref ++ [V.ref nw])) = H14 at z4 k3 ⊢
      have z14 := ((z1.trans z2).trans z3).trans z4
      refine ⟨_, rfl, _, rfl, _, rfl, wl, _, rfl, SqL.of (z14 _ _ (s10 _ _ hwl)), fun p4 hp4 => ?_⟩
      rw [cut_from (by rw [lwm]; omega), ← List.map_drop]
      have z5 := same_new (o := HO.lst ((was.drop j).map V.ref)) hp4
      have k4 : (upd H14 p4 (HO.lst ((was.drop j).map V.ref))) p4 = some (.lst ((was.drop j).map V.ref)) := upd_same
      generalize upd H14 p4 (HO.lst ((was.drop j).map V.ref)) = H15 at z5 k4 ⊢
      refine ⟨p3, p4, _, _, rfl, rfl, z5 _ _ k3, k4, sz (by have := hwa.1; simp only [List.length_append, List.length_map, List.length_take, List.length_drop, List.length_cons, List.length_nil]; omega), fun p5 hp5 => ?_⟩
      have z6 := same_new (o := HO.lst ((was.take j).map V.ref ++ [V.ref nw] ++ (was.drop j).map V.ref)) hp5
      have k5 : (upd H15 p5 (HO.lst ((was.take j).map V.ref ++ [V.ref nw] ++ (was.drop j).map V.ref))) p5 = some (.lst ((was.take j).map V.ref ++ [V.ref nw] ++ (was.drop j).map V.ref)) := upd_same
      generalize upd H15 p5 (HO.lst ((was.take j).map V.ref ++ [V.ref nw] ++ (was.drop j).map V.ref)) = H16 at z6 k5 ⊢
      have s16 := ((s10.trans z14).trans z5).trans z6
      have e16 := ((e10.trans z14).trans z5).trans z6
      have eas : (was.take j).map V.ref ++ [V.ref nw] ++ (was.drop j).map V.ref = (was.take j ++ nw :: was.drop j).map V.ref := by simp
      rw [eas] at k5
      have pn : PcsA H16 (was.take j ++ nw :: was.drop j) (ws.take j ++ .st (.dd u (d - 1)) :: ws.drop j) := by
        have a1 := (hwa.same s16).take j
        have a2 := (hwa.same s16).drop j
        exact a1.app ((PcsA.app (as := [nw]) (ws := [Pc.st (.dd u (d - 1))]) ⟨rfl, fun i a p e1 e2 => by
          match i, e1, e2 with
          | 0, e1, e2 =>
            obtain rfl : nw = a := Option.some.inj e1
            obtain rfl : Pc.st (.dd u (d - 1)) = p := Option.some.inj e2
            exact z6 _ _ (z5 _ _ (z4 _ _ (z3 _ _ knw)))⟩ a2))
      have hun : u < n := (uEnds_lt hW (hk.ok _ (List.mem_of_getElem? hjt)) (by rw [hu1]; exact List.mem_singleton.mpr rfl)).1
      obtain ⟨o1, o2, o3, o4⟩ := one_more hW hk.ok hk.nd hall hjt hu1 (show d - 1 < d by omega) hun
      have kk : WkO n ts.length 8 (ws.take j ++ .st (.dd u (d - 1)) :: ws.drop j) := ⟨fun p hp => okP_mono hd8 (o1 p hp), o2, by rw [List.length_append, List.length_cons, List.length_take, List.length_drop]; omega⟩
      have lsn : (swR n ts (ws.take j ++ .st (.dd u (d - 1)) :: ws.drop j)).length = actN (ws.take j ++ .st (.dd u (d - 1)) :: ws.drop j) := sw_len hW kk.ok (Nat.le_refl _) _ (Nat.le_refl _)
      refine nilP (ask_yes (hw.same s16) hW (svs_pcs (.lst k5) pn) kk fun r2 H17 z17 hr2 => ?_)
      refine ⟨_, rfl, r2, _, (actN (ws.take j) : Int), .int ((swR n ts (ws.take j ++ .st (.dd u (d - 1)) :: ws.drop j)).getD (actN (ws.take j)) 0), rfl, rfl, SqT.of hr2, at_i (vrow_get (by rw [lsn]; exact o3)), _, _, rfl, rfl, _, rfl, iteN (decide_eq_false (by omega)) (nxP ?_)⟩
      exact ⟨_, _, _, _, _, _, _, rfl, s5.trans (e16.trans z17)⟩
end
end K1
namespace K1
open PySem PySem.Spec PyProof.Rows L2
/-! ### strangers -/
theorem log64 {i : Int} (h : i.natAbs < 2 ^ 64) : i.natAbs.log2 < 1920 := by
  by_cases z : i.natAbs = 0
  · rw [z]; decide
  · have : i.natAbs.log2 < 64 := (Nat.log2_lt z).mpr h
    omega
theorem rs_int {i : Int} (h : i.natAbs < 2 ^ 64) : RS (.int i) (toString i) := fun H Q q => ⟨_, rfl, .inr (.inr (.inl ⟨i, rfl, log64 h, q⟩))⟩
theorem layL {y x : Str} {b : Bool} (hy : PyData.strOk y = true) (hx : PyData.strOk x = true) : PyData.canLay0 (.list [.str y, .str x, .bool b]) = true := by simp only [PyData.canLay0, PyData.canLayAll0, Bool.and_self, hx, hy]
theorem shL {y x : Str} {b : Bool} (hy : PyData.strOk y = true) (hx : PyData.strOk x = true) : SeqAt.shaped (.list [.str y, .str x, .bool b]) = true := by
  unfold SeqAt.shaped
  rw [layL hy hx]
  simp only [PyData.depth, PyData.depthAll]
  exact (by decide : (true && decide (max 0 (max 0 (max 0 0)) + 1 ≤ 64)) = true)
theorem earN {K : PySem.W.Frag} {Q : VK} {p p2 : Addr} {H : Hp} {y x : Str} {b : Bool} (hy : PyData.strOk y = true) (hx : PyData.strOk x = true) (h1 : H p = some (.lst [.str y, .str x, .bl b])) (h2 : H p2 = some (.lst [.str y, .str x, .bl b])) (q : Q (.bl false) H) : rNeD K (.ref p) (.ref p2) H Q :=
  have hd : DpAll K H [V.str y, .str x, .bl b] [.str y, .str x, .bool b] := .cons (.str y) (.cons (.str x) (.cons (.bl b) .nil))
  ⟨_, _, .lst (SqL.of h1) hd, .lst (SqL.of h2) hd, shL hy hx, shL hy hx, qbl (by rw [SeqAt.eqv_refl _ (layL hy hx)]; rfl) q⟩
theorem earE {K : PySem.W.Frag} {Q : VK} {p p2 : Addr} {H : Hp} {y x : Str} {b : Bool} (hy : PyData.strOk y = true) (hx : PyData.strOk x = true) (h1 : H p = some (.lst [.str y, .str x, .bl b])) (h2 : H p2 = some (.lst [.str y, .str x, .bl b])) (q : Q (.bl true) H) : rEqD K (.ref p) (.ref p2) H Q :=
  have hd : DpAll K H [V.str y, .str x, .bl b] [.str y, .str x, .bool b] := .cons (.str y) (.cons (.str x) (.cons (.bl b) .nil))
  ⟨_, _, .lst (SqL.of h1) hd, .lst (SqL.of h2) hd, shL hy hx, shL hy hx, qbl (by rw [SeqAt.eqv_refl _ (layL hy hx)]) q⟩
theorem heB {K : PySem.W.Frag} {CB : Addr} {Q : VK} {H : Hp} {i : Int} (h : i.natAbs < 2 ^ 64) (k : ∀ p H', Same H H' → H' p = some (.lst [.str "steps", .str (toString i), .bl true]) → Q (.ref p) H') : Rz CB "at" (.int i) H (HE K CB Q) := fun d H' sm hd hx => ⟨d, rfl, rfl, .int i, hx, toString i, rs_int h, fun p H'' s2 hp => k p H'' (sm.trans s2) hp⟩
theorem st_s : PyData.strOk ("steps" : Str) = true := by decide +kernel
/-- a value of no pace -/
structure Bv (K : PySem.W.Frag) (b : Addr) (n t : Nat) (R : List Nat) (H : Hp) (v : V) (r : Option (List V)) : Prop where
  sv : ∀ H', Ks [b] H H' → Sv K H' v r
  b1 : rdB n r = true → rdN r ∈ R
  b2 : stB n t 8 r = false
def Sc (x : V) : Prop := (∃ s, x = .str s ∧ PyData.strOk s = true) ∨ (∃ i, x = .int i) ∨ x = .bl true
theorem bv_no {K : PySem.W.Frag} {b : Addr} {n t : Nat} {R : List Nat} {H : Hp} {v : V} (h : ∀ H', KV K H' v none) : Bv K b n t R H v none :=
  ⟨fun H' _ => ⟨⟨h H', fun ys e => (by cases e)⟩, fun y ys e => (by cases e)⟩, fun e => (by cases e), rfl⟩
theorem bv_tup {K : PySem.W.Frag} {b : Addr} {n t : Nat} {R : List Nat} {H : Hp} {p : Addr} {xs : List V} (hp : H p = some (.tup xs)) (np : p ≠ b) (hs : ∀ x ∈ xs, Sc x) (hf : ∀ y ys, xs = y :: ys → y ≠ .bl true) (b1 : rdB n (some xs) = true → rdN (some xs) ∈ R) (b2 : stB n t 8 (some xs) = false) : Bv K b n t R H (.ref p) (some xs) :=
  ⟨fun H' k => ⟨⟨.tup (k.tup hp (by rw [List.mem_singleton]; exact np)), fun ys e y hy => by
    obtain rfl := Option.some.inj e
    rcases hs y hy with ⟨s, rfl, _⟩ | ⟨i, rfl⟩ | rfl
    · exact ⟨_, .str s⟩
    · exact ⟨_, .int i⟩
    · exact ⟨_, .bl true⟩⟩, fun y ys e => by
    have e := Option.some.inj e
    rcases hs y (by rw [e]; exact List.mem_cons_self) with ⟨s, rfl, h⟩ | ⟨i, rfl⟩ | rfl
    · exact .inl ⟨s, rfl, h⟩
    · exact .inr (.inl ⟨i, rfl⟩)
    · exact absurd rfl (hf _ _ e)⟩, b1, b2⟩
theorem Lw.tupK {b a : Addr} {T : List (Addr × Str)} {H H' : Hp} {xs : List V} (hb : BoxO H b) (l : Lw b T [] H H') (h : H a = some (.tup xs)) : H' a = some (.tup xs) := l.ks.tup h (by rw [List.mem_singleton]; exact hb.ne h fun xs => by intro z; cases z)
theorem Lw.pcsK {b : Addr} {T : List (Addr × Str)} {H H' : Hp} {as : List Addr} {ws : List Pc} (hb : BoxO H b) (l : Lw b T [] H H') (h : PcsA H as ws) : PcsA H' as ws := h.kp fun _ _ e => l.tupK hb e
theorem Lw.mono {b : Addr} {T : List (Addr × Str)} {xs : List Addr} {H H' : Hp} (l : Lw b T xs H H') : Ks (b :: xs) H H' := l.ks
/-- a walk with a stranger in it -/
theorem svs_bent {K : PySem.W.Frag} {H : Hp} {p : Addr} {as bs : List Addr} {sa sb : List Pc} {v : V} {r : Option (List V)} (h : H p = some (.lst (as.map V.ref ++ [v] ++ bs.map V.ref))) (hA : PcsA H as sa) (hB : PcsA H bs sb) (hv : Sv K H v r) : Svs K H (.ref p) (some ((sa.map fun s => some (pcV s)) ++ r :: (sb.map fun s => some (pcV s)))) := by
  refine .yes (.lst h) (by simp only [List.length_append, List.length_map, hA.1, hB.1, List.length_cons, List.length_nil]; omega) fun i x q e1 e2 => ?_
  rw [List.append_assoc, List.singleton_append] at e1
  by_cases h1 : i < as.length
  · rw [List.getElem?_append_left (by rw [List.length_map]; exact h1)] at e1
    rw [List.getElem?_append_left (by rw [List.length_map, ← hA.1]; exact h1)] at e2
    obtain ⟨a, s, rfl, ha, hs, hat⟩ := hA.get' e1
    rw [List.getElem?_map, hs] at e2
    obtain rfl := Option.some.inj e2
    exact sv_pc (.tup hat)
  · rw [List.getElem?_append_right (by rw [List.length_map]; omega), List.length_map] at e1
    rw [List.getElem?_append_right (by rw [List.length_map, ← hA.1]; omega), List.length_map, ← hA.1] at e2
    cases c : i - as.length with
    | zero =>
      rw [c] at e1 e2
      obtain rfl := Option.some.inj e1
      obtain rfl := Option.some.inj e2
      exact hv
    | succ j =>
      rw [c, List.getElem?_cons_succ] at e1 e2
      obtain ⟨a, s, rfl, ha, hs, hat⟩ := hB.get' e1
      rw [List.getElem?_map, hs] at e2
      obtain rfl := Option.some.inj e2
      exact sv_pc (.tup hat)
/-- a walk of acts alone -/
theorem sw_rep (n : Nat) (ps : Prs) (k m : Nat) : ∀ i, i ≤ m → sw n ps k (List.replicate m (.st (.dd 0 0))) i = List.replicate k 0
  | 0, _ => rfl
  | i + 1, h => by
    have e : (List.replicate m (Pc.st (.dd 0 0)))[i]? = some (.st (.dd 0 0)) := by rw [List.getElem?_replicate, if_pos (by omega)]
    rw [sw_succ e]
    exact sw_rep n ps k m i (by omega)
theorem act_rep (m : Nat) : actN (List.replicate m (.st (.dd 0 0))) = m := by
  unfold actN
  induction m with
  | zero => rfl
  | succ m ih =>
    rw [List.replicate_succ]
    show (actD (sts (List.replicate m _))).length + 1 = m + 1
    rw [ih]
theorem rds_rep (m : Nat) : rds (List.replicate m (.st (.dd 0 0))) = [] := by
  induction m with
  | zero => rfl
  | succ m ih => rw [List.replicate_succ]; exact ih
theorem wk_rep {n t m : Nat} (hn : 1 ≤ n) (hm : m ≤ 400) : WkO n t 8 (List.replicate m (.st (.dd 0 0))) :=
  ⟨fun p hp => by rw [(List.mem_replicate.mp hp).2]; exact ⟨by omega, by decide⟩, by rw [rds_rep]; exact List.nodup_nil, by rw [List.length_replicate]; exact hm⟩
theorem pcs_rep {H : Hp} {a : Addr} (h : H a = some (.tup (pcV (.st (.dd 0 0))))) (m : Nat) : PcsA H (List.replicate m a) (List.replicate m (.st (.dd 0 0))) :=
  ⟨by rw [List.length_replicate, List.length_replicate], fun i c p e1 e2 => by
    rw [(List.mem_replicate.mp (List.mem_of_getElem? e1)).2, (List.mem_replicate.mp (List.mem_of_getElem? e2)).2]; exact h⟩
theorem lt_no {n : Nat} : belowB (.int (n : Int)) (n : Int) = false := by rw [belowB_nat]; exact decide_eq_false (Nat.lt_irrefl _)
theorem tx_ne {x y : Str} (h : x ≠ y) : decide (V.str x = V.str y) = false := decide_eq_false (by intro k; injection k with k; exact h k)
theorem sc_s {s : Str} (h : PyData.strOk s = true) : Sc (.str s) := .inl ⟨s, rfl, h⟩
theorem sc_i (i : Int) : Sc (.int i) := .inr (.inl ⟨i, rfl⟩)
theorem odd_bv {K : PySem.W.Frag} {b : Addr} {n t : Nat} {R : List Nat} {H : Hp} {t1 t2 t3 t4 t5 t6 t7 t8 t9 ta tb : Addr} {v : V} (hb : BoxO H b) (h1 : H t1 = some (.tup [])) (h2 : H t2 = some (.tup [.str "do", .int 0])) (h3 : H t3 = some (.tup [.str "do", .int (n : Int), .int 0])) (h4 : H t4 = some (.tup [.str "do", .int 0, .int 8])) (h5 : H t5 = some (.tup [.str "do", .int 0, .bl true])) (h6 : H t6 = some (.tup [.str "meet", .int (t : Int)])) (h7 : H t7 = some (.tup [.str "meet"]))
    (h8 : H t8 = some (.tup [.str "read", .int (n : Int)])) (h9 : H t9 = some (.tup [.str "read", .int (-1)])) (ha : H ta = some (.tup [.str "see", .int 0])) (hb' : H tb = some (.tup [.int 0, .int 0])) (hv : v ∈ [V.non, .ref t1, .ref t2, .ref t3, .ref t4, .ref t5, .ref t6, .ref t7, .str "do"] ++ [.ref t8, .ref t9, .ref ta, .ref tb]) : ∃ r, Bv K b n t R H v r := by
  have ne : ∀ {p : Addr} {xs : List V}, H p = some (.tup xs) → p ≠ b := fun e => hb.ne e fun xs => by intro z; cases z
  have sd : Sc (.str "do") := sc_s (by decide +kernel)
  have sm : Sc (.str "meet") := sc_s (by decide +kernel)
  have sr : Sc (.str "read") := sc_s (by decide +kernel)
  have ss : Sc (.str "see") := sc_s (by decide +kernel)
  have sb : Sc (.bl true) := .inr (.inr rfl)
  have al2 : ∀ {x y : V}, Sc x → Sc y → ∀ z ∈ [x, y], Sc z := fun hx hy z hz => by
    simp only [List.mem_cons, List.mem_nil_iff, or_false] at hz
    rcases hz with rfl | rfl <;> assumption
  have al3 : ∀ {x y w : V}, Sc x → Sc y → Sc w → ∀ z ∈ [x, y, w], Sc z := fun hx hy hw z hz => by
    simp only [List.mem_cons, List.mem_nil_iff, or_false] at hz
    rcases hz with rfl | rfl | rfl <;> assumption
  have hd : ∀ {x : V} {l : List V}, x ≠ .bl true → ∀ y ys, x :: l = y :: ys → y ≠ .bl true := fun hx y ys e => by
    injection e with e _
    rw [← e]; exact hx
  simp only [List.mem_append, List.mem_cons, List.mem_nil_iff, or_false] at hv
  rcases hv with (rfl | rfl | rfl | rfl | rfl | rfl | rfl | rfl | rfl) | (rfl | rfl | rfl | rfl)
  · exact ⟨_, bv_no fun H' => .non⟩
  · exact ⟨_, bv_tup h1 (ne h1) (fun x hx => by cases hx) (fun y ys e => by cases e) (fun e => by cases e) rfl⟩
  · refine ⟨_, bv_tup h2 (ne h2) (al2 sd (sc_i _)) (hd (by intro z; cases z)) (fun e => ?_) ?_⟩
    · have e : (decide (V.str "do" = V.str "read") && belowB (.int 0) (n : Int)) = true := e
      rw [tx_ne (by decide +kernel)] at e; cases e
    · show (decide (V.str "do" = V.str "meet") && belowB (.int 0) (t : Int)) = false
      rw [tx_ne (by decide +kernel)]; rfl
  · refine ⟨_, bv_tup h3 (ne h3) (al3 sd (sc_i _) (sc_i _)) (hd (by intro z; cases z)) (fun e => (by cases e)) ?_⟩
    show (decide (V.str "do" = V.str "do") && (belowB (.int (n : Int)) (n : Int) && belowB (.int 0) (8 : Nat))) = false
    rw [lt_no, Bool.false_and, Bool.and_false]
  · refine ⟨_, bv_tup h4 (ne h4) (al3 sd (sc_i _) (sc_i _)) (hd (by intro z; cases z)) (fun e => (by cases e)) ?_⟩
    show (decide (V.str "do" = V.str "do") && (belowB (.int 0) (n : Int) && belowB (.int 8) (8 : Nat))) = false
    rw [show belowB (.int 8) ((8 : Nat) : Int) = false from rfl, Bool.and_false, Bool.and_false]
  · refine ⟨_, bv_tup h5 (ne h5) (al3 sd (sc_i _) sb) (hd (by intro z; cases z)) (fun e => (by cases e)) ?_⟩
    show (decide (V.str "do" = V.str "do") && (belowB (.int 0) (n : Int) && belowB (.bl true) (8 : Nat))) = false
    rw [show belowB (.bl true) ((8 : Nat) : Int) = false from rfl, Bool.and_false, Bool.and_false]
  · refine ⟨_, bv_tup h6 (ne h6) (al2 sm (sc_i _)) (hd (by intro z; cases z)) (fun e => ?_) ?_⟩
    · have e : (decide (V.str "meet" = V.str "read") && belowB (.int (t : Int)) (n : Int)) = true := e
      rw [tx_ne (by decide +kernel)] at e; cases e
    · show (decide (V.str "meet" = V.str "meet") && belowB (.int (t : Int)) (t : Int)) = false
      rw [lt_no, Bool.and_false]
  · exact ⟨_, bv_tup h7 (ne h7) (fun x hx => by rw [List.mem_singleton.mp hx]; exact sm) (hd (by intro z; cases z)) (fun e => (by cases e)) rfl⟩
  · exact ⟨_, bv_no fun H' => .str _⟩
  · refine ⟨_, bv_tup h8 (ne h8) (al2 sr (sc_i _)) (hd (by intro z; cases z)) (fun e => ?_) ?_⟩
    · have e : (decide (V.str "read" = V.str "read") && belowB (.int (n : Int)) (n : Int)) = true := e
      rw [lt_no, Bool.and_false] at e; cases e
    · show (decide (V.str "read" = V.str "meet") && belowB (.int (n : Int)) (t : Int)) = false
      rw [tx_ne (by decide +kernel)]; rfl
  · refine ⟨_, bv_tup h9 (ne h9) (al2 sr (sc_i _)) (hd (by intro z; cases z)) (fun e => ?_) ?_⟩
    · have e : (decide (V.str "read" = V.str "read") && belowB (.int (-1)) (n : Int)) = true := e
      rw [show belowB (.int (-1)) (n : Int) = false from rfl, Bool.and_false] at e; cases e
    · show (decide (V.str "read" = V.str "meet") && belowB (.int (-1)) (t : Int)) = false
      rw [tx_ne (by decide +kernel)]; rfl
  · refine ⟨_, bv_tup ha (ne ha) (al2 ss (sc_i _)) (hd (by intro z; cases z)) (fun e => ?_) ?_⟩
    · have e : (decide (V.str "see" = V.str "read") && belowB (.int 0) (n : Int)) = true := e
      rw [tx_ne (by decide +kernel)] at e; cases e
    · show (decide (V.str "see" = V.str "meet") && belowB (.int 0) (t : Int)) = false
      rw [tx_ne (by decide +kernel)]; rfl
  · refine ⟨_, bv_tup hb' (ne hb') (al2 (sc_i _) (sc_i _)) (hd (by intro z; cases z)) (fun e => ?_) ?_⟩
    · have e : (decide (V.int 0 = V.str "read") && belowB (.int 0) (n : Int)) = true := e
      rw [decide_eq_false (by intro z; cases z)] at e; cases e
    · show (decide (V.int 0 = V.str "meet") && belowB (.int 0) (t : Int)) = false
      rw [decide_eq_false (by intro z; cases z)]; rfl
theorem Bv.ks {K : PySem.W.Frag} {b : Addr} {n t : Nat} {R : List Nat} {H H1 : Hp} {v : V} {r : Option (List V)} (h : Bv K b n t R H v r) (k : Ks [b] H H1) : Bv K b n t R H1 v r := ⟨fun H' k2 => h.sv H' (k.trans k2), h.b1, h.b2⟩
theorem bv_rd {K : PySem.W.Frag} {b : Addr} {n t : Nat} {R : List Nat} {H : Hp} {a : Addr} {h : Nat} (hb : BoxO H b) (ha : H a = some (.tup (pcV (.rd h)))) (hR : h ∈ R) : Bv K b n t R H (.ref a) (some (pcV (.rd h))) :=
  ⟨fun H' k => sv_pc (.tup (k.tup ha (by rw [List.mem_singleton]; exact hb.ne ha fun xs => by intro z; cases z))), fun _ => by rw [show rdN (some (pcV (.rd h))) = h from Int.toNat_natCast h]; exact hR, stB_rd⟩
theorem flat3 {α : Type} {x : α} {k : Nat} {xs : List α} (h : x ∈ (List.replicate k xs).flatten) : x ∈ xs := by
  obtain ⟨l, hl, hx⟩ := List.mem_flatten.mp h
  rw [(List.mem_replicate.mp hl).2] at hx; exact hx
abbrev qSt : Str := "_law_strangers_right.<locals>.<lambda>"
def spStr (W : Addr) (T : List (Addr × Str)) : Sp := fun vs H Q _ => ∃ (b w tl wl : Addr) (n : Nat) (ts : Prs) (tas was : List Addr) (ws : List Pc), vs = [.ref b, .ref w, .int (n : Int), .ref tl, .ref wl] ∧ BoxO H b ∧ LamX.Tabs T H ∧ WebAt W H w n ts ∧ Wv n ts ∧ H tl = some (.lst (tas.map V.ref)) ∧ PrsA H tas ts ∧ H wl = some (.lst (was.map V.ref)) ∧ tl ≠ b ∧ wl ≠ b ∧ PcsA H was ws ∧ WkO n ts.length 8 ws ∧ ws.length ≤ 58 ∧ ∀ H', Lw b T [] H H' → Q (.bl true) H'
section
variable {P : Program} {w : World} {K : PySem.W.Frag} {mg : Str → Option Value} {base : Heap}
abbrev nSt : List Str := ["_law_box_here", "_law_web_here", "_law_houses", "_law_ties", "_law_walk_here", "_law_at", "_law_read", "_law_odd", "_law_bad", "_law_call", "_law_value", "_law_pace"]
theorem scSt : FnScope nSt ["_law_box_here", "_law_web_here", "_law_houses", "_law_ties", "_law_walk_here"] (defScope sLStrangersRight) := ⟨rfl, rfl, rfl, by decide +kernel, rfl, by decide +kernel, by decide +kernel⟩
theorem ok_str {f fT fP fC fS fX fU fR W CB c_ Pt : Addr} {fd fdT fdP fdC fdS fdX fdU fdR : FuncData} {T : List (Addr × Str)} (F : FunC K "_law_strangers_right" "_law_strangers_right" sLStrangersRight f fd (.ref c_)) (TB : LamX.TabB base mg c_ Pt) (hmT : (Pt, qSt) ∈ T) (hun : ∀ p ∈ T, p.1 = Pt → p.2 = qSt) (B : Bt mg) (hd : Hd K mg base CB)
    (DT : Df K mg "_law_take" sLTake ["_law_box_here", "_law_many"] fT fdT) (DP : Df K mg "_law_pick" sLPick ["_law_box_here", "_law_some"] fP fdP) (DC : Df K mg "check_walk" sCheckWalk ["web", "value"] fC fdC) (DS : Df K mg "walked_counts" sWalkedCounts ["web", "walk"] fS fdS) (DX : Df K mg "crossed_counts" sCrossedCounts ["web", "walk"] fX fdX) (DU : Df K mg "unread_acts" sUnreadActs ["web", "walk"] fU fdU) (DR : Df K mg "crossings" sCrossings ["web", "walk"] fR fdR)
    (GT : FnOk P w K mg base CX0 1 fT fdT ["_law_box_here", "_law_many"] spTake) (GP : FnOk P w K mg base CX0 2 fP fdP ["_law_box_here", "_law_some"] spPick) (GC : FnOk P w K mg base (L2.CX P w) 6 fC fdC ["web", "value"] (spCkW K W CB)) (GS : FnOk P w K mg base (L2.CX P w) 7 fS fdS ["web", "walk"] (spAskW K W CB gSw)) (GX : FnOk P w K mg base (L2.CX P w) 7 fX fdX ["web", "walk"] (spAskW K W CB gCw)) (GU : FnOk P w K mg base (L2.CX P w) 7 fU fdU ["web", "walk"] (spAskW K W CB gUn)) (GR : FnOk P w K mg base (L2.CX P w) 7 fR fdR ["web", "walk"] (spAskW K W CB gCr)) :
    FnG P w K mg base 10 f fd ["_law_box_here", "_law_web_here", "_law_houses", "_law_ties", "_law_walk_here"] (spStr W T) := by
  refine F.okG scSt (fun vs H Q E h => ?_) (fun A outer s H vs Q E hr hgd h => ?_)
  · obtain ⟨b, w, tl, wl, n, ts, tas, was, ws, rfl, _⟩ := h
    rfl
  · obtain ⟨b, w, tl, wl, n, ts, tas, was, ws, rfl, hb, hT, hw, hW, htl, hta, hwl, ntl, nwl, hwa, hk, hl, q⟩ := h
    have hu : (A.deeper (envOfC "_law_strangers_right" (defScope sLStrangersRight) s.heap.objs.size f (.ref c_))).units + 64 < cLine := hr.units
    have r1 := hr.mono (show 1 ≤ 9 by decide)
    have r2 := hr.mono (show 2 ≤ 9 by decide)
    have r6 := hr.mono (show 6 ≤ 9 by decide)
    have r7 := hr.mono (show 7 ≤ 9 by decide)
    refine ⟨_, (pss_cons (ps_set (i := 5) scSt.nd rfl (.inl rfl) (pc DT GT r1 pass0 (pa_cons (pv 0) (pa_cons (pe_op op_add (pe_callB call_len_seq (by rfl) B.len PySem.boot_len (pa_cons (pv 4) pa_nil)) pe_int) pa_nil))))
    (pss_cons (ps_setLc (i := 6) (own := [("_law_pace", 11)]) (g := gName 11) rfl scSt.nd rfl rfl (sw_true rfl rfl rfl (by decide +kernel)) (pi_list (pe_slice sl_list (pv 4) po_none (po_some (pv 5)))) (blkOk_by (N := nSt) (sc := defScope sLStrangersRight) (by decide +kernel)) (fun _ _ _ _ _ => (pg_name (i := 11) scSt.nd rfl (Or.inl rfl))) (fun _ _ _ _ _ => pts_one (pt_cmpR op_eq (pe_ix (ixTK (K := K) rfl) (pv 11) pe_int (fun _ _ => rfl)) pe_str (nomark _))) (fun _ _ _ _ _ => (pv 11)))
    (pss_cons (ps_set (i := 7) scSt.nd rfl (.inl rfl) (pe_lst (pa_cons pe_non (pa_cons (pe_tup pa_nil) (pa_cons (pe_tup (pa_cons pe_str (pa_cons pe_int pa_nil))) (pa_cons (pe_tup (pa_cons pe_str (pa_cons (pv 2) (pa_cons pe_int pa_nil)))) (pa_cons (pe_tup (pa_cons pe_str (pa_cons pe_int (pa_cons pe_int pa_nil)))) (pa_cons (pe_tup (pa_cons pe_str (pa_cons pe_int (pa_cons pe_bl pa_nil)))) (pa_cons (pe_tup (pa_cons pe_str (pa_cons (pe_callB call_len_seq (by rfl) B.len PySem.boot_len (pa_cons (pv 3) pa_nil)) pa_nil))) (pa_cons (pe_tup (pa_cons pe_str pa_nil)) (pa_cons pe_str pa_nil)))))))))))
    (pss_cons (ps_set (i := 7) scSt.nd rfl (.inl rfl) (pe_op op_cat (pv 7) (pe_lst (pa_cons (pe_tup (pa_cons pe_str (pa_cons (pv 2) pa_nil))) (pa_cons (pe_tup (pa_cons pe_str (pa_cons (pe_un un_neg pe_int) pa_nil))) (pa_cons (pe_tup (pa_cons pe_str (pa_cons pe_int pa_nil))) (pa_cons (pe_tup (pa_cons pe_int (pa_cons pe_int pa_nil))) pa_nil)))))))
    (pss_cons (ps_set (i := 8) scSt.nd rfl (.inl rfl) (pc DP GP r2 pass0 (pa_cons (pv 0) (pa_cons (pe_op op_cat (pv 7) (pe_op op_rep (pv 6) pe_int)) pa_nil))))
    (pss_cons (ps_set (i := 10) scSt.nd rfl (.inr rfl) (pe_op op_cat (pe_op op_cat (pe_slice sl_list (pv 4) po_none (po_some (pv 5))) (pe_lst (pa_cons (pv 8) pa_nil))) (pe_slice sl_list (pv 4) (po_some (pv 5)) po_none)))
    (pss_cons (ps_for PassesOwn.never rfl (pi_list (pe_lst (pa_cons (pe_glob (v := .ref fC) (by rfl) DC.g rfl) (pa_cons (pe_glob (v := .ref fS) (by rfl) DS.g rfl) (pa_cons (pe_glob (v := .ref fX) (by rfl) DX.g rfl) (pa_cons (pe_glob (v := .ref fU) (by rfl) DU.g rfl) (pa_cons (pe_glob (v := .ref fR) (by rfl) DR.g rfl) pa_nil))))))) (pg_name (i := 9) scSt.nd rfl (.inr rfl))
      (pss_one (ps_if (pt_cmpR (neD (K := K) rfl hu) (pHeard (k := 7) (qn := qSt) (T := T) hd TB hr rfl rfl hmT hun rfl (LamX.lamS_by (by rfl)) rfl (fun _ _ _ _ _ => rfl)
          (fun A outer s H E f c' hr2 => pe_or2 (pe_callL (i := 9) GC (hr2.mono (show 6 ≤ 7 by decide)) rfl (.inr (.inr rfl)) DC.F.kp DC.b .nil (pass1 (E := E) (takes_of rfl rfl rfl rfl)) (pa_cons (pv 1) (pa_cons (pv 10) pa_nil))) (pe_or2 (pe_callL (i := 9) GS hr2 rfl (.inr (.inr rfl)) DS.F.kp DS.b .nil (pass1 (E := E) (takes_of rfl rfl rfl rfl)) (pa_cons (pv 1) (pa_cons (pv 10) pa_nil))) (pe_or2 (pe_callL (i := 9) GX hr2 rfl (.inr (.inr rfl)) DX.F.kp DX.b .nil (pass1 (E := E) (takes_of rfl rfl rfl rfl)) (pa_cons (pv 1) (pa_cons (pv 10) pa_nil))) (pe_or2 (pe_callL (i := 9) GU hr2 rfl (.inr (.inr rfl)) DU.F.kp DU.b .nil (pass1 (E := E) (takes_of rfl rfl rfl rfl)) (pa_cons (pv 1) (pa_cons (pv 10) pa_nil))) (pe_callL (i := 9) GR hr2 rfl (.inr (.inr rfl)) DR.F.kp DR.b .nil (pass1 (E := E) (takes_of rfl rfl rfl rfl)) (pa_cons (pv 1) (pa_cons (pv 10) pa_nil)))))))) (pe_lst (pa_cons pe_str (pa_cons (pe_callB call_reprS (by rfl) B.repr (by decide +kernel) (pa_cons (pv 5) pa_nil)) (pa_cons pe_bl pa_nil)))) (nomark _))
        (pss_one (ps_ret pe_bl))
        pss_nil)))
    (pss_cons (ps_set (i := 10) scSt.nd rfl (.inr rfl) (pc DP GP r2 pass0 (pa_cons (pv 0) (pa_cons (pe_lst (pa_cons pe_non (pa_cons pe_int (pa_cons pe_str (pa_cons pe_bl (pa_cons (pe_op op_rep (pe_lst (pa_cons (pe_tup (pa_cons pe_str (pa_cons pe_int (pa_cons pe_int pa_nil)))) pa_nil)) pe_int) pa_nil)))))) pa_nil))))
    (pss_cons (ps_if (PW.pt (pw_and (pt_cmpR op_eq (pc DT GT r1 pass0 (pa_cons (pv 0) (pa_cons pe_int pa_nil))) pe_int (nomark _)) (pw_and1 (PW.pt (pw_or (pt_cmpR op_ne (pe_callB call_len_seq (by rfl) B.len PySem.boot_len (pa_cons (pc DC GC r6 passF (pa_cons (pv 1) (pa_cons (pe_op op_rep (pe_lst (pa_cons (pe_tup (pa_cons pe_str (pa_cons pe_int (pa_cons pe_int pa_nil)))) pa_nil)) pe_int) pa_nil))) pa_nil)) pe_int (nomark _)) (pw_or1 (pt_cmpR (neD (K := K) rfl hu) (pc DS GS r7 passF (pa_cons (pv 1) (pa_cons (pe_op op_rep (pe_lst (pa_cons (pe_tup (pa_cons pe_str (pa_cons pe_int (pa_cons pe_int pa_nil)))) pa_nil)) pe_int) pa_nil))) (pe_op (TM.op_repG (K := K) rfl) (pe_tup (pa_cons pe_int pa_nil)) pe_int) (nomark _))))))))
      (pss_one (ps_ret pe_bl))
      pss_nil)
    (pss_one (ps_ret (pe_cmpR (eqD (K := K) rfl hu) (pHeard (k := 7) (qn := qSt) (T := T) hd TB hr rfl rfl hmT hun rfl (LamX.lamS_by (by rfl)) rfl (fun _ _ _ _ _ => rfl)
          (fun A outer s H E f c' hr2 => pc DC GC (hr2.mono (show 6 ≤ 7 by decide)) (pass1 (E := E) (takes_of rfl rfl rfl rfl)) (pa_cons (pv 1) (pa_cons (pv 10) pa_nil)))) (pe_lst (pa_cons pe_str (pa_cons pe_str (pa_cons pe_bl pa_nil)))) (nomark _))))))))))))), ?_⟩
    --MAIN
    have n1 := hW.n1
    have n12 := hW.n12
    have t20 := hW.t20
    have L0 : Lw b T [] H H := Lw.refl hb hT
    have lwm : (was.map V.ref).length = ws.length := by rw [List.length_map, hwa.1]
    refine ⟨_, rfl, _, rfl, wl, _, rfl, .inl (SqL.of hwl), _, _, rfl, rfl, nilP ⟨b, _, rfl, hb, by rw [lwm]; omega, by rw [lwm]; omega, fun r H1 r0 r1' bx1 => ?_⟩⟩
    rw [lwm] at r1'
    obtain ⟨k, rfl⟩ : ∃ k : Nat, r = (k : Int) := ⟨r.toNat, by omega⟩
    have hkl : k ≤ ws.length := by omega
    have L1 := L0.box bx1
    refine gn ?_
    dsimp only [List.set]
    -- the houses that were read
    have hwl1 := L1.lstK hwl nwl
    refine ⟨_, rfl, _, rfl, _, rfl, wl, _, rfl, SqL.of hwl1, fun l1 hl1 => ?_⟩
    rw [cut_to (by rw [lwm]; exact hkl), ← List.map_take]
    have L2' := L1.new (o := HO.lst ((was.take k).map V.ref)) hl1
    have k1 : (upd H1 l1 (HO.lst ((was.take k).map V.ref))) l1 = some (.lst ((was.take k).map V.ref)) := upd_same
    generalize upd H1 l1 (HO.lst ((was.take k).map V.ref)) = H2 at L2' k1 ⊢
    have A2 := (L2'.pcsK hb hwa).take k
    refine ⟨l1, rfl, ⟨_, SqL.of k1⟩, fun D1 hD1 => lc_list (K := K) (a := l1) (xs := (was.take k).map V.ref) (fun i H' => ∃ xs : List V, Same H2 H' ∧ H' D1 = some (.lst xs) ∧ xs.length ≤ i ∧ ∀ x ∈ xs, ∃ (a : Addr) (h : Nat), x = .ref a ∧ H2 a = some (.tup (pcV (.rd h))) ∧ h ∈ rds (ws.take k)) ⟨[], same_new hD1, upd_same, Nat.le_refl _, fun x hx => by cases hx⟩ (fun i H' _ ⟨_, z, _⟩ => SqL.of (z _ _ k1)) ?_ ?_⟩
    · rintro i y H7 hy ⟨xs, z, hD, hxs, hxa⟩
      have hi := lt_at hy
      rw [List.length_map, A2.1, List.length_take] at hi
      obtain ⟨a, q', rfl, ha, hq, hat⟩ := A2.get' hy
      have hat7 := z _ _ hat
      refine ⟨rfl, ?_⟩
      rcases pc_read q' with ⟨h, rfl, e0, e1⟩ | ⟨h, d', rfl, e0, _⟩ | ⟨t', rfl, e0, _⟩
      · refine ⟨_, rfl, a, _, (0 : Int), .str "read", rfl, rfl, SqT.of hat7, at_i e0, ⟨rfl, true, congrArg V.bl (decide_eq_true rfl), iteT ?_⟩⟩
        refine ⟨_, rfl, _, hD, szl (by omega), xs ++ [.ref a], fun c o e => by rw [upd_ne (ne_of_none e hD1)]; exact z _ _ e, upd_same, by rw [List.length_append]; exact Nat.succ_le_succ hxs, fun x hx => ?_⟩
        rcases List.mem_append.mp hx with hx | hx
        · exact hxa x hx
        · exact ⟨a, h, List.mem_singleton.mp hx, hat, mem_rds.mpr (List.mem_of_getElem? hq)⟩
      · exact ⟨_, rfl, a, _, (0 : Int), .str "do", rfl, rfl, SqT.of hat7, at_i e0, ⟨rfl, false, congrArg V.bl (decide_eq_false (by decide +kernel)), iteF ⟨xs, z, hD, by omega, hxa⟩⟩⟩
      · exact ⟨_, rfl, a, _, (0 : Int), .str "meet", rfl, rfl, SqT.of hat7, at_i e0, ⟨rfl, false, congrArg V.bl (decide_eq_false (by decide +kernel)), iteF ⟨xs, z, hD, by omega, hxa⟩⟩⟩
    rintro H3 ⟨xs, z3, hD1', hxs, hxa⟩
    rw [List.length_map, A2.1, List.length_take] at hxs
    have hx58 : xs.length ≤ 58 := by omega
    refine gn ?_
    dsimp only [List.set]
    have L3 := L2'.same z3
    have hxa3 : ∀ x ∈ xs, ∃ (a : Addr) (h : Nat), x = .ref a ∧ H3 a = some (.tup (pcV (.rd h))) ∧ h ∈ rds (ws.take k) := fun x hx => let ⟨a, h, e1, e2, e3⟩ := hxa x hx; ⟨a, h, e1, z3 _ _ e2, e3⟩
    clear hxa k1 hl1 A2 hD1 L2' hwl1
    refine ⟨(by show 0 ≤ sizeLine; decide), fun t1 ht1 => ?_⟩
    generalize hG : upd H3 t1 (HO.tup _) = Jt1
    have zt1 : Same H3 Jt1 := hG ▸ same_new ht1
    have kt1 : Jt1 t1 = some (.tup []) := by rw [← hG]; exact upd_same
    clear hG
    have Lt1 := L3.same zt1
    have Zt1 := zt1
    refine ⟨(by show 2 ≤ sizeLine; decide), fun t2 ht2 => ?_⟩
    generalize hG : upd Jt1 t2 (HO.tup _) = Jt2
    have zt2 : Same Jt1 Jt2 := hG ▸ same_new ht2
    have kt2 : Jt2 t2 = some (.tup [V.str "do", .int 0]) := by rw [← hG]; exact upd_same
    clear hG
    have kt1 := zt2 _ _ kt1
    have Lt2 := Lt1.same zt2
    have Zt2 := Zt1.trans zt2
    refine ⟨_, rfl, (by show 3 ≤ sizeLine; decide), fun t3 ht3 => ?_⟩
    generalize hG : upd Jt2 t3 (HO.tup _) = Jt3
    have zt3 : Same Jt2 Jt3 := hG ▸ same_new ht3
    have kt3 : Jt3 t3 = some (.tup [V.str "do", .int (n : Int), .int 0]) := by rw [← hG]; exact upd_same
    clear hG
    have kt1 := zt3 _ _ kt1
    have kt2 := zt3 _ _ kt2
    have Lt3 := Lt2.same zt3
    have Zt3 := Zt2.trans zt3
    refine ⟨(by show 3 ≤ sizeLine; decide), fun t4 ht4 => ?_⟩
    generalize hG : upd Jt3 t4 (HO.tup _) = Jt4
    have zt4 : Same Jt3 Jt4 := hG ▸ same_new ht4
    have kt4 : Jt4 t4 = some (.tup [V.str "do", .int 0, .int 8]) := by rw [← hG]; exact upd_same
    clear hG
    have kt1 := zt4 _ _ kt1
    have kt2 := zt4 _ _ kt2
    have kt3 := zt4 _ _ kt3
    have Lt4 := Lt3.same zt4
    have Zt4 := Zt3.trans zt4
    refine ⟨(by show 3 ≤ sizeLine; decide), fun t5 ht5 => ?_⟩
    generalize hG : upd Jt4 t5 (HO.tup _) = Jt5
    have zt5 : Same Jt4 Jt5 := hG ▸ same_new ht5
    have kt5 : Jt5 t5 = some (.tup [V.str "do", .int 0, .bl true]) := by rw [← hG]; exact upd_same
    clear hG
    have kt1 := zt5 _ _ kt1
    have kt2 := zt5 _ _ kt2
    have kt3 := zt5 _ _ kt3
    have kt4 := zt5 _ _ kt4
    have Lt5 := Lt4.same zt5
    have Zt5 := Zt4.trans zt5
    have htlx := Lt5.lstK htl ntl
    have etl : (tas.map V.ref).length = ts.length := by rw [List.length_map, hta.1]
    refine ⟨_, rfl, tl, _, rfl, .inl (SqL.of htlx), (by show 2 ≤ sizeLine; decide), fun t6 ht6 => ?_⟩
    generalize hG : upd Jt5 t6 (HO.tup _) = Jt6
    rw [etl] at hG
    have zt6 : Same Jt5 Jt6 := hG ▸ same_new ht6
    have kt6 : Jt6 t6 = some (.tup [V.str "meet", .int (ts.length : Int)]) := by rw [← hG]; exact upd_same
    clear hG
    have kt1 := zt6 _ _ kt1
    have kt2 := zt6 _ _ kt2
    have kt3 := zt6 _ _ kt3
    have kt4 := zt6 _ _ kt4
    have kt5 := zt6 _ _ kt5
    have Lt6 := Lt5.same zt6
    have Zt6 := Zt5.trans zt6
    refine ⟨(by show 1 ≤ sizeLine; decide), fun t7 ht7 => ?_⟩
    generalize hG : upd Jt6 t7 (HO.tup _) = Jt7
    have zt7 : Same Jt6 Jt7 := hG ▸ same_new ht7
    have kt7 : Jt7 t7 = some (.tup [V.str "meet"]) := by rw [← hG]; exact upd_same
    clear hG
    have kt1 := zt7 _ _ kt1
    have kt2 := zt7 _ _ kt2
    have kt3 := zt7 _ _ kt3
    have kt4 := zt7 _ _ kt4
    have kt5 := zt7 _ _ kt5
    have kt6 := zt7 _ _ kt6
    have Lt7 := Lt6.same zt7
    have Zt7 := Zt6.trans zt7
    refine ⟨(by show 9 ≤ sizeLine; decide), fun o1 ho1 => ?_⟩
    generalize hG : upd Jt7 o1 (HO.lst _) = Jo1
    have zo1 : Same Jt7 Jo1 := hG ▸ same_new ho1
    have ko1 : Jo1 o1 = some (.lst [V.non, .ref t1, .ref t2, .ref t3, .ref t4, .ref t5, .ref t6, .ref t7, .str "do"]) := by rw [← hG]; exact upd_same
    clear hG
    have kt1 := zo1 _ _ kt1
    have kt2 := zo1 _ _ kt2
    have kt3 := zo1 _ _ kt3
    have kt4 := zo1 _ _ kt4
    have kt5 := zo1 _ _ kt5
    have kt6 := zo1 _ _ kt6
    have kt7 := zo1 _ _ kt7
    have Lo1 := Lt7.same zo1
    have Zo1 := Zt7.trans zo1
    refine gn ?_
    dsimp only [List.set]
    refine ⟨_, rfl, ?_⟩
    refine ⟨_, rfl, (by show 2 ≤ sizeLine; decide), fun t8 ht8 => ?_⟩
    generalize hG : upd Jo1 t8 (HO.tup _) = Jt8
    have zt8 : Same Jo1 Jt8 := hG ▸ same_new ht8
    have kt8 : Jt8 t8 = some (.tup [V.str "read", .int (n : Int)]) := by rw [← hG]; exact upd_same
    clear hG
    have kt1 := zt8 _ _ kt1
    have kt2 := zt8 _ _ kt2
    have kt3 := zt8 _ _ kt3
    have kt4 := zt8 _ _ kt4
    have kt5 := zt8 _ _ kt5
    have kt6 := zt8 _ _ kt6
    have kt7 := zt8 _ _ kt7
    have ko1 := zt8 _ _ ko1
    have Lt8 := Lo1.same zt8
    have Zt8 := Zo1.trans zt8
    refine ⟨_, rfl, (by show 2 ≤ sizeLine; decide), fun t9 ht9 => ?_⟩
    generalize hG : upd Jt8 t9 (HO.tup _) = Jt9
    have zt9 : Same Jt8 Jt9 := hG ▸ same_new ht9
    have kt9 : Jt9 t9 = some (.tup [V.str "read", .int (-1)]) := by rw [← hG]; exact upd_same
    clear hG
    have kt1 := zt9 _ _ kt1
    have kt2 := zt9 _ _ kt2
    have kt3 := zt9 _ _ kt3
    have kt4 := zt9 _ _ kt4
    have kt5 := zt9 _ _ kt5
    have kt6 := zt9 _ _ kt6
    have kt7 := zt9 _ _ kt7
    have ko1 := zt9 _ _ ko1
    have kt8 := zt9 _ _ kt8
    have Lt9 := Lt8.same zt9
    have Zt9 := Zt8.trans zt9
    refine ⟨(by show 2 ≤ sizeLine; decide), fun ta hta => ?_⟩
    generalize hG : upd Jt9 ta (HO.tup _) = Jta
    have zta : Same Jt9 Jta := hG ▸ same_new hta
    have kta : Jta ta = some (.tup [V.str "see", .int 0]) := by rw [← hG]; exact upd_same
    clear hG
    have kt1 := zta _ _ kt1
    have kt2 := zta _ _ kt2
    have kt3 := zta _ _ kt3
    have kt4 := zta _ _ kt4
    have kt5 := zta _ _ kt5
    have kt6 := zta _ _ kt6
    have kt7 := zta _ _ kt7
    have ko1 := zta _ _ ko1
    have kt8 := zta _ _ kt8
    have kt9 := zta _ _ kt9
    have Lta := Lt9.same zta
    have Zta := Zt9.trans zta
    refine ⟨(by show 2 ≤ sizeLine; decide), fun tb htb => ?_⟩
    generalize hG : upd Jta tb (HO.tup _) = Jtb
    have ztb : Same Jta Jtb := hG ▸ same_new htb
    have ktb : Jtb tb = some (.tup [V.int 0, .int 0]) := by rw [← hG]; exact upd_same
    clear hG
    have kt1 := ztb _ _ kt1
    have kt2 := ztb _ _ kt2
    have kt3 := ztb _ _ kt3
    have kt4 := ztb _ _ kt4
    have kt5 := ztb _ _ kt5
    have kt6 := ztb _ _ kt6
    have kt7 := ztb _ _ kt7
    have ko1 := ztb _ _ ko1
    have kt8 := ztb _ _ kt8
    have kt9 := ztb _ _ kt9
    have kta := ztb _ _ kta
    have Ltb := Lta.same ztb
    have Ztb := Zta.trans ztb
    refine ⟨(by show 4 ≤ sizeLine; decide), fun o2 ho2 => ?_⟩
    generalize hG : upd Jtb o2 (HO.lst _) = Jo2
    have zo2 : Same Jtb Jo2 := hG ▸ same_new ho2
    have ko2 : Jo2 o2 = some (.lst [V.ref t8, .ref t9, .ref ta, .ref tb]) := by rw [← hG]; exact upd_same
    clear hG
    have kt1 := zo2 _ _ kt1
    have kt2 := zo2 _ _ kt2
    have kt3 := zo2 _ _ kt3
    have kt4 := zo2 _ _ kt4
    have kt5 := zo2 _ _ kt5
    have kt6 := zo2 _ _ kt6
    have kt7 := zo2 _ _ kt7
    have ko1 := zo2 _ _ ko1
    have kt8 := zo2 _ _ kt8
    have kt9 := zo2 _ _ kt9
    have kta := zo2 _ _ kta
    have ktb := zo2 _ _ ktb
    have Lo2 := Ltb.same zo2
    have Zo2 := Ztb.trans zo2
    refine ⟨o1, o2, _, _, rfl, rfl, ko1, ko2, (by show 9 + 4 ≤ sizeLine; decide), fun o3 ho3 => ?_⟩
    generalize hG : upd Jo2 o3 (HO.lst _) = Jo3
    have zo3 : Same Jo2 Jo3 := hG ▸ same_new ho3
    have ko3 : Jo3 o3 = some (.lst ([V.non, .ref t1, .ref t2, .ref t3, .ref t4, .ref t5, .ref t6, .ref t7, .str "do"] ++ [V.ref t8, .ref t9, .ref ta, .ref tb])) := by rw [← hG]; exact upd_same
    clear hG
    have kt1 := zo3 _ _ kt1
    have kt2 := zo3 _ _ kt2
    have kt3 := zo3 _ _ kt3
    have kt4 := zo3 _ _ kt4
    have kt5 := zo3 _ _ kt5
    have kt6 := zo3 _ _ kt6
    have kt7 := zo3 _ _ kt7
    have ko1 := zo3 _ _ ko1
    have kt8 := zo3 _ _ kt8
    have kt9 := zo3 _ _ kt9
    have kta := zo3 _ _ kta
    have ktb := zo3 _ _ ktb
    have ko2 := zo3 _ _ ko2
    have Lo3 := Lo2.same zo3
    have Zo3 := Zo2.trans zo3
    refine gn ?_
    dsimp only [List.set]
    have hb0 : BoxO Jo3 b := Lo3.bx
    have kD1 := Zo3 _ _ hD1'
    refine ⟨_, rfl, _, rfl, _, rfl, D1, (3 : Int), xs, rfl, rfl, kD1, by decide, by decide, sz (by show xs.length * 3 ≤ _; omega), fun o4 ho4 => ?_⟩
    generalize hG : upd Jo3 o4 (HO.lst _) = Jo4
    have zo4 : Same Jo3 Jo4 := hG ▸ same_new ho4
    have ko4 : Jo4 o4 = some (.lst (List.replicate 3 xs).flatten) := by rw [← hG]; exact upd_same
    clear hG
    have kt1 := zo4 _ _ kt1
    have kt2 := zo4 _ _ kt2
    have kt3 := zo4 _ _ kt3
    have kt4 := zo4 _ _ kt4
    have kt5 := zo4 _ _ kt5
    have kt6 := zo4 _ _ kt6
    have kt7 := zo4 _ _ kt7
    have ko1 := zo4 _ _ ko1
    have kt8 := zo4 _ _ kt8
    have kt9 := zo4 _ _ kt9
    have kta := zo4 _ _ kta
    have ktb := zo4 _ _ ktb
    have ko2 := zo4 _ _ ko2
    have ko3 := zo4 _ _ ko3
    have Lo4 := Lo3.same zo4
    have Zo4 := Zo3.trans zo4
    have lfl : ((List.replicate 3 xs).flatten).length ≤ 174 := by
      rw [List.length_flatten, List.map_replicate, List.sum_replicate_nat]; omega
    refine ⟨o3, o4, _, _, rfl, rfl, ko3, ko4, sz (by rw [List.length_append]; simp only [List.length_cons, List.length_nil]; omega), fun o5 ho5 => ?_⟩
    generalize hG : upd Jo4 o5 (HO.lst _) = Jo5
    have zo5 : Same Jo4 Jo5 := hG ▸ same_new ho5
    have ko5 : Jo5 o5 = some (.lst (([V.non, .ref t1, .ref t2, .ref t3, .ref t4, .ref t5, .ref t6, .ref t7, .str "do"] ++ [V.ref t8, .ref t9, .ref ta, .ref tb]) ++ (List.replicate 3 xs).flatten)) := by rw [← hG]; exact upd_same
    clear hG
    have kt1 := zo5 _ _ kt1
    have kt2 := zo5 _ _ kt2
    have kt3 := zo5 _ _ kt3
    have kt4 := zo5 _ _ kt4
    have kt5 := zo5 _ _ kt5
    have kt6 := zo5 _ _ kt6
    have kt7 := zo5 _ _ kt7
    have ko1 := zo5 _ _ ko1
    have kt8 := zo5 _ _ kt8
    have kt9 := zo5 _ _ kt9
    have kta := zo5 _ _ kta
    have ktb := zo5 _ _ ktb
    have ko2 := zo5 _ _ ko2
    have ko3 := zo5 _ _ ko3
    have ko4 := zo5 _ _ ko4
    have Lo5 := Lo4.same zo5
    have Zo5 := Zo4.trans zo5
    refine nilP ⟨b, o5, _, rfl, Lo5.bx, ko5, fun z => (by have := Lo4.nn ho5; exact this z), by rw [List.length_append]; simp only [List.length_cons, List.length_append]; omega, by rw [List.length_append]; simp only [List.length_cons, List.length_append, List.length_nil]; omega, fun iv v J6 hv bx6 => ?_⟩
    have L6 := Lo5.box bx6
    obtain ⟨rv, bvv⟩ : ∃ r, Bv K b n ts.length (rds (ws.take k)) Jo5 v r := by
      rcases List.mem_append.mp (List.mem_of_getElem? hv) with hv | hv
      · exact odd_bv Lo5.bx kt1 kt2 kt3 kt4 kt5 kt6 kt7 kt8 kt9 kta ktb hv
      · obtain ⟨a, h, rfl, e2, e3⟩ := hxa3 v (flat3 hv)
        exact ⟨_, bv_rd Lo5.bx (Zo5 _ _ e2) e3⟩
    have bv6 := bvv.ks (ks_bx (xs := []) bx6)
    clear bvv hxa3 kD1 hD1' kt1 kt2 kt3 kt4 kt5 kt6 kt7 kt8 kt9 kta ktb ko1 ko2 ko3 ko4 ko5
    refine gn ?_
    dsimp only [List.set]
    have hwl6 := L6.lstK hwl nwl
    refine ⟨_, rfl, _, rfl, _, rfl, wl, _, rfl, SqL.of hwl6, fun p1 hp1 => ?_⟩
    rw [cut_to (by rw [lwm]; exact hkl), ← List.map_take]
    generalize hG : upd J6 p1 (HO.lst _) = J7
    have z7 : Same J6 J7 := hG ▸ same_new hp1
    have k7 : J7 p1 = some (.lst ((was.take k).map V.ref)) := by rw [← hG]; exact upd_same
    clear hG
    refine ⟨_, rfl, (by show 1 ≤ sizeLine; decide), fun p2 hp2 => ?_⟩
    generalize hG : upd J7 p2 (HO.lst _) = J8
    have z8 : Same J7 J8 := hG ▸ same_new hp2
    have k8 : J8 p2 = some (.lst [v]) := by rw [← hG]; exact upd_same
    clear hG
    refine ⟨p1, p2, _, _, rfl, rfl, z8 _ _ k7, k8, sz (by have := hwa.1; simp only [List.length_append, List.length_map, List.length_take, List.length_drop, List.length_cons, List.length_nil]; omega), fun p3 hp3 => ?_⟩
    generalize hG : upd J8 p3 (HO.lst _) = J9
    have z9 : Same J8 J9 := hG ▸ same_new hp3
    have k9 : J9 p3 = some (.lst ((was.take k).map V.ref ++ [v])) := by rw [← hG]; exact upd_same
    clear hG
    have z69 := (z7.trans z8).trans z9
    refine ⟨_, rfl, _, rfl, _, rfl, wl, _, rfl, SqL.of (z69 _ _ hwl6), fun p4 hp4 => ?_⟩
    rw [cut_from (by rw [lwm]; exact hkl), ← List.map_drop]
    generalize hG : upd J9 p4 (HO.lst _) = J10
    have z10 : Same J9 J10 := hG ▸ same_new hp4
    have k10 : J10 p4 = some (.lst ((was.drop k).map V.ref)) := by rw [← hG]; exact upd_same
    clear hG
    refine ⟨p3, p4, _, _, rfl, rfl, z10 _ _ k9, k10, sz (by have := hwa.1; simp only [List.length_append, List.length_map, List.length_take, List.length_drop, List.length_cons, List.length_nil]; omega), fun p5 hp5 => ?_⟩
    generalize hG : upd J10 p5 (HO.lst _) = J11
    have z11 : Same J10 J11 := hG ▸ same_new hp5
    have k11 : J11 p5 = some (.lst ((was.take k).map V.ref ++ [v] ++ (was.drop k).map V.ref)) := by rw [← hG]; exact upd_same
    clear hG
    refine gn ?_
    dsimp only [List.set]
    have z6b := (z69.trans z10).trans z11
    have L11 := L6.same z6b
    have np5 : p5 ≠ b := (L6.same (z69.trans z10)).nn hp5
    refine ⟨(by show 5 ≤ sizeLine; decide), fun ll hll => ?_⟩
    generalize hG : upd J11 ll (HO.lst _) = J12
    have z12 : Same J11 J12 := hG ▸ same_new hll
    have k12 : J12 ll = some (.lst [V.ref fC, .ref fS, .ref fX, .ref fU, .ref fR]) := by rw [← hG]; exact upd_same
    clear hG
    have nll : ll ≠ b := L11.nn hll
    have L12 := L11.same z12
    have bv12 := bv6.ks (Same.ks (z6b.trans z12))
    have kv12 := z12 _ _ k11
    have wf12 : wfV n ts.length 8 (some (((ws.take k).map fun p => some (pcV p)) ++ rv :: ((ws.drop k).map fun p => some (pcV p)))) = .int (k : Int) := by
      have lk : (ws.take k).length = k := by rw [List.length_take]; omega
      have e := wf_bad (n := n) (t := ts.length) (d := 8) (ws := ws.take k) (r := rv) (rest := (ws.drop k).map fun p => some (pcV p)) (fun p hp => hk.ok p (List.mem_of_mem_take hp)) (by
        have nd := hk.nd
        rw [← List.take_append_drop k ws, rds_app, List.nodup_append] at nd
        exact nd.1) (by simp only [List.length_append, List.length_map, List.length_take, List.length_drop, List.length_cons]; omega) bv12.b1 bv12.b2
      rw [lk] at e; exact e
    have sk : ((k : Int)).natAbs < 2 ^ 64 := by omega
    clear z7 z8 z9 z10 z11 z69 z6b k7 k8 k9 k10 k11 hwl6 hll hp1 hp2 hp3 hp4 hp5 bv6 z12
    refine ⟨ll, rfl, ⟨_, SqL.of k12⟩, for_list (K := K) (a := ll) (xs := [V.ref fC, .ref fS, .ref fX, .ref fU, .ref fR]) (fun i σ H' => ∃ v9 : Option V, σ = [some (.ref b), some (.ref w), some (.int (n : Int)), some (.ref tl), some (.ref wl), some (.int (k : Int)), some (.ref D1), some (.ref o3), some v, v9, some (.ref p5), none] ∧ Lw b T [] J12 H') ⟨none, rfl, Lw.refl L12.bx L12.tb⟩ (fun i σ H' _ ⟨_, _, L⟩ => SqL.of (L.lstK k12 nll)) ?_ ?_⟩
    · rintro i x σ H7 hx ⟨v9, rfl, L⟩
      have xc : x = .ref fC ∨ x = .ref fS ∨ x = .ref fX ∨ x = .ref fU ∨ x = .ref fR := by
        have := List.mem_of_getElem? hx
        simpa using this
      rcases xc with rfl | rfl | rfl | rfl | rfl
      all_goals (
        refine gn ?_
        dsimp only [List.set]
        refine ⟨L.tb, fun G1 eN1 tb1 => ?_⟩
        have Lg := L.ext eN1 tb1
        have La := L12.trans Lg
        have wG := La.webK hb hw
        have aG := La.pcsK hb hwa
        have sG := svs_bent (Lg.lstK kv12 np5) (aG.take k) (aG.drop k) (bv12.sv _ Lg.ks)
        first
          | refine .inl ⟨rfl, _, rfl, _, rfl, nilP (ck_no wG sG wf12 (heB sk fun q1 E1 y1 hq1 => ?_))⟩
          | refine .inr (.inl ⟨rfl, _, rfl, _, rfl, nilP (ask_no wG hW sG wf12 (heB sk fun q1 E1 y1 hq1 => ?_))⟩)
          | refine .inr (.inr (.inl ⟨rfl, _, rfl, _, rfl, nilP (ask_no wG hW sG wf12 (heB sk fun q1 E1 y1 hq1 => ?_))⟩))
          | refine .inr (.inr (.inr (.inl ⟨rfl, _, rfl, _, rfl, nilP (ask_no wG hW sG wf12 (heB sk fun q1 E1 y1 hq1 => ?_))⟩)))
          | refine .inr (.inr (.inr (.inr ⟨rfl, _, rfl, _, rfl, nilP (ask_no wG hW sG wf12 (heB sk fun q1 E1 y1 hq1 => ?_))⟩)))
        refine ⟨_, rfl, nilP (rs_int sk _ _ ⟨(by show 3 ≤ sizeLine; decide), fun q2 hq2 => earN st_s (ok_int (k : Int)) ((same_new hq2) _ _ hq1) upd_same ⟨_, rfl, iteF (nxP ?_)⟩⟩)⟩
        exact ⟨_, rfl, (Lg.same y1).new hq2⟩)
    rintro σ H7 ⟨v9, rfl, Lq⟩
    have L7 := L12.trans Lq
    clear Lq k12 kv12 bv12 wf12
    dsimp only
    -- what is no walk at all
    refine ⟨_, rfl, (by show 3 ≤ sizeLine; decide), fun x1 hx1 => ?_⟩
    generalize hG : upd H7 x1 (HO.tup _) = J1
    have z1 : Same H7 J1 := hG ▸ same_new hx1
    have k1 : J1 x1 = some (.tup (pcV (.st (.dd 0 0)))) := by rw [← hG]; exact upd_same
    clear hG
    refine ⟨(by show 1 ≤ sizeLine; decide), fun x2 hx2 => ?_⟩
    generalize hG : upd J1 x2 (HO.lst _) = J2
    have z2 : Same J1 J2 := hG ▸ same_new hx2
    have k2 : J2 x2 = some (.lst [.ref x1]) := by rw [← hG]; exact upd_same
    clear hG
    refine ⟨x2, (401 : Int), [.ref x1], rfl, rfl, k2, by decide, by decide, (by show 1 * 401 ≤ sizeLine; decide), fun x3 hx3 => ?_⟩
    generalize hG : upd J2 x3 (HO.lst _) = J3
    have z3 : Same J2 J3 := hG ▸ same_new hx3
    have k3 : J3 x3 = some (.lst ((List.replicate 401 x1).map V.ref)) := by
      rw [← hG, List.map_replicate, ← flat_rep]; exact upd_same
    clear hG
    refine ⟨(by show 5 ≤ sizeLine; decide), fun x4 hx4 => ?_⟩
    generalize hG : upd J3 x4 (HO.lst _) = J4
    have z4 : Same J3 J4 := hG ▸ same_new hx4
    have k4 : J4 x4 = some (.lst [.non, .int 0, .str "0", .bl true, .ref x3]) := by rw [← hG]; exact upd_same
    clear hG
    have L8 := L7.same (((z1.trans z2).trans z3).trans z4)
    have nx4 := (L7.same ((z1.trans z2).trans z3)).nn hx4
    have nx3 := (L7.same (z1.trans z2)).nn hx3
    have nx1 := L7.nn hx1
    refine nilP ⟨b, x4, _, rfl, L8.bx, k4, nx4, by show 1 ≤ 5; decide, by show 5 ≤ 1000; decide, fun iv v2 J5 hv2 bx5 => ?_⟩
    have L9 := L8.box bx5
    have ks5 : Ks [b] J4 J5 := ks_bx (xs := []) bx5
    have k35 := z4 _ _ k3
    have k15 := z4 _ _ (z3 _ _ (z2 _ _ k1))
    obtain ⟨o2', hs2, hw2⟩ : ∃ o, (∀ H', Ks [b] J5 H' → Svs K H' v2 o) ∧ wfV n ts.length 8 o = .int (-1) := by
      have hm := List.mem_of_getElem? hv2
      simp only [List.mem_cons, List.mem_nil_iff, or_false] at hm
      rcases hm with rfl | rfl | rfl | rfl | rfl
      · exact ⟨none, fun H' _ => .no .non, rfl⟩
      · exact ⟨none, fun H' _ => .no (.int 0), rfl⟩
      · exact ⟨none, fun H' _ => .no (.str "0"), rfl⟩
      · exact ⟨none, fun H' _ => .no (.bl true), rfl⟩
      · refine ⟨some ((List.replicate 401 (Pc.st (.dd 0 0))).map fun p => some (pcV p)), fun H' k => ?_, ?_⟩
        · have kk := ks5.trans k
          exact svs_pcs (.lst (kk.lst k35 (by rw [List.mem_singleton]; exact nx3))) (pcs_rep (kk.tup k15 (by rw [List.mem_singleton]; exact nx1)) 401)
        · unfold wfV
          dsimp only
          rw [if_neg (by rw [List.length_map, List.length_replicate]; decide)]
    clear z1 z2 z3 z4 k1 k2 k3 k4 k35 k15 hx1 hx2 hx3 hx4 ks5 L8 hv2
    refine gn ?_
    dsimp only [List.set]
    -- a long walk
    refine seqG (fun σ H' => σ = [some (.ref b), some (.ref w), some (.int (n : Int)), some (.ref tl), some (.ref wl), some (.int (k : Int)), some (.ref D1), some (.ref o3), some v, v9, some v2, none] ∧ Lw b T [] J5 H') ?_ fun go => ?_
    rotate_left
    · refine ⟨_, rfl, b, _, rfl, L9.bx, by decide, by decide, fun r3 H10 r30 r31 bx10 => ⟨rfl, _, rfl, ifD (fun e => ?_) fun e => ?_⟩⟩
      rotate_left
      · exact iteF (nxP (go _ _ ⟨rfl, (Lw.refl L9.bx L9.tb).box bx10⟩))
      · have L10 : Lw b T [] J5 H10 := (Lw.refl L9.bx L9.tb).box bx10
        have wk4 : WkO n ts.length 8 (List.replicate 400 (.st (.dd 0 0))) := wk_rep n1 (Nat.le_refl _)
        refine ⟨_, rfl, (by show 3 ≤ sizeLine; decide), fun x1 hx1 => ?_⟩
        generalize hG : upd H10 x1 (HO.tup _) = J1
        have z1 : Same H10 J1 := hG ▸ same_new hx1
        have k1 : J1 x1 = some (.tup (pcV (.st (.dd 0 0)))) := by rw [← hG]; exact upd_same
        clear hG
        refine ⟨(by show 1 ≤ sizeLine; decide), fun x2 hx2 => ?_⟩
        generalize hG : upd J1 x2 (HO.lst _) = J2
        have z2 : Same J1 J2 := hG ▸ same_new hx2
        have k2 : J2 x2 = some (.lst [.ref x1]) := by rw [← hG]; exact upd_same
        clear hG
        refine ⟨x2, (400 : Int), [.ref x1], rfl, rfl, k2, by decide, by decide, (by show 1 * 400 ≤ sizeLine; decide), fun x3 hx3 => ?_⟩
        generalize hG : upd J2 x3 (HO.lst _) = J3
        have z3 : Same J2 J3 := hG ▸ same_new hx3
        have k3 : J3 x3 = some (.lst ((List.replicate 400 x1).map V.ref)) := by
          rw [← hG, List.map_replicate, ← flat_rep]; exact upd_same
        clear hG
        have L11 := L10.same ((z1.trans z2).trans z3)
        have w11 := (L9.trans L11).webK hb hw
        refine nilP (ck_yes w11 (svs_pcs (.lst k3) (pcs_rep (z3 _ _ (z2 _ _ k1)) 400)) wk4 fun r1 H11 y1 hr1 => ?_)
        obtain ⟨ras, hra, hrp⟩ := hr1
        have elr : (ras.map V.ref).length = 400 := by rw [List.length_map, hrp.1, List.length_replicate]
        refine ⟨r1, _, rfl, .inr (SqT.of hra), ?_⟩
        rw [elr]
        dsimp only
        refine cP (neV rfl ⟨_, rfl, iteF ?_⟩)
        have L12 := L11.same y1
        clear z1 z2 z3 k1 k2 k3 hx1 hx2 hx3
        refine ⟨_, rfl, (by show 3 ≤ sizeLine; decide), fun x1 hx1 => ?_⟩
        generalize hG : upd H11 x1 (HO.tup _) = J1
        have z1 : Same H11 J1 := hG ▸ same_new hx1
        have k1 : J1 x1 = some (.tup (pcV (.st (.dd 0 0)))) := by rw [← hG]; exact upd_same
        clear hG
        refine ⟨(by show 1 ≤ sizeLine; decide), fun x2 hx2 => ?_⟩
        generalize hG : upd J1 x2 (HO.lst _) = J2
        have z2 : Same J1 J2 := hG ▸ same_new hx2
        have k2 : J2 x2 = some (.lst [.ref x1]) := by rw [← hG]; exact upd_same
        clear hG
        refine ⟨x2, (400 : Int), [.ref x1], rfl, rfl, k2, by decide, by decide, (by show 1 * 400 ≤ sizeLine; decide), fun x3 hx3 => ?_⟩
        generalize hG : upd J2 x3 (HO.lst _) = J3
        have z3 : Same J2 J3 := hG ▸ same_new hx3
        have k3 : J3 x3 = some (.lst ((List.replicate 400 x1).map V.ref)) := by
          rw [← hG, List.map_replicate, ← flat_rep]; exact upd_same
        clear hG
        have L13 := L12.same ((z1.trans z2).trans z3)
        have w13 := (L9.trans L13).webK hb hw
        refine nilP (ask_yes w13 hW (svs_pcs (.lst k3) (pcs_rep (z3 _ _ (z2 _ _ k1)) 400)) wk4 fun r2 H12 y2 hr2 => ?_)
        have esw : swR n ts (List.replicate 400 (.st (.dd 0 0))) = List.replicate 400 0 := by
          unfold swR
          rw [act_rep, List.length_replicate]
          exact sw_rep n ts 400 400 400 (Nat.le_refl _)
        have hr2 : H12 r2 = some (.tup (vrow (List.replicate 400 0))) := by rw [← esw]; exact hr2
        have pl0 : Pl (.tuple (dI (List.replicate 400 (0 : Int)))) 1 26000 := (Pl.tuple (pla_ints _ fun x hx => by rw [(List.mem_replicate.mp hx).2]; decide)).mono (by decide) (by rw [List.length_replicate]; decide)
        refine ⟨(by show 1 ≤ sizeLine; decide), fun g1 hg1 => ⟨g1, (400 : Int), [.int 0], rfl, rfl, upd_same, (by intro z; cases z), by decide, by decide, by decide, fun g2 H13 y3 hg2 => ?_⟩⟩
        have hg2 : H13 g2 = some (.tup (vrow (List.replicate 400 0))) := by rw [hg2, vrow, List.map_replicate, ← flat_rep]; rfl
        refine neDP (dp_tup (y3 _ _ ((same_new hg1) _ _ hr2))) (dp_tup hg2) pl0 (by decide) ⟨_, rfl, iteF (nxP ?_)⟩
        exact go _ _ ⟨rfl, ((L13.same y2).same (same_new (o := HO.tup [V.int 0]) hg1)).same y3⟩
    · rintro σ H10 ⟨rfl, L10⟩
      refine ⟨L10.tb, fun G1 eN1 tb1 => ?_⟩
      have Lg := L10.ext eN1 tb1
      have wG := (L9.trans Lg).webK hb hw
      have et : ((toString (-1 : Int) : String) : Str) = ("-1" : Str) := by decide +kernel
      refine ⟨_, rfl, _, rfl, nilP (ck_no wG (hs2 _ Lg.ks) hw2 (heB (by decide) fun q1 E1 y1 hq1 => ?_))⟩
      rw [et] at hq1
      refine ⟨(by show 3 ≤ sizeLine; decide), fun q2 hq2 => earE st_s (by decide +kernel) ((same_new hq2) _ _ hq1) upd_same ?_⟩
      exact q _ ((L9.trans Lg).same (y1.trans (same_new (o := HO.lst [V.str "steps", .str "-1", .bl true]) hq2)))
end
end K1
namespace K1
open PySem PySem.Spec PyProof.Rows L2
/-! ### the law -/
theorem mkSame {G : Hp} {c dx : Addr} {o1 o2 : HO} (hc : G c = none) (hd : G dx = none) (ne : dx ≠ c) : Same G (upd (upd G dx o1) c o2) := (same_new hd).trans (same_new (by rw [upd_ne ne.symm]; exact hc))
theorem rds_sub {a b : List Pc} (h : a.Sublist b) : (rds a).Sublist (rds b) := by
  induction h with
  | slnil => exact List.Sublist.slnil
  | cons p h ih => cases p with
    | rd x => exact ih.cons x
    | st s => exact ih
  | cons_cons p h ih => cases p with
    | rd x => exact ih.cons_cons x
    | st s => exact ih
theorem WkO.sub {n t d : Nat} {a b : List Pc} (k : WkO n t d b) (h : a.Sublist b) : WkO n t d a := ⟨fun p hp => k.ok p (h.subset hp), k.nd.sublist (rds_sub h), Nat.le_trans h.length_le k.ln⟩
theorem sqL_ks {K : PySem.W.Frag} {H H1 : Hp} {a : Addr} {xs : List V} (h : SqL K H a xs) (k : Ks [] H H1) : SqL K H1 a xs := by
  rcases h with (h | ⟨ob, h⟩) | h
  · exact .inl (.inl (k _ _ h (by simp) fun ps z => by cases z))
  · exact .inl (.inr ⟨ob, k _ _ h (by simp) fun ps z => by cases z⟩)
  · exact .inr h
theorem Lw.ks0 {b : Addr} {T : List (Addr × Str)} {H0 H H' : Hp} (l : Lw b T [] H H') (s : Same H0 H) (h0 : H0 b = none) : Ks [] H0 H' := fun c o e _ n => l.ks c o (s _ _ e) (by rw [List.mem_singleton]; exact ne_of_none e h0) n
theorem c1 {i : Int} {σ : L2.St} {H : Hp} {Q : List V → Hp → Prop} (h : Q [.int i] H) : tCons (tC (.int i)) tNil σ H Q := h
theorem Lw.prsK {b : Addr} {T : List (Addr × Str)} {H H' : Hp} {as : List Addr} {ts : Prs} (hb : BoxO H b) (l : Lw b T [] H H') (h : PrsA H as ts) : PrsA H' as ts := h.kp fun _ _ e => l.tupK hb e
structure Dn (P : Program) (w : World) (K : PySem.W.Frag) (mg : Str → Option Value) (base : Heap) (W CB : Addr) (T : List (Addr × Str)) : Prop where
  B : Bt mg
  TW : WcT K mg W
  box : ∃ f fd, Df K mg "_law_box" sLBox ["_law_script", "_law_k"] f fd ∧ FnOk P w K mg base CX0 1 f fd ["_law_script", "_law_k"] (spBox K)
  take : ∃ f fd, Df K mg "_law_take" sLTake ["_law_box_here", "_law_many"] f fd ∧ FnOk P w K mg base CX0 1 f fd ["_law_box_here", "_law_many"] spTake
  pick : ∃ f fd, Df K mg "_law_pick" sLPick ["_law_box_here", "_law_some"] f fd ∧ FnOk P w K mg base CX0 2 f fd ["_law_box_here", "_law_some"] spPick
  lweb : ∃ f fd, Df K mg "_law_web" sLWeb ["_law_box_here", "_law_most"] f fd ∧ FnOk P w K mg base CX0 3 f fd ["_law_box_here", "_law_most"] spLW
  lwalk : ∃ f fd, Df K mg "_law_walk" sLWalk ["_law_box_here", "_law_houses", "_law_ties", "_law_deeds", "_law_most"] f fd ∧ FnOk P w K mg base CX0 3 f fd ["_law_box_here", "_law_houses", "_law_ties", "_law_deeds", "_law_most"] spLK
  winit : ∃ f fd, Mk K W f ∧ Binds K fd ["self", "houses", "ties"] [] ∧ FnOk P w K mg base (L2.CX P w) 6 f fd ["self", "houses", "ties"] (spWInit W)
  exact : ∃ f fd, Df K mg "_law_exact" sLExact ["_law_web_here", "_law_houses", "_law_ties", "_law_walk_here", "_law_deeds"] f fd ∧ FnOk P w K mg base CX0 8 f fd ["_law_web_here", "_law_houses", "_law_ties", "_law_walk_here", "_law_deeds"] (spExact W)
  told : ∃ f fd, Df K mg "_law_told_right" sLToldRight ["_law_web_here", "_law_houses", "_law_ties", "_law_walk_here"] f fd ∧ FnG P w K mg base 8 f fd ["_law_web_here", "_law_houses", "_law_ties", "_law_walk_here"] (spTold W)
  str : ∃ f fd, Df K mg "_law_strangers_right" sLStrangersRight ["_law_box_here", "_law_web_here", "_law_houses", "_law_ties", "_law_walk_here"] f fd ∧ FnG P w K mg base 10 f fd ["_law_box_here", "_law_web_here", "_law_houses", "_law_ties", "_law_walk_here"] (spStr W T)
def spLaw (K : PySem.W.Frag) (T : List (Addr × Str)) : Sp := fun vs H Q _ => ∃ (a : Addr) (ns : List Int), vs = [.ref a] ∧ SqL K H a (ns.map V.int) ∧ ns.length ≤ 63 ∧ LamX.Tabs T H ∧ ∀ H', Q (.bl true) H'
section
variable {P : Program} {w : World} {K : PySem.W.Frag} {mg : Str → Option Value} {base : Heap}
abbrev nLa : List Str := ["_law_script", "_law_k", "_law_box_here", "_law_deeds", "_law_houses", "_law_ties", "_law_web_here", "_law_walk_here", "_law_never", "_law_pace"]
theorem scLa : FnScope nLa ["_law_script"] (defScope sLaw) := ⟨rfl, rfl, rfl, by decide +kernel, rfl, by decide +kernel, by decide +kernel⟩
theorem ok_law {f W CB : Addr} {fd : FuncData} {T : List (Addr × Str)} (F : Fun K "law" "law" sLaw f fd) (dn : Dn P w K mg base W CB T) : FnG P w K mg base 11 f fd ["_law_script"] (spLaw K T) := by
  have B := dn.B
  have TW := dn.TW
  obtain ⟨_, _, DB, GB⟩ := dn.box
  obtain ⟨_, _, DT, GT⟩ := dn.take
  obtain ⟨_, _, DP, GP⟩ := dn.pick
  obtain ⟨_, _, DW, GW⟩ := dn.lweb
  obtain ⟨_, _, DK, GK⟩ := dn.lwalk
  obtain ⟨_, _, MW, BW, GWi⟩ := dn.winit
  obtain ⟨_, _, DE, GE⟩ := dn.exact
  obtain ⟨_, _, DO, GO⟩ := dn.told
  obtain ⟨_, _, DS, GS⟩ := dn.str
  refine okG F scLa (fun vs H Q E h => ?_) (fun cdv A outer s H vs Q E hr hgd h => ?_)
  · obtain ⟨a, ns, rfl, _⟩ := h
    rfl
  · obtain ⟨a, ns, rfl, hS, hn, hT, q⟩ := h
    have hu : (A.deeper (envOfC "law" (defScope sLaw) s.heap.objs.size f cdv)).units + 64 < cLine := hr.units
    have r1 := hr.mono (show 1 ≤ 10 by decide)
    have r2 := hr.mono (show 2 ≤ 10 by decide)
    have r3 := hr.mono (show 3 ≤ 10 by decide)
    have r7 := hr.mono (show 7 ≤ 10 by decide)
    have r8 := hr.mono (show 8 ≤ 10 by decide)
    refine ⟨_, (pss_cons (ps_for PassesOwn.never rfl (pi_range1 (by rfl) B.range (pa_cons pe_int pa_nil)) (pg_name (i := 1) scLa.nd rfl (.inl rfl))
      (pss_cons (ps_set (i := 2) scLa.nd rfl (.inl rfl) (pc DB GB r1 pass0 (pa_cons (pv 0) (pa_cons (pv 1) pa_nil))))
      (pss_cons (ps_set (i := 3) scLa.nd rfl (.inl rfl) (pe_op op_add pe_int (pc DT GT r1 pass0 (pa_cons (pv 2) (pa_cons pe_int pa_nil)))))
      (pss_cons (ps_asg (pc DW GW r3 pass0 (pa_cons (pv 2) (pa_cons (pc DP GP r2 pass0 (pa_cons (pv 2) (pa_cons (pe_lst (pa_cons pe_int (pa_cons pe_int (pa_cons pe_int pa_nil)))) pa_nil))) pa_nil))) (pg_lst rfl (pgs_cons (pg_name (i := 4) scLa.nd rfl (.inl rfl)) (pgs_cons (pg_name (i := 5) scLa.nd rfl (.inl rfl)) pgs_nil))))
      (pss_cons (ps_par (i := 6) (j := 7) rfl scLa.nd rfl rfl (by decide) rfl rfl (pa_cons (pe_make MW GWi r7 rfl TW.g BW .nil passF (pa_cons (pv 4) (pa_cons (pv 5) pa_nil))) (pa_cons (pc DK GK r3 pass0 (pa_cons (pv 2) (pa_cons (pv 4) (pa_cons (pv 5) (pa_cons (pv 3) (pa_cons pe_int pa_nil)))))) pa_nil)) rfl)
      (pss_cons (ps_if (pt_not (pt_val (pc DE GE r8 pass0 (pa_cons (pv 6) (pa_cons (pv 4) (pa_cons (pv 5) (pa_cons (pv 7) (pa_cons (pv 3) pa_nil))))))))
        (pss_one (ps_ret pe_bl))
        pss_nil)
      (pss_cons (ps_if (pt_cmpR op_eq (pc DT GT r1 pass0 (pa_cons (pv 2) (pa_cons pe_int pa_nil))) pe_int (nomark _))
        (pss_cons (ps_set (i := 8) scLa.nd rfl (.inr rfl) (pc DT GT r1 pass0 (pa_cons (pv 2) (pa_cons (pv 4) pa_nil))))
        (pss_one (ps_setLc (i := 7) (own := [("_law_pace", 9)]) (g := gName 9) rfl scLa.nd rfl rfl (sw_true rfl rfl rfl (by decide +kernel)) (pi_list (pv 7)) (blkOk_by (N := nLa) (sc := defScope sLaw) (by decide +kernel)) (fun _ _ _ _ _ => (pg_name (i := 9) scLa.nd rfl (Or.inl rfl))) (fun _ _ _ _ _ => pts_one (pt_cmpR (neD (K := K) rfl hu) (pv 9) (pe_tup (pa_cons pe_str (pa_cons (pv 8) pa_nil))) (nomark _))) (fun _ _ _ _ _ => (pv 9)))))
        pss_nil)
      (pss_one (ps_if (PW.pt (pw_or (pt_not (pt_val (pe_callG DO GO r8 hgd (pa_cons (pv 6) (pa_cons (pv 4) (pa_cons (pv 5) (pa_cons (pv 7) pa_nil))))))) (pw_or1 (pt_not (pt_val (pe_callG DS GS hr hgd (pa_cons (pv 2) (pa_cons (pv 6) (pa_cons (pv 4) (pa_cons (pv 5) (pa_cons (pv 7) pa_nil)))))))))))
        (pss_one (ps_ret pe_bl))
        pss_nil)))))))))
    (pss_one (ps_ret pe_bl))), ?_⟩
    --MAIN
    refine ⟨4, rfl, by decide, by decide, for_range (fun i σ H' => ∃ (v1 v2 v3 v4 v5 v6 v7 v8 : Option V), σ = [some (.ref a), v1, v2, v3, v4, v5, v6, v7, v8, none] ∧ SqL K H' a (ns.map V.int) ∧ LamX.Tabs T H')
      ⟨none, none, none, none, none, none, none, none, rfl, hS, hT⟩ ?_ ?_⟩
    rotate_left
    · rintro σ H1 ⟨v1, v2, v3, v4, v5, v6, v7, v8, rfl, _⟩
      exact q _
    rintro i σ Ha hi ⟨v1, v2, v3, v4, v5, v6, v7, v8, rfl, hSa, hTa⟩
    refine ⟨_, rfl, _, rfl, a, ns, 0 + (i : Int), rfl, hSa, hn, by omega, by omega, fun b H1 s1 hb0 hb1 => ?_⟩
    refine gn ?_
    dsimp only [List.set]
    have L1 : Lw b T [] H1 H1 := Lw.refl hb1 (hTa.ext s1)
    -- deeds
    refine ⟨_, rfl, b, 8, rfl, hb1, by decide, by decide, fun x H2 x0 x1 bx2 => ⟨_, _, rfl, rfl, ?_⟩⟩
    obtain ⟨d, ed, d1, d8⟩ : ∃ d : Nat, 1 + x = (d : Int) ∧ 1 ≤ d ∧ d ≤ 8 := ⟨(1 + x).toNat, by omega, by omega, by omega⟩
    have L2 := L1.box bx2
    refine gn ?_
    dsimp only [List.set]
    rw [ed]
    -- the web
    refine ⟨_, rfl, _, rfl, (by show 3 ≤ sizeLine; decide), fun l0 hl0 => ?_⟩
    have L2a := L2.new (o := HO.lst [V.int 6, .int 4, .int 12]) hl0
    have k0 : (upd H2 l0 (HO.lst [V.int 6, .int 4, .int 12])) l0 = some (.lst [V.int 6, .int 4, .int 12]) := upd_same
    have nl0 := L2.nn hl0
    generalize upd H2 l0 (HO.lst [V.int 6, .int 4, .int 12]) = H2a at L2a k0 ⊢
    refine nilP ⟨b, l0, _, rfl, L2a.bx, k0, nl0, by decide, by decide, fun j v H3 hv bx3 => ?_⟩
    obtain ⟨m, rfl, m1, m12⟩ : ∃ m : Nat, v = .int (m : Int) ∧ 1 ≤ m ∧ m ≤ 12 := by
      match j, hv with
      | 0, hv => exact ⟨6, (Option.some.inj hv).symm, by decide, by decide⟩
      | 1, hv => exact ⟨4, (Option.some.inj hv).symm, by decide, by decide⟩
      | 2, hv => exact ⟨12, (Option.some.inj hv).symm, by decide, by decide⟩
      | k + 3, hv => cases hv
    have L3 := L2a.box bx3
    refine nilP ⟨b, m, rfl, L3.bx, m1, m12, fun n ts r tl tas H4 hW lts bx4 ftl fr hr4 htl hta => ?_⟩
    have L4 := L3.box bx4
    have ntl : tl ≠ b := L3.nn ftl
    refine ⟨r, _, rfl, SqL.of hr4, rfl, _, _, rfl, _, _, rfl, rfl, ?_⟩
    dsimp only [List.set]
    -- web and walk
    refine ⟨_, rfl, _, rfl, fun w dxw hw0 hdx0 new => ?_⟩
    have smw := mkSame (o1 := HO.own w) (o2 := HO.ins W dxw []) hw0 hdx0 new
    refine ⟨w, dxw, n, tl, tas, ts, rfl, upd_same, .inl (smw _ _ htl), hta.same smw, hW, fun H5 k5 hWeb => ⟨rfl, ?_⟩⟩
    have s5 : Same H4 H5 := fun c o e => k5 c o (smw c o e) (ne_of_none e hw0)
    have L5 := L4.same s5
    clear k5 smw hw0 hdx0 k0
    refine ⟨_, rfl, _, rfl, _, rfl, _, rfl, c1 ⟨b, tl, n, d, 34, ts, tas, rfl, L5.bx, ntl, s5 _ _ htl, hta.same s5, hW, d1, d8, by decide, by decide, fun ws wl was H6 hk lws hall bx6 fwl hwl hwa => ?_⟩⟩
    refine ⟨_, _, rfl, ?_⟩
    dsimp only [List.set]
    have L6 := L5.box bx6
    have hb6 := L6.bx
    have nwl : wl ≠ b := L5.nn fwl
    have htl6 := bx6.2 _ _ (s5 _ _ htl) ntl
    have hta6 : PrsA H6 tas ts := (hta.same s5).kp fun a xs e => bx6.tup L5.bx e
    have hw6 : WebAt W H6 w n ts := hWeb.kp (fun a xs e => bx6.tup L5.bx e) fun dx fs e => bx6.2 _ _ e (L5.bx.ne e fun xs => by intro z; cases z)
    have hk8 := hk.mono d8
    clear htl hta hWeb hr4 fr ftl
    -- exactly
    refine ⟨_, rfl, _, rfl, _, rfl, _, rfl, _, rfl, w, tl, wl, n, d, ts, tas, was, ws, rfl, hw6, hW, htl6, hta6, hwl, hwa, hk, by omega, d1, d8, hall, fun H7 s7 => ⟨_, rfl, iteF (nxP ?_)⟩⟩
    have L7 : Lw b T [] H6 H7 := (Lw.refl hb6 L6.tb).same s7
    -- a house that is never read
    dsimp only
    refine seqG (fun σ H' => ∃ (wl' : Addr) (was' : List Addr) (ws' : List Pc) (w8 : Option V), σ = [some (.ref a), some (.int (0 + (i : Int))), some (.ref b), some (.int (d : Int)), some (.int (n : Int)), some (.ref tl), some (.ref w), some (.ref wl'), w8, none] ∧ Lw b T [] H6 H' ∧ H' wl' = some (.lst (was'.map V.ref)) ∧ wl' ≠ b ∧ PcsA H' was' ws' ∧ WkO n ts.length 8 ws' ∧ ws'.length ≤ 52) ?_ fun go => ?_
    rotate_left
    · refine ⟨_, rfl, b, 3, rfl, L7.bx, by decide, by decide, fun r3 H8 r30 r31 bx8 => ⟨rfl, _, rfl, ifD (fun e => ?_) fun e => ?_⟩⟩
      rotate_left
      · have L8 := L7.box bx8
        exact nxP (go _ _ ⟨wl, was, ws, _, rfl, L8, L8.lstK hwl nwl, nwl, L8.pcsK hb6 hwa, hk8, lws⟩)
      · have L8 := L7.box bx8
        have n1 := hW.n1
        have n12 := hW.n12
        refine ⟨_, rfl, _, rfl, b, (n : Int), rfl, L8.bx, by omega, by omega, fun r4 H9 r40 r41 bx9 => ?_⟩
        obtain ⟨hh, rfl⟩ : ∃ h : Nat, r4 = (h : Int) := ⟨r4.toNat, by omega⟩
        have L9 := L8.box bx9
        refine gn ?_
        dsimp only [List.set]
        have hwl9 := L9.lstK hwl nwl
        have hwa9 := L9.pcsK hb6 hwa
        have plp : ∀ {p : Pc}, okP n ts.length d p → Pl (pcD p) 1 300 := fun o => pl_pc o (by omega) (by have := hW.t20; omega) (by omega)
        refine ⟨_, rfl, wl, rfl, ⟨_, SqL.of hwl9⟩, fun D1 hD1 => lc_list (K := K) (a := wl) (xs := was.map V.ref) (fun i H' => ∃ (as' : List Addr) (ws' : List Pc), Same H9 H' ∧ H' D1 = some (.lst (as'.map V.ref)) ∧ PcsA H9 as' ws' ∧ ws'.Sublist (ws.take i)) ⟨[], [], same_new hD1, upd_same, ⟨rfl, fun i a p e => by cases e⟩, List.nil_sublist _⟩ (fun i H' _ ⟨_, _, z, _⟩ => SqL.of (z _ _ hwl9)) ?_ ?_⟩
        · rintro i y H10 hy ⟨as', ws', z, hD, hA, hs⟩
          obtain ⟨a', p, rfl, ha, hp, hat⟩ := hwa9.get' hy
          have hok := hk.ok p (List.mem_of_getElem? hp)
          have ea := take_succ hp
          have hi := lt_at hp
          refine ⟨rfl, _, rfl, _, rfl, (by show 2 ≤ sizeLine; decide), fun tt htt => ?_⟩
          have z2 := same_new (o := HO.tup (pcV (.rd hh))) htt
          refine ⟨pcD p, pcD (.rd hh), dp_pc (z2 _ _ (z _ _ hat)), dp_pc upd_same, (plp hok).shaped (by decide), (plp (p := .rd hh) (show hh < n by omega)).shaped (by decide), _, rfl, ifD (fun e => ?_) fun e => ?_⟩
          · have ls : ws'.length ≤ 52 := Nat.le_trans hs.length_le (by rw [List.length_take]; omega)
            refine ⟨_, rfl, _, z2 _ _ hD, szl (by rw [List.length_map, hA.1]; omega), as' ++ [a'], ws' ++ [p], fun c o e => by rw [upd_ne (ne_of_none e hD1)]; exact z2 _ _ (z _ _ e), by rw [upd_same, List.map_append]; rfl, hA.snoc hat, by rw [ea]; exact hs.append (List.Sublist.refl _)⟩
          · exact ⟨as', ws', z.trans z2, z2 _ _ hD, hA, by rw [ea]; exact hs.trans (List.sublist_append_left _ _)⟩
        rintro H10 ⟨as', ws', z, hD, hA, hs⟩
        rw [List.length_map, hwa9.1, List.take_length] at hs
        refine gn (go _ _ ⟨D1, as', ws', _, rfl, L9.same z, hD, L9.nn hD1, hA.same z, hk8.sub hs, Nat.le_trans hs.length_le lws⟩)
    rintro σ H8 ⟨wl', was', ws', w8, rfl, L8, hwl', nwl', hwa', hk', lws'⟩
    refine ⟨_, rfl, _, rfl, _, rfl, _, rfl, w, tl, wl', n, ts, tas, was', ws', rfl, L8.webK hb6 hw6, hW, L8.lstK htl6 ntl, L8.prsK hb6 hta6, hwl', hwa', hk', by omega, fun H11 s11 => ⟨_, rfl, iteF ?_⟩⟩
    have L11 := L8.same s11
    refine ⟨_, rfl, _, rfl, _, rfl, _, rfl, _, rfl, b, w, tl, wl', n, ts, tas, was', ws', rfl, L11.bx, L11.tb, L11.webK hb6 hw6, hW, L11.lstK htl6 ntl, L11.prsK hb6 hta6, s11 _ _ hwl', ntl, nwl', hwa'.same s11, hk', by omega, fun H12 l12 => ⟨_, rfl, iteF (nxP ?_)⟩⟩
    have L12 := L6.trans (L11.trans l12)
    exact ⟨_, _, _, _, _, _, _, _, rfl, sqL_ks hSa (L12.ks0 s1 hb0), L12.tb⟩
end
end K1
namespace K1
open PySem PySem.Spec PyProof.Rows L2
/-- the caller's call of a law that is told where nothing is being shown; some tables of code objects stand by -/
theorem call_laws {P : Program} {w : World} {K : PySem.W.Frag} {mg mb : Str → Option Value} {k : Nat} {fa a : Addr} (Ps : List (Addr × Addr)) {fd : FuncData} {x : Str} {sp : Sp} {s : Shared} {vs : List Value} {ns : List Int}
    (KX : K.In s.heap) (hmg : s.heap.Ns mainGlobals mg) (hmb : s.heap.Ns builtinsNs mb) (hbb : ∀ x : Str, x ≠ "__name__" → mb x = bootBuiltins x) (hlim : s.heap.NoLimit) (hg : s.gens = #[])
    (hPs : ∀ p ∈ Ps, s.heap.get? p.2 = some { cls := .none, data := .fields #[] } ∧ K.lookup p.2 = none ∧ PySem.W.CodeHd s.heap p.1 p.2)
    (hbm : ∃ (bm : Addr) (ob : Obj), mg "__builtins__" = some (.ref bm) ∧ bm ≠ builtinsNs ∧ s.heap.get? bm = some ob ∧ ob.cls = .type "module" ∧ ob.dict = some builtinsNs ∧ ob.data = .plain)
    (ha : s.heap.get? a = some { cls := .type "list", data := .seq vs.toArray }) (hi : IntsAre vs ns) (hl : ns.length ≤ sizeLine) (hr : Room k callerA)
    (F : ∀ base : Heap, K.In base → base.Ns mainGlobals mg → (∀ p ∈ Ps, LamX.TabB base mg p.1 p.2) → FnG P w K mg base k fa fd [x] sp) (hbind : ∀ (s : Shared) (u : Value), BindsTo s fd ⟨[u], []⟩ [(x, u)])
    (hsp : ∀ H : Hp, (∀ p ∈ Ps, H p.2 = some (.tbl #[])) → SqL K H a (ns.map V.int) → sp [.ref a] H (fun v _ => v = .bl true) fun _ _ _ => False) :
    codeAny (model P w) callerA (.call (.ref fa) ⟨[.ref a], []⟩) (fun r s' => r = .ok (.ret (.bool true)) ∧ OldK s.heap s'.heap ∧ s'.os = s.os ∧ AllBare s'.gens) s := by
  have hTS : ∀ b, b ∈ Ps.map (·.2) → s.heap.get? b = some { cls := .none, data := .fields #[] } ∧ K.lookup b = none ∧ ∃ c, PySem.W.CodeHd s.heap c b := fun b hb => by
    obtain ⟨p, hp, rfl⟩ := List.mem_map.mp hb
    obtain ⟨h1, h2, h3⟩ := hPs p hp
    exact ⟨h1, h2, _, h3⟩
  generalize hTSd : Ps.map (·.2) = TS at hTS
  have inTS : ∀ p ∈ Ps, p.2 ∈ TS := fun p hp => by rw [← hTSd]; exact List.mem_map.mpr ⟨p, hp, rfl⟩
  have nPa : ∀ b ∈ TS, b ≠ a := fun b hb z => by
    have hT := (hTS b hb).1
    rw [z, ha] at hT
    cases Option.some.inj hT
  -- told of any way to follow the script
  have told : ∀ H : Hp, (∀ b ∈ TS, H b = some (.tbl #[])) → (∀ b, b ∉ TS → H b = none ∨ (b = a ∧ K.lookup a = none ∧ ∃ o xs, H a = some (.frz o (.lst xs)))) → SqL K H a (ns.map V.int) → HOk P w H s.heap →
      codeAny (model P w) callerA (.call (.ref fa) ⟨[.ref a], []⟩) (fun r s' => r = .ok (.ret (.bool true)) ∧ OldK s.heap s'.heap ∧ s'.os = s.os ∧ AllBare s'.gens) s := by
    intro H hP hO hS hok
    have out : ∀ {b : Addr} {o : Obj}, s.heap.get? b = some o → b ∉ TS → b ≠ a → (hidT s.heap H).get? b = some o := fun {b o} e n1 n2 => hidT_get e ((hO b n1).resolve_right fun z => n2 z.1)
    have neD : ∀ {b : Addr} {o : Obj}, s.heap.get? b = some o → (∀ v n, o.data ≠ .seq v n) → (o.data ≠ .fields #[]) → b ∉ TS ∧ b ≠ a := fun {b o} e h1 h2 => ⟨fun z => by
      have hT := (hTS b z).1
      rw [hT] at e
      cases Option.some.inj e
      exact h2 rfl, fun z => by
      rw [z, ha] at e
      cases Option.some.inj e
      exact h1 _ _ rfl⟩
    have ns_ : ∀ {b : Addr} {m : Str → Option Value}, s.heap.Ns b m → (hidT s.heap H).Ns b m := fun {b m} ⟨o, es, ep, e, d, r⟩ => by
      have n := neD e (fun v n z => by rw [d] at z; cases z) (fun z => by rw [d] at z; cases z)
      exact ⟨o, es, ep, out e n.1 n.2, d, r⟩
    have kin : K.In (hidT s.heap H) := fun b o e => by
      refine hidT_get (KX b o e) ?_
      by_cases z : b ∈ TS
      · rw [(hTS b z).2.1] at e; cases e
      · refine (hO b z).resolve_right fun ⟨z1, z2, _⟩ => ?_
        rw [z1, z2] at e
        cases e
    have hM : L2.Mod K mg (hidT s.heap H) := ⟨kin, ns_ hmg, ⟨mb, ns_ hmb, hbb⟩, let ⟨mc, h1, h2⟩ := hlim; ⟨mc, ns_ h1, h2⟩⟩
    have TB : ∀ p ∈ Ps, LamX.TabB (hidT s.heap H) mg p.1 p.2 := fun p hp => by
      obtain ⟨hT, nT, hC⟩ := hPs p hp
      refine ⟨?_, ?_, fun z => ?_⟩
      · obtain ⟨o, us, file, tf, flags, tg, inF, text, tt, e, e2, e3, r⟩ := hC
        have n := neD e (fun v n z => by rw [e3] at z; cases z) (fun z => by
          rw [e3] at z
          cases z
          have := r.1
          simp at this)
        exact ⟨o, us, file, tf, flags, tg, inF, text, tt, out e n.1 n.2, e2, e3, r⟩
      · obtain ⟨bm, ob, b1, b2, b3, b4, b5, b6⟩ := hbm
        have n := neD b3 (fun v n z => by rw [b6] at z; cases z) (fun z => by rw [b6] at z; cases z)
        refine ⟨bm, ob, b1, b2, fun z => ?_, fun z => n.1 (by rw [z]; exact inTS p hp), out b3 n.1 n.2, b4, b5, b6⟩
        obtain ⟨o, es, ep, e, d, _⟩ := hmg
        rw [z, e] at b3
        cases Option.some.inj b3
        rw [d] at b6
        cases b6
      · obtain ⟨o, es, ep, e, d, _⟩ := hmg
        rw [z, hT] at e
        cases Option.some.inj e
        cases d
    have e0 : Env0 P w K mg (hidT s.heap H) callerA [] s H := ⟨rfl, hM, fun b o e => of_hidT e, Nat.le_of_eq (hidT_size _ _), trivial, fun b hb => absurd (show b ∈ ([] : List Addr) from hb) (by simp), hok, .of_eq hg⟩
    refine codeAny_mono ((F _ kin (ns_ hmg) TB).run callerA [] s H ⟨[.ref a], []⟩ [.ref a] [.ref a] _ _ hr rfl e0 (hbind s (.ref a)) (.cons rfl .nil) (hsp H (fun p hp => hP _ (inTS p hp)) hS)) fun r s' h => ?_
    cases r with
    | error e => exact (show False from h).elim
    | ok fl =>
      cases fl with
      | next => exact False.elim h
      | brk => exact False.elim h
      | cont => exact False.elim h
      | ret u =>
        obtain ⟨v, H', os, bare, un, hok', r', q⟩ := h
        obtain rfl : v = V.bl true := q
        obtain rfl : u = Value.bool true := r'
        have hm' : ∀ b ∈ TS, ∃ more, s'.heap.get? b = some { cls := .none, data := .fields more } := fun b hb => by
          obtain ⟨more, hm⟩ := un.tbls b #[] (hP b hb)
          have z := hok' b _ hm
          rw [Array.empty_append] at z
          exact ⟨more, z⟩
        have rest : ∀ b o, b ∉ TS → s.heap.get? b = some o → s'.heap.get? b = some o := fun b o n e => by
          rcases hO b n with z | ⟨z, _, ob, xs, hf⟩
          · exact un.keep b o e z (fun w => absurd (show b ∈ ([] : List Addr) from w) (by simp)) (by simp)
          · rw [z] at e ⊢
            have e1 := (hok a _ hf).1
            rw [e] at e1
            rw [Option.some.inj e1]
            exact (hok' a _ (un.frzs a ob _ hf)).1
        refine ⟨rfl, ⟨fun b o e => ?_, fun b o e => ?_⟩, os, bare⟩
        · by_cases z : b ∈ TS
          · obtain ⟨hT, _, c, hC⟩ := hTS b z
            obtain ⟨more, hm⟩ := hm' b z
            rw [hT] at e
            cases Option.some.inj e
            exact .inr (.inl ⟨(hC.tab hT).isCodeTable, rfl, #[], more, rfl, by rw [Array.empty_append]; exact hm⟩)
          · exact .inl (rest b o z e)
        · by_cases z : b ∈ TS
          · obtain ⟨more, hm⟩ := hm' b z
            exact ⟨_, hm⟩
          · exact ⟨o, rest b o z e⟩
  have rv := vals_ints hi
  have naTS : a ∉ TS := fun z => nPa a z rfl
  cases hk : K.lookup a with
  | some o =>
    have e := KX a o hk
    rw [ha] at e
    cases Option.some.inj e
    refine told (fun b => if b ∈ TS then some (.tbl #[]) else none) (fun b hb => if_pos hb) (fun b n => .inl (if_neg n)) (.inr ⟨_, vs.toArray, _, hk, rfl, rfl, rfl, by rw [List.size_toArray, hi.length]; exact hl, by simpa using rv⟩) fun b u z => ?_
    by_cases n : b ∈ TS
    · have z' : some (HO.tbl #[]) = some u := (if_pos n).symm.trans z
      cases z'
      exact (hTS b n).1
    · have z' : (none : Option HO) = some u := (if_neg n).symm.trans z
      cases z'
  | none =>
    refine told (fun b => if b ∈ TS then some (.tbl #[]) else if b = a then some (.frz { cls := .type "list", data := .seq vs.toArray } (.lst (ns.map V.int))) else none) (fun b hb => if_pos hb) (fun b n => ?_) (.inl (.inr ⟨_, (if_neg naTS).trans (if_pos rfl)⟩)) fun b u z => ?_
    · by_cases n2 : b = a
      · exact .inr ⟨n2, hk, _, _, (if_neg naTS).trans (if_pos rfl)⟩
      · exact .inl ((if_neg n).trans (if_neg n2))
    · by_cases n : b ∈ TS
      · have z' : some (HO.tbl #[]) = some u := (if_pos n).symm.trans z
        cases z'
        exact (hTS b n).1
      · by_cases n2 : b = a
        · have z' := ((if_neg n).trans (if_pos n2)).symm.trans z
          cases z'
          rw [n2]
          exact ⟨ha, by rw [List.length_map]; exact hl, vs, _, rv, ha⟩
        · have z' := ((if_neg n).trans (if_neg n2)).symm.trans z
          cases z'
end K1
namespace K1
open PySem PySem.Spec PyProof.Rows L2
structure Cg (mg : Str → Option Value) : Prop where
  u : ∃ C, mg "Uncommuting" = some (.ref C)
  h : ∃ C, mg "NoHouse" = some (.ref C)
  s : ∃ C, mg "NoState" = some (.ref C)
abbrev T1 (Pz : Addr) : List (Addr × Str) := [(Pz, qSt)]
/-- what the top has left -/
structure Tp (K : PySem.W.Frag) (mg : Str → Option Value) (W Cc CW CB CR cz Pz fa fz : Addr) (fd fdz : FuncData) : Prop where
  B : Bt mg
  kw : Cw mg
  ks : Cs mg
  kr : Cr mg
  k8 : Ct8 mg
  kg : Cg mg
  whole : ∃ f fd, Df K mg "is_whole" sWhole ["value"] f fd
  below : ∃ f fd, Df K mg "is_below" sBelow ["value", "limit"] f fd
  seq : ∃ f fd, Df K mg "is_sequence" sSeq ["value", "least", "most"] f fd
  fnb : ∃ f fd, Df K mg "first_not_below" sFnb ["items", "limit"] f fd
  repl : ∃ f fd, Df K mg "replaced" sRepl ["items", "at", "item"] f fd
  pair : ∃ f fd, Df K mg "is_pair" sPair ["value", "houses"] f fd
  cties : ∃ f fd, Df K mg "checked_ties" sCTies ["houses", "ties"] f fd
  ways : ∃ f fd, Df K mg "ways_on" sWays ["web", "house"] f fd
  isStep : ∃ f fd, Df K mg "is_step" sIsStep ["web", "deeds", "value"] f fd
  pt : ∃ f fd, Df K mg "take" sPTake ["books", "step"] f fd
  less : ∃ f fd, Df K mg "less_tie" sLessTie ["here", "there", "between"] f fd
  deedsO : ∃ f fd, Df K mg "deeds_of" sDeedsOf ["steps"] f fd
  isRead : ∃ f fd, Df K mg "is_read" sIsRead ["web", "value"] f fd
  wf : ∃ f fd, Df K mg "walk_fault" sWalkFault ["web", "deeds", "value"] f fd
  wo : ∃ f fd, Df K mg "walk_of" sWalkOf ["web", "deeds", "value"] f fd
  ckw : ∃ f fd, Df K mg "check_walk" sCheckWalk ["web", "value"] f fd
  rah : ∃ f fd, Df K mg "read_ahead" sReadAhead ["paces"] f fd
  ue : ∃ f fd, Df K mg "unread_ends" sUnreadEnds ["web", "pace", "read"] f fd
  co : ∃ f fd, Df K mg "crossings_of" sCrossingsOf ["web", "paces"] f fd
  crs : ∃ f fd, Df K mg "crossings" sCrossings ["web", "walk"] f fd
  ua : ∃ f fd, Df K mg "unread_acts" sUnreadActs ["web", "walk"] f fd
  wm : ∃ f fd, Df K mg "with_more" sWithMore ["sums", "counts", "times"] f fd
  tr : ∃ f fd, Df K mg "ties_read" sTiesRead ["web", "house", "read"] f fd
  sr : ∃ f fd, Df K mg "sums_read" sSumsRead ["web", "paces"] f fd
  wc : ∃ f fd, Df K mg "walked_counts" sWalkedCounts ["web", "walk"] f fd
  cc : ∃ f fd, Df K mg "crossed_counts" sCrossedCounts ["web", "walk"] f fd
  box : ∃ f fd, Df K mg "_law_box" sLBox ["_law_script", "_law_k"] f fd
  take : ∃ f fd, Df K mg "_law_take" sLTake ["_law_box_here", "_law_many"] f fd
  pick : ∃ f fd, Df K mg "_law_pick" sLPick ["_law_box_here", "_law_some"] f fd
  lweb : ∃ f fd, Df K mg "_law_web" sLWeb ["_law_box_here", "_law_most"] f fd
  lwalk : ∃ f fd, Df K mg "_law_walk" sLWalk ["_law_box_here", "_law_houses", "_law_ties", "_law_deeds", "_law_most"] f fd
  tally : ∃ f fd, Df K mg "_law_tally" sLTally ["_law_houses", "_law_ties", "_law_walk_here"] f fd
  fault : ∃ f fd, Df K mg "_law_fault" sLFault ["_law_call"] f fd
  told : ∃ f fd, Df K mg "_law_told_right" sLToldRight ["_law_web_here", "_law_houses", "_law_ties", "_law_walk_here"] f fd
  exact : ∃ f fd, Df K mg "_law_exact" sLExact ["_law_web_here", "_law_houses", "_law_ties", "_law_walk_here", "_law_deeds"] f fd
  strR : FunC K "_law_strangers_right" "_law_strangers_right" sLStrangersRight fz fdz (.ref cz)
  strRD : Df K mg "_law_strangers_right" sLStrangersRight ["_law_box_here", "_law_web_here", "_law_houses", "_law_ties", "_law_walk_here"] fz fdz
  law : Fun K "law" "law" sLaw fa fd
  lawb : ∀ (s : Shared) (u : Value), BindsTo s fd ⟨[u], []⟩ [("_law_script", u)]
  initW : ∃ f fd, Fun K "__init__" "Web.__init__" sWInit f fd ∧ Mk K W f ∧ Binds K fd ["self", "houses", "ties"] []
  TW : WcT K mg W
  initCc : ∃ f fd, Fun K "__init__" "Counts.__init__" sCountsInit f fd ∧ Mk K Cc f ∧ Binds K fd ["self", "web", "acts"] []
  m_Cc_do : ∃ f fd, Fun K "do" "Counts.do" sCountsDo f fd ∧ Meth K Cc "do" f ∧ Binds K fd ["self", "house", "deed"] []
  m_Cc_meet : ∃ f fd, Fun K "meet" "Counts.meet" sCountsMeet f fd ∧ Meth K Cc "meet" f ∧ Binds K fd ["self", "tie"] []
  TCc : CcT K mg Cc
  t1 : ∃ q b i, LAt.Txt K mg "BadWeb" q b CW i
  t2 : ∃ q b i, LAt.Txt K mg "BadSteps" q b CB i
  t3 : ∃ q b i, LAt.Txt K mg "Refused" q b CR i
  ex : ∃ N, mg "NetError" = some (.ref N) ∧ Exm K CB CR N
  tabz : PySem.W.tabIn K "_law_strangers_right" = some (cz, Pz)
  nPz : K.lookup Pz = Option.none
section
variable {P : Program} {w : World} {K : PySem.W.Frag} {mg : Str → Option Value} {base : Heap}
theorem asm {W Cc CW CB CR cz Pz fa fz : Addr} {fd fdz : FuncData} (t : Tp K mg W Cc CW CB CR cz Pz fa fz fd fdz) (TBz : LamX.TabB base mg cz Pz) : FnG P w K mg base 11 fa fd ["_law_script"] (spLaw K (T1 Pz)) := by
  have B := t.B
  have kw := t.kw
  have ks := t.ks
  have kr := t.kr
  have k8 := t.k8
  have kg := t.kg
  obtain ⟨_, _, dWhole⟩ := t.whole
  obtain ⟨_, _, dBelow⟩ := t.below
  obtain ⟨_, _, dSeq⟩ := t.seq
  obtain ⟨_, _, dFnb⟩ := t.fnb
  obtain ⟨_, _, dRepl⟩ := t.repl
  obtain ⟨_, _, dPair⟩ := t.pair
  obtain ⟨_, _, dCties⟩ := t.cties
  obtain ⟨_, _, dWays⟩ := t.ways
  obtain ⟨_, _, dIsStep⟩ := t.isStep
  obtain ⟨_, _, dPt⟩ := t.pt
  obtain ⟨_, _, dLess⟩ := t.less
  obtain ⟨_, _, dDeedsO⟩ := t.deedsO
  obtain ⟨_, _, dIsRead⟩ := t.isRead
  obtain ⟨_, _, dWf⟩ := t.wf
  obtain ⟨_, _, dWo⟩ := t.wo
  obtain ⟨_, _, dCkw⟩ := t.ckw
  obtain ⟨_, _, dRah⟩ := t.rah
  obtain ⟨_, _, dUe⟩ := t.ue
  obtain ⟨_, _, dCo⟩ := t.co
  obtain ⟨_, _, dCrs⟩ := t.crs
  obtain ⟨_, _, dUa⟩ := t.ua
  obtain ⟨_, _, dWm⟩ := t.wm
  obtain ⟨_, _, dTr⟩ := t.tr
  obtain ⟨_, _, dSr⟩ := t.sr
  obtain ⟨_, _, dWc⟩ := t.wc
  obtain ⟨_, _, dCc⟩ := t.cc
  obtain ⟨_, _, dBox⟩ := t.box
  obtain ⟨_, _, dTake⟩ := t.take
  obtain ⟨_, _, dPick⟩ := t.pick
  obtain ⟨_, _, dLweb⟩ := t.lweb
  obtain ⟨_, _, dLwalk⟩ := t.lwalk
  obtain ⟨_, _, dTally⟩ := t.tally
  obtain ⟨_, _, dFault⟩ := t.fault
  obtain ⟨_, _, dTold⟩ := t.told
  obtain ⟨_, _, dExact⟩ := t.exact
  have TW := t.TW
  obtain ⟨_, _, fiW, mkW, biW⟩ := t.initW
  have TCc := t.TCc
  obtain ⟨_, _, fiCc, mkCc, biCc⟩ := t.initCc
  obtain ⟨_, _, f_Cc_do, mt_Cc_do, b_Cc_do⟩ := t.m_Cc_do
  obtain ⟨_, _, f_Cc_meet, mt_Cc_meet, b_Cc_meet⟩ := t.m_Cc_meet
  obtain ⟨_, _, _, x1⟩ := id t.t1
  obtain ⟨_, _, _, x2⟩ := id t.t2
  obtain ⟨_, _, _, x3⟩ := id t.t3
  obtain ⟨CU, gU⟩ := kg.u
  obtain ⟨CH, gH⟩ := kg.h
  obtain ⟨CS, gS⟩ := kg.s
  have gWhole := ok_whole (P := P) (w := w) (base := base) dWhole B
  have gBelow := ok_below (P := P) (w := w) (base := base) dBelow dWhole B
  have gSeq := ok_seq (P := P) (w := w) (base := base) dSeq B
  have gFnb := ok_fnb (P := P) (w := w) (base := base) dFnb dBelow B gBelow
  have gRepl := ok_repl (P := P) (w := w) (base := base) dRepl
  have gPair := ok_pair (P := P) (w := w) (base := base) dPair dSeq dFnb gSeq gFnb
  have gCties := ok_cties (P := P) (w := w) (base := base) dCties dWhole dSeq dPair B kw x1 gWhole gSeq gPair
  have gWi := ok_winit (P := P) (w := w) (base := base) fiW dCties TW gCties
  have gWays := ok_ways (P := P) (w := w) (base := base) dWays B TW
  have gIsStep := ok_isStep (P := P) (w := w) (base := base) dIsStep dSeq dBelow B ks TW gSeq gBelow
  have gLess := ok_less (P := P) (w := w) (base := base) dLess B
  have gKi := ok_kinit (P := P) (w := w) (base := base) fiCc B TCc TW
  have gKd := ok_kdo (W := W) (P := P) (w := w) (base := base) f_Cc_do dRepl B TCc gRepl
  have gKm := ok_kmeet (P := P) (w := w) (base := base) f_Cc_meet dLess dRepl TCc TW gLess gRepl
  have gPt := ok_ctake (P := P) (w := w) (base := base) dPt (⟨TCc, ⟨_, _, mt_Cc_do, b_Cc_do, gKd⟩, ⟨_, _, mt_Cc_meet, b_Cc_meet, gKm⟩⟩ : CMs P w K mg base Cc W) ks
  have gIsRead := ok_isRead (P := P) (w := w) (base := base) dIsRead dSeq dBelow kr TW gSeq gBelow
  have gWf := ok_wfault (P := P) (w := w) (base := base) dWf dSeq dIsStep dIsRead B ks gSeq gIsStep gIsRead
  have gWo := ok_walkOf (P := P) (w := w) (base := base) dWo dWf B x2 gWf
  have gCkw := ok_ckW (P := P) (w := w) (base := base) dCkw dWo k8 gWo
  have gDeedsO := ok_deedsP (P := P) (w := w) (base := base) dDeedsO B ks
  have gRah := ok_ra (P := P) (w := w) (base := base) dRah kr
  have gUe := ok_ue (P := P) (w := w) (base := base) dUe B ks TW
  have gWm := ok_more (P := P) (w := w) (base := base) dWm B
  have gTr := ok_tr (P := P) (w := w) (base := base) dTr dWays gWays
  have gCo := ok_co (P := P) (w := w) (base := base) dCo dRah dUe B gRah gUe
  have gCrs := ok_cr (P := P) (w := w) (base := base) dCrs dCo dCkw B gCo gCkw
  have gUa := ok_ua (P := P) (w := w) (base := base) dUa dRah dCkw B ks gRah gCkw
  have gSr := ok_sr (P := P) (w := w) (base := base) dSr dDeedsO dRah dWm dTr dPt B kr TCc mkCc biCc gKi gDeedsO gRah gWm gTr gPt
  have gWc := ok_wc (P := P) (w := w) (base := base) dWc dSr dCkw gSr gCkw
  have gCc := ok_cc (P := P) (w := w) (base := base) dCc dCkw dDeedsO dRah dWm dUe dPt B kr TCc mkCc biCc gKi gCkw gDeedsO gRah gWm gUe gPt
  have gTake := ok_take (P := P) (w := w) (base := base) dTake B
  have gPick := ok_pick (P := P) (w := w) (base := base) dPick dTake B gTake
  have gBox := ok_box (P := P) (w := w) (base := base) dBox B
  have gLweb := ok_lw (P := P) (w := w) (base := base) dLweb dTake dPick B gTake gPick
  have gLwalk := ok_lk (P := P) (w := w) (base := base) dLwalk dTake dPick B gTake gPick
  have gTally := ok_tally (P := P) (w := w) (base := base) dTally B
  have gTold := ok_told (P := P) (w := w) (base := base) dTold B dTally dCkw dWc dCc dUa dCrs gTally gCkw gWc gCc gUa gCrs
  have gExact := ok_exact (P := P) (w := w) (base := base) dExact B dTally dWc gTally gWc
  obtain ⟨N, hN, eX⟩ := t.ex
  have hd : Hd K mg base CB := ⟨B, t.fault, t.t2, ⟨N, CR, CU, CH, CS, hN, x3.gC, gU, gH, gS, eX⟩⟩
  have gStr := ok_str (P := P) (w := w) (T := T1 Pz) t.strR TBz List.mem_cons_self (fun p hp _ => by rw [List.mem_singleton.mp hp]) B hd dTake dPick dCkw dWc dCc dUa dCrs gTake gPick gCkw gWc gCc gUa gCrs
  exact ok_law t.law (⟨B, TW, ⟨_, _, dBox, gBox⟩, ⟨_, _, dTake, gTake⟩, ⟨_, _, dPick, gPick⟩, ⟨_, _, dLweb, gLweb⟩, ⟨_, _, dLwalk, gLwalk⟩, ⟨_, _, mkW, biW, gWi⟩, ⟨_, _, dExact, gExact⟩, ⟨_, _, dTold, gTold⟩, ⟨_, _, t.strRD, gStr⟩⟩ : Dn P w K mg base W CB (T1 Pz))
end
/-- the end: from what the top has left -/
theorem walkK {l : PySem.W.OpenLaw} {q : Program} {loose : List Str} {XP : (Str → Option Value) → Heap → Prop} {YP : World → Heap → Prop} {d : DefRec} {K : Params → PySem.W.Frag} (hn : l.most = some 63) (hdf : d.params.defaults = []) (hY : ∀ (w : World) (h : Heap), YP w h → (K w.params).In h)
    (hrz : ∃ d', (recsOf q).find? (fun e => e.name == ("_law_strangers_right" : Str)) = some d')
    (F : ∀ (w : World) (mg : Str → Option Value) (fa : Addr) (h : Heap), (K w.params).In h → h.Ns mainGlobals mg → mg d.name = some (.ref fa) → ∃ (W Cc CW CB CR cz Pz fz : Addr) (fd fdz : FuncData), Tp (K w.params) mg W Cc CW CB CR cz Pz fa fz fd fdz) :
    PySem.W.WalkO q loose XP YP l.row.toRowW d [] (fun f vs => PySem.call f vs) := by
  refine Att.attach_callB hn hdf fun w s₀ s₁ mg mb fa o pm cd doc a vs ns G Y ho hd hcd hmg hobj hints hlen hbits hg => ?_
  have KX := hY w _ Y
  obtain ⟨W, Cc, CW, CB, CR, cz, Pz, fz, fd, fdz, t⟩ := F w mg fa _ KX G.T.g hmg
  obtain ⟨d_hrz, hrz⟩ := hrz
  obtain ⟨Chrz, Thrz⟩ := PySem.W.tab_of G.T KX hrz t.tabz
  exact call_laws (k := 11) [(cz, Pz)] (x := "_law_script") (sp := spLaw (K w.params) (T1 Pz)) KX G.T.g G.T.b G.T.builtins G.T.nolimit hg (fun p hp => by
      simp only [List.mem_cons, List.mem_nil_iff, or_false] at hp
      rcases hp with rfl
      · exact ⟨Thrz, t.nPz, Chrz⟩) G.T.bmain hobj hints (Nat.le_trans hlen (by decide)) ⟨rfl, by decide, by decide⟩ (fun base _ _ TB => asm t (TB _ List.mem_cons_self)) t.lawb
    fun H hP hS => ⟨a, ns, rfl, hS, hlen, fun p hp => by
      simp only [List.mem_cons, List.mem_nil_iff, or_false] at hp
      rcases hp with rfl
      · exact .nil (hP _ List.mem_cons_self), fun _ => rfl⟩
end K1
namespace K1
open PySem PySem.Spec PyProof.Rows L2
section
variable {K : PySem.W.Frag} {h : Heap} {mg : Str → Option Value} {x qual : Str} {st : Stmt} {ps : List Str} {f C : Addr} {oc kV doc pm cdv ct : Value} {od an : Option Addr} {osl : Array (Option Value)}
theorem df_of (X : K.In h) (G : h.Ns mainGlobals mg) (a : PySem.W.nsIn K mainGlobals x = some (some (.ref f))) (l : K.lookup f = some ⟨oc, od, .func (PySem.W.fnOf x x (defArgs st) (defBody st) (defScope st) .none kV doc pm an cdv ct), osl⟩)
    (c : PySem.W.codeIn K cdv x = true) (k : PySem.W.keepIn K (.ref f) = true)
    (b : ∀ (kV doc pm : Value) (an : Option Addr) (cdv ct : Value) (us : List Value), us.length = ps.length → bindArgs (PySem.W.fnOf x x (defArgs st) (defBody st) (defScope st) .none kV doc pm an cdv ct) ⟨us, []⟩ = pure (ps.zip us)) : ∃ f fd, Df K mg x st ps f fd :=
  ⟨f, _, ⟨fun_mk l c k, PySem.W.mg_of X G a, (fun_mk l c k).binds b⟩⟩
theorem dfc_of {cc : Addr} (X : K.In h) (G : h.Ns mainGlobals mg) (a : PySem.W.nsIn K mainGlobals x = some (some (.ref f))) (l : K.lookup f = some ⟨oc, od, .func (PySem.W.fnOf x x (defArgs st) (defBody st) (defScope st) .none kV doc pm an (.ref cc) ct), osl⟩)
    (c : PySem.W.codeIn K (.ref cc) x = true) (k : PySem.W.keepIn K (.ref f) = true)
    (b : ∀ (kV doc pm : Value) (an : Option Addr) (cdv ct : Value) (us : List Value), us.length = ps.length → bindArgs (PySem.W.fnOf x x (defArgs st) (defBody st) (defScope st) .none kV doc pm an cdv ct) ⟨us, []⟩ = pure (ps.zip us)) : ∃ f fd, Df K mg x st ps f fd ∧ FunC K x x st f fd (.ref cc) :=
  ⟨f, _, ⟨fun_mk l c k, PySem.W.mg_of X G a, (fun_mk l c k).binds b⟩, ⟨oc, od, kV, doc, pm, an, ct, osl, rfl, l, c⟩, k⟩
theorem law_of {fa cc : Addr} (X : K.In h) (G : h.Ns mainGlobals mg) (e : mg "law" = some (.ref fa)) (a : PySem.W.nsIn K mainGlobals "law" = some (some (.ref f))) (l : K.lookup f = some ⟨oc, od, .func (PySem.W.fnOf "law" "law" (defArgs sLaw) (defBody sLaw) (defScope sLaw) .none kV doc pm an (.ref cc) ct), osl⟩)
    (c : PySem.W.codeIn K (.ref cc) "law" = true) (k : PySem.W.keepIn K (.ref f) = true) : ∃ fd, FunC K "law" "law" sLaw fa fd (.ref cc) ∧ ∀ (s : Shared) (u : Value), BindsTo s fd ⟨[u], []⟩ [("_law_script", u)] := by
  have z := e.symm.trans (PySem.W.mg_of X G a)
  cases Option.some.inj z
  exact ⟨_, ⟨⟨oc, od, kV, doc, pm, an, ct, osl, rfl, l, c⟩, k⟩, fun s u => .of_eq rfl⟩
theorem lawF_of {fa : Addr} (X : K.In h) (G : h.Ns mainGlobals mg) (e : mg "law" = some (.ref fa)) (a : PySem.W.nsIn K mainGlobals "law" = some (some (.ref f))) (l : K.lookup f = some ⟨oc, od, .func (PySem.W.fnOf "law" "law" (defArgs sLaw) (defBody sLaw) (defScope sLaw) .none kV doc pm an cdv ct), osl⟩)
    (c : PySem.W.codeIn K cdv "law" = true) (k : PySem.W.keepIn K (.ref f) = true) : ∃ fd, Fun K "law" "law" sLaw fa fd ∧ ∀ (s : Shared) (u : Value), BindsTo s fd ⟨[u], []⟩ [("_law_script", u)] := by
  have z := e.symm.trans (PySem.W.mg_of X G a)
  cases Option.some.inj z
  exact ⟨_, fun_mk l c k, fun s u => .of_eq rfl⟩
theorem init_W {M : Addr} (a : PySem.W.findIn K (.ref M) "__init__" = some (some (.ref f))) (i : PySem.W.isFn K (.ref f) = true) (m : PySem.W.makesIn K M = true) (kM : PySem.W.keepIn K (.ref M) = true)
    (l : K.lookup f = some ⟨oc, od, .func (PySem.W.fnOf "__init__" "Web.__init__" (defArgs sWInit) (defBody sWInit) (defScope sWInit) .none kV doc pm an cdv ct), osl⟩) (c : PySem.W.codeIn K cdv "Web.__init__" = true) (k : PySem.W.keepIn K (.ref f) = true) :
    ∃ f fd, Fun K "__init__" "Web.__init__" sWInit f fd ∧ Mk K M f ∧ Binds K fd ["self", "houses", "ties"] [] :=
  ⟨f, _, fun_mk l c k, ⟨m, a, i, kM⟩, (fun_mk l c k).binds fun _ _ _ _ _ _ us hl => match us, hl with | [_, _, _], _ => rfl⟩
theorem init_Cc {M : Addr} (a : PySem.W.findIn K (.ref M) "__init__" = some (some (.ref f))) (i : PySem.W.isFn K (.ref f) = true) (m : PySem.W.makesIn K M = true) (kM : PySem.W.keepIn K (.ref M) = true)
    (l : K.lookup f = some ⟨oc, od, .func (PySem.W.fnOf "__init__" "Counts.__init__" (defArgs sCountsInit) (defBody sCountsInit) (defScope sCountsInit) .none kV doc pm an cdv ct), osl⟩) (c : PySem.W.codeIn K cdv "Counts.__init__" = true) (k : PySem.W.keepIn K (.ref f) = true) :
    ∃ f fd, Fun K "__init__" "Counts.__init__" sCountsInit f fd ∧ Mk K M f ∧ Binds K fd ["self", "web", "acts"] [] :=
  ⟨f, _, fun_mk l c k, ⟨m, a, i, kM⟩, (fun_mk l c k).binds fun _ _ _ _ _ _ us hl => match us, hl with | [_, _, _], _ => rfl⟩
theorem meth_Cc_do {M : Addr} (a : PySem.W.findIn K (.ref M) "do" = some (some (.ref f))) (i : PySem.W.isFn K (.ref f) = true)
    (l : K.lookup f = some ⟨oc, od, .func (PySem.W.fnOf "do" "Counts.do" (defArgs sCountsDo) (defBody sCountsDo) (defScope sCountsDo) .none kV doc pm an cdv ct), osl⟩) (c : PySem.W.codeIn K cdv "Counts.do" = true) (k : PySem.W.keepIn K (.ref f) = true) :
    ∃ f fd, Fun K "do" "Counts.do" sCountsDo f fd ∧ Meth K M "do" f ∧ Binds K fd ["self", "house", "deed"] [] :=
  ⟨f, _, fun_mk l c k, ⟨a, i, k⟩, (fun_mk l c k).binds fun _ _ _ _ _ _ us hl => match us, hl with | [_, _, _], _ => rfl⟩
theorem meth_Cc_meet {M : Addr} (a : PySem.W.findIn K (.ref M) "meet" = some (some (.ref f))) (i : PySem.W.isFn K (.ref f) = true)
    (l : K.lookup f = some ⟨oc, od, .func (PySem.W.fnOf "meet" "Counts.meet" (defArgs sCountsMeet) (defBody sCountsMeet) (defScope sCountsMeet) .none kV doc pm an cdv ct), osl⟩) (c : PySem.W.codeIn K cdv "Counts.meet" = true) (k : PySem.W.keepIn K (.ref f) = true) :
    ∃ f fd, Fun K "meet" "Counts.meet" sCountsMeet f fd ∧ Meth K M "meet" f ∧ Binds K fd ["self", "tie"] [] :=
  ⟨f, _, fun_mk l c k, ⟨a, i, k⟩, (fun_mk l c k).binds fun _ _ _ _ _ _ us hl => match us, hl with | [_, _], _ => rfl⟩
end
section
variable {K : PySem.W.Frag} {h : Heap} {mg : Str → Option Value} {cn ql nm q : Str} {C N0 N fI : Addr} {bs sub : List Value} {sn : List Str} {ab : Bool} {col : Option Bool} {dd : Option Addr} {k0 k1 k2 k3 k5 : Option Value} {oc doc pm cdv ct : Value} {od an : Option Addr} {osl : Array (Option Value)} {p1 p2 q1 q2 q3 q4 : Pos}
theorem LAt_of_ (X : K.In h) (G : h.Ns mainGlobals mg) (a : PySem.W.nsIn K mainGlobals cn = some (some (.ref C))) (xl : K.lookup C = some (excClassObj nm q C N bs (.ref N0 :: veT) true sn sub ab col dd k0 k1 k2 k3 k5 "ValueError.__new__"))
    (sa : PySem.W.findIn K (.ref C) "__setattr__" = some (some (.builtin "object.__setattr__"))) (ga : PySem.W.findIn K (.ref C) "__getattribute__" = some (some (.builtin "BaseException.__getattribute__"))) (gg : PySem.W.findIn K (.ref C) "__getattr__" = some none) (no : PySem.W.findIn K (.ref C) "at" = some none)
    (ic : PySem.W.findIn K (.ref C) "__init__" = some (some (.ref fI))) (tc : PySem.W.typeIn K (.ref fI) = some (.type "function")) (kc : PySem.W.keepIn K (.ref C) = true) (ec : PySem.W.subIn K (.ref C) (.type "BaseException") = some true) (ty : PySem.W.typeIn K (.ref C) = some (.type "type")) (hc : PySem.W.hasDictIn K C = true)
    (l : K.lookup fI = some ⟨oc, od, .func (PySem.W.fnOf "__init__" ql (LAt.iA p1 p2) (LAt.iB q1 q2 q3 q4) LAt.iS .none .none doc pm an cdv ct), osl⟩) (c : PySem.W.codeIn K cdv ql = true) : ∃ q b i, LAt.Txt K mg cn q b C i :=
  ⟨ql, _, fI, ⟨PySem.W.mg_of X G a, ⟨nm, q, N, bs, sn, sub, ab, col, dd, k0, k1, k2, k3, k5, xl⟩, mro_ve N0, sa, ga, gg, no, ic, tc, kc, ec, ty, hc, ⟨oc, od, doc, pm, an, cdv, ct, osl, p1, p2, q1, q2, q3, q4, l, c⟩⟩⟩
end
theorem kw_of {K : PySem.W.Frag} {h : Heap} {mg : Str → Option Value} {t0 : Tok} {t1 : Tok} (X : K.In h) (G : h.Ns mainGlobals mg) (a0 : PySem.W.nsIn K mainGlobals "MOST_HOUSES" = some (some (.int 12 t0))) (a1 : PySem.W.nsIn K mainGlobals "MOST_TIES" = some (some (.int 20 t1))) : Cw mg :=
  ⟨⟨_, PySem.W.mg_of X G a0⟩, ⟨_, PySem.W.mg_of X G a1⟩⟩
theorem ks_of {K : PySem.W.Frag} {h : Heap} {mg : Str → Option Value} {t0 : Tok} {t1 : Tok} {t2 : Tok} (X : K.In h) (G : h.Ns mainGlobals mg) (a0 : PySem.W.nsIn K mainGlobals "MOST_STEPS" = some (some (.int 400 t0))) (a1 : PySem.W.nsIn K mainGlobals "DO" = some (some (.str "do" t1))) (a2 : PySem.W.nsIn K mainGlobals "MEET" = some (some (.str "meet" t2))) : Cs mg :=
  ⟨⟨_, PySem.W.mg_of X G a0⟩, ⟨_, PySem.W.mg_of X G a1⟩, ⟨_, PySem.W.mg_of X G a2⟩⟩
theorem kr_of {K : PySem.W.Frag} {h : Heap} {mg : Str → Option Value} {t0 : Tok} (X : K.In h) (G : h.Ns mainGlobals mg) (a0 : PySem.W.nsIn K mainGlobals "READ" = some (some (.str "read" t0))) : Cr mg :=
  ⟨⟨_, PySem.W.mg_of X G a0⟩⟩
theorem k8_of {K : PySem.W.Frag} {h : Heap} {mg : Str → Option Value} {t0 : Tok} (X : K.In h) (G : h.Ns mainGlobals mg) (a0 : PySem.W.nsIn K mainGlobals "MOST_TABLES" = some (some (.int 8 t0))) : Ct8 mg :=
  ⟨⟨_, PySem.W.mg_of X G a0⟩⟩
theorem kg_of {K : PySem.W.Frag} {h : Heap} {mg : Str → Option Value} {r0 : Addr} {r1 : Addr} {r2 : Addr} (X : K.In h) (G : h.Ns mainGlobals mg) (a0 : PySem.W.nsIn K mainGlobals "Uncommuting" = some (some (.ref r0))) (a1 : PySem.W.nsIn K mainGlobals "NoHouse" = some (some (.ref r1))) (a2 : PySem.W.nsIn K mainGlobals "NoState" = some (some (.ref r2))) : Cg mg :=
  ⟨⟨_, PySem.W.mg_of X G a0⟩, ⟨_, PySem.W.mg_of X G a1⟩, ⟨_, PySem.W.mg_of X G a2⟩⟩
theorem bt_of {K : PySem.W.Frag} {h : Heap} {mg : Str → Option Value} (X : K.In h) (G : h.Ns mainGlobals mg) (z : ∀ x ∈ ([("isinstance" : Str), "int", "bool", "list", "tuple", "len", "enumerate", "range", "sorted", "set", "repr", "abs", "min", "max", "sum", "all", "any", "zip", "str", "dict", "KeyError"]), PySem.W.nsIn K mainGlobals x = some none) : Bt mg := by
  have n := fun x hx => PySem.W.mg_none_of X G (z x hx)
  exact ⟨n _ (by decide), n _ (by decide), n _ (by decide), n _ (by decide), n _ (by decide), n _ (by decide), n _ (by decide), n _ (by decide), n _ (by decide), n _ (by decide), n _ (by decide), n _ (by decide), n _ (by decide), n _ (by decide), n _ (by decide), n _ (by decide), n _ (by decide), n _ (by decide), n _ (by decide), n _ (by decide), n _ (by decide)⟩
theorem tab_mk {K : PySem.W.Frag} {x : Str} {f c Pt : Addr} {oc o1 : Value} {od o2 : Option Addr} {fd : FuncData} {osl o4 : Array (Option Value)} {vs : Array Value} (a : PySem.W.nsIn K mainGlobals x = some (some (.ref f))) (l : K.lookup f = some ⟨oc, od, .func fd, osl⟩) (hc : fd.code = .ref c)
    (lc : K.lookup c = some ⟨o1, o2, .fields vs, o4⟩) (hv : (vs[11]? : Option Value) = some (.ref Pt)) : PySem.W.tabIn K x = some (c, Pt) := by
  unfold PySem.W.tabIn
  rw [a]
  dsimp only
  rw [l]
  dsimp only
  rw [hc]
  dsimp only
  rw [lc]
  dsimp only
  rw [hv]
/-- the facts of the head, by the words that k_is answers -/
theorem tp_of {K : PySem.W.Frag} {h : Heap} {mg : Str → Option Value} {fa fN W Cc CW CB CR NErr : Addr} {oc kV doc pm ct cdv : Value} {od an : Option Addr} {osl : Array (Option Value)}  {cz Pz fNz : Addr} {ocz kVz docz pmz ctz o1z : Value} {odz anz o2z : Option Addr} {oslz o4z : Array (Option Value)} {vsz : Array Value} (X : K.In h) (G : h.Ns mainGlobals mg)
    (B : Bt mg) (kw : Cw mg) (ks : Cs mg) (kr : Cr mg) (k8 : Ct8 mg) (kg : Cg mg)
    (whole : ∃ f fd, Df K mg "is_whole" sWhole ["value"] f fd)
    (below : ∃ f fd, Df K mg "is_below" sBelow ["value", "limit"] f fd)
    (seq : ∃ f fd, Df K mg "is_sequence" sSeq ["value", "least", "most"] f fd)
    (fnb : ∃ f fd, Df K mg "first_not_below" sFnb ["items", "limit"] f fd)
    (repl : ∃ f fd, Df K mg "replaced" sRepl ["items", "at", "item"] f fd)
    (pair : ∃ f fd, Df K mg "is_pair" sPair ["value", "houses"] f fd)
    (cties : ∃ f fd, Df K mg "checked_ties" sCTies ["houses", "ties"] f fd)
    (ways : ∃ f fd, Df K mg "ways_on" sWays ["web", "house"] f fd)
    (isStep : ∃ f fd, Df K mg "is_step" sIsStep ["web", "deeds", "value"] f fd)
    (pt : ∃ f fd, Df K mg "take" sPTake ["books", "step"] f fd)
    (less : ∃ f fd, Df K mg "less_tie" sLessTie ["here", "there", "between"] f fd)
    (deedsO : ∃ f fd, Df K mg "deeds_of" sDeedsOf ["steps"] f fd)
    (isRead : ∃ f fd, Df K mg "is_read" sIsRead ["web", "value"] f fd)
    (wf : ∃ f fd, Df K mg "walk_fault" sWalkFault ["web", "deeds", "value"] f fd)
    (wo : ∃ f fd, Df K mg "walk_of" sWalkOf ["web", "deeds", "value"] f fd)
    (ckw : ∃ f fd, Df K mg "check_walk" sCheckWalk ["web", "value"] f fd)
    (rah : ∃ f fd, Df K mg "read_ahead" sReadAhead ["paces"] f fd)
    (ue : ∃ f fd, Df K mg "unread_ends" sUnreadEnds ["web", "pace", "read"] f fd)
    (co : ∃ f fd, Df K mg "crossings_of" sCrossingsOf ["web", "paces"] f fd)
    (crs : ∃ f fd, Df K mg "crossings" sCrossings ["web", "walk"] f fd)
    (ua : ∃ f fd, Df K mg "unread_acts" sUnreadActs ["web", "walk"] f fd)
    (wm : ∃ f fd, Df K mg "with_more" sWithMore ["sums", "counts", "times"] f fd)
    (tr : ∃ f fd, Df K mg "ties_read" sTiesRead ["web", "house", "read"] f fd)
    (sr : ∃ f fd, Df K mg "sums_read" sSumsRead ["web", "paces"] f fd)
    (wc : ∃ f fd, Df K mg "walked_counts" sWalkedCounts ["web", "walk"] f fd)
    (cc : ∃ f fd, Df K mg "crossed_counts" sCrossedCounts ["web", "walk"] f fd)
    (box : ∃ f fd, Df K mg "_law_box" sLBox ["_law_script", "_law_k"] f fd)
    (take : ∃ f fd, Df K mg "_law_take" sLTake ["_law_box_here", "_law_many"] f fd)
    (pick : ∃ f fd, Df K mg "_law_pick" sLPick ["_law_box_here", "_law_some"] f fd)
    (lweb : ∃ f fd, Df K mg "_law_web" sLWeb ["_law_box_here", "_law_most"] f fd)
    (lwalk : ∃ f fd, Df K mg "_law_walk" sLWalk ["_law_box_here", "_law_houses", "_law_ties", "_law_deeds", "_law_most"] f fd)
    (tally : ∃ f fd, Df K mg "_law_tally" sLTally ["_law_houses", "_law_ties", "_law_walk_here"] f fd)
    (fault : ∃ f fd, Df K mg "_law_fault" sLFault ["_law_call"] f fd)
    (told : ∃ f fd, Df K mg "_law_told_right" sLToldRight ["_law_web_here", "_law_houses", "_law_ties", "_law_walk_here"] f fd)
    (exact : ∃ f fd, Df K mg "_law_exact" sLExact ["_law_web_here", "_law_houses", "_law_ties", "_law_walk_here", "_law_deeds"] f fd)
    (eL : mg "law" = some (.ref fa)) (aN : PySem.W.nsIn K mainGlobals "law" = some (some (.ref fN))) (lN : K.lookup fN = some ⟨oc, od, .func (PySem.W.fnOf "law" "law" (defArgs sLaw) (defBody sLaw) (defScope sLaw) .none kV doc pm an cdv ct), osl⟩)
    (cN : PySem.W.codeIn K cdv "law" = true) (kN : PySem.W.keepIn K (.ref fN) = true)
    (aNz : PySem.W.nsIn K mainGlobals "_law_strangers_right" = some (some (.ref fNz))) (lNz : K.lookup fNz = some ⟨ocz, odz, .func (PySem.W.fnOf "_law_strangers_right" "_law_strangers_right" (defArgs sLStrangersRight) (defBody sLStrangersRight) (defScope sLStrangersRight) .none kVz docz pmz anz (.ref cz) ctz), oslz⟩)
    (cNz : PySem.W.codeIn K (.ref cz) "_law_strangers_right" = true) (kNz : PySem.W.keepIn K (.ref fNz) = true) (lcz : K.lookup cz = some ⟨o1z, o2z, .fields vsz, o4z⟩) (hvz : (vsz[11]? : Option Value) = some (.ref Pz)) (nPz : K.lookup Pz = Option.none)
    (ac_W : PySem.W.nsIn K mainGlobals "Web" = some (some (.ref W))) (pgW : PySem.W.plainGet K W Str.empty = true) (hdW : PySem.W.hasDictIn K W = true) (poW : PySem.W.plainOver K W = true) (saW : PySem.W.findIn K (.ref W) "__setattr__" = some (some (.builtin "object.__setattr__"))) (nW0 : PySem.W.findIn K (.ref W) "ties" = some Option.none) (nW1 : PySem.W.findIn K (.ref W) "houses" = some Option.none)
    (initW : ∃ f fd, Fun K "__init__" "Web.__init__" sWInit f fd ∧ Mk K W f ∧ Binds K fd ["self", "houses", "ties"] [])
    (ac_Cc : PySem.W.nsIn K mainGlobals "Counts" = some (some (.ref Cc))) (pgCc : PySem.W.plainGet K Cc Str.empty = true) (hdCc : PySem.W.hasDictIn K Cc = true) (poCc : PySem.W.plainOver K Cc = true) (saCc : PySem.W.findIn K (.ref Cc) "__setattr__" = some (some (.builtin "object.__setattr__"))) (nCc0 : PySem.W.findIn K (.ref Cc) "web" = some Option.none) (nCc1 : PySem.W.findIn K (.ref Cc) "deeds" = some Option.none) (nCc2 : PySem.W.findIn K (.ref Cc) "houses" = some Option.none) (nCc3 : PySem.W.findIn K (.ref Cc) "ties" = some Option.none)
    (initCc : ∃ f fd, Fun K "__init__" "Counts.__init__" sCountsInit f fd ∧ Mk K Cc f ∧ Binds K fd ["self", "web", "acts"] [])
    (m_Cc_do : ∃ f fd, Fun K "do" "Counts.do" sCountsDo f fd ∧ Meth K Cc "do" f ∧ Binds K fd ["self", "house", "deed"] [])
    (m_Cc_meet : ∃ f fd, Fun K "meet" "Counts.meet" sCountsMeet f fd ∧ Meth K Cc "meet" f ∧ Binds K fd ["self", "tie"] [])
    (t1 : ∃ q b i, LAt.Txt K mg "BadWeb" q b CW i)
    (t2 : ∃ q b i, LAt.Txt K mg "BadSteps" q b CB i)
    (t3 : ∃ q b i, LAt.Txt K mg "Refused" q b CR i)
    (aNE : PySem.W.nsIn K mainGlobals "NetError" = some (some (.ref NErr))) (ex : Exm K CB CR NErr)
    : ∃ (W Cc CW CB CR cz Pz fz : Addr) (fd fdz : FuncData), Tp K mg W Cc CW CB CR cz Pz fa fz fd fdz := by
  obtain ⟨fd, l1, l2⟩ := lawF_of X G eL aN lN cN kN
  obtain ⟨fz, fdz, dz, lz⟩ := dfc_of (ps := ["_law_box_here", "_law_web_here", "_law_houses", "_law_ties", "_law_walk_here"]) X G aNz lNz cNz kNz fun _ _ _ _ _ _ us hl => match us, hl with | [_, _, _, _, _], _ => rfl
  exact ⟨W, Cc, CW, CB, CR, cz, Pz, fz, fd, fdz, ⟨B, kw, ks, kr, k8, kg, whole, below, seq, fnb, repl, pair, cties, ways, isStep, pt, less, deedsO, isRead, wf, wo, ckw, rah, ue, co, crs, ua, wm, tr, sr, wc, cc, box, take, pick, lweb, lwalk, tally, fault, told, exact, lz, dz, l1, l2, initW, ⟨⟨pgW, hdW, poW, saW⟩, nW0, nW1, PySem.W.mg_of X G ac_W⟩, initCc, m_Cc_do, m_Cc_meet, ⟨⟨pgCc, hdCc, poCc, saCc⟩, nCc0, nCc1, nCc2, nCc3, PySem.W.mg_of X G ac_Cc⟩, t1, t2, t3, ⟨NErr, PySem.W.mg_of X G aNE, ex⟩, tab_mk aNz lNz rfl lcz hvz, nPz⟩⟩
end K1
open PySem PySem.W PyProof.Rows
set_option maxRecDepth 100000 in
set_option maxHeartbeats 0 in
theorem PySem.Challenge.cw_houseslessties_k24_whole_sums_of_walks_e_holds : PySem.Challenge.rw_houseslessties_k24_whole_sums_of_walks_e.Holds := by
  w_on; o_law; k_head; (case hw => w_witness2)
  k_fill
  refine K1.walkK (l := PySem.Challenge.rw_houseslessties_k24_whole_sums_of_walks_e) rfl rfl (fun w h Y => PySem.W.km_in_of Y) ?hrz ?F
  case hrz => exact ⟨_, rfl⟩
  case F =>
    intro w mg fa h KX G hmg
    refine' K1.tp_of KX G ?B ?kw ?ks ?kr ?k8 ?kg ?zwhole ?zbelow ?zseq ?zfnb ?zrepl ?zpair ?zcties ?zways ?zisStep ?zpt ?zless ?zdeedsO ?zisRead ?zwf ?zwo ?zckw ?zrah ?zue ?zco ?zcrs ?zua ?zwm ?ztr ?zsr ?zwc ?zcc ?zbox ?ztake ?zpick ?zlweb ?zlwalk ?ztally ?zfault ?ztold ?zexact hmg ?aN ?lN ?cN ?kN ?aNz ?lNz ?cNz ?kNz ?lcz ?hvz ?nPz ?ac_W ?pgW ?hdW ?poW ?saW ?nW0 ?nW1 ?initW ?ac_Cc ?pgCc ?hdCc ?poCc ?saCc ?nCc0 ?nCc1 ?nCc2 ?nCc3 ?initCc ?m_Cc_do ?m_Cc_meet ?t1 ?t2 ?t3 ?aNE ?ex
    case B =>
      refine K1.bt_of KX G fun x hx => ?_
      simp only [List.mem_cons, List.mem_nil_iff, or_false] at hx
      rcases hx with rfl | rfl | rfl | rfl | rfl | rfl | rfl | rfl | rfl | rfl | rfl | rfl | rfl | rfl | rfl | rfl | rfl | rfl | rfl | rfl | rfl <;> k_is
    case kw => refine' K1.kw_of KX G ?akw0 ?akw1; (case akw0 => k_is); (case akw1 => k_is)
    case ks => refine' K1.ks_of KX G ?aks0 ?aks1 ?aks2; (case aks0 => k_is); (case aks1 => k_is); (case aks2 => k_is)
    case kr => refine' K1.kr_of KX G ?akr0; (case akr0 => k_is)
    case k8 => refine' K1.k8_of KX G ?ak80; (case ak80 => k_is)
    case kg => refine' K1.kg_of KX G ?akg0 ?akg1 ?akg2; (case akg0 => k_is); (case akg1 => k_is); (case akg2 => k_is)
    case zwhole =>
      (refine' K1.df_of (by assumption) (by assumption) ?a_0 ?l_0 ?c_0 ?k_0 ?b_0; (case a_0 => k_is); (case l_0 => k_is); (case c_0 => k_is); (case k_0 => k_is))
      case b_0 => exact fun _ _ _ _ _ _ us hl => match us, hl with | [_], _ => rfl
    case zbelow =>
      (refine' K1.df_of (by assumption) (by assumption) ?a_1 ?l_1 ?c_1 ?k_1 ?b_1; (case a_1 => k_is); (case l_1 => k_is); (case c_1 => k_is); (case k_1 => k_is))
      case b_1 => exact fun _ _ _ _ _ _ us hl => match us, hl with | [_, _], _ => rfl
    case zseq =>
      (refine' K1.df_of (by assumption) (by assumption) ?a_2 ?l_2 ?c_2 ?k_2 ?b_2; (case a_2 => k_is); (case l_2 => k_is); (case c_2 => k_is); (case k_2 => k_is))
      case b_2 => exact fun _ _ _ _ _ _ us hl => match us, hl with | [_, _, _], _ => rfl
    case zfnb =>
      (refine' K1.df_of (by assumption) (by assumption) ?a_3 ?l_3 ?c_3 ?k_3 ?b_3; (case a_3 => k_is); (case l_3 => k_is); (case c_3 => k_is); (case k_3 => k_is))
      case b_3 => exact fun _ _ _ _ _ _ us hl => match us, hl with | [_, _], _ => rfl
    case zrepl =>
      (refine' K1.df_of (by assumption) (by assumption) ?a_4 ?l_4 ?c_4 ?k_4 ?b_4; (case a_4 => k_is); (case l_4 => k_is); (case c_4 => k_is); (case k_4 => k_is))
      case b_4 => exact fun _ _ _ _ _ _ us hl => match us, hl with | [_, _, _], _ => rfl
    case zpair =>
      (refine' K1.df_of (by assumption) (by assumption) ?a_5 ?l_5 ?c_5 ?k_5 ?b_5; (case a_5 => k_is); (case l_5 => k_is); (case c_5 => k_is); (case k_5 => k_is))
      case b_5 => exact fun _ _ _ _ _ _ us hl => match us, hl with | [_, _], _ => rfl
    case zcties =>
      (refine' K1.df_of (by assumption) (by assumption) ?a_6 ?l_6 ?c_6 ?k_6 ?b_6; (case a_6 => k_is); (case l_6 => k_is); (case c_6 => k_is); (case k_6 => k_is))
      case b_6 => exact fun _ _ _ _ _ _ us hl => match us, hl with | [_, _], _ => rfl
    case zways =>
      (refine' K1.df_of (by assumption) (by assumption) ?a_7 ?l_7 ?c_7 ?k_7 ?b_7; (case a_7 => k_is); (case l_7 => k_is); (case c_7 => k_is); (case k_7 => k_is))
      case b_7 => exact fun _ _ _ _ _ _ us hl => match us, hl with | [_, _], _ => rfl
    case zisStep =>
      (refine' K1.df_of (by assumption) (by assumption) ?a_8 ?l_8 ?c_8 ?k_8 ?b_8; (case a_8 => k_is); (case l_8 => k_is); (case c_8 => k_is); (case k_8 => k_is))
      case b_8 => exact fun _ _ _ _ _ _ us hl => match us, hl with | [_, _, _], _ => rfl
    case zpt =>
      (refine' K1.df_of (by assumption) (by assumption) ?a_9 ?l_9 ?c_9 ?k_9 ?b_9; (case a_9 => k_is); (case l_9 => k_is); (case c_9 => k_is); (case k_9 => k_is))
      case b_9 => exact fun _ _ _ _ _ _ us hl => match us, hl with | [_, _], _ => rfl
    case zless =>
      (refine' K1.df_of (by assumption) (by assumption) ?a_10 ?l_10 ?c_10 ?k_10 ?b_10; (case a_10 => k_is); (case l_10 => k_is); (case c_10 => k_is); (case k_10 => k_is))
      case b_10 => exact fun _ _ _ _ _ _ us hl => match us, hl with | [_, _, _], _ => rfl
    case zdeedsO =>
      (refine' K1.df_of (by assumption) (by assumption) ?a_11 ?l_11 ?c_11 ?k_11 ?b_11; (case a_11 => k_is); (case l_11 => k_is); (case c_11 => k_is); (case k_11 => k_is))
      case b_11 => exact fun _ _ _ _ _ _ us hl => match us, hl with | [_], _ => rfl
    case zisRead =>
      (refine' K1.df_of (by assumption) (by assumption) ?a_12 ?l_12 ?c_12 ?k_12 ?b_12; (case a_12 => k_is); (case l_12 => k_is); (case c_12 => k_is); (case k_12 => k_is))
      case b_12 => exact fun _ _ _ _ _ _ us hl => match us, hl with | [_, _], _ => rfl
    case zwf =>
      (refine' K1.df_of (by assumption) (by assumption) ?a_13 ?l_13 ?c_13 ?k_13 ?b_13; (case a_13 => k_is); (case l_13 => k_is); (case c_13 => k_is); (case k_13 => k_is))
      case b_13 => exact fun _ _ _ _ _ _ us hl => match us, hl with | [_, _, _], _ => rfl
    case zwo =>
      (refine' K1.df_of (by assumption) (by assumption) ?a_14 ?l_14 ?c_14 ?k_14 ?b_14; (case a_14 => k_is); (case l_14 => k_is); (case c_14 => k_is); (case k_14 => k_is))
      case b_14 => exact fun _ _ _ _ _ _ us hl => match us, hl with | [_, _, _], _ => rfl
    case zckw =>
      (refine' K1.df_of (by assumption) (by assumption) ?a_15 ?l_15 ?c_15 ?k_15 ?b_15; (case a_15 => k_is); (case l_15 => k_is); (case c_15 => k_is); (case k_15 => k_is))
      case b_15 => exact fun _ _ _ _ _ _ us hl => match us, hl with | [_, _], _ => rfl
    case zrah =>
      (refine' K1.df_of (by assumption) (by assumption) ?a_16 ?l_16 ?c_16 ?k_16 ?b_16; (case a_16 => k_is); (case l_16 => k_is); (case c_16 => k_is); (case k_16 => k_is))
      case b_16 => exact fun _ _ _ _ _ _ us hl => match us, hl with | [_], _ => rfl
    case zue =>
      (refine' K1.df_of (by assumption) (by assumption) ?a_17 ?l_17 ?c_17 ?k_17 ?b_17; (case a_17 => k_is); (case l_17 => k_is); (case c_17 => k_is); (case k_17 => k_is))
      case b_17 => exact fun _ _ _ _ _ _ us hl => match us, hl with | [_, _, _], _ => rfl
    case zco =>
      (refine' K1.df_of (by assumption) (by assumption) ?a_18 ?l_18 ?c_18 ?k_18 ?b_18; (case a_18 => k_is); (case l_18 => k_is); (case c_18 => k_is); (case k_18 => k_is))
      case b_18 => exact fun _ _ _ _ _ _ us hl => match us, hl with | [_, _], _ => rfl
    case zcrs =>
      (refine' K1.df_of (by assumption) (by assumption) ?a_19 ?l_19 ?c_19 ?k_19 ?b_19; (case a_19 => k_is); (case l_19 => k_is); (case c_19 => k_is); (case k_19 => k_is))
      case b_19 => exact fun _ _ _ _ _ _ us hl => match us, hl with | [_, _], _ => rfl
    case zua =>
      (refine' K1.df_of (by assumption) (by assumption) ?a_20 ?l_20 ?c_20 ?k_20 ?b_20; (case a_20 => k_is); (case l_20 => k_is); (case c_20 => k_is); (case k_20 => k_is))
      case b_20 => exact fun _ _ _ _ _ _ us hl => match us, hl with | [_, _], _ => rfl
    case zwm =>
      (refine' K1.df_of (by assumption) (by assumption) ?a_21 ?l_21 ?c_21 ?k_21 ?b_21; (case a_21 => k_is); (case l_21 => k_is); (case c_21 => k_is); (case k_21 => k_is))
      case b_21 => exact fun _ _ _ _ _ _ us hl => match us, hl with | [_, _, _], _ => rfl
    case ztr =>
      (refine' K1.df_of (by assumption) (by assumption) ?a_22 ?l_22 ?c_22 ?k_22 ?b_22; (case a_22 => k_is); (case l_22 => k_is); (case c_22 => k_is); (case k_22 => k_is))
      case b_22 => exact fun _ _ _ _ _ _ us hl => match us, hl with | [_, _, _], _ => rfl
    case zsr =>
      (refine' K1.df_of (by assumption) (by assumption) ?a_23 ?l_23 ?c_23 ?k_23 ?b_23; (case a_23 => k_is); (case l_23 => k_is); (case c_23 => k_is); (case k_23 => k_is))
      case b_23 => exact fun _ _ _ _ _ _ us hl => match us, hl with | [_, _], _ => rfl
    case zwc =>
      (refine' K1.df_of (by assumption) (by assumption) ?a_24 ?l_24 ?c_24 ?k_24 ?b_24; (case a_24 => k_is); (case l_24 => k_is); (case c_24 => k_is); (case k_24 => k_is))
      case b_24 => exact fun _ _ _ _ _ _ us hl => match us, hl with | [_, _], _ => rfl
    case zcc =>
      (refine' K1.df_of (by assumption) (by assumption) ?a_25 ?l_25 ?c_25 ?k_25 ?b_25; (case a_25 => k_is); (case l_25 => k_is); (case c_25 => k_is); (case k_25 => k_is))
      case b_25 => exact fun _ _ _ _ _ _ us hl => match us, hl with | [_, _], _ => rfl
    case zbox =>
      (refine' K1.df_of (by assumption) (by assumption) ?a_26 ?l_26 ?c_26 ?k_26 ?b_26; (case a_26 => k_is); (case l_26 => k_is); (case c_26 => k_is); (case k_26 => k_is))
      case b_26 => exact fun _ _ _ _ _ _ us hl => match us, hl with | [_, _], _ => rfl
    case ztake =>
      (refine' K1.df_of (by assumption) (by assumption) ?a_27 ?l_27 ?c_27 ?k_27 ?b_27; (case a_27 => k_is); (case l_27 => k_is); (case c_27 => k_is); (case k_27 => k_is))
      case b_27 => exact fun _ _ _ _ _ _ us hl => match us, hl with | [_, _], _ => rfl
    case zpick =>
      (refine' K1.df_of (by assumption) (by assumption) ?a_28 ?l_28 ?c_28 ?k_28 ?b_28; (case a_28 => k_is); (case l_28 => k_is); (case c_28 => k_is); (case k_28 => k_is))
      case b_28 => exact fun _ _ _ _ _ _ us hl => match us, hl with | [_, _], _ => rfl
    case zlweb =>
      (refine' K1.df_of (by assumption) (by assumption) ?a_29 ?l_29 ?c_29 ?k_29 ?b_29; (case a_29 => k_is); (case l_29 => k_is); (case c_29 => k_is); (case k_29 => k_is))
      case b_29 => exact fun _ _ _ _ _ _ us hl => match us, hl with | [_, _], _ => rfl
    case zlwalk =>
      (refine' K1.df_of (by assumption) (by assumption) ?a_30 ?l_30 ?c_30 ?k_30 ?b_30; (case a_30 => k_is); (case l_30 => k_is); (case c_30 => k_is); (case k_30 => k_is))
      case b_30 => exact fun _ _ _ _ _ _ us hl => match us, hl with | [_, _, _, _, _], _ => rfl
    case ztally =>
      (refine' K1.df_of (by assumption) (by assumption) ?a_31 ?l_31 ?c_31 ?k_31 ?b_31; (case a_31 => k_is); (case l_31 => k_is); (case c_31 => k_is); (case k_31 => k_is))
      case b_31 => exact fun _ _ _ _ _ _ us hl => match us, hl with | [_, _, _], _ => rfl
    case zfault =>
      (refine' K1.df_of (by assumption) (by assumption) ?a_32 ?l_32 ?c_32 ?k_32 ?b_32; (case a_32 => k_is); (case l_32 => k_is); (case c_32 => k_is); (case k_32 => k_is))
      case b_32 => exact fun _ _ _ _ _ _ us hl => match us, hl with | [_], _ => rfl
    case ztold =>
      (refine' K1.df_of (by assumption) (by assumption) ?a_33 ?l_33 ?c_33 ?k_33 ?b_33; (case a_33 => k_is); (case l_33 => k_is); (case c_33 => k_is); (case k_33 => k_is))
      case b_33 => exact fun _ _ _ _ _ _ us hl => match us, hl with | [_, _, _, _], _ => rfl
    case zexact =>
      (refine' K1.df_of (by assumption) (by assumption) ?a_34 ?l_34 ?c_34 ?k_34 ?b_34; (case a_34 => k_is); (case l_34 => k_is); (case c_34 => k_is); (case k_34 => k_is))
      case b_34 => exact fun _ _ _ _ _ _ us hl => match us, hl with | [_, _, _, _, _], _ => rfl
    (case aN => k_is); (case lN => k_is); (case cN => k_is); (case kN => k_is)
    (case aNz => k_is); (case lNz => k_is); (case cNz => k_is); (case kNz => k_is); (case lcz => k_is); (case hvz => rfl); (case nPz => kernel_rfl)
    (case ac_W => k_is); (case pgW => k_is); (case hdW => k_is); (case poW => k_is); (case saW => k_is); (case nW0 => k_is); (case nW1 => k_is)
    case initW => refine' K1.init_W ?a_IW ?i_IW ?m_IW ?kM_IW ?l_IW ?c_IW ?k_IW; (case a_IW => k_is); (case i_IW => k_is); (case m_IW => k_is); (case kM_IW => k_is); (case l_IW => k_is); (case c_IW => k_is); (case k_IW => k_is)
    (case ac_Cc => k_is); (case pgCc => k_is); (case hdCc => k_is); (case poCc => k_is); (case saCc => k_is); (case nCc0 => k_is); (case nCc1 => k_is); (case nCc2 => k_is); (case nCc3 => k_is)
    case initCc => refine' K1.init_Cc ?a_ICc ?i_ICc ?m_ICc ?kM_ICc ?l_ICc ?c_ICc ?k_ICc; (case a_ICc => k_is); (case i_ICc => k_is); (case m_ICc => k_is); (case kM_ICc => k_is); (case l_ICc => k_is); (case c_ICc => k_is); (case k_ICc => k_is)
    case m_Cc_do => refine' K1.meth_Cc_do ?a_Ccdo ?i_Ccdo ?l_Ccdo ?c_Ccdo ?k_Ccdo; (case a_Ccdo => k_is); (case i_Ccdo => k_is); (case l_Ccdo => k_is); (case c_Ccdo => k_is); (case k_Ccdo => k_is)
    case m_Cc_meet => refine' K1.meth_Cc_meet ?a_Ccmeet ?i_Ccmeet ?l_Ccmeet ?c_Ccmeet ?k_Ccmeet; (case a_Ccmeet => k_is); (case i_Ccmeet => k_is); (case l_Ccmeet => k_is); (case c_Ccmeet => k_is); (case k_Ccmeet => k_is)
    case t1 => (refine' K1.LAt_of_ (by assumption) (by assumption) ?a_t1 ?xl_t1 ?sa_t1 ?ga_t1 ?gg_t1 ?no_t1 ?ic_t1 ?tc_t1 ?kc_t1 ?ec_t1 ?ty_t1 ?hc_t1 ?l_t1 ?c_t1; (case a_t1 => k_is); (case xl_t1 => k_is); (case sa_t1 => k_is); (case ga_t1 => k_is); (case gg_t1 => k_is); (case no_t1 => k_is); (case ic_t1 => k_is); (case tc_t1 => k_is); (case kc_t1 => k_is); (case ec_t1 => k_is); (case ty_t1 => k_is); (case hc_t1 => k_is); (case l_t1 => k_is); (case c_t1 => k_is))
    case t2 => (refine' K1.LAt_of_ (by assumption) (by assumption) ?a_t2 ?xl_t2 ?sa_t2 ?ga_t2 ?gg_t2 ?no_t2 ?ic_t2 ?tc_t2 ?kc_t2 ?ec_t2 ?ty_t2 ?hc_t2 ?l_t2 ?c_t2; (case a_t2 => k_is); (case xl_t2 => k_is); (case sa_t2 => k_is); (case ga_t2 => k_is); (case gg_t2 => k_is); (case no_t2 => k_is); (case ic_t2 => k_is); (case tc_t2 => k_is); (case kc_t2 => k_is); (case ec_t2 => k_is); (case ty_t2 => k_is); (case hc_t2 => k_is); (case l_t2 => k_is); (case c_t2 => k_is))
    case t3 => (refine' K1.LAt_of_ (by assumption) (by assumption) ?a_t3 ?xl_t3 ?sa_t3 ?ga_t3 ?gg_t3 ?no_t3 ?ic_t3 ?tc_t3 ?kc_t3 ?ec_t3 ?ty_t3 ?hc_t3 ?l_t3 ?c_t3; (case a_t3 => k_is); (case xl_t3 => k_is); (case sa_t3 => k_is); (case ga_t3 => k_is); (case gg_t3 => k_is); (case no_t3 => k_is); (case ic_t3 => k_is); (case tc_t3 => k_is); (case kc_t3 => k_is); (case ec_t3 => k_is); (case ty_t3 => k_is); (case hc_t3 => k_is); (case l_t3 => k_is); (case c_t3 => k_is))
    (case aNE => k_is)
    case ex =>
      refine' ⟨?e0, ?e1, ?e2, ⟨?x0_0, ?x0_1, ?x0_2, ?x0_3, ?x0_4, ?x0_5, ?x0_6, ?x0_7⟩⟩
      all_goals first | k_is | kernel_rfl
