import PyProof.Rows.All
import Wide.All
import OpenK.AllK
import Wide.FinOn
import HandS.ForMost
import HandS.ForExc
import HandS.ExcInit
import PyProof.ExcBaseAll.LookupError
import KE.KExcIs
import HandS.IsInst
import KE.GoesEnum
import PyProof.ReprRoads
import PySem.Challenge.RW_houseslessties_k20_whole_what_wrong_runs
import HandS.TryMany
import HandS.Lambda
import HandS.Nested
import HandS.EndTab
import HandS.DictTup
import HandS.OwnEq
import HandS.Strs
import HandS.Conv
import HandS.TupAny
import HandS.TupMul
import HandS.SortInts
import HandS.Style
import HandS.MakeKw
import HandS.Defaults
import HandS.TupLe
import HandS.SetKeys
import HandS.SetFor
import HandS.RaiseMore
import KE.KDictDisplayH
import HandS.ExcField
import HandS.Iter
import KE.KDictWalk
import HandS.CallLocal
import HandS.Zip
import HandS.Flow
import KE.GoesZip
import KE.GoesMore
import HandS.Base
import HandS.Call
import HandS.Exc
import HandS.MakeKwOnly
import HandS.Gcd
import HandS.WordsDict
import KE.KDictZip
import PyProof.TupleOfSeq
import PyProof.WalksS
import PyProof.CollectWalk
import PyProof.ListNew
import HandS.EndBits
set_option Elab.async false
set_option linter.all false
set_option maxRecDepth 100000
set_option maxHeartbeats 16000000
namespace K1
theorem len2 {α : Type _} {l : List α} (h : l.length = 2) : ∃ x y, l = [x, y] := by
  cases l with
  | nil => cases h
  | cons x l => cases l with
    | nil => cases h
    | cons y l => cases l with
      | nil => exact ⟨x, y, rfl⟩
      | cons z l => cases h
theorem len3 {α : Type _} {l : List α} (h : l.length = 3) : ∃ x y z, l = [x, y, z] := by
  cases l with
  | nil => cases h
  | cons x l =>
    obtain ⟨y, z, e⟩ := len2 (l := l) (Nat.succ.inj h)
    exact ⟨x, y, z, by rw [e]⟩
theorem len4 {α : Type _} {l : List α} (h : l.length = 4) : ∃ x y z w, l = [x, y, z, w] := by
  cases l with
  | nil => cases h
  | cons x l =>
    obtain ⟨y, z, w, e⟩ := len3 (l := l) (Nat.succ.inj h)
    exact ⟨x, y, z, w, by rw [e]⟩
end K1
namespace K1
open PySem PySem.HandSPX Builtin Builtin.ObjectAttr
structure Mro (B : String) (bm : List Value) : Prop where
  b : bm.contains (.type B) = true
  a : bm.contains (.type "AttributeError") = false
  n : bm.contains (.type "NameError") = false
  o : bm.contains (.type "object") = true
  p : ∀ self : Value, refuseLoop self "__setattr__" bm = pure ()
section
variable {prog : Program} {w : World} {A : Around} {E : Value → Shared → Prop} {R : Result → Shared → Prop} {h : Heap} {g : Array GenState} {d : Drawn} {t : Nat} {os : OsState}
variable {nm q : Str} {C N : Addr} {bs bm bmB : List Value} {hdct : Bool} {sn : List Str} {sub : List Value} {ab : Bool} {col : Option Bool} {dd : Option Addr} {k0 k1 k2 k3 k5 : Option Value} {B newId initId : String}
theorem check_newG {M : Model} (F : ExcBaseFacts B newId initId bmB) (T : Mro B bm) {rest : List Value} {Q : Unit → Shared → Prop}
    (hC : h.get? C = some (excClassObj nm q C N bs bm hdct sn sub ab col dd k0 k1 k2 k3 k5 newId)) (hq : Q () ⟨h, g, d, t, os⟩) : wpAny M A (checkBuiltinCall newId ⟨.ref C :: rest, []⟩) Q E ⟨h, g, d, t, os⟩ := by
  have hcont : (Value.ref C :: bm).contains (.type B) = true := by rw [List.contains_cons, T.b, Bool.or_true]
  have hstar := F.noStar
  simp only [checkBuiltinCall, F.newKind, F.newSplit, F.newRow]
  repeat (first | refine wpAny_loadPart_at hC ?_ | (refine wpAny_isSubtype_exc hC ?_; rw [hcont]) | refine wpAny_staticBase_exc hC ?_ | refine wpAny_madeBy_exc hC ?_ | simp only [bne_self_eq_false, Bool.false_eq_true, if_false] | wp_step)
  exact hq
theorem newG (F : ExcBaseFacts B newId initId bmB) (T : Mro B bm) {rest : List Value}
    (hC : h.get? C = some (excClassObj nm q C N bs bm hdct sn sub ab col dd k0 k1 k2 k3 k5 newId))
    (hq : R (.ok (.ret (.ref (h.objs.size + 1)))) ⟨(h.push { cls := .type "tuple", data := .seq rest.toArray }).push
      { cls := .ref C, data := .fields #[.ref h.objs.size, .none, .none, .none, .bool false, .none] }, g, d, t, os⟩) (hrest : rest.length ≤ sizeLine) :
    codeAny (model prog w) A (.builtin newId ⟨.ref C :: rest, []⟩) R ⟨h, g, d, t, os⟩ := by
  have hends := F.ends
  have hcB : (Value.ref C :: bm).contains (.type B) = true := by rw [List.contains_cons, T.b, Bool.or_true]
  have hcA : (Value.ref C :: bm).contains (.type "AttributeError") = false := by rw [List.contains_cons, T.a]; rfl
  have hcN : (Value.ref C :: bm).contains (.type "NameError") = false := by rw [List.contains_cons, T.n]; rfl
  refine codeAny_builtinAt F.entry ?_
  unfold Builtin.«BaseException.__new__»
  refine wpAt_bind ?_
  show wpAt _ _ _ (stack >>= _) _ _ _
  refine wpAt_bind (wpAt_stack fun p below => wpAt_of_wpAny ?_)
  wp_walk
  refine wpAt_of_wpAny ?_
  rw [F.owner]
  repeat (first | with_reducible refine wpAny_madeHere_exc F.canon hC ?_ | with_reducible refine wpAny_loadPart_at hC ?_ | (with_reducible refine wpAny_isSubtype_exc hC ?_; first | rw [hcB] | rw [hcA] | rw [hcN]) | wp_step)
  show R _ _
  rw [Heap.size_push]
  exact hq
theorem type_callG (F : ExcBaseFacts B newId initId bmB) (T : Mro B bm) {rest : List Value} {fI : Addr} {Q : Fin → Shared → Prop}
    (hC : h.get? C = some (excClassObj nm q C N bs bm hdct sn sub ab col dd k0 k1 k2 k3 k5 newId))
    (hi : W.Looks (model prog w) h (typeLookup (.ref C) "__init__") (some (.ref fI))) (hb : ∀ self, W.Looks (model prog w) h (bindSpecial (.ref fI) self) (.ref fI, [self])) (hrest : rest.length ≤ sizeLine)
    (hq : codeAny (model prog w) A (.call (.ref fI) ⟨.ref (h.objs.size + 1) :: rest, []⟩)
      (fun r s' => match r with | .ok (.ret v) => v = .none ∧ Q (.done (.ret (.ref (h.objs.size + 1)))) s' | .ok _ => False | .error e => E e s')
      ⟨(h.push (W.kdv_tup rest)).push (excO C h.objs.size), g, d, t, os⟩) :
    wpAny (model prog w) A (Builtin.«type.__call__» ⟨.ref C :: rest, []⟩) Q E ⟨h, g, d, t, os⟩ := by
  repeat (first | with_reducible refine wpAny_loadPart_at hC ?_ | with_reducible refine wpAny_madeBy_exc hC ?_ | wp_step)
  refine codeAny_call_builtin_code (Code.quiet_builtin _ F.quiet) (check_newG F T hC ?_)
  refine newG F T hC ?_ hrest
  show wpAny _ _ _ _ _ _
  have k : ∀ b o, h.get? b = some o → ((h.push (W.kdv_tup rest)).push (excO C h.objs.size)).get? b = some o := fun b o e => Heap.get?_push_of_some _ (Heap.get?_push_of_some _ e)
  have hC₁ := k _ _ hC
  have hget : ((h.push (W.kdv_tup rest)).push (excO C h.objs.size)).get? (h.objs.size + 1) = some (excO C h.objs.size) := by heap_get
  have hcC : (Value.ref C :: bm).contains (.ref C) = true := by simp
  have i1 := hi.keeps k
  have b1 := (hb (.ref (h.objs.size + 1))).keeps k
  unfold isInstance
  repeat (first | with_reducible refine wpAny_loadPart_at hget ?_ | (with_reducible refine wpAny_isSubtype_exc hC₁ ?_; rw [hcC]) | wp_step)
  show wpAny _ _ (typeLookup (.ref C) _) _ _ _
  refine i1.at ?_
  refine wpAny_holding (wpAny_bind (b1.at ?_))
  refine wpAny_bind (wpAny_call (codeAny_mono hq fun r s' z => ?_))
  rcases r with e | (v | _ | _ | _) <;> first | exact z | exact z.elim | skip
  obtain ⟨rfl, z⟩ := z
  first
    | exact wpAny_pure (wpAny_pure z)
    | (wp_walk; exact z)
theorem call_ownG (F : ExcBaseFacts B newId initId bmB) (T : Mro B bm) {rest : List Value} {fI : Addr}
    (hC : h.get? C = some (excClassObj nm q C N bs bm hdct sn sub ab col dd k0 k1 k2 k3 k5 newId))
    (hi : W.Looks (model prog w) h (typeLookup (.ref C) "__init__") (some (.ref fI))) (hb : ∀ self, W.Looks (model prog w) h (bindSpecial (.ref fI) self) (.ref fI, [self])) (hrest : rest.length ≤ sizeLine)
    (hq : codeAny (model prog w) (A.under (.builtin "type.__call__" ⟨.ref C :: rest, []⟩)) (.call (.ref fI) ⟨.ref (h.objs.size + 1) :: rest, []⟩) (W.InitBack (h.objs.size + 1) R)
      ⟨(h.push (W.kdv_tup rest)).push (excO C h.objs.size), g, d, t, os⟩) :
    codeAny (model prog w) A (.call (.ref C) ⟨rest, []⟩) R ⟨h, g, d, t, os⟩ := by
  have f1 := tc_lookup
  have f2 := tc_bind (.ref C)
  have hTy : (⟨h, g, d, t, os⟩ : Shared).TypeIs (.ref C) "type" := ⟨_, hC, rfl⟩
  refine codeAny_of_tree ?_
  show wpAny _ _ (callAny (.ref C) _) _ _ _
  repeat (any_goals (first | assumption | with_reducible refine wpAny_loadPart_at hC ?_ | wp_step))
  refine ⟨rfl, ?_⟩
  refine codeAny_call_builtin_at (Code.quiet_builtin _ (by decide +kernel)) entry_typeCall (wpAny_check_type_call_sub hC (type_callG F T hC hi hb hrest ?_))
  refine codeAny_mono hq fun r s' z => ?_
  rcases r with e | (v | _ | _ | _) <;> exact z
end
section
variable {prog : Program} {w : World} {A : Around} {E : Value → Shared → Prop} {R : Result → Shared → Prop} {hp : Heap} {g : Array GenState} {d : Drawn} {t : Nat} {os : OsState}
theorem exc_osaG {K : W.Frag} {name : Str} {tk : Tok} {v : Value} {x C : Addr} {fv : Array Value} {cd : ClassData} {B : String} {bm : List Value}
    (X : K.In hp) (hx : hp.get? x = some { cls := .ref C, data := .fields fv }) (hcd : W.clsIn K C = some cd) (hm : cd.mro = .ref C :: bm) (T : Mro B bm) (hh : cd.hasDict = true) (ha : W.findIn K (.ref C) name = some none)
    (hq : ∀ h' tk' dx, (∀ b o, b ≠ x → hp.get? b = some o → h'.get? b = some o) → hp.objs.size ≤ dx → dx ≠ x → h'.get? x = some { cls := .ref C, dict := some dx, data := .fields fv } →
      h'.Ns1 dx (fun y => if y = name then some v else none) → R (.ok (.ret .none)) ⟨h', g, d, tk', os⟩) :
    codeAny (model prog w) A (.call (.builtin "object.__setattr__") ⟨[.ref x, .str name tk, v], []⟩) R ⟨hp, g, d, t, os⟩ := by
  have I : W.InstAt hp x { cls := .ref C, data := .fields fv } C none := ⟨hx, rfl, rfl, trivial⟩
  have SF := F.store_object
  have ne : cd.mro.isEmpty = false := by rw [hm]; rfl
  have hob : cd.mro.contains (.type "object") = true := by rw [hm, List.contains_cons, T.o, Bool.or_true]
  have hxs : x ≠ hp.objs.size := Nat.ne_of_lt (Heap.lt_size hx)
  have sub : W.Looks (model prog w) hp (isInstance (.ref x) (.type "object")) true := I.type.andThen (W.looks_mroIn X (by unfold W.mroIn; rw [hcd, Option.bind_some, if_neg (by rw [ne]; decide), hob]))
  refine codeAny_call_builtin SF.slot.plain SF.entry (@W.check_slot (model prog w) _ _ ⟨hp, g, d, t, os⟩ "object.__setattr__" "object" "__setattr__" (.ref x) [.str name tk, v] [] _ SF.kind SF.split sub (SF.args (.ref x) (.str name tk) v) ?_)
  have hmr : W.Looks (model prog w) hp (mroOf (.ref C)) cd.mro := (W.looks_clsIn X hcd).andThen .now
  have L3 : W.Looks (model prog w) hp (storeTaker? none) none := .now
  have hcls : W.Looks (model prog w) hp (classData C) cd := W.looks_clsIn X hcd
  rw [W.osa_eq, refuse_eq]
  refine wpAny_bind (wpAny_bind (I.type.at (wpAny_bind (hmr.at ?_))))
  rw [hm, refuseLoop_ref, T.p]
  refine wpAny_pure (wpAny_bind (I.type.at (wpAny_bind ((W.looks_findIn X ha).at (wpAny_bind (L3.at ?_))))))
  show wpAny _ _ (storeInOwnDict (.ref x) (.ref C) (.str name tk) name v false) _ _ _
  obtain ⟨nm, bs, mro, ns, qn, hd, sn, sb, ab, col, del⟩ := cd
  dsimp only at hh
  subst hh
  unfold storeInOwnDict ownDictForStores
  repeat (first | with_reducible refine store_in_new ?_ ?_ | with_reducible refine wpAny_loadPart_at hx ?_ | with_reducible refine hcls.at ?_ | wp_step)
  · exact ⟨_, #[], _, (Heap.get?_update_ne _ _ _ _ hxs.symm).trans (Heap.get?_push_at rfl rfl), rfl, fun e he => absurd he (by simp), fun _ => rfl⟩
  · intro h' tk' hn' hs
    have hx₁ : (hp.push { cls := .type "dict", data := .dict #[] }).get? x = some { cls := .ref C, data := .fields fv } := Heap.get?_push_of_some _ hx
    refine hq h' tk' hp.objs.size (fun b o hb ho => ?_) (Nat.le_refl _) hxs.symm ?_ hn'
    · exact (hs.2 b (Nat.ne_of_lt (Heap.lt_size ho))).trans ((Heap.get?_update_ne _ _ _ _ hb).trans (Heap.get?_push_of_some _ ho))
    · exact (hs.2 x hxs).trans (Heap.get?_update_self _ hx₁ rfl)
end
noncomputable abbrev veT : List Value := [.type "ValueError", .type "Exception", .type "BaseException", .type "object"]
noncomputable abbrev keT : List Value := [.type "KeyError", .type "LookupError", .type "Exception", .type "BaseException", .type "object"]
theorem mro_ve (c : Addr) : Mro "ValueError" (.ref c :: veT) := ⟨rfl, rfl, rfl, rfl, fun self => by rw [refuseLoop_ref]; exact F.store_ValueError.passes self⟩
theorem ke_pass (self : Value) : refuseLoop self "__setattr__" keT = pure () := by kernel_rfl
theorem mro_ke : Mro "LookupError" keT := ⟨by decide +kernel, by decide +kernel, by decide +kernel, by decide +kernel, ke_pass⟩
end K1

namespace K1
open PySem PySem.W PySem.Calls PyProof.Rows PySem.HandSPX
theorem one_le (v : Value) : [v].length ≤ sizeLine := by
  rw [sizeLine_eq]
  exact (by decide : 1 ≤ 16777216)
theorem ldE {M : Model} {s : Shared} {name : Str} {scope : Scope} {L a : Addr} {cd : Value} {m : Str → Option Value} {x : Str} {pos : Pos} {v : Value} {Q : Value → Shared → Prop} {A : Around} {E : Value → Shared → Prop} (hn : s.heap.Ns L m) (hv : m x = some v) (h : Q v s)
    (hk : scope.kind = .function := by rfl) (hl : (envOfC name scope L a cd).kindOf x = some .local := by rfl) (hd : (x == ("__debug__" : Str)) = false := by decide) :
    wpAny M A (eval (.Name x pos) (envOfC name scope L a cd)) Q E s := wpAny_Name (wpAny_loadName_local hk hl hn hv h) hd
end K1
namespace K1
open PySem PySem.Spec PyProof.Rows L2
theorem relO_one {v : V} {v' : Value} {g : Str} (r : RelV v v') (f : Str) : RelO (List.lookup f [(g, v)]) (if f = g then some v' else none) := by
  by_cases hw : f = g
  · subst hw
    rw [if_pos rfl]
    have q : List.lookup f [(f, v)] = some v := by simp [List.lookup]
    rw [q]
    exact r
  · rw [if_neg hw]
    have qw : (f == g) = false := by simpa using hw
    have q2 : List.lookup f [(g, v)] = none := by simp [List.lookup, qw]
    rw [q2]
    trivial
noncomputable def tMkF (g : Str) (C : Addr) (ta : TA) : L2.St → Hp → XK → Prop := fun σ H Q => ta σ H fun vs H1 => ∃ v, vs = [v] ∧ ∀ d, H1 d = none → Q (.ref C) (some d) (upd H1 d (.xd [(g, v)]))
noncomputable def tRaiseF (g : Str) (C : Addr) (W : WX) (ta : TA) : TS := fun _ σ H => tMkF g C ta σ H fun cls d H' => W cls d σ H'
noncomputable def tByF (g : Str) (C : Addr) (a : Addr) (cls : Value) (d : Option Addr) (te : TE) : TE := fun σ H Q => te σ H fun x H1 => x = .ref a ∧ cls = .ref C ∧ ∃ (dd : Addr) (v : V), d = some dd ∧ H1 dd = some (.xd [(g, v)]) ∧ Q v H1
end K1

namespace K1
namespace LAt
open PySem PySem.W PySem.Calls PyProof.Rows PySem.HandSPX
noncomputable def iA (p1 p2 : Pos) : Arguments := { posonlyargs := [], args := [{ arg := "self", annotation := none, pos := p1 }, { arg := "at", annotation := none, pos := p2 }], vararg := none, kwonlyargs := [], kw_defaults := [], kwarg := none, defaults := [] }
noncomputable def iB (q1 q2 q3 q4 : Pos) : List Stmt := [.Assign [.Attribute (.Name "self" q1) "at" q2] (.Name "at" q3) q4]
noncomputable def iS : Scope := { kind := .function, names := [(PySem.Str.ofString "self", .local), (PySem.Str.ofString "at", .local)], isGenerator := false, isCoroutine := false, more := [] }
structure Txt (K : Frag) (mg : Str → Option Value) (cn ql : Str) (bm : List Value) (C fI : Addr) : Prop where
  gC : mg cn = some (.ref C)
  cls : ∃ nm q N bs sn sub ab col dd k0 k1 k2 k3 k5, K.lookup C = some (excClassObj nm q C N bs bm true sn sub ab col dd k0 k1 k2 k3 k5 "ValueError.__new__")
  mr : Mro "ValueError" bm
  sa : findIn K (.ref C) "__setattr__" = some (some (.builtin "object.__setattr__"))
  ga : findIn K (.ref C) "__getattribute__" = some (some (.builtin "BaseException.__getattribute__"))
  gg : findIn K (.ref C) "__getattr__" = some none
  noN : findIn K (.ref C) "at" = some none
  iC : findIn K (.ref C) "__init__" = some (some (.ref fI))
  tC : typeIn K (.ref fI) = some (.type "function")
  kC : keepIn K (.ref C) = true
  exC : subIn K (.ref C) (.type "BaseException") = some true
  tyC : typeIn K (.ref C) = some (.type "type")
  hdC : hasDictIn K C = true
  fn : ∃ (oc : Value) (od : Option Addr) (doc pm : Value) (an : Option Addr) (cdv ct : Value) (osl : Array (Option Value)) (p1 p2 q1 q2 q3 q4 : Pos),
    K.lookup fI = some ⟨oc, od, .func (fnOf "__init__" ql (iA p1 p2) (iB q1 q2 q3 q4) iS .none .none doc pm an cdv ct), osl⟩ ∧ codeIn K cdv ql = true
structure InitEnd (h h' : Heap) (x C dx t1 : Addr) (v : Value) : Prop where
  keep : ∀ b o, b ≠ x → h.get? b = some o → h'.get? b = some o
  obj : h'.get? x = some { cls := .ref C, dict := some dx, data := .fields #[.ref t1, .none, .none, .none, .bool false, .none] }
  dbig : h.objs.size ≤ dx
  dne : dx ≠ x
  ns : h'.Ns1 dx (fun y => if y = "at" then some v else none)
structure OwnMade (h h' : Heap) (e C d : Addr) (v : Value) : Prop where
  keep : ∀ b o, h.get? b = some o → h'.get? b = some o
  new : h.objs.size ≤ e
  obj : ∃ oe vs, h'.get? e = some oe ∧ oe.cls = .ref C ∧ oe.dict = some d ∧ oe.data = .fields vs ∧ vs[1]? = some .none
  dbig : h.objs.size ≤ d
  dne : d ≠ e
  ns : h'.Ns1 d (fun y => if y = "at" then some v else none)
section
variable {prog : Program} {w : World} {A : Around} {E : Value → Shared → Prop} {R : Result → Shared → Prop} {s : Shared} {K : Frag} {mg : Str → Option Value} {cn ql : Str} {bm : List Value} {C fI : Addr}
theorem init (T : Txt K mg cn ql bm C fI) {x t0 : Addr} {v : Value} (X : K.In s.heap) (hlim : s.heap.NoLimit) (hx : s.heap.get? x = some (excO C t0)) (hnx : K.lookup x = none) (hroom : A.depth < recursionLimit)
    (hq : ∀ h' tk dx, InitEnd s.heap h' x C dx t0 v → R (.ok (.ret .none)) { s with heap := h', toks := tk }) :
    codeAny (model prog w) A (.call (.ref fI) ⟨[.ref x, v], []⟩) R s := by
  obtain ⟨oc, od, doc, pm, an, cdv, ct, osl, p1, p2, q1, q2, q3, q4, ho, hcd⟩ := T.fn
  obtain ⟨nm, q, N, bs, sn, sub, ab, col, dd, k0, k1, k2, k3, k5, hC⟩ := T.cls
  have hcl : clsIn K C = some { name := nm, bases := bs, mro := .ref C :: bm, ns := N, qualname := q, hasDict := true, slotNames := sn, subclasses := sub, abstract := ab, collection := col, hasDel := false } := by unfold clsIn; rw [hC] <;> rfl
  refine Att.call_fn (binds := [("self", .ref x), ("at", v)]) X hlim ho hcd hroom (BindsTo.of_eq (by first | rfl | with_unfolding_all rfl)) (by first | rfl | decide | with_unfolding_all rfl) (fun s₁ IC => ?_) rfl rfl rfl
  obtain ⟨h₁, tk₁, rfl⟩ := IC.toInCall.same
  have k : ∀ b o, s.heap.get? b = some o → h₁.get? b = some o := IC.toInCall.keep
  have hn := IC.toInCall.ns
  have X₁ : K.In h₁ := X.keeps k
  have hx₁ := k _ _ hx
  show wpAny _ _ (execs _ _) _ _ _
  refine wpAny_execs_cons (plainObj_wpAny_Assign_Attribute ?_)
  refine ldE (v := v) hn (by first | rfl | with_unfolding_all rfl | kernel_rfl) (ldE (v := .ref x) hn (by first | rfl | with_unfolding_all rfl | kernel_rfl) ?_)
  refine set_plain X₁ (ox := excO C t0) (od := none) ⟨hx₁, rfl, rfl, trivial⟩ T.sa ?_
  refine exc_osaG X₁ hx₁ hcl rfl T.mr rfl T.noN (fun h₃ tk₃ dx k₃ dn dne hx₃ hn₃ => ?_)
  show wpAny _ _ (execs _ _) _ _ _
  have z : s.heap.objs.size < h₁.objs.size := hn.lt
  exact wpAny_execs_nil (hq h₃ tk₃ dx ⟨fun b o hb e => k₃ b o hb (k b o e), hx₃, Nat.le_of_lt (Nat.lt_of_lt_of_le z dn), dne, hn₃⟩)
theorem made (T : Txt K mg cn ql bm C fI) {v : Value} (X : K.In s.heap) (hlim : s.heap.NoLimit) (hroom : A.depth + 1 < recursionLimit)
    (hq : ∀ h' tk e d, OwnMade s.heap h' e C d v → R (.ok (.ret (.ref e))) { s with heap := h', toks := tk }) :
    codeAny (model prog w) A (.call (.ref C) ⟨[v], []⟩) R s := by
  obtain ⟨nm, q, N, bs, sn, sub, ab, col, dd, k0, k1, k2, k3, k5, hC⟩ := T.cls
  obtain ⟨hp, g, dr, tk, os⟩ := s
  have k : ∀ b o, hp.get? b = some o → ((hp.push (kdv_tup [v])).push (excO C hp.objs.size)).get? b = some o := fun b o e => Heap.get?_push_of_some _ (Heap.get?_push_of_some _ e)
  have hget : ((hp.push (kdv_tup [v])).push (excO C hp.objs.size)).get? (hp.objs.size + 1) = some (excO C hp.objs.size) := by heap_get
  have hnx : K.lookup (hp.objs.size + 1) = none := by
    cases e : K.lookup (hp.objs.size + 1) with
    | none => rfl
    | some o =>
      have z : hp.get? (hp.objs.size + 1) = some o := X _ _ e
      exact absurd (Nat.lt_of_succ_lt (Heap.lt_size z)) (Nat.lt_irrefl _)
  refine call_ownG F.excBase_ValueError T.mr (X _ _ hC) (looks_findIn X T.iC) (fun self => bind_fn X self T.tC) (one_le v) ?_
  refine init (s := ⟨(hp.push (kdv_tup [v])).push (excO C hp.objs.size), g, dr, tk, os⟩) T (X.keeps k) (hlim.keeps k) hget hnx ?_ fun h' tk' dx ⟨k', hx, dn, dne, hns⟩ => ?_
  · show A.depth + 1 < recursionLimit
    exact hroom
  · have old : ∀ b o, hp.get? b = some o → h'.get? b = some o := fun b o e => k' b o (Nat.ne_of_lt (Nat.lt_succ_of_lt (Heap.lt_size e))) (k b o e)
    have z : hp.objs.size + 1 + 1 ≤ dx := by
      first
        | (simpa only [Heap.size_push] using dn)
        | exact dn
        | (have q := dn; rw [Heap.size_push, Heap.size_push] at q; exact q)
    exact ⟨rfl, hq h' tk' (hp.objs.size + 1) dx ⟨old, Nat.le_succ _, ⟨_, _, hx, rfl, rfl, rfl, rfl⟩, Nat.le_trans (Nat.le_trans (Nat.le_succ _) (Nat.le_succ _)) z, dne, hns⟩⟩
end
end LAt
end K1
namespace K1
open PySem PySem.Spec PyProof.Rows L2
section
variable {X : Cx} {cn ql : Str} {bm : List Value} {C fI : Addr}
theorem pmk_LAt {a : Expr} {ta : TA} {p pos : Pos} {k : Nat} (T : LAt.Txt X.K X.mg cn ql bm C fI) (hr : Room k X.A) (ha : PA X [a] ta) (hg : Gl X cn := by rfl)
    (he : starEach (a :: []) X.env = (false, eval a X.env) :: starEach [] X.env := by rfl) (hpl : (backTo pos (starEach [] X.env)).any (·.1) = false := by rfl) (hdb : (cn == ("__debug__" : Str)) = false := by decide) :
    PMk X (.Call (.Name cn p) [a] [] pos) (tMkF "at" C ta) := by
  intro pins s σ H Q I h
  refine wpAny_Call_Name_kw (ld_glob I hg T.gC ?_ hdb)
  refine PySem.W.callWith_K (h₀ := X.base) I.ok.mod.kin T.kC (thn (ha.run pos pins s σ H _ I h) fun us s1 hh => ?_) he hpl
  obtain ⟨vs, H1, I1, r1, v, ev, q1⟩ := hh
  subst ev
  refine ⟨I1.kIn, ?_⟩
  cases r1 with
  | cons rv rn =>
    rename_i v' us'
    cases rn
    show wpAny _ _ (call (.ref C) [v']) _ _ _
    have hlim := I1.nolimit
    obtain ⟨hp, g, dr, tk, os⟩ := s1
    refine wpAny_call (LAt.made T I1.kIn hlim (by have := hr.dp; omega) fun h' tk' e d M => ?_)
    show MkP X pins σ Q (.ref e) ⟨h', g, dr, tk', os⟩
    obtain ⟨oe, fv, hoe, hc, hd, hdat, h1⟩ := M.obj
    have hns := M.ns
    obtain ⟨G', g1, g2⟩ := restrict h' fun b => decide (b ≠ e)
    have gk : ∀ b, b ≠ e → G'.get? b = h'.get? b := fun b hb => g1 b (decide_eq_true hb)
    have ge : G'.get? e = none := g2 e (by simp)
    have old : ∀ b o, hp.get? b = some o → G'.get? b = some o := fun b o q => (gk b (Nat.ne_of_lt (Nat.lt_of_lt_of_le (Heap.lt_size q) M.new))).trans (M.keep b o q)
    have ob : ObjOk X.prog X.w (upd H1 d (.xd [(("at" : Str), v)])) G' d (.xd [(("at" : Str), v)]) :=
      ⟨_, hns.at (fun o q => (gk d M.dne).trans q), fun f => relO_one rv f⟩
    have J : Inv X pins σ (upd H1 d (.xd [(("at" : Str), v)])) ⟨G', g, dr, tk', os⟩ := I1.laid (t' := tk') old M.dbig ob
    refine ⟨e, oe, fv, ⟨G', g, dr, tk', os⟩, _, .ref C, some d, rfl, J, fun b o q => ?_, ge, hoe, ⟨hc, hd⟩, hdat, h1, ?_, rfl, I1.bare, raises_own T.exC T.tyC, q1 d (I1.hok.fresh M.dbig)⟩
    · by_cases hb : b = e
      · have q' : G'.get? b = some o := q
        rw [hb, ge] at q'; cases q'
      · exact (gk b hb).symm.trans q
    · rw [upd_ne (Ne.symm M.dne)]
      exact I1.hok.fresh M.new
theorem ps_raise_LAt {a : Expr} {ta : TA} {W : WX} {p pos pos2 : Pos} {k : Nat} (hc : X.calm = true) (T : LAt.Txt X.K X.mg cn ql bm C fI) (hr : Room k X.A) (tk : Takes X W) (ha : PA X [a] ta) (hg : Gl X cn := by rfl)
    (he : starEach (a :: []) X.env = (false, eval a X.env) :: starEach [] X.env := by rfl) (hpl : (backTo pos (starEach [] X.env)).any (·.1) = false := by rfl) (hdb : (cn == ("__debug__" : Str)) = false := by decide) :
    PS X (.Raise (some (.Call (.Name cn p) [a] [] pos)) none pos2) (tRaiseF "at" C W ta) := ps_raise hc tk (pmk_LAt T hr ha hg he hpl hdb)
theorem pe_by_LAt {a : Addr} {oe : Obj} {cls : Value} {d : Option Addr} {pn : List (Addr × Obj)} {e : Expr} {te : TE} {pos : Pos} (T : LAt.Txt X.K X.mg cn ql bm C fI) (hz : Zc cls d oe) (hf : ∃ vs, oe.data = .fields vs) (he : PE (X.suite a ((a, oe) :: pn)) e te)
    (hb : attributeBase e "at" X.env (eval e X.env) = eval e X.env := by rfl) :
    PE (X.suite a ((a, oe) :: pn)) (.Attribute e "at" pos) (tByF "at" C a cls d te) := by
  refine ⟨fun pins s σ H Q I h => ?_⟩
  refine attr_of hb (thn (he.run pins s σ H _ I h) fun u s1 hh => ?_)
  obtain ⟨x, H1, I1, rx, ex, ec, dd, v, ed, ea, q⟩ := hh
  subst ex
  obtain rfl : u = Value.ref a := rx
  subst ec
  subst ed
  obtain ⟨ha, _⟩ := I1.pin (a, oe) (List.mem_append_left _ List.mem_cons_self)
  obtain ⟨vs, hd⟩ := hf
  have hx : ObjOk X.prog X.w H1 s1.heap dd (.xd [(("at" : Str), v)]) := I1.hok dd _ ea
  obtain ⟨mA, hns, hr⟩ := hx
  obtain ⟨od, ho, hl⟩ := lookIn_ns hns
  have l : List.lookup ("at" : Str) [(("at" : Str), v)] = some v := by simp [List.lookup]
  obtain ⟨u, hu, ru⟩ := RelO.some_of (v := v) (o := mA "at") (by rw [← l]; exact hr "at")
  have J : PySem.W.InstAt s1.heap a oe C (some od) := ⟨ha, hz.1, by unfold PySem.W.notCls; rw [hd] <;> rfl, by rw [hz.2]; exact ho⟩
  exact HandSPX.exc_get I1.kIn J T.ga T.gg T.exC (PySem.W.findObj_own T.hdC T.noN rfl (by rw [hl, hu])) (handed_of ru) ⟨v, H1, I1.tok _, ru, q⟩
end
end K1

namespace K1
namespace LState
open PySem PySem.W PySem.Calls PyProof.Rows PySem.HandSPX
noncomputable def iA (p1 p2 : Pos) : Arguments := { posonlyargs := [], args := [{ arg := "self", annotation := none, pos := p1 }, { arg := "state", annotation := none, pos := p2 }], vararg := none, kwonlyargs := [], kw_defaults := [], kwarg := none, defaults := [] }
noncomputable def iB (q1 q2 q3 q4 : Pos) : List Stmt := [.Assign [.Attribute (.Name "self" q1) "state" q2] (.Name "state" q3) q4]
noncomputable def iS : Scope := { kind := .function, names := [(PySem.Str.ofString "self", .local), (PySem.Str.ofString "state", .local)], isGenerator := false, isCoroutine := false, more := [] }
structure Txt (K : Frag) (mg : Str → Option Value) (cn ql : Str) (bm : List Value) (C fI : Addr) : Prop where
  gC : mg cn = some (.ref C)
  cls : ∃ nm q N bs sn sub ab col dd k0 k1 k2 k3 k5, K.lookup C = some (excClassObj nm q C N bs bm true sn sub ab col dd k0 k1 k2 k3 k5 "LookupError.__new__")
  mr : Mro "LookupError" bm
  sa : findIn K (.ref C) "__setattr__" = some (some (.builtin "object.__setattr__"))
  ga : findIn K (.ref C) "__getattribute__" = some (some (.builtin "BaseException.__getattribute__"))
  gg : findIn K (.ref C) "__getattr__" = some none
  noN : findIn K (.ref C) "state" = some none
  iC : findIn K (.ref C) "__init__" = some (some (.ref fI))
  tC : typeIn K (.ref fI) = some (.type "function")
  kC : keepIn K (.ref C) = true
  exC : subIn K (.ref C) (.type "BaseException") = some true
  tyC : typeIn K (.ref C) = some (.type "type")
  hdC : hasDictIn K C = true
  fn : ∃ (oc : Value) (od : Option Addr) (doc pm : Value) (an : Option Addr) (cdv ct : Value) (osl : Array (Option Value)) (p1 p2 q1 q2 q3 q4 : Pos),
    K.lookup fI = some ⟨oc, od, .func (fnOf "__init__" ql (iA p1 p2) (iB q1 q2 q3 q4) iS .none .none doc pm an cdv ct), osl⟩ ∧ codeIn K cdv ql = true
structure InitEnd (h h' : Heap) (x C dx t1 : Addr) (v : Value) : Prop where
  keep : ∀ b o, b ≠ x → h.get? b = some o → h'.get? b = some o
  obj : h'.get? x = some { cls := .ref C, dict := some dx, data := .fields #[.ref t1, .none, .none, .none, .bool false, .none] }
  dbig : h.objs.size ≤ dx
  dne : dx ≠ x
  ns : h'.Ns1 dx (fun y => if y = "state" then some v else none)
structure OwnMade (h h' : Heap) (e C d : Addr) (v : Value) : Prop where
  keep : ∀ b o, h.get? b = some o → h'.get? b = some o
  new : h.objs.size ≤ e
  obj : ∃ oe vs, h'.get? e = some oe ∧ oe.cls = .ref C ∧ oe.dict = some d ∧ oe.data = .fields vs ∧ vs[1]? = some .none
  dbig : h.objs.size ≤ d
  dne : d ≠ e
  ns : h'.Ns1 d (fun y => if y = "state" then some v else none)
section
variable {prog : Program} {w : World} {A : Around} {E : Value → Shared → Prop} {R : Result → Shared → Prop} {s : Shared} {K : Frag} {mg : Str → Option Value} {cn ql : Str} {bm : List Value} {C fI : Addr}
theorem init (T : Txt K mg cn ql bm C fI) {x t0 : Addr} {v : Value} (X : K.In s.heap) (hlim : s.heap.NoLimit) (hx : s.heap.get? x = some (excO C t0)) (hnx : K.lookup x = none) (hroom : A.depth < recursionLimit)
    (hq : ∀ h' tk dx, InitEnd s.heap h' x C dx t0 v → R (.ok (.ret .none)) { s with heap := h', toks := tk }) :
    codeAny (model prog w) A (.call (.ref fI) ⟨[.ref x, v], []⟩) R s := by
  obtain ⟨oc, od, doc, pm, an, cdv, ct, osl, p1, p2, q1, q2, q3, q4, ho, hcd⟩ := T.fn
  obtain ⟨nm, q, N, bs, sn, sub, ab, col, dd, k0, k1, k2, k3, k5, hC⟩ := T.cls
  have hcl : clsIn K C = some { name := nm, bases := bs, mro := .ref C :: bm, ns := N, qualname := q, hasDict := true, slotNames := sn, subclasses := sub, abstract := ab, collection := col, hasDel := false } := by unfold clsIn; rw [hC] <;> rfl
  refine Att.call_fn (binds := [("self", .ref x), ("state", v)]) X hlim ho hcd hroom (BindsTo.of_eq (by first | rfl | with_unfolding_all rfl)) (by first | rfl | decide | with_unfolding_all rfl) (fun s₁ IC => ?_) rfl rfl rfl
  obtain ⟨h₁, tk₁, rfl⟩ := IC.toInCall.same
  have k : ∀ b o, s.heap.get? b = some o → h₁.get? b = some o := IC.toInCall.keep
  have hn := IC.toInCall.ns
  have X₁ : K.In h₁ := X.keeps k
  have hx₁ := k _ _ hx
  show wpAny _ _ (execs _ _) _ _ _
  refine wpAny_execs_cons (plainObj_wpAny_Assign_Attribute ?_)
  refine ldE (v := v) hn (by first | rfl | with_unfolding_all rfl | kernel_rfl) (ldE (v := .ref x) hn (by first | rfl | with_unfolding_all rfl | kernel_rfl) ?_)
  refine set_plain X₁ (ox := excO C t0) (od := none) ⟨hx₁, rfl, rfl, trivial⟩ T.sa ?_
  refine exc_osaG X₁ hx₁ hcl rfl T.mr rfl T.noN (fun h₃ tk₃ dx k₃ dn dne hx₃ hn₃ => ?_)
  show wpAny _ _ (execs _ _) _ _ _
  have z : s.heap.objs.size < h₁.objs.size := hn.lt
  exact wpAny_execs_nil (hq h₃ tk₃ dx ⟨fun b o hb e => k₃ b o hb (k b o e), hx₃, Nat.le_of_lt (Nat.lt_of_lt_of_le z dn), dne, hn₃⟩)
theorem made (T : Txt K mg cn ql bm C fI) {v : Value} (X : K.In s.heap) (hlim : s.heap.NoLimit) (hroom : A.depth + 1 < recursionLimit)
    (hq : ∀ h' tk e d, OwnMade s.heap h' e C d v → R (.ok (.ret (.ref e))) { s with heap := h', toks := tk }) :
    codeAny (model prog w) A (.call (.ref C) ⟨[v], []⟩) R s := by
  obtain ⟨nm, q, N, bs, sn, sub, ab, col, dd, k0, k1, k2, k3, k5, hC⟩ := T.cls
  obtain ⟨hp, g, dr, tk, os⟩ := s
  have k : ∀ b o, hp.get? b = some o → ((hp.push (kdv_tup [v])).push (excO C hp.objs.size)).get? b = some o := fun b o e => Heap.get?_push_of_some _ (Heap.get?_push_of_some _ e)
  have hget : ((hp.push (kdv_tup [v])).push (excO C hp.objs.size)).get? (hp.objs.size + 1) = some (excO C hp.objs.size) := by heap_get
  have hnx : K.lookup (hp.objs.size + 1) = none := by
    cases e : K.lookup (hp.objs.size + 1) with
    | none => rfl
    | some o =>
      have z : hp.get? (hp.objs.size + 1) = some o := X _ _ e
      exact absurd (Nat.lt_of_succ_lt (Heap.lt_size z)) (Nat.lt_irrefl _)
  refine call_ownG F.excBase_LookupError T.mr (X _ _ hC) (looks_findIn X T.iC) (fun self => bind_fn X self T.tC) (one_le v) ?_
  refine init (s := ⟨(hp.push (kdv_tup [v])).push (excO C hp.objs.size), g, dr, tk, os⟩) T (X.keeps k) (hlim.keeps k) hget hnx ?_ fun h' tk' dx ⟨k', hx, dn, dne, hns⟩ => ?_
  · show A.depth + 1 < recursionLimit
    exact hroom
  · have old : ∀ b o, hp.get? b = some o → h'.get? b = some o := fun b o e => k' b o (Nat.ne_of_lt (Nat.lt_succ_of_lt (Heap.lt_size e))) (k b o e)
    have z : hp.objs.size + 1 + 1 ≤ dx := by
      first
        | (simpa only [Heap.size_push] using dn)
        | exact dn
        | (have q := dn; rw [Heap.size_push, Heap.size_push] at q; exact q)
    exact ⟨rfl, hq h' tk' (hp.objs.size + 1) dx ⟨old, Nat.le_succ _, ⟨_, _, hx, rfl, rfl, rfl, rfl⟩, Nat.le_trans (Nat.le_trans (Nat.le_succ _) (Nat.le_succ _)) z, dne, hns⟩⟩
end
end LState
end K1
namespace K1
open PySem PySem.Spec PyProof.Rows L2
section
variable {X : Cx} {cn ql : Str} {bm : List Value} {C fI : Addr}
theorem pmk_LState {a : Expr} {ta : TA} {p pos : Pos} {k : Nat} (T : LState.Txt X.K X.mg cn ql bm C fI) (hr : Room k X.A) (ha : PA X [a] ta) (hg : Gl X cn := by rfl)
    (he : starEach (a :: []) X.env = (false, eval a X.env) :: starEach [] X.env := by rfl) (hpl : (backTo pos (starEach [] X.env)).any (·.1) = false := by rfl) (hdb : (cn == ("__debug__" : Str)) = false := by decide) :
    PMk X (.Call (.Name cn p) [a] [] pos) (tMkF "state" C ta) := by
  intro pins s σ H Q I h
  refine wpAny_Call_Name_kw (ld_glob I hg T.gC ?_ hdb)
  refine PySem.W.callWith_K (h₀ := X.base) I.ok.mod.kin T.kC (thn (ha.run pos pins s σ H _ I h) fun us s1 hh => ?_) he hpl
  obtain ⟨vs, H1, I1, r1, v, ev, q1⟩ := hh
  subst ev
  refine ⟨I1.kIn, ?_⟩
  cases r1 with
  | cons rv rn =>
    rename_i v' us'
    cases rn
    show wpAny _ _ (call (.ref C) [v']) _ _ _
    have hlim := I1.nolimit
    obtain ⟨hp, g, dr, tk, os⟩ := s1
    refine wpAny_call (LState.made T I1.kIn hlim (by have := hr.dp; omega) fun h' tk' e d M => ?_)
    show MkP X pins σ Q (.ref e) ⟨h', g, dr, tk', os⟩
    obtain ⟨oe, fv, hoe, hc, hd, hdat, h1⟩ := M.obj
    have hns := M.ns
    obtain ⟨G', g1, g2⟩ := restrict h' fun b => decide (b ≠ e)
    have gk : ∀ b, b ≠ e → G'.get? b = h'.get? b := fun b hb => g1 b (decide_eq_true hb)
    have ge : G'.get? e = none := g2 e (by simp)
    have old : ∀ b o, hp.get? b = some o → G'.get? b = some o := fun b o q => (gk b (Nat.ne_of_lt (Nat.lt_of_lt_of_le (Heap.lt_size q) M.new))).trans (M.keep b o q)
    have ob : ObjOk X.prog X.w (upd H1 d (.xd [(("state" : Str), v)])) G' d (.xd [(("state" : Str), v)]) :=
      ⟨_, hns.at (fun o q => (gk d M.dne).trans q), fun f => relO_one rv f⟩
    have J : Inv X pins σ (upd H1 d (.xd [(("state" : Str), v)])) ⟨G', g, dr, tk', os⟩ := I1.laid (t' := tk') old M.dbig ob
    refine ⟨e, oe, fv, ⟨G', g, dr, tk', os⟩, _, .ref C, some d, rfl, J, fun b o q => ?_, ge, hoe, ⟨hc, hd⟩, hdat, h1, ?_, rfl, I1.bare, raises_own T.exC T.tyC, q1 d (I1.hok.fresh M.dbig)⟩
    · by_cases hb : b = e
      · have q' : G'.get? b = some o := q
        rw [hb, ge] at q'; cases q'
      · exact (gk b hb).symm.trans q
    · rw [upd_ne (Ne.symm M.dne)]
      exact I1.hok.fresh M.new
theorem ps_raise_LState {a : Expr} {ta : TA} {W : WX} {p pos pos2 : Pos} {k : Nat} (hc : X.calm = true) (T : LState.Txt X.K X.mg cn ql bm C fI) (hr : Room k X.A) (tk : Takes X W) (ha : PA X [a] ta) (hg : Gl X cn := by rfl)
    (he : starEach (a :: []) X.env = (false, eval a X.env) :: starEach [] X.env := by rfl) (hpl : (backTo pos (starEach [] X.env)).any (·.1) = false := by rfl) (hdb : (cn == ("__debug__" : Str)) = false := by decide) :
    PS X (.Raise (some (.Call (.Name cn p) [a] [] pos)) none pos2) (tRaiseF "state" C W ta) := ps_raise hc tk (pmk_LState T hr ha hg he hpl hdb)
end
end K1

namespace K1
namespace LDeed
open PySem PySem.W PySem.Calls PyProof.Rows PySem.HandSPX
noncomputable def iA (p1 p2 : Pos) : Arguments := { posonlyargs := [], args := [{ arg := "self", annotation := none, pos := p1 }, { arg := "deed", annotation := none, pos := p2 }], vararg := none, kwonlyargs := [], kw_defaults := [], kwarg := none, defaults := [] }
noncomputable def iB (q1 q2 q3 q4 : Pos) : List Stmt := [.Assign [.Attribute (.Name "self" q1) "deed" q2] (.Name "deed" q3) q4]
noncomputable def iS : Scope := { kind := .function, names := [(PySem.Str.ofString "self", .local), (PySem.Str.ofString "deed", .local)], isGenerator := false, isCoroutine := false, more := [] }
structure Txt (K : Frag) (mg : Str → Option Value) (cn ql : Str) (bm : List Value) (C fI : Addr) : Prop where
  gC : mg cn = some (.ref C)
  cls : ∃ nm q N bs sn sub ab col dd k0 k1 k2 k3 k5, K.lookup C = some (excClassObj nm q C N bs bm true sn sub ab col dd k0 k1 k2 k3 k5 "LookupError.__new__")
  mr : Mro "LookupError" bm
  sa : findIn K (.ref C) "__setattr__" = some (some (.builtin "object.__setattr__"))
  ga : findIn K (.ref C) "__getattribute__" = some (some (.builtin "BaseException.__getattribute__"))
  gg : findIn K (.ref C) "__getattr__" = some none
  noN : findIn K (.ref C) "deed" = some none
  iC : findIn K (.ref C) "__init__" = some (some (.ref fI))
  tC : typeIn K (.ref fI) = some (.type "function")
  kC : keepIn K (.ref C) = true
  exC : subIn K (.ref C) (.type "BaseException") = some true
  tyC : typeIn K (.ref C) = some (.type "type")
  hdC : hasDictIn K C = true
  fn : ∃ (oc : Value) (od : Option Addr) (doc pm : Value) (an : Option Addr) (cdv ct : Value) (osl : Array (Option Value)) (p1 p2 q1 q2 q3 q4 : Pos),
    K.lookup fI = some ⟨oc, od, .func (fnOf "__init__" ql (iA p1 p2) (iB q1 q2 q3 q4) iS .none .none doc pm an cdv ct), osl⟩ ∧ codeIn K cdv ql = true
structure InitEnd (h h' : Heap) (x C dx t1 : Addr) (v : Value) : Prop where
  keep : ∀ b o, b ≠ x → h.get? b = some o → h'.get? b = some o
  obj : h'.get? x = some { cls := .ref C, dict := some dx, data := .fields #[.ref t1, .none, .none, .none, .bool false, .none] }
  dbig : h.objs.size ≤ dx
  dne : dx ≠ x
  ns : h'.Ns1 dx (fun y => if y = "deed" then some v else none)
structure OwnMade (h h' : Heap) (e C d : Addr) (v : Value) : Prop where
  keep : ∀ b o, h.get? b = some o → h'.get? b = some o
  new : h.objs.size ≤ e
  obj : ∃ oe vs, h'.get? e = some oe ∧ oe.cls = .ref C ∧ oe.dict = some d ∧ oe.data = .fields vs ∧ vs[1]? = some .none
  dbig : h.objs.size ≤ d
  dne : d ≠ e
  ns : h'.Ns1 d (fun y => if y = "deed" then some v else none)
section
variable {prog : Program} {w : World} {A : Around} {E : Value → Shared → Prop} {R : Result → Shared → Prop} {s : Shared} {K : Frag} {mg : Str → Option Value} {cn ql : Str} {bm : List Value} {C fI : Addr}
theorem init (T : Txt K mg cn ql bm C fI) {x t0 : Addr} {v : Value} (X : K.In s.heap) (hlim : s.heap.NoLimit) (hx : s.heap.get? x = some (excO C t0)) (hnx : K.lookup x = none) (hroom : A.depth < recursionLimit)
    (hq : ∀ h' tk dx, InitEnd s.heap h' x C dx t0 v → R (.ok (.ret .none)) { s with heap := h', toks := tk }) :
    codeAny (model prog w) A (.call (.ref fI) ⟨[.ref x, v], []⟩) R s := by
  obtain ⟨oc, od, doc, pm, an, cdv, ct, osl, p1, p2, q1, q2, q3, q4, ho, hcd⟩ := T.fn
  obtain ⟨nm, q, N, bs, sn, sub, ab, col, dd, k0, k1, k2, k3, k5, hC⟩ := T.cls
  have hcl : clsIn K C = some { name := nm, bases := bs, mro := .ref C :: bm, ns := N, qualname := q, hasDict := true, slotNames := sn, subclasses := sub, abstract := ab, collection := col, hasDel := false } := by unfold clsIn; rw [hC] <;> rfl
  refine Att.call_fn (binds := [("self", .ref x), ("deed", v)]) X hlim ho hcd hroom (BindsTo.of_eq (by first | rfl | with_unfolding_all rfl)) (by first | rfl | decide | with_unfolding_all rfl) (fun s₁ IC => ?_) rfl rfl rfl
  obtain ⟨h₁, tk₁, rfl⟩ := IC.toInCall.same
  have k : ∀ b o, s.heap.get? b = some o → h₁.get? b = some o := IC.toInCall.keep
  have hn := IC.toInCall.ns
  have X₁ : K.In h₁ := X.keeps k
  have hx₁ := k _ _ hx
  show wpAny _ _ (execs _ _) _ _ _
  refine wpAny_execs_cons (plainObj_wpAny_Assign_Attribute ?_)
  refine ldE (v := v) hn (by first | rfl | with_unfolding_all rfl | kernel_rfl) (ldE (v := .ref x) hn (by first | rfl | with_unfolding_all rfl | kernel_rfl) ?_)
  refine set_plain X₁ (ox := excO C t0) (od := none) ⟨hx₁, rfl, rfl, trivial⟩ T.sa ?_
  refine exc_osaG X₁ hx₁ hcl rfl T.mr rfl T.noN (fun h₃ tk₃ dx k₃ dn dne hx₃ hn₃ => ?_)
  show wpAny _ _ (execs _ _) _ _ _
  have z : s.heap.objs.size < h₁.objs.size := hn.lt
  exact wpAny_execs_nil (hq h₃ tk₃ dx ⟨fun b o hb e => k₃ b o hb (k b o e), hx₃, Nat.le_of_lt (Nat.lt_of_lt_of_le z dn), dne, hn₃⟩)
theorem made (T : Txt K mg cn ql bm C fI) {v : Value} (X : K.In s.heap) (hlim : s.heap.NoLimit) (hroom : A.depth + 1 < recursionLimit)
    (hq : ∀ h' tk e d, OwnMade s.heap h' e C d v → R (.ok (.ret (.ref e))) { s with heap := h', toks := tk }) :
    codeAny (model prog w) A (.call (.ref C) ⟨[v], []⟩) R s := by
  obtain ⟨nm, q, N, bs, sn, sub, ab, col, dd, k0, k1, k2, k3, k5, hC⟩ := T.cls
  obtain ⟨hp, g, dr, tk, os⟩ := s
  have k : ∀ b o, hp.get? b = some o → ((hp.push (kdv_tup [v])).push (excO C hp.objs.size)).get? b = some o := fun b o e => Heap.get?_push_of_some _ (Heap.get?_push_of_some _ e)
  have hget : ((hp.push (kdv_tup [v])).push (excO C hp.objs.size)).get? (hp.objs.size + 1) = some (excO C hp.objs.size) := by heap_get
  have hnx : K.lookup (hp.objs.size + 1) = none := by
    cases e : K.lookup (hp.objs.size + 1) with
    | none => rfl
    | some o =>
      have z : hp.get? (hp.objs.size + 1) = some o := X _ _ e
      exact absurd (Nat.lt_of_succ_lt (Heap.lt_size z)) (Nat.lt_irrefl _)
  refine call_ownG F.excBase_LookupError T.mr (X _ _ hC) (looks_findIn X T.iC) (fun self => bind_fn X self T.tC) (one_le v) ?_
  refine init (s := ⟨(hp.push (kdv_tup [v])).push (excO C hp.objs.size), g, dr, tk, os⟩) T (X.keeps k) (hlim.keeps k) hget hnx ?_ fun h' tk' dx ⟨k', hx, dn, dne, hns⟩ => ?_
  · show A.depth + 1 < recursionLimit
    exact hroom
  · have old : ∀ b o, hp.get? b = some o → h'.get? b = some o := fun b o e => k' b o (Nat.ne_of_lt (Nat.lt_succ_of_lt (Heap.lt_size e))) (k b o e)
    have z : hp.objs.size + 1 + 1 ≤ dx := by
      first
        | (simpa only [Heap.size_push] using dn)
        | exact dn
        | (have q := dn; rw [Heap.size_push, Heap.size_push] at q; exact q)
    exact ⟨rfl, hq h' tk' (hp.objs.size + 1) dx ⟨old, Nat.le_succ _, ⟨_, _, hx, rfl, rfl, rfl, rfl⟩, Nat.le_trans (Nat.le_trans (Nat.le_succ _) (Nat.le_succ _)) z, dne, hns⟩⟩
end
end LDeed
end K1
namespace K1
open PySem PySem.Spec PyProof.Rows L2
section
variable {X : Cx} {cn ql : Str} {bm : List Value} {C fI : Addr}
theorem pmk_LDeed {a : Expr} {ta : TA} {p pos : Pos} {k : Nat} (T : LDeed.Txt X.K X.mg cn ql bm C fI) (hr : Room k X.A) (ha : PA X [a] ta) (hg : Gl X cn := by rfl)
    (he : starEach (a :: []) X.env = (false, eval a X.env) :: starEach [] X.env := by rfl) (hpl : (backTo pos (starEach [] X.env)).any (·.1) = false := by rfl) (hdb : (cn == ("__debug__" : Str)) = false := by decide) :
    PMk X (.Call (.Name cn p) [a] [] pos) (tMkF "deed" C ta) := by
  intro pins s σ H Q I h
  refine wpAny_Call_Name_kw (ld_glob I hg T.gC ?_ hdb)
  refine PySem.W.callWith_K (h₀ := X.base) I.ok.mod.kin T.kC (thn (ha.run pos pins s σ H _ I h) fun us s1 hh => ?_) he hpl
  obtain ⟨vs, H1, I1, r1, v, ev, q1⟩ := hh
  subst ev
  refine ⟨I1.kIn, ?_⟩
  cases r1 with
  | cons rv rn =>
    rename_i v' us'
    cases rn
    show wpAny _ _ (call (.ref C) [v']) _ _ _
    have hlim := I1.nolimit
    obtain ⟨hp, g, dr, tk, os⟩ := s1
    refine wpAny_call (LDeed.made T I1.kIn hlim (by have := hr.dp; omega) fun h' tk' e d M => ?_)
    show MkP X pins σ Q (.ref e) ⟨h', g, dr, tk', os⟩
    obtain ⟨oe, fv, hoe, hc, hd, hdat, h1⟩ := M.obj
    have hns := M.ns
    obtain ⟨G', g1, g2⟩ := restrict h' fun b => decide (b ≠ e)
    have gk : ∀ b, b ≠ e → G'.get? b = h'.get? b := fun b hb => g1 b (decide_eq_true hb)
    have ge : G'.get? e = none := g2 e (by simp)
    have old : ∀ b o, hp.get? b = some o → G'.get? b = some o := fun b o q => (gk b (Nat.ne_of_lt (Nat.lt_of_lt_of_le (Heap.lt_size q) M.new))).trans (M.keep b o q)
    have ob : ObjOk X.prog X.w (upd H1 d (.xd [(("deed" : Str), v)])) G' d (.xd [(("deed" : Str), v)]) :=
      ⟨_, hns.at (fun o q => (gk d M.dne).trans q), fun f => relO_one rv f⟩
    have J : Inv X pins σ (upd H1 d (.xd [(("deed" : Str), v)])) ⟨G', g, dr, tk', os⟩ := I1.laid (t' := tk') old M.dbig ob
    refine ⟨e, oe, fv, ⟨G', g, dr, tk', os⟩, _, .ref C, some d, rfl, J, fun b o q => ?_, ge, hoe, ⟨hc, hd⟩, hdat, h1, ?_, rfl, I1.bare, raises_own T.exC T.tyC, q1 d (I1.hok.fresh M.dbig)⟩
    · by_cases hb : b = e
      · have q' : G'.get? b = some o := q
        rw [hb, ge] at q'; cases q'
      · exact (gk b hb).symm.trans q
    · rw [upd_ne (Ne.symm M.dne)]
      exact I1.hok.fresh M.new
theorem ps_raise_LDeed {a : Expr} {ta : TA} {W : WX} {p pos pos2 : Pos} {k : Nat} (hc : X.calm = true) (T : LDeed.Txt X.K X.mg cn ql bm C fI) (hr : Room k X.A) (tk : Takes X W) (ha : PA X [a] ta) (hg : Gl X cn := by rfl)
    (he : starEach (a :: []) X.env = (false, eval a X.env) :: starEach [] X.env := by rfl) (hpl : (backTo pos (starEach [] X.env)).any (·.1) = false := by rfl) (hdb : (cn == ("__debug__" : Str)) = false := by decide) :
    PS X (.Raise (some (.Call (.Name cn p) [a] [] pos)) none pos2) (tRaiseF "deed" C W ta) := ps_raise hc tk (pmk_LDeed T hr ha hg he hpl hdb)
end
end K1

namespace K1
namespace LHouse
open PySem PySem.W PySem.Calls PyProof.Rows PySem.HandSPX
noncomputable def iA (p1 p2 : Pos) : Arguments := { posonlyargs := [], args := [{ arg := "self", annotation := none, pos := p1 }, { arg := "house", annotation := none, pos := p2 }], vararg := none, kwonlyargs := [], kw_defaults := [], kwarg := none, defaults := [] }
noncomputable def iB (q1 q2 q3 q4 : Pos) : List Stmt := [.Assign [.Attribute (.Name "self" q1) "house" q2] (.Name "house" q3) q4]
noncomputable def iS : Scope := { kind := .function, names := [(PySem.Str.ofString "self", .local), (PySem.Str.ofString "house", .local)], isGenerator := false, isCoroutine := false, more := [] }
structure Txt (K : Frag) (mg : Str → Option Value) (cn ql : Str) (bm : List Value) (C fI : Addr) : Prop where
  gC : mg cn = some (.ref C)
  cls : ∃ nm q N bs sn sub ab col dd k0 k1 k2 k3 k5, K.lookup C = some (excClassObj nm q C N bs bm true sn sub ab col dd k0 k1 k2 k3 k5 "LookupError.__new__")
  mr : Mro "LookupError" bm
  sa : findIn K (.ref C) "__setattr__" = some (some (.builtin "object.__setattr__"))
  ga : findIn K (.ref C) "__getattribute__" = some (some (.builtin "BaseException.__getattribute__"))
  gg : findIn K (.ref C) "__getattr__" = some none
  noN : findIn K (.ref C) "house" = some none
  iC : findIn K (.ref C) "__init__" = some (some (.ref fI))
  tC : typeIn K (.ref fI) = some (.type "function")
  kC : keepIn K (.ref C) = true
  exC : subIn K (.ref C) (.type "BaseException") = some true
  tyC : typeIn K (.ref C) = some (.type "type")
  hdC : hasDictIn K C = true
  fn : ∃ (oc : Value) (od : Option Addr) (doc pm : Value) (an : Option Addr) (cdv ct : Value) (osl : Array (Option Value)) (p1 p2 q1 q2 q3 q4 : Pos),
    K.lookup fI = some ⟨oc, od, .func (fnOf "__init__" ql (iA p1 p2) (iB q1 q2 q3 q4) iS .none .none doc pm an cdv ct), osl⟩ ∧ codeIn K cdv ql = true
structure InitEnd (h h' : Heap) (x C dx t1 : Addr) (v : Value) : Prop where
  keep : ∀ b o, b ≠ x → h.get? b = some o → h'.get? b = some o
  obj : h'.get? x = some { cls := .ref C, dict := some dx, data := .fields #[.ref t1, .none, .none, .none, .bool false, .none] }
  dbig : h.objs.size ≤ dx
  dne : dx ≠ x
  ns : h'.Ns1 dx (fun y => if y = "house" then some v else none)
structure OwnMade (h h' : Heap) (e C d : Addr) (v : Value) : Prop where
  keep : ∀ b o, h.get? b = some o → h'.get? b = some o
  new : h.objs.size ≤ e
  obj : ∃ oe vs, h'.get? e = some oe ∧ oe.cls = .ref C ∧ oe.dict = some d ∧ oe.data = .fields vs ∧ vs[1]? = some .none
  dbig : h.objs.size ≤ d
  dne : d ≠ e
  ns : h'.Ns1 d (fun y => if y = "house" then some v else none)
section
variable {prog : Program} {w : World} {A : Around} {E : Value → Shared → Prop} {R : Result → Shared → Prop} {s : Shared} {K : Frag} {mg : Str → Option Value} {cn ql : Str} {bm : List Value} {C fI : Addr}
theorem init (T : Txt K mg cn ql bm C fI) {x t0 : Addr} {v : Value} (X : K.In s.heap) (hlim : s.heap.NoLimit) (hx : s.heap.get? x = some (excO C t0)) (hnx : K.lookup x = none) (hroom : A.depth < recursionLimit)
    (hq : ∀ h' tk dx, InitEnd s.heap h' x C dx t0 v → R (.ok (.ret .none)) { s with heap := h', toks := tk }) :
    codeAny (model prog w) A (.call (.ref fI) ⟨[.ref x, v], []⟩) R s := by
  obtain ⟨oc, od, doc, pm, an, cdv, ct, osl, p1, p2, q1, q2, q3, q4, ho, hcd⟩ := T.fn
  obtain ⟨nm, q, N, bs, sn, sub, ab, col, dd, k0, k1, k2, k3, k5, hC⟩ := T.cls
  have hcl : clsIn K C = some { name := nm, bases := bs, mro := .ref C :: bm, ns := N, qualname := q, hasDict := true, slotNames := sn, subclasses := sub, abstract := ab, collection := col, hasDel := false } := by unfold clsIn; rw [hC] <;> rfl
  refine Att.call_fn (binds := [("self", .ref x), ("house", v)]) X hlim ho hcd hroom (BindsTo.of_eq (by first | rfl | with_unfolding_all rfl)) (by first | rfl | decide | with_unfolding_all rfl) (fun s₁ IC => ?_) rfl rfl rfl
  obtain ⟨h₁, tk₁, rfl⟩ := IC.toInCall.same
  have k : ∀ b o, s.heap.get? b = some o → h₁.get? b = some o := IC.toInCall.keep
  have hn := IC.toInCall.ns
  have X₁ : K.In h₁ := X.keeps k
  have hx₁ := k _ _ hx
  show wpAny _ _ (execs _ _) _ _ _
  refine wpAny_execs_cons (plainObj_wpAny_Assign_Attribute ?_)
  refine ldE (v := v) hn (by first | rfl | with_unfolding_all rfl | kernel_rfl) (ldE (v := .ref x) hn (by first | rfl | with_unfolding_all rfl | kernel_rfl) ?_)
  refine set_plain X₁ (ox := excO C t0) (od := none) ⟨hx₁, rfl, rfl, trivial⟩ T.sa ?_
  refine exc_osaG X₁ hx₁ hcl rfl T.mr rfl T.noN (fun h₃ tk₃ dx k₃ dn dne hx₃ hn₃ => ?_)
  show wpAny _ _ (execs _ _) _ _ _
  have z : s.heap.objs.size < h₁.objs.size := hn.lt
  exact wpAny_execs_nil (hq h₃ tk₃ dx ⟨fun b o hb e => k₃ b o hb (k b o e), hx₃, Nat.le_of_lt (Nat.lt_of_lt_of_le z dn), dne, hn₃⟩)
theorem made (T : Txt K mg cn ql bm C fI) {v : Value} (X : K.In s.heap) (hlim : s.heap.NoLimit) (hroom : A.depth + 1 < recursionLimit)
    (hq : ∀ h' tk e d, OwnMade s.heap h' e C d v → R (.ok (.ret (.ref e))) { s with heap := h', toks := tk }) :
    codeAny (model prog w) A (.call (.ref C) ⟨[v], []⟩) R s := by
  obtain ⟨nm, q, N, bs, sn, sub, ab, col, dd, k0, k1, k2, k3, k5, hC⟩ := T.cls
  obtain ⟨hp, g, dr, tk, os⟩ := s
  have k : ∀ b o, hp.get? b = some o → ((hp.push (kdv_tup [v])).push (excO C hp.objs.size)).get? b = some o := fun b o e => Heap.get?_push_of_some _ (Heap.get?_push_of_some _ e)
  have hget : ((hp.push (kdv_tup [v])).push (excO C hp.objs.size)).get? (hp.objs.size + 1) = some (excO C hp.objs.size) := by heap_get
  have hnx : K.lookup (hp.objs.size + 1) = none := by
    cases e : K.lookup (hp.objs.size + 1) with
    | none => rfl
    | some o =>
      have z : hp.get? (hp.objs.size + 1) = some o := X _ _ e
      exact absurd (Nat.lt_of_succ_lt (Heap.lt_size z)) (Nat.lt_irrefl _)
  refine call_ownG F.excBase_LookupError T.mr (X _ _ hC) (looks_findIn X T.iC) (fun self => bind_fn X self T.tC) (one_le v) ?_
  refine init (s := ⟨(hp.push (kdv_tup [v])).push (excO C hp.objs.size), g, dr, tk, os⟩) T (X.keeps k) (hlim.keeps k) hget hnx ?_ fun h' tk' dx ⟨k', hx, dn, dne, hns⟩ => ?_
  · show A.depth + 1 < recursionLimit
    exact hroom
  · have old : ∀ b o, hp.get? b = some o → h'.get? b = some o := fun b o e => k' b o (Nat.ne_of_lt (Nat.lt_succ_of_lt (Heap.lt_size e))) (k b o e)
    have z : hp.objs.size + 1 + 1 ≤ dx := by
      first
        | (simpa only [Heap.size_push] using dn)
        | exact dn
        | (have q := dn; rw [Heap.size_push, Heap.size_push] at q; exact q)
    exact ⟨rfl, hq h' tk' (hp.objs.size + 1) dx ⟨old, Nat.le_succ _, ⟨_, _, hx, rfl, rfl, rfl, rfl⟩, Nat.le_trans (Nat.le_trans (Nat.le_succ _) (Nat.le_succ _)) z, dne, hns⟩⟩
end
end LHouse
end K1
namespace K1
open PySem PySem.Spec PyProof.Rows L2
section
variable {X : Cx} {cn ql : Str} {bm : List Value} {C fI : Addr}
theorem pmk_LHouse {a : Expr} {ta : TA} {p pos : Pos} {k : Nat} (T : LHouse.Txt X.K X.mg cn ql bm C fI) (hr : Room k X.A) (ha : PA X [a] ta) (hg : Gl X cn := by rfl)
    (he : starEach (a :: []) X.env = (false, eval a X.env) :: starEach [] X.env := by rfl) (hpl : (backTo pos (starEach [] X.env)).any (·.1) = false := by rfl) (hdb : (cn == ("__debug__" : Str)) = false := by decide) :
    PMk X (.Call (.Name cn p) [a] [] pos) (tMkF "house" C ta) := by
  intro pins s σ H Q I h
  refine wpAny_Call_Name_kw (ld_glob I hg T.gC ?_ hdb)
  refine PySem.W.callWith_K (h₀ := X.base) I.ok.mod.kin T.kC (thn (ha.run pos pins s σ H _ I h) fun us s1 hh => ?_) he hpl
  obtain ⟨vs, H1, I1, r1, v, ev, q1⟩ := hh
  subst ev
  refine ⟨I1.kIn, ?_⟩
  cases r1 with
  | cons rv rn =>
    rename_i v' us'
    cases rn
    show wpAny _ _ (call (.ref C) [v']) _ _ _
    have hlim := I1.nolimit
    obtain ⟨hp, g, dr, tk, os⟩ := s1
    refine wpAny_call (LHouse.made T I1.kIn hlim (by have := hr.dp; omega) fun h' tk' e d M => ?_)
    show MkP X pins σ Q (.ref e) ⟨h', g, dr, tk', os⟩
    obtain ⟨oe, fv, hoe, hc, hd, hdat, h1⟩ := M.obj
    have hns := M.ns
    obtain ⟨G', g1, g2⟩ := restrict h' fun b => decide (b ≠ e)
    have gk : ∀ b, b ≠ e → G'.get? b = h'.get? b := fun b hb => g1 b (decide_eq_true hb)
    have ge : G'.get? e = none := g2 e (by simp)
    have old : ∀ b o, hp.get? b = some o → G'.get? b = some o := fun b o q => (gk b (Nat.ne_of_lt (Nat.lt_of_lt_of_le (Heap.lt_size q) M.new))).trans (M.keep b o q)
    have ob : ObjOk X.prog X.w (upd H1 d (.xd [(("house" : Str), v)])) G' d (.xd [(("house" : Str), v)]) :=
      ⟨_, hns.at (fun o q => (gk d M.dne).trans q), fun f => relO_one rv f⟩
    have J : Inv X pins σ (upd H1 d (.xd [(("house" : Str), v)])) ⟨G', g, dr, tk', os⟩ := I1.laid (t' := tk') old M.dbig ob
    refine ⟨e, oe, fv, ⟨G', g, dr, tk', os⟩, _, .ref C, some d, rfl, J, fun b o q => ?_, ge, hoe, ⟨hc, hd⟩, hdat, h1, ?_, rfl, I1.bare, raises_own T.exC T.tyC, q1 d (I1.hok.fresh M.dbig)⟩
    · by_cases hb : b = e
      · have q' : G'.get? b = some o := q
        rw [hb, ge] at q'; cases q'
      · exact (gk b hb).symm.trans q
    · rw [upd_ne (Ne.symm M.dne)]
      exact I1.hok.fresh M.new
theorem ps_raise_LHouse {a : Expr} {ta : TA} {W : WX} {p pos pos2 : Pos} {k : Nat} (hc : X.calm = true) (T : LHouse.Txt X.K X.mg cn ql bm C fI) (hr : Room k X.A) (tk : Takes X W) (ha : PA X [a] ta) (hg : Gl X cn := by rfl)
    (he : starEach (a :: []) X.env = (false, eval a X.env) :: starEach [] X.env := by rfl) (hpl : (backTo pos (starEach [] X.env)).any (·.1) = false := by rfl) (hdb : (cn == ("__debug__" : Str)) = false := by decide) :
    PS X (.Raise (some (.Call (.Name cn p) [a] [] pos)) none pos2) (tRaiseF "house" C W ta) := ps_raise hc tk (pmk_LHouse T hr ha hg he hpl hdb)
end
end K1

namespace K1
namespace LTie
open PySem PySem.W PySem.Calls PyProof.Rows PySem.HandSPX
noncomputable def iA (p1 p2 : Pos) : Arguments := { posonlyargs := [], args := [{ arg := "self", annotation := none, pos := p1 }, { arg := "tie", annotation := none, pos := p2 }], vararg := none, kwonlyargs := [], kw_defaults := [], kwarg := none, defaults := [] }
noncomputable def iB (q1 q2 q3 q4 : Pos) : List Stmt := [.Assign [.Attribute (.Name "self" q1) "tie" q2] (.Name "tie" q3) q4]
noncomputable def iS : Scope := { kind := .function, names := [(PySem.Str.ofString "self", .local), (PySem.Str.ofString "tie", .local)], isGenerator := false, isCoroutine := false, more := [] }
structure Txt (K : Frag) (mg : Str → Option Value) (cn ql : Str) (bm : List Value) (C fI : Addr) : Prop where
  gC : mg cn = some (.ref C)
  cls : ∃ nm q N bs sn sub ab col dd k0 k1 k2 k3 k5, K.lookup C = some (excClassObj nm q C N bs bm true sn sub ab col dd k0 k1 k2 k3 k5 "LookupError.__new__")
  mr : Mro "LookupError" bm
  sa : findIn K (.ref C) "__setattr__" = some (some (.builtin "object.__setattr__"))
  ga : findIn K (.ref C) "__getattribute__" = some (some (.builtin "BaseException.__getattribute__"))
  gg : findIn K (.ref C) "__getattr__" = some none
  noN : findIn K (.ref C) "tie" = some none
  iC : findIn K (.ref C) "__init__" = some (some (.ref fI))
  tC : typeIn K (.ref fI) = some (.type "function")
  kC : keepIn K (.ref C) = true
  exC : subIn K (.ref C) (.type "BaseException") = some true
  tyC : typeIn K (.ref C) = some (.type "type")
  hdC : hasDictIn K C = true
  fn : ∃ (oc : Value) (od : Option Addr) (doc pm : Value) (an : Option Addr) (cdv ct : Value) (osl : Array (Option Value)) (p1 p2 q1 q2 q3 q4 : Pos),
    K.lookup fI = some ⟨oc, od, .func (fnOf "__init__" ql (iA p1 p2) (iB q1 q2 q3 q4) iS .none .none doc pm an cdv ct), osl⟩ ∧ codeIn K cdv ql = true
structure InitEnd (h h' : Heap) (x C dx t1 : Addr) (v : Value) : Prop where
  keep : ∀ b o, b ≠ x → h.get? b = some o → h'.get? b = some o
  obj : h'.get? x = some { cls := .ref C, dict := some dx, data := .fields #[.ref t1, .none, .none, .none, .bool false, .none] }
  dbig : h.objs.size ≤ dx
  dne : dx ≠ x
  ns : h'.Ns1 dx (fun y => if y = "tie" then some v else none)
structure OwnMade (h h' : Heap) (e C d : Addr) (v : Value) : Prop where
  keep : ∀ b o, h.get? b = some o → h'.get? b = some o
  new : h.objs.size ≤ e
  obj : ∃ oe vs, h'.get? e = some oe ∧ oe.cls = .ref C ∧ oe.dict = some d ∧ oe.data = .fields vs ∧ vs[1]? = some .none
  dbig : h.objs.size ≤ d
  dne : d ≠ e
  ns : h'.Ns1 d (fun y => if y = "tie" then some v else none)
section
variable {prog : Program} {w : World} {A : Around} {E : Value → Shared → Prop} {R : Result → Shared → Prop} {s : Shared} {K : Frag} {mg : Str → Option Value} {cn ql : Str} {bm : List Value} {C fI : Addr}
theorem init (T : Txt K mg cn ql bm C fI) {x t0 : Addr} {v : Value} (X : K.In s.heap) (hlim : s.heap.NoLimit) (hx : s.heap.get? x = some (excO C t0)) (hnx : K.lookup x = none) (hroom : A.depth < recursionLimit)
    (hq : ∀ h' tk dx, InitEnd s.heap h' x C dx t0 v → R (.ok (.ret .none)) { s with heap := h', toks := tk }) :
    codeAny (model prog w) A (.call (.ref fI) ⟨[.ref x, v], []⟩) R s := by
  obtain ⟨oc, od, doc, pm, an, cdv, ct, osl, p1, p2, q1, q2, q3, q4, ho, hcd⟩ := T.fn
  obtain ⟨nm, q, N, bs, sn, sub, ab, col, dd, k0, k1, k2, k3, k5, hC⟩ := T.cls
  have hcl : clsIn K C = some { name := nm, bases := bs, mro := .ref C :: bm, ns := N, qualname := q, hasDict := true, slotNames := sn, subclasses := sub, abstract := ab, collection := col, hasDel := false } := by unfold clsIn; rw [hC] <;> rfl
  refine Att.call_fn (binds := [("self", .ref x), ("tie", v)]) X hlim ho hcd hroom (BindsTo.of_eq (by first | rfl | with_unfolding_all rfl)) (by first | rfl | decide | with_unfolding_all rfl) (fun s₁ IC => ?_) rfl rfl rfl
  obtain ⟨h₁, tk₁, rfl⟩ := IC.toInCall.same
  have k : ∀ b o, s.heap.get? b = some o → h₁.get? b = some o := IC.toInCall.keep
  have hn := IC.toInCall.ns
  have X₁ : K.In h₁ := X.keeps k
  have hx₁ := k _ _ hx
  show wpAny _ _ (execs _ _) _ _ _
  refine wpAny_execs_cons (plainObj_wpAny_Assign_Attribute ?_)
  refine ldE (v := v) hn (by first | rfl | with_unfolding_all rfl | kernel_rfl) (ldE (v := .ref x) hn (by first | rfl | with_unfolding_all rfl | kernel_rfl) ?_)
  refine set_plain X₁ (ox := excO C t0) (od := none) ⟨hx₁, rfl, rfl, trivial⟩ T.sa ?_
  refine exc_osaG X₁ hx₁ hcl rfl T.mr rfl T.noN (fun h₃ tk₃ dx k₃ dn dne hx₃ hn₃ => ?_)
  show wpAny _ _ (execs _ _) _ _ _
  have z : s.heap.objs.size < h₁.objs.size := hn.lt
  exact wpAny_execs_nil (hq h₃ tk₃ dx ⟨fun b o hb e => k₃ b o hb (k b o e), hx₃, Nat.le_of_lt (Nat.lt_of_lt_of_le z dn), dne, hn₃⟩)
theorem made (T : Txt K mg cn ql bm C fI) {v : Value} (X : K.In s.heap) (hlim : s.heap.NoLimit) (hroom : A.depth + 1 < recursionLimit)
    (hq : ∀ h' tk e d, OwnMade s.heap h' e C d v → R (.ok (.ret (.ref e))) { s with heap := h', toks := tk }) :
    codeAny (model prog w) A (.call (.ref C) ⟨[v], []⟩) R s := by
  obtain ⟨nm, q, N, bs, sn, sub, ab, col, dd, k0, k1, k2, k3, k5, hC⟩ := T.cls
  obtain ⟨hp, g, dr, tk, os⟩ := s
  have k : ∀ b o, hp.get? b = some o → ((hp.push (kdv_tup [v])).push (excO C hp.objs.size)).get? b = some o := fun b o e => Heap.get?_push_of_some _ (Heap.get?_push_of_some _ e)
  have hget : ((hp.push (kdv_tup [v])).push (excO C hp.objs.size)).get? (hp.objs.size + 1) = some (excO C hp.objs.size) := by heap_get
  have hnx : K.lookup (hp.objs.size + 1) = none := by
    cases e : K.lookup (hp.objs.size + 1) with
    | none => rfl
    | some o =>
      have z : hp.get? (hp.objs.size + 1) = some o := X _ _ e
      exact absurd (Nat.lt_of_succ_lt (Heap.lt_size z)) (Nat.lt_irrefl _)
  refine call_ownG F.excBase_LookupError T.mr (X _ _ hC) (looks_findIn X T.iC) (fun self => bind_fn X self T.tC) (one_le v) ?_
  refine init (s := ⟨(hp.push (kdv_tup [v])).push (excO C hp.objs.size), g, dr, tk, os⟩) T (X.keeps k) (hlim.keeps k) hget hnx ?_ fun h' tk' dx ⟨k', hx, dn, dne, hns⟩ => ?_
  · show A.depth + 1 < recursionLimit
    exact hroom
  · have old : ∀ b o, hp.get? b = some o → h'.get? b = some o := fun b o e => k' b o (Nat.ne_of_lt (Nat.lt_succ_of_lt (Heap.lt_size e))) (k b o e)
    have z : hp.objs.size + 1 + 1 ≤ dx := by
      first
        | (simpa only [Heap.size_push] using dn)
        | exact dn
        | (have q := dn; rw [Heap.size_push, Heap.size_push] at q; exact q)
    exact ⟨rfl, hq h' tk' (hp.objs.size + 1) dx ⟨old, Nat.le_succ _, ⟨_, _, hx, rfl, rfl, rfl, rfl⟩, Nat.le_trans (Nat.le_trans (Nat.le_succ _) (Nat.le_succ _)) z, dne, hns⟩⟩
end
end LTie
end K1
namespace K1
open PySem PySem.Spec PyProof.Rows L2
section
variable {X : Cx} {cn ql : Str} {bm : List Value} {C fI : Addr}
theorem pmk_LTie {a : Expr} {ta : TA} {p pos : Pos} {k : Nat} (T : LTie.Txt X.K X.mg cn ql bm C fI) (hr : Room k X.A) (ha : PA X [a] ta) (hg : Gl X cn := by rfl)
    (he : starEach (a :: []) X.env = (false, eval a X.env) :: starEach [] X.env := by rfl) (hpl : (backTo pos (starEach [] X.env)).any (·.1) = false := by rfl) (hdb : (cn == ("__debug__" : Str)) = false := by decide) :
    PMk X (.Call (.Name cn p) [a] [] pos) (tMkF "tie" C ta) := by
  intro pins s σ H Q I h
  refine wpAny_Call_Name_kw (ld_glob I hg T.gC ?_ hdb)
  refine PySem.W.callWith_K (h₀ := X.base) I.ok.mod.kin T.kC (thn (ha.run pos pins s σ H _ I h) fun us s1 hh => ?_) he hpl
  obtain ⟨vs, H1, I1, r1, v, ev, q1⟩ := hh
  subst ev
  refine ⟨I1.kIn, ?_⟩
  cases r1 with
  | cons rv rn =>
    rename_i v' us'
    cases rn
    show wpAny _ _ (call (.ref C) [v']) _ _ _
    have hlim := I1.nolimit
    obtain ⟨hp, g, dr, tk, os⟩ := s1
    refine wpAny_call (LTie.made T I1.kIn hlim (by have := hr.dp; omega) fun h' tk' e d M => ?_)
    show MkP X pins σ Q (.ref e) ⟨h', g, dr, tk', os⟩
    obtain ⟨oe, fv, hoe, hc, hd, hdat, h1⟩ := M.obj
    have hns := M.ns
    obtain ⟨G', g1, g2⟩ := restrict h' fun b => decide (b ≠ e)
    have gk : ∀ b, b ≠ e → G'.get? b = h'.get? b := fun b hb => g1 b (decide_eq_true hb)
    have ge : G'.get? e = none := g2 e (by simp)
    have old : ∀ b o, hp.get? b = some o → G'.get? b = some o := fun b o q => (gk b (Nat.ne_of_lt (Nat.lt_of_lt_of_le (Heap.lt_size q) M.new))).trans (M.keep b o q)
    have ob : ObjOk X.prog X.w (upd H1 d (.xd [(("tie" : Str), v)])) G' d (.xd [(("tie" : Str), v)]) :=
      ⟨_, hns.at (fun o q => (gk d M.dne).trans q), fun f => relO_one rv f⟩
    have J : Inv X pins σ (upd H1 d (.xd [(("tie" : Str), v)])) ⟨G', g, dr, tk', os⟩ := I1.laid (t' := tk') old M.dbig ob
    refine ⟨e, oe, fv, ⟨G', g, dr, tk', os⟩, _, .ref C, some d, rfl, J, fun b o q => ?_, ge, hoe, ⟨hc, hd⟩, hdat, h1, ?_, rfl, I1.bare, raises_own T.exC T.tyC, q1 d (I1.hok.fresh M.dbig)⟩
    · by_cases hb : b = e
      · have q' : G'.get? b = some o := q
        rw [hb, ge] at q'; cases q'
      · exact (gk b hb).symm.trans q
    · rw [upd_ne (Ne.symm M.dne)]
      exact I1.hok.fresh M.new
theorem ps_raise_LTie {a : Expr} {ta : TA} {W : WX} {p pos pos2 : Pos} {k : Nat} (hc : X.calm = true) (T : LTie.Txt X.K X.mg cn ql bm C fI) (hr : Room k X.A) (tk : Takes X W) (ha : PA X [a] ta) (hg : Gl X cn := by rfl)
    (he : starEach (a :: []) X.env = (false, eval a X.env) :: starEach [] X.env := by rfl) (hpl : (backTo pos (starEach [] X.env)).any (·.1) = false := by rfl) (hdb : (cn == ("__debug__" : Str)) = false := by decide) :
    PS X (.Raise (some (.Call (.Name cn p) [a] [] pos)) none pos2) (tRaiseF "tie" C W ta) := ps_raise hc tk (pmk_LTie T hr ha hg he hpl hdb)
end
end K1
namespace K1
open PySem PySem.Spec PyProof.Rows L2
theorem meets_enum1 {v : Value} {o : Obj} {H : Heap → Prop} (B : Begins v o H) :
    Meets (Builtin.«enumerate.__new__» ⟨[.type "enumerate", v], []⟩) (fun _ R s => H s.heap ∧
      R (.ok (.ret (.ref (s.heap.push o).objs.size))) { s with heap := (s.heap.push o).push { cls := .type "enumerate", data := .fields #[.none, .bool false, .ref s.heap.objs.size, rawInt 0, .none, .none] } }) :=
  .of_wp fun prog w A R s h => by
    obtain ⟨hp, g, d, tk, os⟩ := s
    obtain ⟨h1, h⟩ := h
    have hsub := sub_enumerate
    have q1 : ∀ {A' : Around} {E : Value → Shared → Prop} {Q : Value → Shared → Prop}, Q (.ref hp.objs.size) ⟨hp.push o, g, d, tk, os⟩ → wpAny (model prog w) A' (pyIter v) Q E ⟨hp, g, d, tk, os⟩ :=
      fun q => B.iter prog w _ _ ⟨hp, g, d, tk, os⟩ _ h1 q
    wp_walk using q1
    refine wpAny_stack_any fun st => wpAny_pure ?_
    split
    · rename_i c _ _ _ _ _
      cases (c == Value.type "enumerate") <;> (wp_walk using q1; exact ⟨_, rfl, h⟩)
    · wp_walk using q1
      exact ⟨_, rfl, h⟩
theorem enum_begins1 {prog : Program} {w : World} {A : Around} {E : Value → Shared → Prop} {s : Shared} {v : Value} {o : Obj} {H : Heap → Prop} {Q : Value → Shared → Prop} (B : Begins v o H) (h1 : H s.heap)
    (h : ∀ h', IsEnum h' (s.heap.objs.size + 1) s.heap.objs.size 0 .none → h'.get? s.heap.objs.size = some o → h'.objs.size = s.heap.objs.size + 2 →
      (∀ b o, s.heap.get? b = some o → h'.get? b = some o) → Q (.ref (s.heap.objs.size + 1)) { s with heap := h' }) :
    wpAny (model prog w) A (call (.type "enumerate") [v]) Q E s := by
  refine callType_new F.called_enumerate (by decide) (F.typeCall_enumerate_1 _) (F.newCall_enumerate_1 _) (fun obj => F.args_object_init_2 obj _) F.entry_enumerate_new (meets_enum1 B) ⟨h1, ?_⟩
  have hz : (s.heap.push o).objs.size = s.heap.objs.size + 1 := Heap.size_push ..
  show _ ∧ _
  rw [hz]
  have he := Heap.get?_push_size (s.heap.push o) (o := { cls := .type "enumerate", data := .fields #[.none, .bool false, .ref s.heap.objs.size, rawInt 0, .none, .none] }) rfl
  rw [hz] at he
  exact ⟨⟨_, he, rfl⟩, h _ he (Heap.get?_push_of_some _ (Heap.get?_push_size _ B.free)) (by rw [Heap.size_push, hz]) fun b o x => Heap.get?_push_of_some _ (Heap.get?_push_of_some _ x)⟩
noncomputable def IteT (K : PySem.W.Frag) (a : Addr) : It :=
  ⟨fun i H => ∃ (xs : List V) (x : V), SqT K H a xs ∧ xs[i]? = some x, fun i H v H' => ∃ T x, v = .ref T ∧ H T = none ∧ H' = upd H T (.tup [.int (i : Nat), x]) ∧ ∀ xs, SqT K H a xs → xs[i]? = some x, fun i H => ∃ xs : List V, SqT K H a xs ∧ xs.length ≤ i⟩
theorem turn_enumT {P : Program} {w : World} {K : PySem.W.Frag} {elts : List Expr} {kk : Nat} {tpos : Pos} (a e it : Addr) :
    Turn P w K (.Tuple elts kk tpos) (IteT K a) [e, it] e (fun i h => (∃ old, IsEnum h e it ((i : Nat) : Int) old) ∧ h.IsTupleIter it a i ∧ e ≠ it ∧ e ≠ a ∧ a ≠ it) where
  mem := by simp
  obj := fun i h st b hb => by
    obtain ⟨⟨old, he⟩, ⟨o, ho, hc, hd⟩, _⟩ := st
    rcases (show b = e ∨ b = it by simpa using hb) with z | z
    · rw [z]; exact ⟨_, he, fun v q => nomatch q⟩
    · rw [z]; exact ⟨o, ho, fun v q => by rw [hd] at q; cases q⟩
  keep := fun i h h' st k => let ⟨⟨old, he⟩, hi, hne⟩ := st; ⟨⟨old, k e (by simp) _ he⟩, hi.at fun o q => k it (by simp) o q, hne⟩
  item := by
    intro X hP hw hK hc i pins s σ H E I hf st hg
    subst hP hw hK
    obtain ⟨⟨old, he⟩, hit, hne, nea, nai⟩ := st
    obtain ⟨xs, x, hq, hx⟩ := hg
    obtain ⟨its, rv, p, hz⟩ := I.tuple hq
    obtain ⟨u, hu, ru⟩ := rv.get hx
    have hil' := (List.getElem?_eq_some_iff.mp hu).1
    have hel : e < s.heap.objs.size := Heap.lt_size he
    have hil : it < s.heap.objs.size := by obtain ⟨_, q, _⟩ := hit; exact Heap.lt_size q
    have D := Draws.tuple (prog := X.prog) (w := X.w) (A := X.A.in1) (show X.A.in1.handled = none from I.ok.hd hc) it a nai its.toArray
    refine wpAny_pyNext_enum_itemD D he ⟨hit, (show s.heap.IsTuple a its.toArray from p)⟩ (by simpa using hil') hne (by simp [hne, nea]) fun y h' tk hy ho hst hT hsz hk => ?_
    have ey : y = u := by
      have z : its[i]? = some y := by simpa using hy
      rw [hu] at z
      exact (Option.some.inj z).symm
    subst ey
    refine ⟨_, rfl, wpAny_letOwnedTupleGo_enum (s := { s with heap := h', toks := tk + 1 }) ho fun h'' he' sb => ?_⟩
    have hT2 : h''.get? s.heap.objs.size = some { cls := .type "tuple", data := .seq #[.int i tk, y] } := (sb.2 _ (Nat.ne_of_gt hel)).trans hT
    have new : ObjOk X.prog X.w (upd H s.heap.objs.size (.tup [.int (i : Nat), x])) h'' s.heap.objs.size (.tup [.int (i : Nat), x]) :=
      ⟨by show 2 ≤ sizeLine; decide, [.int i tk, y], .cons ⟨_, rfl⟩ (.cons ru .nil), ⟨_, hT2, rfl, _, rfl⟩⟩
    have I1 : Inv X pins σ (upd H s.heap.objs.size (.tup [.int (i : Nat), x])) { s with heap := h'', toks := tk + 1 } :=
      I.turnedNew (ch := [e, it]) (fun b ob hb q => (sb.2 b (fun z => hb (by simp [z]))).trans (hk b ob (fun z => hb (by simp [z])) (fun z => hb (by simp [z])) q)) hf (Nat.le_refl _) new
    refine ⟨.ref s.heap.objs.size, _, I1, rfl, ⟨_, x, rfl, I.hok.fresh (Nat.le_refl _), rfl, fun ys hy => by rw [I.tuple_inj hy hq]; exact hx⟩, ⟨⟨y, ?_⟩, hst.1.at fun o q => (sb.2 it (Ne.symm hne)).trans q, hne, nea, nai⟩, fun b hb => ?_⟩
    · have e1 : ((i + 1 : Nat) : Int) = (i : Int) + 1 := by omega
      rw [e1]; exact he'
    · have hb' : b < s.heap.objs.size := by
        rcases (show b = e ∨ b = it by simpa using hb) with z | z
        · rw [z]; exact hel
        · rw [z]; exact hil
      rw [upd_ne (Nat.ne_of_lt hb')]
      exact (hf b hb).1
  done := by
    intro X hP hw hK hc i pins s σ H E I hf st hg
    subst hP hw hK
    obtain ⟨⟨old, he⟩, hit, hne, nea, nai⟩ := st
    obtain ⟨xs, hq, hx⟩ := hg
    obtain ⟨its, rv, p, hz⟩ := I.tuple hq
    obtain ⟨f0, f1, f2, f3, f4, f5⟩ := hf it (by simp)
    have hl := rv.length
    have hTs : s.TypeIs (.ref e) "enumerate" := ⟨_, he, rfl⟩
    unfold pyNext
    refine wpAny_bind (wpAny_attempt (wpAny_callSpecial?_slot (name := Str.ofString "__next__") hTs F.slot_enumerate_next
      (wpAny_call_entry F.slot_enumerate_next hTs F.entry_enumerate_next ?_ (F.args_enumerate_next_1 _))))
    show wpAny _ _ (field (.ref e) 2 >>= _) _ _ _
    refine wpAny_bind (wpAny_field he rfl (x := .ref it) rfl ?_)
    refine wpAny_bind (wpAny_nextOf_tuple_end (show X.A.in1.handled = none from I.ok.hd hc) hit (show s.heap.IsTuple a its.toArray from p) (by simp; omega) fun h' y eb hx' => ?_)
    obtain ⟨o, ho, hc'⟩ := hx'
    refine wpAny_bind (wpAny_isInstance (T := "StopIteration") (b := true) ⟨o, ho, hc'⟩ isSubtype_stop ?_)
    exact wpAny_pure ⟨rfl, I.turned (t' := s.toks) (fun b o hb q => eb b o hb q) f0 f1 f3 f4 f5⟩
  self := fun A i s Q E st h => let ⟨⟨_, he⟩, _⟩ := st; wpAny_pyIter_enum he h
noncomputable def iEnumA (K : PySem.W.Frag) (ta : TA) : TI := fun σ H R => ta σ H fun vs H1 => ∃ a, vs = [.ref a] ∧ ((∃ xs, SqL K H1 a xs ∧ R (Ite K a) H1) ∨ (∃ xs, SqT K H1 a xs ∧ R (IteT K a) H1))
theorem pi_enumA {X : Cx} {e : Expr} {ta : TA} {p pos tpos : Pos} {elts : List Expr} {kk : Nat} (hg : Gl X "enumerate") (hm : X.mg "enumerate" = none) (ha : PA X [e] ta) (hs : starEach [e] X.env = [(false, eval e X.env)] := by rfl) :
    PI X (.Tuple elts kk tpos) (.Call (.Name "enumerate" p) [e] [] pos) (iEnumA X.K ta) := by
  refine ⟨fun pins s σ H R I h => ?_⟩
  refine Call_ (ld_blt I hg hm boot_enumerate (PyProof.Rows.callWith_type1 (thn (ha.run pos pins s σ H _ I h) fun us s1 ⟨vs, H1, I1, r1, q1⟩ => ?_) hs rfl))
  obtain ⟨a, ex, q⟩ := q1
  subst ex
  cases r1 with
  | cons r rr =>
    cases rr
    cases r
    have big : ∀ b ∈ [s1.heap.objs.size + 1, s1.heap.objs.size], s1.heap.objs.size ≤ b := fun b hb => by
      rcases (show b = s1.heap.objs.size + 1 ∨ b = s1.heap.objs.size by simpa using hb) with z | z
      · rw [z]; exact Nat.le_add_right _ _
      · rw [z]; exact Nat.le_refl _
    rcases q with ⟨xs, hq, q⟩ | ⟨xs, hq, q⟩
    · obtain ⟨its, rv, p', hz⟩ := I1.list hq
      refine call_enumerate_list p'.isList fun h' he hit hsz hk => wpAny_pyIter_enum he ?_
      have I2 : Inv X pins σ H1 { s1 with heap := h' } := I1.kept (t' := s1.toks) hk
      exact ⟨s1.heap.objs.size + 1, [s1.heap.objs.size + 1, s1.heap.objs.size], _, _, H1, rfl, I2, turn_enum a (s1.heap.objs.size + 1) s1.heap.objs.size, ⟨⟨.none, he⟩, hit, Nat.succ_ne_self _⟩, fun b hb => I1.fpOk (big b hb) (I1.hok.fresh (big b hb)), q⟩
    · obtain ⟨its, rv, p', hz⟩ := I1.tuple hq
      have hp : s1.heap.IsTuple a its.toArray := p'
      have hal : a < s1.heap.objs.size := by obtain ⟨_, q, _⟩ := hp; exact Heap.lt_size q
      refine enum_begins1 (begins_tuple a its.toArray) hp fun h' he hit hsz hk => wpAny_pyIter_enum he ?_
      have I2 : Inv X pins σ H1 { s1 with heap := h' } := I1.kept (t' := s1.toks) hk
      exact ⟨s1.heap.objs.size + 1, [s1.heap.objs.size + 1, s1.heap.objs.size], _, _, H1, rfl, I2, turn_enumT a (s1.heap.objs.size + 1) s1.heap.objs.size, ⟨⟨.none, he⟩, ⟨_, hit, rfl, rfl⟩, Nat.succ_ne_self _, Nat.ne_of_gt (Nat.lt_succ_of_lt hal), Nat.ne_of_lt hal⟩, fun b hb => I1.fpOk (big b hb) (I1.hok.fresh (big b hb)), q⟩
section
variable {K : PySem.W.Frag} {a : Addr} {xs : List V} {g : TG} {tb : TS} {D : Ends} {σ : L2.St} {H : Hp}
theorem for_enumL (Pv : Nat → L2.St → Hp → Prop) (h0 : Pv 0 σ H) (hl : ∀ i σ H, i ≤ xs.length → Pv i σ H → SqL K H a xs)
    (hs : ∀ i x T σ H, xs[i]? = some x → H T = none → Pv i σ H → g (.ref T) σ (upd H T (.tup [.int (i : Nat), x])) fun σ2 H2 => tb { D with nx := Pv (i + 1), ct := Pv (i + 1), bk := D.nx } σ2 H2) (hd : ∀ σ H, Pv xs.length σ H → D.nx σ H) :
    ∃ W : Nat → Nat → L2.St → Hp → Prop, (∃ m, W 0 m σ H) ∧ ∀ i m σ H, W i m σ H →
      ((Ite K a).stop i H ∧ D.nx σ H) ∨ ((Ite K a).go i H ∧ ∃ N : L2.St → Hp → Prop, (∀ σ' H', N σ' H' → ∃ m', m' < m ∧ W (i + 1) m' σ' H') ∧ ∀ x H', (Ite K a).yld i H x H' → g x σ H' fun σ2 H2 => tb { D with nx := N, ct := N, bk := D.nx } σ2 H2) := by
  refine ⟨fun i m σ H => m = xs.length - i ∧ i ≤ xs.length ∧ Pv i σ H, ⟨xs.length, by simp, Nat.zero_le _, h0⟩, ?_⟩
  rintro i m σ H ⟨rfl, hi, p⟩
  have q := hl i σ H hi p
  by_cases hlt : i < xs.length
  · refine .inr ⟨⟨xs, xs[i], q, by simp [hlt]⟩, Pv (i + 1), fun σ' H' p' => ⟨xs.length - (i + 1), by omega, rfl, hlt, p'⟩, fun x H' y => ?_⟩
    obtain ⟨T, x', e1, e2, e3, e4⟩ := y
    subst e1 e3
    exact hs i x' T σ H (e4 xs q) e2 p
  · have e : i = xs.length := by omega
    subst e
    exact .inl ⟨⟨xs, q, Nat.le_refl _⟩, hd σ H p⟩
theorem for_enumT (Pv : Nat → L2.St → Hp → Prop) (h0 : Pv 0 σ H) (hl : ∀ i σ H, i ≤ xs.length → Pv i σ H → SqT K H a xs)
    (hs : ∀ i x T σ H, xs[i]? = some x → H T = none → Pv i σ H → g (.ref T) σ (upd H T (.tup [.int (i : Nat), x])) fun σ2 H2 => tb { D with nx := Pv (i + 1), ct := Pv (i + 1), bk := D.nx } σ2 H2) (hd : ∀ σ H, Pv xs.length σ H → D.nx σ H) :
    ∃ W : Nat → Nat → L2.St → Hp → Prop, (∃ m, W 0 m σ H) ∧ ∀ i m σ H, W i m σ H →
      ((IteT K a).stop i H ∧ D.nx σ H) ∨ ((IteT K a).go i H ∧ ∃ N : L2.St → Hp → Prop, (∀ σ' H', N σ' H' → ∃ m', m' < m ∧ W (i + 1) m' σ' H') ∧ ∀ x H', (IteT K a).yld i H x H' → g x σ H' fun σ2 H2 => tb { D with nx := N, ct := N, bk := D.nx } σ2 H2) := by
  refine ⟨fun i m σ H => m = xs.length - i ∧ i ≤ xs.length ∧ Pv i σ H, ⟨xs.length, by simp, Nat.zero_le _, h0⟩, ?_⟩
  rintro i m σ H ⟨rfl, hi, p⟩
  have q := hl i σ H hi p
  by_cases hlt : i < xs.length
  · refine .inr ⟨⟨xs, xs[i], q, by simp [hlt]⟩, Pv (i + 1), fun σ' H' p' => ⟨xs.length - (i + 1), by omega, rfl, hlt, p'⟩, fun x H' y => ?_⟩
    obtain ⟨T, x', e1, e2, e3, e4⟩ := y
    subst e1 e3
    exact hs i x' T σ H (e4 xs q) e2 p
  · have e : i = xs.length := by omega
    subst e
    exact .inl ⟨⟨xs, q, Nat.le_refl _⟩, hd σ H p⟩
end
noncomputable def rReprS : List V → Hp → VK → Prop := fun xs H Q => ∃ v, xs = [v] ∧ ((v = .non ∧ Q (.str "None") H) ∨ (∃ b : Bool, v = .bl b ∧ Q (.str (if b then "True" else "False")) H) ∨ (∃ i : Int, v = .int i ∧ i.natAbs.log2 < 1920 ∧ Q (.str (toString i)) H) ∨
  ∃ x : Str, v = .str x ∧ (reprText x).length ≤ sizeLine ∧ Q (.str (reprText x)) H)
theorem call_reprS {X : Cx} : CallR X (.builtin "repr") rReprS := by
  intro pins s σ H xs us Q I r h
  obtain ⟨v, rfl, h⟩ := h
  obtain ⟨u, rfl, rv⟩ := vals1 r
  rcases h with ⟨rfl, q⟩ | ⟨b, rfl, q⟩ | ⟨i, rfl, hz, q⟩ | ⟨x, rfl, hz, q⟩
  · cases rv
    exact PySem.P.repr_of_none ⟨.str _, H, I.tok _, ⟨_, rfl⟩, q⟩
  · cases rv
    exact PySem.P.repr_of_bool ⟨.str _, H, I.tok _, ⟨_, rfl⟩, q⟩
  · obtain ⟨t, rfl⟩ := rv
    exact PySem.P.repr_of_int hz ⟨.str _, H, I.tok _, ⟨_, rfl⟩, q⟩
  · obtain ⟨t, rfl⟩ := rv
    exact PySem.P.repr_of_str (t := t) ⟨.str _, H, I.tok _, ⟨_, rfl⟩, q⟩ hz
structure FnG (P : Program) (w : World) (K : PySem.W.Frag) (mg : Str → Option Value) (base : Heap) (k : Nat) (f : Addr) (fd : FuncData) (ps : List Str) (sp : Sp) : Prop where
  len : ∀ vs H Q E, sp vs H Q E → vs.length = ps.length
  run : ∀ (A : Around) (outer : List Env) (s : Shared) (H : Hp) (args : Args) (us : List Value) (vs : List V) (Q : VK) (E : XK), Room k A → A.guards = some [] → Env0 P w K mg base A outer s H → BindsTo s fd args (ps.zip us) → Vals vs us → sp vs H Q E →
    codeAny (model P w) A (.call (.ref f) args) (CR CX0 outer P w H s Q E) s
end K1
namespace K1
open PySem PySem.Spec PyProof.Rows L2
noncomputable def top (i : Nat) : Stmt := PySem.Challenge.pw_houseslessties_k20_whole_what_wrong_runs.main.body.getD i (.Pass ⟨0, 0, 0, 0⟩)
noncomputable abbrev sUInit : Stmt := inClass (top 8) 0
noncomputable abbrev sUCInit : Stmt := inClass (top 9) 0
noncomputable abbrev sWhole : Stmt := top 15
noncomputable abbrev sBelow : Stmt := top 16
noncomputable abbrev sSeq : Stmt := top 17
noncomputable abbrev sFnb : Stmt := top 18
noncomputable abbrev sRepl : Stmt := top 19
noncomputable abbrev sMInit : Stmt := inClass (top 24) 0
noncomputable abbrev sIsTab : Stmt := top 25
noncomputable abbrev sChk : Stmt := top 26
noncomputable abbrev sNeedS : Stmt := top 27
noncomputable abbrev sNeedD : Stmt := top 28
noncomputable abbrev sFault : Stmt := top 29
noncomputable abbrev sRow : Stmt := top 30
noncomputable abbrev sMoved : Stmt := top 31
noncomputable abbrev sFirst : Stmt := top 32
noncomputable abbrev sOrbit : Stmt := top 33
noncomputable abbrev sJoin : Stmt := top 35
noncomputable abbrev sNeedSs : Stmt := top 36
noncomputable abbrev sJoined : Stmt := top 37
noncomputable abbrev sWInit : Stmt := inClass (top 41) 0
noncomputable abbrev sPair : Stmt := top 42
noncomputable abbrev sCTies : Stmt := top 43
noncomputable abbrev sNeedH : Stmt := top 44
noncomputable abbrev sNeedT : Stmt := top 45
noncomputable abbrev sIsStep : Stmt := top 50
noncomputable abbrev sStepsFault : Stmt := top 51
noncomputable abbrev sStepsOf : Stmt := top 52
noncomputable abbrev sCheckSteps : Stmt := top 53
noncomputable abbrev sAnySteps : Stmt := top 54
noncomputable abbrev sStandFirst : Stmt := top 55
noncomputable abbrev sDoneAt : Stmt := top 56
noncomputable abbrev sJoinedOver : Stmt := top 57
noncomputable abbrev sPutJoined : Stmt := top 58
noncomputable abbrev sNetInit : Stmt := inClass (top 59) 0
noncomputable abbrev sNetDo : Stmt := inClass (top 59) 1
noncomputable abbrev sNetMeet : Stmt := inClass (top 59) 2
noncomputable abbrev sPTake : Stmt := top 60
noncomputable abbrev sStandingAfter : Stmt := top 61
noncomputable abbrev sCPaper : Stmt := top 63
noncomputable abbrev sNeedC : Stmt := top 64
noncomputable abbrev sPower : Stmt := top 65
noncomputable abbrev sLessTie : Stmt := top 67
noncomputable abbrev sCountsInit : Stmt := inClass (top 68) 0
noncomputable abbrev sCountsDo : Stmt := inClass (top 68) 1
noncomputable abbrev sCountsMeet : Stmt := inClass (top 68) 2
noncomputable abbrev sDeedsOf : Stmt := top 69
noncomputable abbrev sCounted : Stmt := top 70
noncomputable abbrev sCountedActs : Stmt := top 71
noncomputable abbrev sPlainState : Stmt := top 72
noncomputable abbrev sHarm : Stmt := top 73
noncomputable abbrev sRunHarm : Stmt := top 74
noncomputable abbrev sLDealt : Stmt := top 76
noncomputable abbrev sLAny : Stmt := top 77
noncomputable abbrev sLOf : Stmt := top 78
noncomputable abbrev sLWeb : Stmt := top 79
noncomputable abbrev sLSteps : Stmt := top 80
noncomputable abbrev sLSums : Stmt := top 81
noncomputable abbrev sLIsGreatest : Stmt := top 82
noncomputable abbrev sLLine : Stmt := top 83
noncomputable abbrev sLCounts : Stmt := top 84
noncomputable abbrev sLLedBy : Stmt := top 85
noncomputable abbrev sLShown : Stmt := top 86
noncomputable abbrev sLBadSteps : Stmt := top 87
noncomputable abbrev sLaw : Stmt := top 88
structure Df (K : PySem.W.Frag) (mg : Str → Option Value) (x : Str) (st : Stmt) (ps : List Str) (f : Addr) (fd : FuncData) : Prop where
  F : Fun K x x st f fd
  g : mg x = some (.ref f)
  b : Binds K fd ps []
section
variable {X : Cx} {CX : CXT} {k : Nat} {f : Addr} {fd : FuncData} {ps : List Str} {sp : Sp} {E : XK} {x : Str} {st : Stmt} {p pos : Pos} {e : Expr} {es : List Expr} {t : TA}
theorem pc (D : Df X.K X.mg x st ps f fd) (G : FnOk X.prog X.w X.K X.mg X.base CX k f fd ps sp) (hr : Room k X.A) (hx : Passes CX X E) (ha : PA X (e :: es) t) (hg : Gl X x := by rfl)
    (hdb : (x == ("__debug__" : Str)) = false := by decide) (he : starEach (e :: es) X.env = (false, eval e X.env) :: starEach es X.env := by rfl) (hpl : (backTo pos (starEach es X.env)).any (·.1) = false := by rfl) :
    PE X (.Call (.Name x p) (e :: es) [] pos) (tCall sp [] E t) := pe_call G hr hg D.g D.F.kp D.b .nil hx ha hdb he hpl
end
theorem pass1 {X : Cx} {E : XK} (tk : Takes X (fun cls d _ H => E cls d H)) : Passes (L2.CX X.prog X.w) X E := passes_call tk fun _ _ _ _ h => h
theorem ifD {c : Bool} {A B : Prop} (h1 : c = true → A) (h2 : c = false → B) : if c = true then A else B := by
  cases c with
  | true => exact iteT (h1 rfl)
  | false => exact iteF (h2 rfl)
theorem eqv {α : Type} {P : α → Prop} {a b : α} (e : a = b) (h : P b) : P a := e ▸ h
theorem qbl {Q : VK} {H : Hp} {a b : Bool} (e : a = b) (h : Q (.bl b) H) : Q (.bl a) H := e ▸ h
inductive KV (K : PySem.W.Frag) (H : Hp) : V → Option (List V) → Prop
  | int (i : Int) : KV K H (.int i) none
  | bl (b : Bool) : KV K H (.bl b) none
  | non : KV K H .non none
  | str (x : Str) : KV K H (.str x) none
  | lst {a : Addr} {xs : List V} (h : H a = some (.lst xs)) : KV K H (.ref a) (some xs)
  | tup {a : Addr} {xs : List V} (h : H a = some (.tup xs)) : KV K H (.ref a) (some xs)
theorem KV.same {K : PySem.W.Frag} {H H' : Hp} {v : V} {o : Option (List V)} (h : KV K H v o) (s : Same H H') : KV K H' v o := by
  cases h with
  | int i => exact .int i
  | bl b => exact .bl b
  | non => exact .non
  | str x => exact .str x
  | lst h => exact .lst (s _ _ h)
  | tup h => exact .tup (s _ _ h)
noncomputable def wholeB : V → Bool | .int _ => true | _ => false
noncomputable def boolB : V → Bool | .bl _ => true | _ => false
inductive Tg where | i | b | n | s | l | t
noncomputable def Tg.nm : Tg → String | .i => "int" | .b => "bool" | .n => "NoneType" | .s => "str" | .l => "list" | .t => "tuple"
noncomputable def Tg.isI : Tg → Bool | .i => true | _ => false
noncomputable def Tg.isB : Tg → Bool | .b => true | _ => false
noncomputable def Tg.isQ : Tg → Bool | .l => true | .t => true | _ => false
theorem KV.ty {K : PySem.W.Frag} {H : Hp} {v : V} {o : Option (List V)} (h : KV K H v o) : ∃ g : Tg, TyX K H v (.type g.nm) ∧ g.isI = wholeB v ∧ g.isB = boolB v ∧ g.isQ = o.isSome := by
  cases h with
  | int i => exact ⟨.i, .base (.int i), rfl, rfl, rfl⟩
  | bl b => exact ⟨.b, .base (.bl b), rfl, rfl, rfl⟩
  | non => exact ⟨.n, .base .non, rfl, rfl, rfl⟩
  | str x => exact ⟨.s, .base (.str x), rfl, rfl, rfl⟩
  | lst h => exact ⟨.l, .base (.lst h), rfl, rfl, rfl⟩
  | tup h => exact ⟨.t, .base (.tup h), rfl, rfl, rfl⟩
theorem kit_I (K : PySem.W.Frag) (g : Tg) : PySem.W.kitOne K (.type g.nm) (.type "int") = some (g.isI || g.isB) := by
  cases g <;> exact kit_ty (by decide +kernel)
theorem kit_B (K : PySem.W.Frag) (g : Tg) : PySem.W.kitOne K (.type g.nm) (.type "bool") = some g.isB := by
  cases g <;> exact kit_ty (by decide +kernel)
noncomputable def Tg.isL : Tg → Bool | .l => true | _ => false
noncomputable def Tg.isT : Tg → Bool | .t => true | _ => false
theorem kit_L (K : PySem.W.Frag) (g : Tg) : PySem.W.kitOne K (.type g.nm) (.type "list") = some g.isL := by
  cases g <;> exact kit_ty (by decide +kernel)
theorem kit_T (K : PySem.W.Frag) (g : Tg) : PySem.W.kitOne K (.type g.nm) (.type "tuple") = some g.isT := by
  cases g <;> exact kit_ty (by decide +kernel)
theorem kit_Q (K : PySem.W.Frag) (g : Tg) : PySem.W.kitAny K (.type g.nm) [.type "list", .type "tuple"] = some g.isQ := by
  refine kitAny_cons (kit_L K g) (fun e => kitAny_cons (kit_T K g) (fun e2 => ?_) fun e2 => ?_) fun e => ?_
  all_goals (cases g <;> first | rfl | (cases e; done) | (cases e2; done))
structure Bt (mg : Str → Option Value) : Prop where
  isinstance : mg "isinstance" = none
  int : mg "int" = none
  bool : mg "bool" = none
  list : mg "list" = none
  tuple : mg "tuple" = none
  len : mg "len" = none
  enumerate : mg "enumerate" = none
  range : mg "range" = none
  sorted : mg "sorted" = none
  set : mg "set" = none
  repr : mg "repr" = none
  abs : mg "abs" = none
  min : mg "min" = none
  max : mg "max" = none
  sum : mg "sum" = none
  all : mg "all" = none
  any : mg "any" = none
  zip : mg "zip" = none
  str : mg "str" = none
  dict : mg "dict" = none
  ke : mg "KeyError" = none
end K1
namespace K1
open PySem PySem.Spec PyProof.Rows L2
noncomputable def belowB (v : V) (lim : Int) : Bool := match v with | .int i => decide (0 ≤ i) && decide (i < lim) | _ => false
noncomputable def seqB (o : Option (List V)) (least most : Int) : Bool := match o with | some xs => decide (least ≤ (xs.length : Int)) && decide ((xs.length : Int) ≤ most) | none => false
noncomputable def spWhole (K : PySem.W.Frag) : Sp := fun vs H Q _ => ∃ v o, vs = [v] ∧ KV K H v o ∧ Q (.bl (wholeB v)) H
noncomputable def spBelow (K : PySem.W.Frag) : Sp := fun vs H Q _ => ∃ v o lim, vs = [v, .int lim] ∧ KV K H v o ∧ Q (.bl (belowB v lim)) H
noncomputable def spSeq (K : PySem.W.Frag) : Sp := fun vs H Q _ => ∃ v o least most, vs = [v, .int least, .int most] ∧ KV K H v o ∧ ∀ H', Same H H' → Q (.bl (seqB o least most)) H'
section
variable {P : Program} {w : World} {K : PySem.W.Frag} {mg : Str → Option Value} {base : Heap}
theorem scW : FnScope ["value"] ["value"] (defScope sWhole) := ⟨rfl, rfl, rfl, by decide +kernel, rfl, by decide +kernel, by decide +kernel⟩
theorem ok_whole {f : Addr} {fd : FuncData} (D : Df K mg "is_whole" sWhole ["value"] f fd) (B : Bt mg) : FnOk P w K mg base CX0 1 f fd ["value"] (spWhole K) := by
  refine D.F.ok scW (fun vs H Q E h => ?_) (fun cdv A outer s H vs Q E hr h => ?_)
  · obtain ⟨v, o, rfl, _⟩ := h
    rfl
  · obtain ⟨v, o, rfl, kv, q⟩ := h
    obtain ⟨g, ty, eI, eB, eQ⟩ := kv.ty
    refine ⟨_, pss_one (ps_ret (pe_and (pe_callB call_isi (by rfl) B.isinstance (by decide +kernel) (pa_cons (pv 0) (pa_cons (pe_bltn (v := .ty "int") (by rfl) B.int PyProof.Rows.boot_int rfl) pa_nil)))
      (pe_one (pe_not (pe_callB call_isi (by rfl) B.isinstance (by decide +kernel) (pa_cons (pv 0) (pa_cons (pe_bltn (v := .ty "bool") (by rfl) B.bool PyProof.Rows.boot_bool rfl) pa_nil))))))), ?_⟩
    refine ⟨_, rfl, _, _, _, _, _, rfl, .ty _, ty, kit_I K g, _, rfl, ifD (fun e => ?_) fun e => ?_⟩
    · refine ⟨_, rfl, _, _, _, _, _, rfl, .ty _, ty, kit_B K g, _, rfl, ?_⟩
      have z : (!g.isB) = wholeB v := by rw [← eI]; cases g <;> first | rfl | cases e
      exact qbl z q
    · have z : false = wholeB v := by rw [← eI]; cases g <;> first | rfl | cases e
      exact qbl z q
theorem scB : FnScope ["value", "limit"] ["value", "limit"] (defScope sBelow) := ⟨rfl, rfl, rfl, by decide +kernel, rfl, by decide +kernel, by decide +kernel⟩
theorem ok_below {f fW : Addr} {fd fdW : FuncData} (D : Df K mg "is_below" sBelow ["value", "limit"] f fd) (DW : Df K mg "is_whole" sWhole ["value"] fW fdW) (B : Bt mg) : FnOk P w K mg base CX0 2 f fd ["value", "limit"] (spBelow K) := by
  have GW : FnOk P w K mg base CX0 1 fW fdW ["value"] (spWhole K) := ok_whole DW B
  refine D.F.ok scB (fun vs H Q E h => ?_) (fun cdv A outer s H vs Q E hr h => ?_)
  · obtain ⟨v, o, lim, rfl, _⟩ := h
    rfl
  · obtain ⟨v, o, lim, rfl, kv, q⟩ := h
    refine ⟨_, pss_one (ps_ret (pe_and (pc DW GW hr pass0 (pa_cons (pv 0) pa_nil)) (pe_one (pe_chain op_le op_lt pe_int (pv 0) (pv 1))))), ?_⟩
    refine ⟨_, rfl, _, _, rfl, kv, _, rfl, ifD (fun e => ?_) fun e => ?_⟩
    · obtain ⟨i, rfl⟩ : ∃ i, v = .int i := by
        cases v <;> first | exact ⟨_, rfl⟩ | cases e
      refine ⟨_, rfl, _, _, rfl, rfl, _, rfl, ifD (fun e2 => ?_) fun e2 => ?_⟩
      · refine ⟨_, rfl, _, _, rfl, rfl, ?_⟩
        have z : decide (i < lim) = belowB (.int i) lim := by
          show _ = (decide (0 ≤ i) && decide (i < lim))
          rw [e2]; rfl
        exact qbl z q
      · have z : false = belowB (.int i) lim := by
          show _ = (decide (0 ≤ i) && decide (i < lim))
          rw [e2]; rfl
        exact qbl z q
    · have z : false = belowB v lim := by cases v <;> first | rfl | cases e
      exact qbl z q
theorem scS : FnScope ["value", "least", "most"] ["value", "least", "most"] (defScope sSeq) := ⟨rfl, rfl, rfl, by decide +kernel, rfl, by decide +kernel, by decide +kernel⟩
theorem ok_seq {f : Addr} {fd : FuncData} (D : Df K mg "is_sequence" sSeq ["value", "least", "most"] f fd) (B : Bt mg) : FnOk P w K mg base CX0 1 f fd ["value", "least", "most"] (spSeq K) := by
  refine D.F.ok scS (fun vs H Q E h => ?_) (fun cdv A outer s H vs Q E hr h => ?_)
  · obtain ⟨v, o, least, most, rfl, _⟩ := h
    rfl
  · obtain ⟨v, o, least, most, rfl, kv, q⟩ := h
    refine ⟨_, pss_one (ps_ret (pe_and (pe_callB call_isiT (by rfl) B.isinstance (by decide +kernel) (pa_cons (pv 0) (pa_cons (pe_tup (pa_cons (pe_bltn (v := .ty "list") (by rfl) B.list PyProof.Rows.boot_list rfl) (pa_cons (pe_bltn (v := .ty "tuple") (by rfl) B.tuple PyProof.Rows.boot_tuple rfl) pa_nil))) pa_nil)))
      (pe_one (pe_chain op_le op_le (pv 1) (pe_callB call_len_seq (by rfl) B.len PySem.boot_len (pa_cons (pv 0) pa_nil)) (pv 2))))), ?_⟩
    refine ⟨_, rfl, (by show 2 ≤ sizeLine; decide), fun p hp => ?_⟩
    have sm : Same H (upd H p (.tup [.ty "list", .ty "tuple"])) := fun b o e => by rw [upd_ne (ne_of_none e hp)]; exact e
    obtain ⟨g, ty, eI, eB, eQ⟩ := (kv.same sm).ty
    refine ⟨_, _, _, _, _, _, rfl, upd_same, .cons (.ty _) (.cons (.ty _) .nil), ty, kit_Q K g, _, rfl, ifD (fun e => ?_) fun e => ?_⟩
    · have kv2 := kv.same sm
      generalize hH1 : upd H p (.tup [.ty "list", .ty "tuple"]) = H1 at *
      rw [eQ] at e
      have q2 := q _ sm
      cases kv with
      | lst h =>
        rename_i a xs
        have h1 : H1 a = some (.lst xs) := sm _ _ h
        refine ⟨_, rfl, _, rfl, _, _, rfl, .inl (SqL.of h1), _, _, rfl, rfl, _, rfl, ifD (fun e2 => ?_) fun e2 => ?_⟩
        · refine ⟨_, rfl, _, _, rfl, rfl, qbl ?_ q2⟩
          show _ = (decide (least ≤ (xs.length : Int)) && decide ((xs.length : Int) ≤ most))
          rw [e2]; rfl
        · refine qbl ?_ q2
          show _ = (decide (least ≤ (xs.length : Int)) && decide ((xs.length : Int) ≤ most))
          rw [e2]; rfl
      | tup h =>
        rename_i a xs
        have h1 : H1 a = some (.tup xs) := sm _ _ h
        refine ⟨_, rfl, _, rfl, _, _, rfl, .inr (SqT.of h1), _, _, rfl, rfl, _, rfl, ifD (fun e2 => ?_) fun e2 => ?_⟩
        · refine ⟨_, rfl, _, _, rfl, rfl, qbl ?_ q2⟩
          show _ = (decide (least ≤ (xs.length : Int)) && decide ((xs.length : Int) ≤ most))
          rw [e2]; rfl
        · refine qbl ?_ q2
          show _ = (decide (least ≤ (xs.length : Int)) && decide ((xs.length : Int) ≤ most))
          rw [e2]; rfl
      | _ => cases e
    · rw [eQ] at e
      have z : o = none := by cases o <;> first | rfl | cases e
      subst z
      exact q _ sm
end
end K1
namespace K1
open PySem PySem.Spec PyProof.Rows L2
noncomputable def fnb (xs : List V) (lim : Int) : V := match xs.findIdx? (fun x => !belowB x lim) with | some i => .int (i : Nat) | none => .non
theorem fnb_at {xs : List V} {lim : Int} {i : Nat} {x : V} (hx : xs[i]? = some x) (hn : belowB x lim = false) (hb : ∀ j y, j < i → xs[j]? = some y → belowB y lim = true) : fnb xs lim = .int (i : Nat) := by
  obtain ⟨hi, ex⟩ := List.getElem?_eq_some_iff.mp hx
  have e : xs.findIdx? (fun x => !belowB x lim) = some i := by
    rw [List.findIdx?_eq_some_iff_getElem]
    refine ⟨hi, by rw [ex, hn]; rfl, fun j hj => ?_⟩
    have hj' : j < xs.length := Nat.lt_trans hj hi
    have := hb j xs[j] hj (by simp [hj'])
    simp [this]
  unfold fnb
  rw [e]
theorem fnb_none {xs : List V} {lim : Int} (hb : ∀ j y, j < xs.length → xs[j]? = some y → belowB y lim = true) : fnb xs lim = .non := by
  have e : xs.findIdx? (fun x => !belowB x lim) = none := by
    rw [List.findIdx?_eq_none_iff]
    intro x hx
    obtain ⟨j, hj, e⟩ := List.mem_iff_getElem.mp hx
    have := hb j xs[j] hj (by simp [hj])
    rw [← e, this]; rfl
  unfold fnb
  rw [e]
noncomputable def SeqA (H : Hp) (a : Addr) (xs : List V) : Prop := H a = some (.lst xs) ∨ H a = some (.tup xs)
theorem SeqA.same {H H' : Hp} {a : Addr} {xs : List V} (h : SeqA H a xs) (s : Same H H') : SeqA H' a xs := h.elim (fun h => .inl (s _ _ h)) fun h => .inr (s _ _ h)
noncomputable def Kinds (K : PySem.W.Frag) (H : Hp) (xs : List V) : Prop := ∀ x ∈ xs, ∃ o, KV K H x o
theorem Kinds.same {K : PySem.W.Frag} {H H' : Hp} {xs : List V} (h : Kinds K H xs) (s : Same H H') : Kinds K H' xs := fun x hx => let ⟨o, k⟩ := h x hx; ⟨o, k.same s⟩
theorem same_new {H : Hp} {p : Addr} {o : HO} (hp : H p = none) : Same H (upd H p o) := fun b u e => by rw [upd_ne (ne_of_none e hp)]; exact e
noncomputable def spFnb (K : PySem.W.Frag) : Sp := fun vs H Q _ => ∃ a xs lim, vs = [.ref a, .int lim] ∧ SeqA H a xs ∧ Kinds K H xs ∧ ∀ H', Same H H' → Q (fnb xs lim) H'
section
variable {P : Program} {w : World} {K : PySem.W.Frag} {mg : Str → Option Value} {base : Heap}
theorem scF : FnScope ["items", "limit", "at", "item"] ["items", "limit"] (defScope sFnb) := ⟨rfl, rfl, rfl, by decide +kernel, rfl, by decide +kernel, by decide +kernel⟩
theorem ok_fnb {f fB : Addr} {fd fdB : FuncData} (D : Df K mg "first_not_below" sFnb ["items", "limit"] f fd) (DB : Df K mg "is_below" sBelow ["value", "limit"] fB fdB) (B : Bt mg)
    (GB : FnOk P w K mg base CX0 2 fB fdB ["value", "limit"] (spBelow K)) : FnOk P w K mg base CX0 3 f fd ["items", "limit"] (spFnb K) := by
  refine D.F.ok scF (fun vs H Q E h => ?_) (fun cdv A outer s H vs Q E hr h => ?_)
  · obtain ⟨a, xs, lim, rfl, _⟩ := h
    rfl
  · obtain ⟨a, xs, lim, rfl, hS, hK, q⟩ := h
    refine ⟨_, pss_cons (ps_for PassesOwn.never rfl (pi_enumA (by rfl) B.enumerate (pa_cons (pv 0) pa_nil))
        (pg_tup rfl (pgs_cons (pg_name (i := 2) scF.nd rfl (.inl rfl)) (pgs_cons (pg_name (i := 3) scF.nd rfl (.inl rfl)) pgs_nil)))
        (pss_one (ps_if (pt_not (pt_val (pc DB GB hr pass0 (pa_cons (pv 3) (pa_cons (pv 1) pa_nil))))) (pss_one (ps_ret (pv 2))) pss_nil)))
      (pss_one (ps_ret pe_non)), ?_⟩
    let Pv : Nat → L2.St → Hp → Prop := fun i σ H' => ∃ v2 v3 : Option V, σ = [some (.ref a), some (.int lim), v2, v3] ∧ Same H H' ∧ ∀ j y, j < i → xs[j]? = some y → belowB y lim = true
    have end_ : ∀ σ H', Pv xs.length σ H' → Q .non H' := fun σ H' ⟨v2, v3, _, sm, hb⟩ => by
      have := q H' sm
      rw [fnb_none hb] at this
      exact this
    refine ⟨_, rfl, a, rfl, ?_⟩
    rcases hS with hS | hS
    · refine .inl ⟨xs, SqL.of hS, for_enumL (K := K) Pv ⟨none, none, rfl, Same.refl H, fun j y hj => absurd hj (Nat.not_lt_zero _)⟩ (fun i σ H' _ ⟨_, _, _, sm, _⟩ => SqL.of (sm _ _ hS)) ?_ end_⟩
      rintro i x T σ H' hx hT ⟨v2, v3, rfl, sm, hb⟩
      have sm2 : Same H (upd H' T (.tup [.int (i : Nat), x])) := sm.trans (same_new hT)
      obtain ⟨o, kv⟩ := hK x (List.mem_of_getElem? hx)
      refine ⟨T, _, rfl, SqT.of upd_same, rfl, _, _, rfl, _, _, rfl, rfl, ?_⟩
      refine ⟨_, rfl, _, rfl, _, o, lim, rfl, kv.same sm2, _, rfl, ?_⟩
      refine ifD (fun e => ?_) fun e => ?_
      · refine ⟨_, rfl, ?_⟩
        have e' : belowB x lim = false := by simpa using e
        have := q _ sm2
        rw [fnb_at hx e' hb] at this
        exact this
      · have e' : belowB x lim = true := by simpa using e
        refine ⟨_, _, rfl, sm2, fun j y hj hy => ?_⟩
        rcases Nat.lt_succ_iff_lt_or_eq.mp hj with z | z
        · exact hb j y z hy
        · subst z
          rw [hx] at hy
          rw [← Option.some.inj hy]
          exact e'
    · refine .inr ⟨xs, SqT.of hS, for_enumT (K := K) Pv ⟨none, none, rfl, Same.refl H, fun j y hj => absurd hj (Nat.not_lt_zero _)⟩ (fun i σ H' _ ⟨_, _, _, sm, _⟩ => SqT.of (sm _ _ hS)) ?_ end_⟩
      rintro i x T σ H' hx hT ⟨v2, v3, rfl, sm, hb⟩
      have sm2 : Same H (upd H' T (.tup [.int (i : Nat), x])) := sm.trans (same_new hT)
      obtain ⟨o, kv⟩ := hK x (List.mem_of_getElem? hx)
      refine ⟨T, _, rfl, SqT.of upd_same, rfl, _, _, rfl, _, _, rfl, rfl, ?_⟩
      refine ⟨_, rfl, _, rfl, _, o, lim, rfl, kv.same sm2, _, rfl, ?_⟩
      refine ifD (fun e => ?_) fun e => ?_
      · refine ⟨_, rfl, ?_⟩
        have e' : belowB x lim = false := by simpa using e
        have := q _ sm2
        rw [fnb_at hx e' hb] at this
        exact this
      · have e' : belowB x lim = true := by simpa using e
        refine ⟨_, _, rfl, sm2, fun j y hj hy => ?_⟩
        rcases Nat.lt_succ_iff_lt_or_eq.mp hj with z | z
        · exact hb j y z hy
        · subst z
          rw [hx] at hy
          rw [← Option.some.inj hy]
          exact e'
end
end K1
namespace K1
open PySem PySem.Spec PyProof.Rows L2
structure Ct (mg : Str → Option Value) : Prop where
  tabs : ∃ t, mg "MOST_TABLES" = some (.int 8 t)
  states : ∃ t, mg "MOST_STATES" = some (.int 12 t)
  row : ∃ t, mg "MOST_ROW" = some (.int 10000 t)
noncomputable def iSeqA (K : PySem.W.Frag) (tl : TE) : TI := fun σ H R => tl σ H fun x H1 => ∃ a, x = .ref a ∧ ((∃ xs, SqL K H1 a xs ∧ R (Itl K a) H1) ∨ (∃ xs, SqT K H1 a xs ∧ R (Itt K a) H1))
theorem pi_seqA {X : Cx} {tg l : Expr} {tl : TE} (hl : PE X l tl) : PI X tg l (iSeqA X.K tl) := by
  refine ⟨fun pins s σ H R I h => ?_⟩
  refine thn (hl.run pins s σ H _ I h) fun v s1 ⟨x, H1, I1, r1, q1⟩ => ?_
  obtain ⟨a, e, q⟩ := q1
  subst e
  cases r1
  rcases q with ⟨xs, hq, q⟩ | ⟨xs, hq, q⟩
  · obtain ⟨its, rv, p, hz⟩ := I1.list hq
    refine wpAny_pyIter_list p.isList ?_
    refine ⟨s1.heap.objs.size, [s1.heap.objs.size], _, _, H1, rfl, I1.kept (t' := s1.toks) fun b o e => Heap.get?_push_of_some _ e, turn_list a _, ⟨_, Heap.get?_push_size _ rfl, rfl, rfl⟩, fun b hb => ?_, q⟩
    have e : b = s1.heap.objs.size := by simpa using hb
    subst e
    exact I1.fpOk (Nat.le_refl _) (I1.hok.fresh (Nat.le_refl _))
  · obtain ⟨its, rv, p, hz⟩ := I1.tuple hq
    refine wpAny_pyIter_tuple (show s1.heap.IsTuple a its.toArray from p) ?_
    refine ⟨s1.heap.objs.size, [s1.heap.objs.size], _, _, H1, rfl, I1.kept (t' := s1.toks) fun b o e => Heap.get?_push_of_some _ e, turn_tuple a _, ⟨_, Heap.get?_push_size _ rfl, rfl, rfl⟩, fun b hb => ?_, q⟩
    have e : b = s1.heap.objs.size := by simpa using hb
    subst e
    exact I1.fpOk (Nat.le_refl _) (I1.hok.fresh (Nat.le_refl _))
noncomputable def isTab (r : Option (List V)) (n : Int) : Bool := seqB r n n && match r with | some ys => decide (fnb ys n = V.non) | none => false
structure Rw (K : PySem.W.Frag) (H : Hp) (x : V) (r : Option (List V)) : Prop where
  kv : KV K H x r
  ks : ∀ ys, r = some ys → Kinds K H ys
theorem Rw.same {K : PySem.W.Frag} {H H' : Hp} {x : V} {r : Option (List V)} (h : Rw K H x r) (s : Same H H') : Rw K H' x r := ⟨h.kv.same s, fun ys e => (h.ks ys e).same s⟩
theorem KV.seqA {K : PySem.W.Frag} {H : Hp} {x : V} {ys : List V} (h : KV K H x (some ys)) : ∃ a, x = .ref a ∧ SeqA H a ys := by
  cases h with
  | lst h => exact ⟨_, rfl, .inl h⟩
  | tup h => exact ⟨_, rfl, .inr h⟩
noncomputable def spIsTab (K : PySem.W.Frag) : Sp := fun vs H Q _ => ∃ x r n, vs = [x, .int n] ∧ Rw K H x r ∧ ∀ H', Same H H' → Q (.bl (isTab r n)) H'
section
variable {P : Program} {w : World} {K : PySem.W.Frag} {mg : Str → Option Value} {base : Heap}
theorem scIT : FnScope ["value", "states"] ["value", "states"] (defScope sIsTab) := ⟨rfl, rfl, rfl, by decide +kernel, rfl, by decide +kernel, by decide +kernel⟩
theorem ok_istab {f fS fF : Addr} {fd fdS fdF : FuncData} (D : Df K mg "is_table" sIsTab ["value", "states"] f fd) (DS : Df K mg "is_sequence" sSeq ["value", "least", "most"] fS fdS) (DF : Df K mg "first_not_below" sFnb ["items", "limit"] fF fdF)
    (GS : FnOk P w K mg base CX0 1 fS fdS ["value", "least", "most"] (spSeq K)) (GF : FnOk P w K mg base CX0 3 fF fdF ["items", "limit"] (spFnb K)) : FnOk P w K mg base CX0 4 f fd ["value", "states"] (spIsTab K) := by
  refine D.F.ok scIT (fun vs H Q E h => ?_) (fun cdv A outer s H vs Q E hr h => ?_)
  · obtain ⟨x, r, n, rfl, _⟩ := h
    rfl
  · obtain ⟨x, r, n, rfl, hw, q⟩ := h
    refine ⟨_, pss_one (ps_ret (pe_and (pc DS GS (hr.mono (by decide)) pass0 (pa_cons (pv 0) (pa_cons (pv 1) (pa_cons (pv 1) pa_nil)))) (pe_one (pe_cmp (pc_isN (pc DF GF hr pass0 (pa_cons (pv 0) (pa_cons (pv 1) pa_nil)))) rfl)))), ?_⟩
    refine ⟨_, rfl, _, rfl, _, rfl, _, r, n, n, rfl, hw.kv, fun H1 sm => ⟨_, rfl, ifD (fun e => ?_) fun e => ?_⟩⟩
    · cases r with
      | none => cases e
      | some ys =>
        obtain ⟨a, rfl, hS⟩ := hw.kv.seqA
        refine ⟨_, rfl, _, rfl, a, ys, n, rfl, hS.same sm, (hw.ks ys rfl).same sm, fun H2 sm2 => qbl ?_ (q _ (sm.trans sm2))⟩
        show _ = (seqB (some ys) n n && _)
        rw [e]; rfl
    · refine qbl ?_ (q _ sm)
      show _ = (seqB r n n && _)
      rw [e]; rfl
end
end K1
namespace K1
open PySem PySem.Spec PyProof.Rows L2
structure Rws (K : PySem.W.Frag) (H : Hp) (xs : List V) (rs : List (Option (List V))) : Prop where
  len : xs.length = rs.length
  at_ : ∀ (i : Nat) x r, xs[i]? = some x → rs[i]? = some r → Rw K H x r
theorem Rws.get {K : PySem.W.Frag} {H : Hp} {xs : List V} {rs : List (Option (List V))} (h : Rws K H xs rs) {i : Nat} {x : V} (e : xs[i]? = some x) : ∃ r, rs[i]? = some r ∧ Rw K H x r := by
  have hi : i < rs.length := h.len ▸ (List.getElem?_eq_some_iff.mp e).1
  exact ⟨rs[i], by simp [hi], h.at_ i x _ e (by simp [hi])⟩
noncomputable def chkAt (o : Option (List (Option (List V)))) : Option Int :=
  match o with
  | none => some (-1)
  | some rs => if rs.length < 1 ∨ 8 < rs.length then some (-1) else
    match rs[0]? with
    | some (some y0) => if y0.length < 1 ∨ 12 < y0.length then some 0 else (rs.findIdx? fun r => !isTab r (y0.length : Int)).map fun i => (i : Int)
    | _ => some 0
inductive Mv (K : PySem.W.Frag) (H : Hp) : V → Option (List (Option (List V))) → Prop
  | no {v : V} (h : KV K H v none) : Mv K H v none
  | yes {v : V} {xs : List V} {rs : List (Option (List V))} (h : KV K H v (some xs)) (r : Rws K H xs rs) : Mv K H v (some rs)
noncomputable def TabsAt (H : Hp) (ta : Addr) (ts : List (List V)) : Prop := ∃ as : List Addr, H ta = some (.tup (as.map V.ref)) ∧ as.length = ts.length ∧ ∀ (i : Nat) a t, as[i]? = some a → ts[i]? = some t → H a = some (.tup t)
theorem TabsAt.same {H H' : Hp} {ta : Addr} {ts : List (List V)} (h : TabsAt H ta ts) (s : Same H H') : TabsAt H' ta ts := let ⟨as, h1, h2, h3⟩ := h; ⟨as, s _ _ h1, h2, fun i a t e1 e2 => s _ _ (h3 i a t e1 e2)⟩
noncomputable def Rz (C : Addr) (f : Str) (v : V) (H : Hp) (E : XK) : Prop := ∀ d H', Same H H' → H d = none → H' d = some (.xd [(f, v)]) → E (.ref C) (some d) H'
noncomputable def spChk (K : PySem.W.Frag) (C : Addr) : Sp := fun vs H Q E => ∃ v o, vs = [v] ∧ Mv K H v o ∧ (∀ z, chkAt o = some z → Rz C "at" (.int z) H E) ∧
  (chkAt o = none → ∀ (ts : List (List V)), o = some (ts.map some) → ∀ ta H', Same H H' → TabsAt H' ta ts → Q (.ref ta) H')
theorem chk_neg {o : Option (List (Option (List V)))} (h : seqB (o.map fun rs => rs.map fun _ => V.non) 1 8 = false) : chkAt o = some (-1) := by
  cases o with
  | none => rfl
  | some rs =>
    have z : rs.length < 1 ∨ 8 < rs.length := by
      have e : (decide ((1 : Int) ≤ ((rs.map fun _ => V.non).length : Int)) && decide (((rs.map fun _ => V.non).length : Int) ≤ 8)) = false := h
      rw [List.length_map] at e
      simp only [Bool.and_eq_false_iff, decide_eq_false_iff_not] at e
      omega
    show (if rs.length < 1 ∨ 8 < rs.length then some (-1) else _) = _
    rw [if_pos z]
theorem chk_zero {rs : List (Option (List V))} {r0 : Option (List V)} (h1 : seqB (some (rs.map fun _ => V.non)) 1 8 = true) (h0 : rs[0]? = some r0) (h : seqB r0 1 12 = false) : chkAt (some rs) = some 0 := by
  have e : (decide ((1 : Int) ≤ ((rs.map fun _ => V.non).length : Int)) && decide (((rs.map fun _ => V.non).length : Int) ≤ 8)) = true := h1
  rw [List.length_map] at e
  simp only [Bool.and_eq_true, decide_eq_true_eq] at e
  have z : ¬ (rs.length < 1 ∨ 8 < rs.length) := by omega
  show (if rs.length < 1 ∨ 8 < rs.length then some (-1) else _) = _
  rw [if_neg z, h0]
  cases r0 with
  | none => rfl
  | some y0 =>
    have e : (decide ((1 : Int) ≤ (y0.length : Int)) && decide ((y0.length : Int) ≤ 12)) = false := h
    simp only [Bool.and_eq_false_iff, decide_eq_false_iff_not] at e
    have z : y0.length < 1 ∨ 12 < y0.length := by omega
    show (if y0.length < 1 ∨ 12 < y0.length then some 0 else _) = _
    rw [if_pos z]
theorem chk_in {rs : List (Option (List V))} {y0 : List V} (h1 : seqB (some (rs.map fun _ => V.non)) 1 8 = true) (h0 : rs[0]? = some (some y0)) (h : seqB (some y0) 1 12 = true) : chkAt (some rs) = (rs.findIdx? fun r => !isTab r (y0.length : Int)).map fun i => (i : Int) := by
  have e : (decide ((1 : Int) ≤ ((rs.map fun _ => V.non).length : Int)) && decide (((rs.map fun _ => V.non).length : Int) ≤ 8)) = true := h1
  rw [List.length_map] at e
  simp only [Bool.and_eq_true, decide_eq_true_eq] at e
  have z : ¬ (rs.length < 1 ∨ 8 < rs.length) := by omega
  have e2 : (decide ((1 : Int) ≤ (y0.length : Int)) && decide ((y0.length : Int) ≤ 12)) = true := h
  simp only [Bool.and_eq_true, decide_eq_true_eq] at e2
  have z2 : ¬ (y0.length < 1 ∨ 12 < y0.length) := by omega
  show (if rs.length < 1 ∨ 8 < rs.length then some (-1) else _) = _
  rw [if_neg z, h0]
  show (if y0.length < 1 ∨ 12 < y0.length then some 0 else _) = _
  rw [if_neg z2]
theorem find_at {α : Type} {rs : List α} {p : α → Bool} {i : Nat} {r : α} (hr : rs[i]? = some r) (hn : p r = true) (hb : ∀ (j : Nat) y, j < i → rs[j]? = some y → p y = false) : rs.findIdx? p = some i := by
  obtain ⟨hi, ex⟩ := List.getElem?_eq_some_iff.mp hr
  rw [List.findIdx?_eq_some_iff_getElem]
  refine ⟨hi, by rw [ex, hn], fun j hj => ?_⟩
  have hj' : j < rs.length := Nat.lt_trans hj hi
  have := hb j rs[j] hj (by simp [hj'])
  simp [this]
theorem find_none {α : Type} {rs : List α} {p : α → Bool} (hb : ∀ (j : Nat) y, j < rs.length → rs[j]? = some y → p y = false) : rs.findIdx? p = none := by
  rw [List.findIdx?_eq_none_iff]
  intro x hx
  obtain ⟨j, hj, e⟩ := List.mem_iff_getElem.mp hx
  exact e ▸ hb j rs[j] hj (by simp [hj])
theorem isTab_some {r : Option (List V)} {n : Int} (h : isTab r n = true) : ∃ ys, r = some ys := by
  cases r with
  | none => cases h
  | some ys => exact ⟨ys, rfl⟩
noncomputable def rTup (K : PySem.W.Frag) : List V → Hp → VK → Prop := fun xs H Q => ∃ p ys, xs = [.ref p] ∧ ((SqL K H p ys ∧ ∀ l, H l = none → Q (.ref l) (upd H l (.tup ys))) ∨ (SqT K H p ys ∧ Q (.ref p) H))
theorem ctup {X : Cx} {K : PySem.W.Frag} (h : X.K = K) : CallR X (.type "tuple") (rTup K) := by
  subst h
  exact call_tuple_of
section
variable {P : Program} {w : World} {K : PySem.W.Frag} {mg : Str → Option Value} {base : Heap}
theorem scC : FnScope ["value", "states", "at", "table"] ["value"] (defScope sChk) := ⟨rfl, rfl, rfl, by decide +kernel, rfl, by decide +kernel, by decide +kernel⟩
theorem ok_chk {f fS fI C cI : Addr} {fd fdS fdI : FuncData} {bm : List Value} {ql : Str} (D : Df K mg "checked_tables" sChk ["value"] f fd) (DS : Df K mg "is_sequence" sSeq ["value", "least", "most"] fS fdS) (DI : Df K mg "is_table" sIsTab ["value", "states"] fI fdI)
    (B : Bt mg) (c : Ct mg) (T : LAt.Txt K mg "BadMachine" ql bm C cI) (GS : FnOk P w K mg base CX0 1 fS fdS ["value", "least", "most"] (spSeq K)) (GI : FnOk P w K mg base CX0 4 fI fdI ["value", "states"] (spIsTab K)) :
    FnOk P w K mg base (L2.CX P w) 5 f fd ["value"] (spChk K C) := by
  obtain ⟨t1, hc1⟩ := c.tabs
  obtain ⟨t2, hc2⟩ := c.states
  refine D.F.okX scC (fun vs H Q E h => ?_) (fun cdv A outer s H vs Q E hr h => ?_)
  · obtain ⟨v, o, rfl, _⟩ := h
    rfl
  · obtain ⟨v, o, rfl, hm, qE, qQ⟩ := h
    have hr1 : Room 1 _ := hr.mono (by decide)
    refine ⟨_, pss_cons (ps_if (pt_not (pt_val (pc DS GS hr1 pass0 (pa_cons (pv 0) (pa_cons pe_int (pa_cons (pe_glob (v := .int 8) (by rfl) hc1 ⟨_, rfl⟩) pa_nil)))))) (pss_one (ps_raise_LAt rfl T hr (takes_of rfl rfl rfl rfl) (pa_cons (pe_un un_neg pe_int) pa_nil))) pss_nil)
      (pss_cons (ps_if (pt_not (pt_val (pc DS GS hr1 pass0 (pa_cons (pe_ix ix_seq (pv 0) pe_int (fun _ _ => rfl)) (pa_cons pe_int (pa_cons (pe_glob (v := .int 12) (by rfl) hc2 ⟨_, rfl⟩) pa_nil)))))) (pss_one (ps_raise_LAt rfl T hr (takes_of rfl rfl rfl rfl) (pa_cons pe_int pa_nil))) pss_nil)
      (pss_cons (ps_set (i := 1) scC.nd rfl (.inl rfl) (pe_callB call_len_seq (by rfl) B.len PySem.boot_len (pa_cons (pe_ix ix_seq (pv 0) pe_int (fun _ _ => rfl)) pa_nil)))
      (pss_cons (ps_for (passes_of rfl) rfl (pi_enumA (by rfl) B.enumerate (pa_cons (pv 0) pa_nil)) (pg_tup rfl (pgs_cons (pg_name (i := 2) scC.nd rfl (.inl rfl)) (pgs_cons (pg_name (i := 3) scC.nd rfl (.inl rfl)) pgs_nil)))
        (pss_one (ps_if (pt_not (pt_val (pc DI GI hr pass0 (pa_cons (pv 3) (pa_cons (pv 1) pa_nil))))) (pss_one (ps_raise_LAt rfl T hr (takes_of rfl rfl rfl rfl) (pa_cons (pv 2) pa_nil))) pss_nil)))
      (pss_one (ps_ret (pe_callTy call_tuple_of (by rfl) B.tuple (by decide +kernel) (pa_cons
        (pe_lc (own := [("table", 3)]) (g := gName 3) (tt := tYes) rfl scC.nd (pi_seqA (pv 0)) (blkOk_by (N := ["value", "states", "at", "table"]) (sc := defScope sChk) (by decide +kernel)) (fun _ _ _ _ _ => pg_name (i := 3) scC.nd rfl (Or.inl rfl)) (fun _ _ _ _ _ => pts_nil)
          (fun _ _ _ _ _ => pe_callTy (ctup (K := K) rfl) (by rfl) B.tuple PyProof.Rows.boot_tuple (pa_cons (pv 3) pa_nil))) pa_nil))))))), ?_⟩
    cases hm with
    | no kv =>
      refine ⟨_, rfl, _, none, 1, 8, rfl, kv, fun H1 s1 => ⟨_, rfl, ?_⟩⟩
      exact iteT ⟨_, rfl, _, rfl, fun d hd => qE (-1) rfl d _ (s1.trans (same_new hd)) (s1.free hd) upd_same⟩
    | yes kv R =>
      rename_i xs rs
      have eqs : ∀ l m, seqB (some xs) l m = seqB (some (rs.map fun _ => V.non)) l m := fun l m => by
        show (_ && _) = (_ && _)
        rw [List.length_map, R.len]
      refine ⟨_, rfl, _, some xs, 1, 8, rfl, kv, fun H1 s1 => ⟨_, rfl, ifD (fun e1 => ?_) fun e1 => ?_⟩⟩
      · have e1' : seqB (some xs) 1 8 = false := by simpa using e1
        rw [eqs] at e1'
        exact ⟨_, rfl, _, rfl, fun d hd => qE (-1) (chk_neg (o := some rs) e1') d _ (s1.trans (same_new hd)) (s1.free hd) upd_same⟩
      · have e1' : seqB (some xs) 1 8 = true := by simpa using e1
        have e1r := e1'
        rw [eqs] at e1r
        have hx0 : ∃ x0, xs[0]? = some x0 := by
          have z : (decide ((1 : Int) ≤ (xs.length : Int)) && decide ((xs.length : Int) ≤ 8)) = true := e1'
          simp only [Bool.and_eq_true, decide_eq_true_eq] at z
          exact ⟨xs[0]'(by omega), by simp⟩
        obtain ⟨x0, hx0⟩ := hx0
        obtain ⟨r0, hr0, W0⟩ := R.get hx0
        obtain ⟨a, rfl, hS⟩ := kv.seqA
        have ixr : ∀ {H' : Hp} {Qv : VK}, Same H H' → Qv x0 H' → rIx K (.ref a) (.int 0) H' Qv := fun {H' Qv} sm q => by
          rcases hS.same sm with h | h
          · exact .inl ⟨a, xs, 0, x0, rfl, rfl, SqL.of h, atI_nat (j := 0) hx0, q⟩
          · exact .inr (.inl ⟨a, xs, 0, x0, rfl, rfl, SqT.of h, atI_nat (j := 0) hx0, q⟩)
        refine ⟨_, rfl, ixr s1 ?_⟩
        refine ⟨_, r0, 1, 12, rfl, W0.kv.same s1, fun H2 s2 => ⟨_, rfl, ifD (fun e2 => ?_) fun e2 => ?_⟩⟩
        · have e2' : seqB r0 1 12 = false := by simpa using e2
          exact ⟨_, rfl, fun d hd => qE 0 (chk_zero e1r hr0 e2') d _ ((s1.trans s2).trans (same_new hd)) ((s1.trans s2).free hd) upd_same⟩
        · have e2' : seqB r0 1 12 = true := by simpa using e2
          have s12 := s1.trans s2
          obtain ⟨y0, rfl⟩ : ∃ y0, r0 = some y0 := by
            cases r0 with
            | none => cases e2'
            | some y0 => exact ⟨y0, rfl⟩
          have hc := chk_in e1r hr0 e2'
          obtain ⟨a0, rfl, hS0⟩ := W0.kv.seqA
          refine ⟨_, rfl, ixr s12 ⟨a0, y0, rfl, (hS0.same s12).elim (fun h => .inl (SqL.of h)) (fun h => .inr (SqT.of h)), ?_⟩⟩
          -- the loop
          let Pv : Nat → L2.St → Hp → Prop := fun i σ H' => ∃ v2 v3 : Option V, σ = [some (.ref a), some (.int (y0.length : Int)), v2, v3] ∧ Same H H' ∧ ∀ (j : Nat) r, j < i → rs[j]? = some r → isTab r (y0.length : Int) = true
          refine ⟨_, rfl, a, rfl, ?_⟩
          have P0 : Pv 0 [some (.ref a), some (.int (y0.length : Int)), none, none] H2 := ⟨none, none, rfl, s12, fun j r hj => absurd hj (Nat.not_lt_zero _)⟩
          rcases hS with hS | hS
          · refine .inl ⟨xs, SqL.of (s12 _ _ hS), for_enumL (K := K) Pv P0 (fun i σ H' _ ⟨_, _, _, sm, _⟩ => SqL.of (sm _ _ hS)) ?_ ?_⟩
            · rintro i x T σ H' hx hT ⟨v2, v3, rfl, sm, hb⟩
              have sm2 : Same H (upd H' T (.tup [.int (i : Nat), x])) := sm.trans (same_new hT)
              obtain ⟨r, hr', W⟩ := R.get hx
              refine ⟨T, _, rfl, SqT.of upd_same, rfl, _, _, rfl, _, _, rfl, rfl, ?_⟩
              refine ⟨_, rfl, _, rfl, x, r, (y0.length : Int), rfl, W.same sm2, fun H3 s3 => ⟨_, rfl, ifD (fun e => ?_) fun e => ?_⟩⟩
              · have e' : isTab r (y0.length : Int) = false := by simpa using e
                have hz : chkAt (some rs) = some (i : Int) := by
                  rw [hc, find_at hr' (by rw [e']; rfl) fun j y hj hy => by rw [hb j y hj hy]; rfl]; rfl
                exact ⟨_, rfl, _, rfl, fun d hd => qE _ hz d _ ((sm2.trans s3).trans (same_new hd)) ((sm2.trans s3).free hd) upd_same⟩
              · have e' : isTab r (y0.length : Int) = true := by simpa using e
                refine ⟨_, _, rfl, sm2.trans s3, fun j y hj hy => ?_⟩
                rcases Nat.lt_succ_iff_lt_or_eq.mp hj with z | z
                · exact hb j y z hy
                · subst z
                  rw [hr'] at hy
                  rw [← Option.some.inj hy]
                  exact e'
            · rintro σ H' ⟨v2, v3, rfl, sm, hb⟩
              have hz : chkAt (some rs) = none := by
                rw [hc, find_none fun j y hj hy => by rw [hb j y (by rw [R.len]; exact hj) hy]; rfl]; rfl
              have hsome : ∀ (i : Nat) r, rs[i]? = some r → ∃ ys, r = some ys := fun i r hi => isTab_some (hb i r (by rw [R.len]; exact (List.getElem?_eq_some_iff.mp hi).1) hi)
              have hts : some rs = some ((rs.map fun r => r.getD []).map some) := by
                congr 1
                rw [List.map_map]
                refine (List.map_id rs).symm.trans (List.map_congr_left fun r hr => ?_)
                obtain ⟨i, hi, e⟩ := List.mem_iff_getElem.mp hr
                obtain ⟨ys, rfl⟩ := hsome i r (by rw [← e]; simp [hi])
                rfl
              have qq := qQ hz _ hts
              have gett : ∀ (i : Nat) x, xs[i]? = some x → ∃ b ys, x = .ref b ∧ rs[i]? = some (some ys) ∧ SeqA H b ys := fun i x hx => by
                obtain ⟨r, h1, W⟩ := R.get hx
                obtain ⟨ys, rfl⟩ := hsome i r h1
                obtain ⟨b, rfl, h2⟩ := W.kv.seqA
                exact ⟨b, ys, rfl, h1, h2⟩
              let Lv : Addr → Nat → Hp → Prop := fun D i H2 => ∃ as : List Addr, as.length = i ∧ Same H' H2 ∧ H2 D = some (.lst (as.map V.ref)) ∧ ∀ (j : Nat) b t, as[j]? = some b → rs[j]? = some (some t) → H2 b = some (.tup t)
              refine ⟨_, rfl, a, rfl, .inl ⟨xs, SqL.of (sm _ _ hS), fun D hD => lc_list (K := K) (a := a) (xs := xs) (Lv D) ⟨[], rfl, same_new hD, upd_same, fun j b t z => nomatch z⟩ (fun i H2 _ ⟨as, _, s5, _⟩ => SqL.of (s5 _ _ (sm _ _ hS))) ?_ ?_⟩⟩
              · rintro i x H2 hx ⟨as, hl, s5, hD2, hA⟩
                obtain ⟨b, ys, rfl, h1, h2⟩ := gett i x hx
                have nD : ∀ c o, H' c = some o → c ≠ D := fun c o e => ne_of_none e hD
                have hlen : (as.map V.ref).length < sizeLine := by
                  rw [List.length_map, hl, sizeLine_eq]
                  have := (List.getElem?_eq_some_iff.mp hx).1
                  have z : (decide ((1 : Int) ≤ (xs.length : Int)) && decide ((xs.length : Int) ≤ 8)) = true := e1'
                  simp only [Bool.and_eq_true, decide_eq_true_eq] at z
                  omega
                have fin : ∀ (l : Addr) (H3 : Hp), Same H2 H3 → H3 l = some (.tup ys) → H3 D = some (.lst (as.map V.ref)) → l ≠ D → Lv D (i + 1) (upd H3 D (.lst (as.map V.ref ++ [.ref l]))) := fun l H3 s6 hl3 hD3 hne => by
                  have keep : ∀ c o, H3 c = some o → c ≠ D → upd H3 D (.lst (as.map V.ref ++ [.ref l])) c = some o := fun c o e n => by rw [upd_ne n]; exact e
                  refine ⟨as ++ [l], by rw [List.length_append, hl]; rfl, fun c o e => keep c o (s6 _ _ (s5 _ _ e)) (nD c o e), by rw [upd_same, List.map_append]; rfl, fun j b t hb ht => ?_⟩
                  by_cases hj : j < as.length
                  · rw [List.getElem?_append_left hj] at hb
                    have z := s6 _ _ (hA j b t hb ht)
                    exact keep _ _ z (ne_of z hD3 (by intro q; cases q))
                  · have hj2 : j = as.length := by
                      have := (List.getElem?_eq_some_iff.mp hb).1
                      rw [List.length_append] at this
                      have q : ([l] : List Addr).length = 1 := rfl
                      omega
                    subst hj2
                    rw [List.getElem?_append_right (Nat.le_refl _), Nat.sub_self] at hb
                    have eb : l = b := Option.some.inj hb
                    subst eb
                    rw [hl, h1] at ht
                    rw [← Option.some.inj (Option.some.inj ht)]
                    exact keep _ _ hl3 hne
                refine ⟨rfl, _, rfl, b, ys, rfl, ?_⟩
                rcases h2 with h2 | h2
                · have hb2 := s5 _ _ (sm _ _ h2)
                  refine .inl ⟨SqL.of hb2, fun l hl2 => ?_⟩
                  have nlD : l ≠ D := fun e => by rw [e, hD2] at hl2; cases hl2
                  exact ⟨_, (upd_ne nlD.symm).trans hD2, hlen, fin l _ (same_new hl2) upd_same ((upd_ne nlD.symm).trans hD2) nlD⟩
                · have hb2 := s5 _ _ (sm _ _ h2)
                  refine .inr ⟨SqT.of hb2, ?_⟩
                  exact ⟨_, hD2, hlen, fin b _ (Same.refl _) hb2 hD2 (ne_of hb2 hD2 (by intro q; cases q))⟩
              · rintro H2 ⟨as, hl, s5, hD2, hA⟩
                refine ⟨D, _, rfl, .inl ⟨SqL.of hD2, fun ta hta => ?_⟩⟩
                have s7 : Same H (upd H2 ta (.tup (as.map V.ref))) := (sm.trans s5).trans (same_new hta)
                refine qq ta _ s7 ⟨as, upd_same, by rw [hl, List.length_map, R.len], fun j b t hb ht => ?_⟩
                have hj : rs[j]? = some (some t) := by
                  rw [List.getElem?_map] at ht
                  cases e : rs[j]? with
                  | none => rw [e] at ht; cases ht
                  | some r =>
                    obtain ⟨ys, rfl⟩ := hsome j r e
                    rw [e] at ht
                    rw [← Option.some.inj ht]; rfl
                exact same_new hta _ _ (hA j b t hb hj)
          · refine .inr ⟨xs, SqT.of (s12 _ _ hS), for_enumT (K := K) Pv P0 (fun i σ H' _ ⟨_, _, _, sm, _⟩ => SqT.of (sm _ _ hS)) ?_ ?_⟩
            · rintro i x T σ H' hx hT ⟨v2, v3, rfl, sm, hb⟩
              have sm2 : Same H (upd H' T (.tup [.int (i : Nat), x])) := sm.trans (same_new hT)
              obtain ⟨r, hr', W⟩ := R.get hx
              refine ⟨T, _, rfl, SqT.of upd_same, rfl, _, _, rfl, _, _, rfl, rfl, ?_⟩
              refine ⟨_, rfl, _, rfl, x, r, (y0.length : Int), rfl, W.same sm2, fun H3 s3 => ⟨_, rfl, ifD (fun e => ?_) fun e => ?_⟩⟩
              · have e' : isTab r (y0.length : Int) = false := by simpa using e
                have hz : chkAt (some rs) = some (i : Int) := by
                  rw [hc, find_at hr' (by rw [e']; rfl) fun j y hj hy => by rw [hb j y hj hy]; rfl]; rfl
                exact ⟨_, rfl, _, rfl, fun d hd => qE _ hz d _ ((sm2.trans s3).trans (same_new hd)) ((sm2.trans s3).free hd) upd_same⟩
              · have e' : isTab r (y0.length : Int) = true := by simpa using e
                refine ⟨_, _, rfl, sm2.trans s3, fun j y hj hy => ?_⟩
                rcases Nat.lt_succ_iff_lt_or_eq.mp hj with z | z
                · exact hb j y z hy
                · subst z
                  rw [hr'] at hy
                  rw [← Option.some.inj hy]
                  exact e'
            · rintro σ H' ⟨v2, v3, rfl, sm, hb⟩
              have hz : chkAt (some rs) = none := by
                rw [hc, find_none fun j y hj hy => by rw [hb j y (by rw [R.len]; exact hj) hy]; rfl]; rfl
              have hsome : ∀ (i : Nat) r, rs[i]? = some r → ∃ ys, r = some ys := fun i r hi => isTab_some (hb i r (by rw [R.len]; exact (List.getElem?_eq_some_iff.mp hi).1) hi)
              have hts : some rs = some ((rs.map fun r => r.getD []).map some) := by
                congr 1
                rw [List.map_map]
                refine (List.map_id rs).symm.trans (List.map_congr_left fun r hr => ?_)
                obtain ⟨i, hi, e⟩ := List.mem_iff_getElem.mp hr
                obtain ⟨ys, rfl⟩ := hsome i r (by rw [← e]; simp [hi])
                rfl
              have qq := qQ hz _ hts
              have gett : ∀ (i : Nat) x, xs[i]? = some x → ∃ b ys, x = .ref b ∧ rs[i]? = some (some ys) ∧ SeqA H b ys := fun i x hx => by
                obtain ⟨r, h1, W⟩ := R.get hx
                obtain ⟨ys, rfl⟩ := hsome i r h1
                obtain ⟨b, rfl, h2⟩ := W.kv.seqA
                exact ⟨b, ys, rfl, h1, h2⟩
              let Lv : Addr → Nat → Hp → Prop := fun D i H2 => ∃ as : List Addr, as.length = i ∧ Same H' H2 ∧ H2 D = some (.lst (as.map V.ref)) ∧ ∀ (j : Nat) b t, as[j]? = some b → rs[j]? = some (some t) → H2 b = some (.tup t)
              refine ⟨_, rfl, a, rfl, .inr ⟨xs, SqT.of (sm _ _ hS), fun D hD => lc_tup (K := K) (a := a) (xs := xs) (Lv D) ⟨[], rfl, same_new hD, upd_same, fun j b t z => nomatch z⟩ (fun i H2 _ ⟨as, _, s5, _⟩ => SqT.of (s5 _ _ (sm _ _ hS))) ?_ ?_⟩⟩
              · rintro i x H2 hx ⟨as, hl, s5, hD2, hA⟩
                obtain ⟨b, ys, rfl, h1, h2⟩ := gett i x hx
                have nD : ∀ c o, H' c = some o → c ≠ D := fun c o e => ne_of_none e hD
                have hlen : (as.map V.ref).length < sizeLine := by
                  rw [List.length_map, hl, sizeLine_eq]
                  have := (List.getElem?_eq_some_iff.mp hx).1
                  have z : (decide ((1 : Int) ≤ (xs.length : Int)) && decide ((xs.length : Int) ≤ 8)) = true := e1'
                  simp only [Bool.and_eq_true, decide_eq_true_eq] at z
                  omega
                have fin : ∀ (l : Addr) (H3 : Hp), Same H2 H3 → H3 l = some (.tup ys) → H3 D = some (.lst (as.map V.ref)) → l ≠ D → Lv D (i + 1) (upd H3 D (.lst (as.map V.ref ++ [.ref l]))) := fun l H3 s6 hl3 hD3 hne => by
                  have keep : ∀ c o, H3 c = some o → c ≠ D → upd H3 D (.lst (as.map V.ref ++ [.ref l])) c = some o := fun c o e n => by rw [upd_ne n]; exact e
                  refine ⟨as ++ [l], by rw [List.length_append, hl]; rfl, fun c o e => keep c o (s6 _ _ (s5 _ _ e)) (nD c o e), by rw [upd_same, List.map_append]; rfl, fun j b t hb ht => ?_⟩
                  by_cases hj : j < as.length
                  · rw [List.getElem?_append_left hj] at hb
                    have z := s6 _ _ (hA j b t hb ht)
                    exact keep _ _ z (ne_of z hD3 (by intro q; cases q))
                  · have hj2 : j = as.length := by
                      have := (List.getElem?_eq_some_iff.mp hb).1
                      rw [List.length_append] at this
                      have q : ([l] : List Addr).length = 1 := rfl
                      omega
                    subst hj2
                    rw [List.getElem?_append_right (Nat.le_refl _), Nat.sub_self] at hb
                    have eb : l = b := Option.some.inj hb
                    subst eb
                    rw [hl, h1] at ht
                    rw [← Option.some.inj (Option.some.inj ht)]
                    exact keep _ _ hl3 hne
                refine ⟨rfl, _, rfl, b, ys, rfl, ?_⟩
                rcases h2 with h2 | h2
                · have hb2 := s5 _ _ (sm _ _ h2)
                  refine .inl ⟨SqL.of hb2, fun l hl2 => ?_⟩
                  have nlD : l ≠ D := fun e => by rw [e, hD2] at hl2; cases hl2
                  exact ⟨_, (upd_ne nlD.symm).trans hD2, hlen, fin l _ (same_new hl2) upd_same ((upd_ne nlD.symm).trans hD2) nlD⟩
                · have hb2 := s5 _ _ (sm _ _ h2)
                  refine .inr ⟨SqT.of hb2, ?_⟩
                  exact ⟨_, hD2, hlen, fin b _ (Same.refl _) hb2 hD2 (ne_of hb2 hD2 (by intro q; cases q))⟩
              · rintro H2 ⟨as, hl, s5, hD2, hA⟩
                refine ⟨D, _, rfl, .inl ⟨SqL.of hD2, fun ta hta => ?_⟩⟩
                have s7 : Same H (upd H2 ta (.tup (as.map V.ref))) := (sm.trans s5).trans (same_new hta)
                refine qq ta _ s7 ⟨as, upd_same, by rw [hl, List.length_map, R.len], fun j b t hb ht => ?_⟩
                have hj : rs[j]? = some (some t) := by
                  rw [List.getElem?_map] at ht
                  cases e : rs[j]? with
                  | none => rw [e] at ht; cases ht
                  | some r =>
                    obtain ⟨ys, rfl⟩ := hsome j r e
                    rw [e] at ht
                    rw [← Option.some.inj ht]; rfl
                exact same_new hta _ _ (hA j b t hb hj)
end
end K1
namespace K1
open PySem PySem.Spec PyProof.Rows L2
noncomputable def mf (ta : Addr) (n k : Int) : List (Str × V) := putF "states" (.int k) (putF "deeds" (.int n) (putF "tables" (.ref ta) []))
theorem mf_t (ta : Addr) (n k : Int) : (mf ta n k).lookup ("tables" : Str) = some (.ref ta) := by
  unfold mf
  rw [lookup_putF, if_neg (by decide +kernel), lookup_putF, if_neg (by decide +kernel), lookup_putF, if_pos rfl]
theorem mf_d (ta : Addr) (n k : Int) : (mf ta n k).lookup ("deeds" : Str) = some (.int n) := by
  unfold mf
  rw [lookup_putF, if_neg (by decide +kernel), lookup_putF, if_pos rfl]
theorem mf_s (ta : Addr) (n k : Int) : (mf ta n k).lookup ("states" : Str) = some (.int k) := by
  unfold mf
  rw [lookup_putF, if_pos rfl]
noncomputable def MachAt (M : Addr) (H : Hp) (m ta : Addr) (ts : List (List V)) : Prop :=
  (∃ (dx : Addr) (t0 : List V), ts[0]? = some t0 ∧ H m = some (.ins M dx (mf ta (ts.length : Int) (t0.length : Int)))) ∧ TabsAt H ta ts
theorem MachAt.same {M : Addr} {H H' : Hp} {m ta : Addr} {ts : List (List V)} (h : MachAt M H m ta ts) (s : Same H H') : MachAt M H' m ta ts :=
  let ⟨⟨dx, t0, h0, h1⟩, h2⟩ := h
  ⟨⟨dx, t0, h0, s _ _ h1⟩, h2.same s⟩
structure McT (K : PySem.W.Frag) (mg : Str → Option Value) (M : Addr) : Prop where
  cl : Cls K M
  nT : NoAttr K M "tables"
  nD : NoAttr K M "deeds"
  nS : NoAttr K M "states"
  g : mg "Machine" = some (.ref M)
  ca : PySem.W.findIn K (.ref M) "__class__" = some (some (.builtin "object.__class__"))
  sp : PySem.W.specialIn K (.builtin "object.__class__") "__get__" = some (some (.builtin "getset_descriptor.__get__"))
  tk : PySem.W.takesIn K (.builtin "object.__class__") = some true
  mo : PySem.W.mroIn K M (.type "object") = some true
noncomputable def spMInit (K : PySem.W.Frag) (C M : Addr) : Sp := fun vs H Q E => ∃ m dx v o, vs = [.ref m, v] ∧ H m = some (.ins M dx []) ∧ Mv K H v o ∧ (∀ z, chkAt o = some z → Rz C "at" (.int z) H E) ∧
  (chkAt o = none → ∀ (ts : List (List V)), o = some (ts.map some) → ∀ ta H', (∀ b u, H b = some u → b ≠ m → H' b = some u) → MachAt M H' m ta ts → Q .non H')
theorem chk_first {ts : List (List V)} (h : chkAt (some (ts.map some)) = none) : ∃ t0, ts[0]? = some t0 := by
  cases ts with
  | nil =>
    have z : chkAt (some ([] : List (Option (List V)))) = some (-1) := rfl
    rw [show (([] : List (List V)).map some) = [] from rfl, z] at h
    cases h
  | cons a r => exact ⟨a, rfl⟩
section
variable {P : Program} {w : World} {K : PySem.W.Frag} {mg : Str → Option Value} {base : Heap}
theorem scMI : FnScope ["self", "tables"] ["self", "tables"] (defScope sMInit) := ⟨rfl, rfl, rfl, by decide +kernel, rfl, by decide +kernel, by decide +kernel⟩
theorem ok_minit {f fC C M : Addr} {fd fdC : FuncData} (F : Fun K "__init__" "Machine.__init__" sMInit f fd) (DC : Df K mg "checked_tables" sChk ["value"] fC fdC) (B : Bt mg) (T : McT K mg M)
    (GC : FnOk P w K mg base (L2.CX P w) 5 fC fdC ["value"] (spChk K C)) : FnOk P w K mg base (L2.CX P w) 6 f fd ["self", "tables"] (spMInit K C M) := by
  refine F.okX scMI (fun vs H Q E h => ?_) (fun cdv A outer s H vs Q E hr h => ?_)
  · obtain ⟨m, dx, v, o, rfl, _⟩ := h
    rfl
  · obtain ⟨m, dx, v, o, rfl, hm, mv, qE, qQ⟩ := h
    refine ⟨_, pss_cons (ps_fld (pv 0) (pc DC GC hr (pass1 (takes_of rfl rfl rfl rfl)) (pa_cons (pv 1) pa_nil)) rfl)
      (pss_cons (ps_fld (pv 0) (pe_callB call_len_seq (by rfl) B.len PySem.boot_len (pa_cons (pe_fld (pv 0) rfl) pa_nil)) rfl)
      (pss_one (ps_fld (pv 0) (pe_callB call_len_seq (by rfl) B.len PySem.boot_len (pa_cons (pe_ix ix_tup (pe_fld (pv 0) rfl) pe_int (fun _ _ => rfl)) pa_nil)) rfl))), ?_⟩
    refine ⟨_, rfl, v, o, rfl, mv, fun z hz d H' sm hd he => qE z hz d H' sm hd he, fun hz ts hts ta H' sm hT => ?_⟩
    subst hts
    obtain ⟨t0, h0⟩ := chk_first hz
    have hm1 := sm _ _ hm
    obtain ⟨as, ha1, ha2, ha3⟩ := hT
    have nma : m ≠ ta := ne_of hm1 ha1 (by intro q; cases q)
    have k1 : ∀ {fs : List (Str × V)}, (upd H' m (.ins M dx fs)) ta = some (.tup (as.map V.ref)) := fun {fs} => by rw [upd_ne nma.symm]; exact ha1
    obtain ⟨a0, ea0⟩ : ∃ a0, as[0]? = some a0 := by
      have : 0 < as.length := by rw [ha2]; exact (List.getElem?_eq_some_iff.mp h0).1
      exact ⟨as[0], by simp [this]⟩
    have hA0 := ha3 0 a0 t0 ea0 h0
    have nm0 : m ≠ a0 := ne_of hm1 hA0 (by intro q; cases q)
    refine ⟨_, rfl, m, M, dx, [], rfl, hm1, T.cl, T.nT, (by show 0 < 1000; decide), ?_⟩
    refine ⟨_, rfl, m, M, dx, _, _, rfl, upd_same, T.cl, T.nT, (by rw [lookup_putF, if_pos rfl]), ta, _, rfl, .inr (SqT.of k1), _, rfl, m, M, dx, _, rfl, upd_same, T.cl, T.nD, (by show 1 < 1000; decide), ?_⟩
    rw [upd_upd]
    refine ⟨_, rfl, m, M, dx, _, _, rfl, upd_same, T.cl, T.nT, (by rw [lookup_putF, if_neg (by decide +kernel), lookup_putF, if_pos rfl]), ta, _, 0, _, rfl, rfl, SqT.of k1, atI_nat (j := 0) (by rw [List.getElem?_map, ea0]; rfl), a0, t0, rfl, .inr (SqT.of (by rw [upd_ne nm0.symm]; exact hA0)), _, rfl, m, M, dx, _, rfl, upd_same, T.cl, T.nS, (by show 2 < 1000; decide), ?_⟩
    rw [upd_upd]
    refine qQ hz ts rfl ta _ (fun b u e hb => ?_) ⟨⟨dx, t0, h0, ?_⟩, as, k1, ha2, fun i a t e1 e2 => ?_⟩
    · rw [upd_ne hb]
      exact sm _ _ e
    · rw [upd_same]
      show some (HO.ins M dx (putF "states" (.int t0.length) (putF "deeds" (.int ((as.map V.ref).length : Int)) (putF "tables" (.ref ta) [])))) = _
      rw [List.length_map, ha2]
      rfl
    · have z := ha3 i a t e1 e2
      rw [upd_ne (ne_of z hm1 (by intro q; cases q))]
      exact z
end
end K1
namespace K1
open PySem PySem.Spec PyProof.Rows L2
noncomputable abbrev Ts := List (List Int)
noncomputable def vrow (t : List Int) : List V := t.map V.int
noncomputable def vts (ts : Ts) : List (List V) := ts.map vrow
noncomputable def dI (t : List Int) : List PyData := t.map PyData.int
section
variable {K : PySem.W.Frag} {H : Hp}
theorem dp_ints : ∀ t : List Int, DpAll K H (vrow t) (dI t)
  | [] => .nil
  | i :: r => .cons (.int i) (dp_ints r)
end
structure Pl (d : PyData) (n w : Nat) : Prop where
  lay : d.canLay0 = true
  sh : d.showable = true
  nd : d.hasDict = false
  dp : d.depth ≤ n
  wt : d.weight ≤ w
  sr : d.leavesShort 20 = true
structure PlA (ds : List PyData) (n w : Nat) : Prop where
  lay : PyData.canLayAll0 ds = true
  sh : PyData.showableAll ds = true
  nd : PyData.hasDictAll ds = false
  dp : PyData.depthAll ds ≤ n
  wt : PyData.weightAll ds ≤ w
  sr : PyData.leavesShortAll 20 ds = true
theorem Pl.int {i : Int} (h : i.natAbs < 10 ^ 19) : Pl (.int i) 0 64 := by
  have h3 : i.natAbs ≠ 0 → i.natAbs.log2 < 64 := fun z => (Nat.log2_lt z).mpr (Nat.lt_of_lt_of_le h (by decide))
  refine ⟨by simp only [PyData.canLay0], ?_, by simp only [PyData.hasDict], by simp only [PyData.depth]; omega, ?_, ?_⟩
  · simp only [PyData.showable, decide_eq_true_eq]
    by_cases z : i.natAbs = 0
    · rw [z]; decide
    · have := h3 z
      omega
  · simp only [PyData.weight]
    split
    · omega
    · rename_i z
      have := h3 (fun e => z (by rw [Int.natAbs_eq_zero.mp e]; rfl))
      omega
  · have e := int_text_length_le10 (a := i) (k := 19) (by decide) h
    simp only [PyData.leavesShort, decide_eq_true_eq, PyData.shown]
    exact decide_eq_true (Nat.le_trans (Nat.le_of_eq (PySem.ofString_length _)) e)
theorem Pl.bl (b : Bool) : Pl (.bool b) 0 0 := ⟨by simp only [PyData.canLay0], by simp only [PyData.showable], by simp only [PyData.hasDict], by simp only [PyData.depth]; omega, by simp only [PyData.weight]; omega, by simp only [PyData.leavesShort]⟩
theorem PlA.nil : PlA [] 0 0 := ⟨by simp only [PyData.canLayAll0], by simp only [PyData.showableAll], by simp only [PyData.hasDictAll], by simp only [PyData.depthAll]; omega, by simp only [PyData.weightAll]; omega, by simp only [PyData.leavesShortAll]⟩
theorem PlA.cons {d : PyData} {ds : List PyData} {n m u v : Nat} (a : Pl d n u) (b : PlA ds m v) : PlA (d :: ds) (max n m) (u + 1 + v) := by
  refine ⟨by simp only [PyData.canLayAll0, a.lay, b.lay, Bool.and_self], by simp only [PyData.showableAll, a.sh, b.sh, Bool.and_self], by simp only [PyData.hasDictAll, a.nd, b.nd, Bool.or_self], ?_, ?_, by simp only [PyData.leavesShortAll, a.sr, b.sr, Bool.and_self]⟩
  · have h1 := a.dp; have h2 := b.dp
    simp only [PyData.depthAll]; omega
  · have h1 := a.wt; have h2 := b.wt
    simp only [PyData.weightAll]; omega
theorem Pl.list {ds : List PyData} {n w : Nat} (a : PlA ds n w) : Pl (.list ds) (n + 1) w := by
  refine ⟨by simp only [PyData.canLay0, a.lay], by simp only [PyData.showable, a.sh], by simp only [PyData.hasDict, a.nd], ?_, ?_, by simp only [PyData.leavesShort, a.sr]⟩
  · have h1 := a.dp
    simp only [PyData.depth]; omega
  · have h1 := a.wt
    simp only [PyData.weight]; omega
theorem Pl.tuple {ds : List PyData} {n w : Nat} (a : PlA ds n w) : Pl (.tuple ds) (n + 1) w := by
  refine ⟨by simp only [PyData.canLay0, a.lay], by simp only [PyData.showable, a.sh], by simp only [PyData.hasDict, a.nd], ?_, ?_, by simp only [PyData.leavesShort, a.sr]⟩
  · have h1 := a.dp
    simp only [PyData.depth]; omega
  · have h1 := a.wt
    simp only [PyData.weight]; omega
theorem PlA.mono {d : List PyData} {n w m v : Nat} (a : PlA d n w) (h1 : n ≤ m) (h2 : w ≤ v) : PlA d m v := ⟨a.lay, a.sh, a.nd, Nat.le_trans a.dp h1, Nat.le_trans a.wt h2, a.sr⟩
theorem Pl.shaped {d : PyData} {n w : Nat} (a : Pl d n w) (h : n ≤ 40) : SeqAt.shaped d = true := by
  have := a.dp
  unfold SeqAt.shaped
  rw [a.lay, decide_eq_true (by omega)]; rfl
theorem pla_ints : ∀ t : List Int, (∀ i ∈ t, i.natAbs < 10 ^ 19) → PlA (dI t) 0 (t.length * 65)
  | [], _ => PlA.nil
  | i :: r, h => (PlA.cons (Pl.int (h i List.mem_cons_self)) (pla_ints r fun j hj => h j (List.mem_cons_of_mem _ hj))).mono (by omega) (by show 64 + 1 + r.length * 65 ≤ (r.length + 1) * 65; omega)
end K1
namespace K1
open PySem PySem.Spec PyProof.Rows L2
noncomputable def spNeed (M C : Addr) (fld : Str) (g : Ts → Nat) : Sp := fun vs H Q E => ∃ m ta ts v, vs = [.ref m, v] ∧ MachAt M H m ta (vts ts) ∧ (∃ (K : PySem.W.Frag) (o : Option (List V)), KV K H v o) ∧
  (belowB v (g ts : Int) = true → Q v H) ∧ (belowB v (g ts : Int) = false → Rz C fld v H E)
theorem ints_of {t0 : List V} {ts : Ts} (h : (vts ts)[0]? = some t0) : ∃ r : List Int, ts[0]? = some r ∧ t0 = vrow r := by
  rw [vts, List.getElem?_map] at h
  cases e : ts[0]? with
  | none => rw [e] at h; cases h
  | some r =>
    rw [e] at h
    exact ⟨r, rfl, (Option.some.inj h).symm⟩
noncomputable def nS (ts : Ts) : Nat := (ts[0]?.getD []).length
theorem MachAt.fs {M : Addr} {H : Hp} {m ta : Addr} {ts : Ts} (h : MachAt M H m ta (vts ts)) : ∃ dx : Addr, H m = some (.ins M dx (mf ta (ts.length : Int) (nS ts : Int))) := by
  obtain ⟨⟨dx, t0, h0, h1⟩, _⟩ := h
  obtain ⟨r, hr, rfl⟩ := ints_of h0
  refine ⟨dx, ?_⟩
  rw [h1]
  have e1 : (vts ts).length = ts.length := List.length_map _
  have e2 : (vrow r).length = nS ts := by
    unfold nS
    rw [hr]
    exact List.length_map _
  rw [e1, e2]
section
variable {P : Program} {w : World} {K : PySem.W.Frag} {mg : Str → Option Value} {base : Heap}
theorem scNS : FnScope ["machine", "state"] ["machine", "state"] (defScope sNeedS) := ⟨rfl, rfl, rfl, by decide +kernel, rfl, by decide +kernel, by decide +kernel⟩
theorem ok_needS {f fB C M cI : Addr} {fd fdB : FuncData} {bm : List Value} {ql : Str} (D : Df K mg "need_state" sNeedS ["machine", "state"] f fd) (DB : Df K mg "is_below" sBelow ["value", "limit"] fB fdB) (T : McT K mg M) (TX : LState.Txt K mg "NoState" ql bm C cI)
    (GB : FnOk P w K mg base CX0 2 fB fdB ["value", "limit"] (spBelow K)) : FnOk P w K mg base (L2.CX P w) 3 f fd ["machine", "state"] (spNeed M C "state" nS) := by
  refine D.F.okX scNS (fun vs H Q E h => ?_) (fun cdv A outer s H vs Q E hr h => ?_)
  · obtain ⟨m, ta, ts, v, rfl, _⟩ := h
    rfl
  · obtain ⟨m, ta, ts, v, rfl, hM, ⟨K', o, kv⟩, q1, q2⟩ := h
    refine ⟨_, pss_cons (ps_if (pt_not (pt_val (pc DB GB hr pass0 (pa_cons (pv 1) (pa_cons (pe_fld (pv 0) rfl) pa_nil))))) (pss_one (ps_raise_LState rfl TX hr (takes_of rfl rfl rfl rfl) (pa_cons (pv 1) pa_nil))) pss_nil) (pss_one (ps_ret (pv 1))), ?_⟩
    obtain ⟨dx, h1⟩ := hM.fs
    have kv' : KV K H v o := by cases kv <;> first | exact .int _ | exact .bl _ | exact .non | exact .str _ | exact .lst (by assumption) | exact .tup (by assumption)
    refine ⟨_, rfl, _, rfl, m, M, dx, _, _, rfl, h1, T.cl, T.nS, mf_s _ _ _, v, o, _, rfl, kv', _, rfl, ifD (fun e => ?_) fun e => ?_⟩
    · exact ⟨_, rfl, _, rfl, fun d hd => q2 (by simpa using e) d _ (same_new hd) hd upd_same⟩
    · exact ⟨_, rfl, q1 (by simpa using e)⟩
theorem scND : FnScope ["machine", "deed"] ["machine", "deed"] (defScope sNeedD) := ⟨rfl, rfl, rfl, by decide +kernel, rfl, by decide +kernel, by decide +kernel⟩
theorem ok_needD {f fB C M cI : Addr} {fd fdB : FuncData} {bm : List Value} {ql : Str} (D : Df K mg "need_deed" sNeedD ["machine", "deed"] f fd) (DB : Df K mg "is_below" sBelow ["value", "limit"] fB fdB) (T : McT K mg M) (TX : LDeed.Txt K mg "NoDeed" ql bm C cI)
    (GB : FnOk P w K mg base CX0 2 fB fdB ["value", "limit"] (spBelow K)) : FnOk P w K mg base (L2.CX P w) 3 f fd ["machine", "deed"] (spNeed M C "deed" List.length) := by
  refine D.F.okX scND (fun vs H Q E h => ?_) (fun cdv A outer s H vs Q E hr h => ?_)
  · obtain ⟨m, ta, ts, v, rfl, _⟩ := h
    rfl
  · obtain ⟨m, ta, ts, v, rfl, hM, ⟨K', o, kv⟩, q1, q2⟩ := h
    refine ⟨_, pss_cons (ps_if (pt_not (pt_val (pc DB GB hr pass0 (pa_cons (pv 1) (pa_cons (pe_fld (pv 0) rfl) pa_nil))))) (pss_one (ps_raise_LDeed rfl TX hr (takes_of rfl rfl rfl rfl) (pa_cons (pv 1) pa_nil))) pss_nil) (pss_one (ps_ret (pv 1))), ?_⟩
    obtain ⟨dx, h1⟩ := hM.fs
    have kv' : KV K H v o := by cases kv <;> first | exact .int _ | exact .bl _ | exact .non | exact .str _ | exact .lst (by assumption) | exact .tup (by assumption)
    refine ⟨_, rfl, _, rfl, m, M, dx, _, _, rfl, h1, T.cl, T.nD, mf_d _ _ _, v, o, _, rfl, kv', _, rfl, ifD (fun e => ?_) fun e => ?_⟩
    · exact ⟨_, rfl, _, rfl, fun d hd => q2 (by simpa using e) d _ (same_new hd) hd upd_same⟩
    · exact ⟨_, rfl, q1 (by simpa using e)⟩
end
end K1
namespace K1
open PySem PySem.Spec PyProof.Rows L2
noncomputable def rowF (r : Option (List V)) (n : Int) : V := if seqB r 0 10000 = true then fnb (r.getD []) n else .int (-1)
theorem fnb_non {xs : List V} {lim : Int} (h : fnb xs lim = .non) : ∀ x ∈ xs, belowB x lim = true := by
  unfold fnb at h
  cases e : xs.findIdx? (fun x => !belowB x lim) with
  | some i => rw [e] at h; cases h
  | none =>
    rw [List.findIdx?_eq_none_iff] at e
    intro x hx
    simpa using e x hx
theorem fnb_all {xs : List V} {lim : Int} (h : ∀ x ∈ xs, belowB x lim = true) : fnb xs lim = .non := fnb_none fun j y _ hy => h y (List.mem_of_getElem? hy)
theorem rowF_non {r : Option (List V)} {n : Int} (h : rowF r n = .non) : ∃ xs, r = some xs ∧ ∀ x ∈ xs, belowB x n = true := by
  unfold rowF at h
  by_cases e : seqB r 0 10000 = true
  · rw [if_pos e] at h
    cases r with
    | none => cases e
    | some xs => exact ⟨xs, rfl, fnb_non h⟩
  · rw [if_neg e] at h
    cases h
noncomputable def stp (ts : Ts) (s d : Int) : Int := ((ts[d.toNat]?.getD [])[s.toNat]?).getD 0
noncomputable def run (ts : Ts) (s : Int) (row : List Int) : Int := row.foldl (stp ts) s
structure Wf (ts : Ts) : Prop where
  t1 : 1 ≤ ts.length
  t8 : ts.length ≤ 8
  s1 : 1 ≤ nS ts
  s12 : nS ts ≤ 12
  row : ∀ t ∈ ts, t.length = nS ts ∧ ∀ i ∈ t, 0 ≤ i ∧ i < (nS ts : Int)
theorem Wf.at_ {ts : Ts} (h : Wf ts) {s d : Int} (hd : 0 ≤ d ∧ d < ts.length) (hs : 0 ≤ s ∧ s < (nS ts : Int)) : ∃ t, ts[d.toNat]? = some t ∧ t[s.toNat]? = some (stp ts s d) ∧ 0 ≤ stp ts s d ∧ stp ts s d < (nS ts : Int) := by
  have h1 : d.toNat < ts.length := by omega
  have ht : ts[d.toNat]? = some ts[d.toNat] := by simp [h1]
  have hm : ts[d.toNat] ∈ ts := List.getElem_mem h1
  obtain ⟨r1, r2⟩ := h.row _ hm
  have h2 : s.toNat < ts[d.toNat].length := by rw [r1]; omega
  have e : stp ts s d = ts[d.toNat][s.toNat] := by
    unfold stp
    rw [ht]
    simp [h2]
  refine ⟨_, ht, by rw [e]; simp [h2], ?_⟩
  rw [e]
  exact r2 _ (List.getElem_mem h2)
theorem Wf.run {ts : Ts} (h : Wf ts) : ∀ (row : List Int) (s : Int), (∀ d ∈ row, 0 ≤ d ∧ d < (ts.length : Int)) → 0 ≤ s ∧ s < (nS ts : Int) → 0 ≤ run ts s row ∧ run ts s row < (nS ts : Int)
  | [], s, _, hs => hs
  | d :: r, s, hd, hs => by
    obtain ⟨t, _, _, h3⟩ := h.at_ (hd d List.mem_cons_self) hs
    exact Wf.run h r (stp ts s d) (fun e he => hd e (List.mem_cons_of_mem _ he)) h3
theorem run_snoc (ts : Ts) (s : Int) (row : List Int) (d : Int) : run ts s (row ++ [d]) = stp ts (run ts s row) d := by
  unfold run
  rw [List.foldl_append]; rfl
theorem take_succ {α : Type} {l : List α} {i : Nat} {x : α} (h : l[i]? = some x) : l.take (i + 1) = l.take i ++ [x] := by
  rw [List.take_add_one, h]; rfl
noncomputable def spFault (K : PySem.W.Frag) (M : Addr) : Sp := fun vs H Q _ => ∃ m ta ts v r, vs = [.ref m, v] ∧ MachAt M H m ta (vts ts) ∧ Rw K H v r ∧ ∀ H', Same H H' → Q (rowF r (ts.length : Int)) H'
noncomputable def spRow (K : PySem.W.Frag) (M C : Addr) : Sp := fun vs H Q E => ∃ m ta ts v r, vs = [.ref m, v] ∧ MachAt M H m ta (vts ts) ∧ Rw K H v r ∧ (rowF r (ts.length : Int) ≠ .non → Rz C "at" (rowF r (ts.length : Int)) H E) ∧
  (rowF r (ts.length : Int) = .non → ∀ xs, r = some xs → ∀ p H', Same H H' → H' p = some (.tup xs) → Q (.ref p) H')
noncomputable def spMoved (M : Addr) : Sp := fun vs H Q _ => ∃ m ta ts s p row, vs = [.ref m, .int s, .ref p] ∧ MachAt M H m ta (vts ts) ∧ Wf ts ∧ (0 ≤ s ∧ s < (nS ts : Int)) ∧ H p = some (.tup (vrow row)) ∧ (∀ d ∈ row, 0 ≤ d ∧ d < (ts.length : Int)) ∧ Q (.int (run ts s row)) H
section
variable {P : Program} {w : World} {K : PySem.W.Frag} {mg : Str → Option Value} {base : Heap}
theorem scFa : FnScope ["machine", "value"] ["machine", "value"] (defScope sFault) := ⟨rfl, rfl, rfl, by decide +kernel, rfl, by decide +kernel, by decide +kernel⟩
theorem ok_fault {f fS fF M : Addr} {fd fdS fdF : FuncData} (D : Df K mg "row_fault" sFault ["machine", "value"] f fd) (DS : Df K mg "is_sequence" sSeq ["value", "least", "most"] fS fdS) (DF : Df K mg "first_not_below" sFnb ["items", "limit"] fF fdF) (c : Ct mg) (T : McT K mg M)
    (GS : FnOk P w K mg base CX0 1 fS fdS ["value", "least", "most"] (spSeq K)) (GF : FnOk P w K mg base CX0 3 fF fdF ["items", "limit"] (spFnb K)) : FnOk P w K mg base CX0 4 f fd ["machine", "value"] (spFault K M) := by
  obtain ⟨t1, hc1⟩ := c.row
  refine D.F.ok scFa (fun vs H Q E h => ?_) (fun cdv A outer s H vs Q E hr h => ?_)
  · obtain ⟨m, ta, ts, v, r, rfl, _⟩ := h
    rfl
  · obtain ⟨m, ta, ts, v, r, rfl, hM, W, q⟩ := h
    refine ⟨_, pss_cons (ps_if (pt_not (pt_val (pc DS GS (hr.mono (by decide)) pass0 (pa_cons (pv 1) (pa_cons pe_int (pa_cons (pe_glob (v := .int 10000) (by rfl) hc1 ⟨_, rfl⟩) pa_nil)))))) (pss_one (ps_ret (pe_un un_neg pe_int))) pss_nil)
      (pss_one (ps_ret (pc DF GF hr pass0 (pa_cons (pv 1) (pa_cons (pe_fld (pv 0) rfl) pa_nil))))), ?_⟩
    refine ⟨_, rfl, v, r, 0, 10000, rfl, W.kv, fun H1 s1 => ⟨_, rfl, ifD (fun e => ?_) fun e => ?_⟩⟩
    · have e' : ¬ seqB r 0 10000 = true := by simpa using e
      refine ⟨_, rfl, ?_⟩
      have := q _ s1
      unfold rowF at this
      rw [if_neg e'] at this
      exact this
    · have e' : seqB r 0 10000 = true := by simpa using e
      obtain ⟨xs, rfl⟩ : ∃ xs, r = some xs := by cases r with
        | none => cases e'
        | some xs => exact ⟨xs, rfl⟩
      obtain ⟨a, rfl, hS⟩ := W.kv.seqA
      obtain ⟨dx, h1⟩ := (hM.same s1).fs
      refine ⟨_, rfl, _, rfl, m, M, dx, _, _, rfl, h1, T.cl, T.nD, mf_d _ _ _, a, xs, _, rfl, hS.same s1, (W.ks xs rfl).same s1, fun H2 s2 => ?_⟩
      have := q _ (s1.trans s2)
      unfold rowF at this
      rw [if_pos e'] at this
      exact this
theorem scRo : FnScope ["machine", "value", "at"] ["machine", "value"] (defScope sRow) := ⟨rfl, rfl, rfl, by decide +kernel, rfl, by decide +kernel, by decide +kernel⟩
theorem ok_row {f fF C M cI : Addr} {fd fdF : FuncData} {bm : List Value} {ql : Str} (D : Df K mg "check_row" sRow ["machine", "value"] f fd) (DF : Df K mg "row_fault" sFault ["machine", "value"] fF fdF) (B : Bt mg) (TX : LAt.Txt K mg "BadRow" ql bm C cI)
    (GF : FnOk P w K mg base CX0 4 fF fdF ["machine", "value"] (spFault K M)) : FnOk P w K mg base (L2.CX P w) 5 f fd ["machine", "value"] (spRow K M C) := by
  refine D.F.okX scRo (fun vs H Q E h => ?_) (fun cdv A outer s H vs Q E hr h => ?_)
  · obtain ⟨m, ta, ts, v, r, rfl, _⟩ := h
    rfl
  · obtain ⟨m, ta, ts, v, r, rfl, hM, W, q1, q2⟩ := h
    refine ⟨_, pss_cons (ps_set (i := 2) scRo.nd rfl (.inl rfl) (pc DF GF hr pass0 (pa_cons (pv 0) (pa_cons (pv 1) pa_nil))))
      (pss_cons (ps_if (pt_cmpR op_notN (pv 2) pe_non (nomark _)) (pss_one (ps_raise_LAt rfl TX hr (takes_of rfl rfl rfl rfl) (pa_cons (pv 2) pa_nil))) pss_nil)
      (pss_one (ps_ret (pe_callTy call_tuple_of (by rfl) B.tuple (by decide +kernel) (pa_cons (pv 1) pa_nil))))), ?_⟩
    refine ⟨_, rfl, _, rfl, m, ta, ts, v, r, rfl, hM, W, fun H1 s1 => ?_⟩
    refine ⟨_, rfl, rfl, _, rfl, ifD (fun e => ?_) fun e => ?_⟩
    · have e' : rowF r (ts.length : Int) ≠ .non := by simpa using e
      exact ⟨_, rfl, _, rfl, fun d hd => q1 e' d _ (s1.trans (same_new hd)) (s1.free hd) upd_same⟩
    · have e' : rowF r (ts.length : Int) = .non := by simpa using e
      obtain ⟨xs, rfl, _⟩ := rowF_non e'
      obtain ⟨a, rfl, hS⟩ := W.kv.seqA
      refine ⟨_, rfl, a, xs, rfl, ?_⟩
      rcases hS.same s1 with h | h
      · exact .inl ⟨SqL.of h, fun l hl => q2 e' xs rfl l _ (s1.trans (same_new hl)) upd_same⟩
      · exact .inr ⟨SqT.of h, q2 e' xs rfl a _ s1 h⟩
theorem scMv : FnScope ["machine", "state", "row", "deed"] ["machine", "state", "row"] (defScope sMoved) := ⟨rfl, rfl, rfl, by decide +kernel, rfl, by decide +kernel, by decide +kernel⟩
theorem ok_moved {f M : Addr} {fd : FuncData} (D : Df K mg "moved" sMoved ["machine", "state", "row"] f fd) (T : McT K mg M) : FnOk P w K mg base CX0 1 f fd ["machine", "state", "row"] (spMoved M) := by
  refine D.F.ok scMv (fun vs H Q E h => ?_) (fun cdv A outer s H vs Q E hr h => ?_)
  · obtain ⟨m, ta, ts, v, p, row, rfl, _⟩ := h
    rfl
  · obtain ⟨m, ta, ts, s0, p, row, rfl, hM, hW, hs, hp, hd, q⟩ := h
    refine ⟨_, pss_cons (ps_for PassesOwn.never rfl (pi_tup (pv 2)) (pg_name (i := 3) scMv.nd rfl (.inl rfl)) (pss_one (ps_set (i := 1) scMv.nd rfl (.inl rfl) (pe_ix ix_tup (pe_ix ix_tup (pe_fld (pv 0) rfl) (pv 3) (fun _ _ => rfl)) (pv 1) (fun _ _ => rfl)))))
      (pss_one (ps_ret (pv 1))), ?_⟩
    refine ⟨_, rfl, p, rfl, ⟨_, SqT.of hp⟩, for_tup (K := K) (a := p) (xs := vrow row) (fun i σ H' => ∃ v3 : Option V, σ = [some (.ref m), some (.int (run ts s0 (row.take i))), some (.ref p), v3] ∧ H' = H)
      ⟨none, rfl, rfl⟩ (fun i σ H' _ ⟨_, _, e⟩ => by rw [e]; exact SqT.of hp) ?_ ?_⟩
    · rintro i y σ H' hi ⟨v3, rfl, rfl⟩
      obtain ⟨d, ed, rfl⟩ : ∃ d, row[i]? = some d ∧ y = V.int d := by
        rw [vrow, List.getElem?_map] at hi
        cases e : row[i]? with
        | none => rw [e] at hi; cases hi
        | some z =>
          rw [e] at hi
          exact ⟨z, rfl, (Option.some.inj hi).symm⟩
      have hb := hd d (List.mem_of_getElem? ed)
      have hr' := hW.run (row.take i) s0 (fun e he => hd e (List.mem_of_mem_take he)) hs
      obtain ⟨t, h1, h2, h3⟩ := hW.at_ hb hr'
      obtain ⟨dx, hm⟩ := hM.fs
      obtain ⟨as, ha1, ha2, ha3⟩ := hM.2
      have hla : d.toNat < as.length := by rw [ha2, vts, List.length_map]; omega
      have hA : as[d.toNat]? = some as[d.toNat] := by simp [hla]
      have hT := ha3 d.toNat _ (vrow t) hA (by rw [vts, List.getElem?_map, h1]; rfl)
      refine ⟨_, rfl, m, M, dx, _, _, rfl, hm, T.cl, T.nT, mf_t _ _ _, _, rfl, ta, _, d, _, rfl, rfl, SqT.of ha1, at_of (j := d.toNat) (by omega) (by rw [List.getElem?_map, hA]; rfl), ?_⟩
      refine ⟨_, rfl, _, _, _, .int (stp ts (run ts s0 (row.take i)) d), rfl, rfl, SqT.of hT, at_of (j := (run ts s0 (row.take i)).toNat) (by omega) (by rw [vrow, List.getElem?_map, h2]; rfl), ?_⟩
      refine ⟨some (.int d), ?_, rfl⟩
      rw [take_succ ed, run_snoc]
      rfl
    · rintro σ H' ⟨v3, rfl, rfl⟩
      have e : row.take (vrow row).length = row := by rw [vrow, List.length_map, List.take_length]
      rw [e]
      exact ⟨_, rfl, q⟩
end
end K1
namespace K1
noncomputable def LL : List Int → List Int → Prop
  | _, [] => False
  | [], _ :: _ => True
  | a :: r, b :: q => a < b ∨ (a = b ∧ LL r q)
theorem LL.trans : ∀ {r q s : List Int}, LL r q → LL q s → LL r s
  | _, _, [], _, h => by
    cases ‹List Int› <;> exact absurd h (by simp [LL])
  | _, [], _ :: _, h, _ => by
    cases ‹List Int› <;> exact absurd h (by simp [LL])
  | [], _ :: _, _ :: _, _, _ => True.intro
  | a :: r, b :: q, c :: s, h1, h2 => by
    rcases h1 with h1 | ⟨rfl, h1⟩
    · rcases h2 with h2 | ⟨rfl, h2⟩
      · exact .inl (by omega)
      · exact .inl h1
    · rcases h2 with h2 | ⟨rfl, h2⟩
      · exact .inl h2
      · exact .inr ⟨rfl, h1.trans h2⟩
theorem LL.app : ∀ {r q : List Int} (s t : List Int), r.length = q.length → LL r q → LL (r ++ s) (q ++ t)
  | [], [], _, _, _, h => h.elim
  | a :: r, b :: q, s, t, hl, h => by
    rcases h with h | ⟨e, h⟩
    · exact .inl h
    · exact .inr ⟨e, LL.app s t (by simpa using hl) h⟩
  | [], _ :: _, _, _, h, _ => by cases h
  | _ :: _, [], _, _, h, _ => by cases h
theorem LL.app' : ∀ (r : List Int) {s t : List Int}, LL s t → LL (r ++ s) (r ++ t)
  | [], _, _, h => h
  | _ :: r, _, _, h => .inr ⟨rfl, LL.app' r h⟩
noncomputable def rlt (r q : List Int) : Prop := r.length < q.length ∨ (r.length = q.length ∧ LL r q)
theorem rlt.trans {r q s : List Int} (a : rlt r q) (b : rlt q s) : rlt r s := by
  rcases a with a | ⟨a1, a2⟩ <;> rcases b with b | ⟨b1, b2⟩
  · exact .inl (by omega)
  · exact .inl (by omega)
  · exact .inl (by omega)
  · exact .inr ⟨by omega, a2.trans b2⟩
theorem rlt.app {r q : List Int} (d e : Int) (h : rlt r q) : rlt (r ++ [d]) (q ++ [e]) := by
  rcases h with h | ⟨h1, h2⟩
  · exact .inl (by simp only [List.length_append, List.length_cons, List.length_nil]; omega)
  · exact .inr ⟨by simp only [List.length_append, List.length_cons, List.length_nil]; omega, LL.app _ _ h1 h2⟩
theorem rlt.last (r : List Int) {d e : Int} (h : d < e) : rlt (r ++ [d]) (r ++ [e]) := .inr ⟨by simp, LL.app' r (.inl h)⟩
theorem rlt.nil {r : List Int} (h : r ≠ []) : rlt [] r := .inl (by cases r with | nil => exact absurd rfl h | cons a r => simp)
noncomputable def rle (r q : List Int) : Prop := r = q ∨ rlt r q
theorem rle.trans {r q s : List Int} (a : rle r q) (b : rle q s) : rle r s := by
  rcases a with rfl | a
  · exact b
  · rcases b with rfl | b
    · exact .inr a
    · exact .inr (a.trans b)
theorem rle.app {r q : List Int} (d : Int) (h : rle r q) : rle (r ++ [d]) (q ++ [d]) := by
  rcases h with rfl | h
  · exact .inl rfl
  · exact .inr (h.app d d)
noncomputable abbrev KR := List Int × List Int
noncomputable def path {α : Type} (act : α → Int → α) (s : α) (r : List Int) : α := r.foldl act s
theorem path_snoc {α : Type} (act : α → Int → α) (s : α) (r : List Int) (d : Int) : path act s (r ++ [d]) = act (path act s r) d := by
  unfold path
  rw [List.foldl_append]; rfl
structure Bf {α : Type} (act : α → Int → α) (n : Nat) (s : α) (F : List (α × List Int)) (i d : Nat) : Prop where
  nd : (F.map (·.1)).Nodup
  h0 : F[0]? = some (s, [])
  pth : ∀ (j : Nat) k r, F[j]? = some (k, r) → k = path act s r ∧ (∀ e ∈ r, 0 ≤ e ∧ e < (n : Int)) ∧ r.length ≤ j
  asc : ∀ (j j' : Nat) k k' r r', j < j' → F[j]? = some (k, r) → F[j']? = some (k', r') → rlt r r'
  old : ∀ (j : Nat) k r, F[j]? = some (k, r) → r = [] ∨ ∃ (p : Nat) (kp : α) (rp : List Int) (e : Int), F[p]? = some (kp, rp) ∧ r = rp ++ [e] ∧ 0 ≤ e ∧ (p < i ∨ (p = i ∧ e < (d : Int)))
  cl : ∀ (p : Nat) kp rp (e : Int), F[p]? = some (kp, rp) → 0 ≤ e → e < (n : Int) → (p < i ∨ (p = i ∧ e < (d : Int))) → ∃ (j : Nat) (r : List Int), F[j]? = some (act kp e, r) ∧ rle r (rp ++ [e])
variable {α : Type} {act : α → Int → α} {n : Nat} {s : α} {F : List (α × List Int)} {i d : Nat}
theorem Bf.init : Bf act n s [(s, [])] 0 0 := by
  have one : ∀ (j : Nat) k r, ([(s, [])] : List (α × List Int))[j]? = some (k, r) → j = 0 ∧ k = s ∧ r = [] := fun j k r h => by
    cases j with
    | zero =>
      have e : (s, []) = (k, r) := Option.some.inj h
      injection e with e1 e2
      exact ⟨rfl, e1.symm, e2.symm⟩
    | succ j => cases h
  refine ⟨by simp, rfl, fun j k r h => ?_, fun j j' k k' r r' hj h h' => ?_, fun j k r h => .inl (one j k r h).2.2, fun p kp rp e h _ _ z => ?_⟩
  · obtain ⟨rfl, rfl, rfl⟩ := one j k r h
    exact ⟨rfl, fun e he => absurd he (by simp), Nat.zero_le _⟩
  · have := (one j' k' r' h').1
    omega
  · obtain ⟨rfl, rfl, rfl⟩ := one p kp rp h
    omega
theorem Bf.ahead (b : Bf act n s F i d) {ki : α} {ri : List Int} (hi : F[i]? = some (ki, ri)) {j : Nat} {k : α} {r : List Int} (h : F[j]? = some (k, r)) : rlt r (ri ++ [(d : Int)]) := by
  rcases b.old j k r h with rfl | ⟨p, kp, rp, e, hp, rfl, _, z⟩
  · exact rlt.nil (by simp)
  · rcases z with z | ⟨rfl, z⟩
    · exact (b.asc p i kp ki rp ri z hp hi).app _ _
    · rw [hp] at hi
      have e2 : (kp, rp) = (ki, ri) := Option.some.inj hi
      injection e2 with _ e2
      subst e2
      exact rlt.last _ z
theorem Bf.more (b : Bf act n s F i d) {j : Nat} {k : α} {r : List Int} {ki : α} {ri : List Int} (hi : F[i]? = some (ki, ri)) (h : F[j]? = some (k, r)) (hk : k = act ki d) : Bf act n s F i (d + 1) := by
  refine ⟨b.nd, b.h0, b.pth, b.asc, fun j k r h => ?_, fun p kp rp e hp h0 hn z => ?_⟩
  · rcases b.old j k r h with e | ⟨p, kp, rp, e, hp, e1, e2, z⟩
    · exact .inl e
    · exact .inr ⟨p, kp, rp, e, hp, e1, e2, by omega⟩
  · by_cases q : p < i ∨ (p = i ∧ e < (d : Int))
    · exact b.cl p kp rp e hp h0 hn q
    · obtain ⟨rfl, rfl⟩ : p = i ∧ e = (d : Int) := by omega
      rw [hi] at hp
      have e2 : (ki, ri) = (kp, rp) := Option.some.inj hp
      injection e2 with e1 e2
      subst e1
      subst e2
      subst hk
      exact ⟨j, r, h, .inr (b.ahead hi h)⟩
theorem Bf.put (b : Bf act n s F i d) {ki : α} {ri : List Int} (hi : F[i]? = some (ki, ri)) (hn : act ki d ∉ F.map (·.1)) (hd : d < n) : Bf act n s (F ++ [(act ki d, ri ++ [(d : Int)])]) i (d + 1) := by
  have hil : i < F.length := (List.getElem?_eq_some_iff.mp hi).1
  have at_ : ∀ (j : Nat) k r, (F ++ [(act ki d, ri ++ [(d : Int)])])[j]? = some (k, r) → F[j]? = some (k, r) ∨ (j = F.length ∧ k = act ki d ∧ r = ri ++ [(d : Int)]) := fun j k r h => by
    by_cases hj : j < F.length
    · rw [List.getElem?_append_left hj] at h
      exact .inl h
    · rw [List.getElem?_append_right (by omega)] at h
      cases e : j - F.length with
      | zero =>
        rw [e] at h
        have e2 : (act ki d, ri ++ [(d : Int)]) = (k, r) := Option.some.inj h
        injection e2 with e1 e2
        exact .inr ⟨by omega, e1.symm, e2.symm⟩
      | succ q => rw [e] at h; cases h
  have up : ∀ (j : Nat) x, F[j]? = some x → (F ++ [(act ki d, ri ++ [(d : Int)])])[j]? = some x := fun j x h => by
    rw [List.getElem?_append_left (List.getElem?_eq_some_iff.mp h).1]; exact h
  have new : (F ++ [(act ki d, ri ++ [(d : Int)])])[F.length]? = some (act ki d, ri ++ [(d : Int)]) := by
    rw [List.getElem?_append_right (Nat.le_refl _), Nat.sub_self]; rfl
  refine ⟨?_, up _ _ b.h0, fun j k r h => ?_, fun j j' k k' r r' hj h h' => ?_, fun j k r h => ?_, fun p kp rp e hp h0 hne z => ?_⟩
  · rw [List.map_append, List.nodup_append]
    exact ⟨b.nd, by simp, fun y hy z hz e => by
      rw [List.map_cons, List.map_nil, List.mem_singleton] at hz
      rw [e, hz] at hy
      exact hn hy⟩
  · rcases at_ j k r h with h | ⟨rfl, rfl, rfl⟩
    · exact b.pth j k r h
    · obtain ⟨p1, p2, p3⟩ := b.pth i ki ri hi
      refine ⟨by rw [path_snoc, ← p1], fun e he => ?_, by simp only [List.length_append, List.length_cons, List.length_nil]; omega⟩
      rcases List.mem_append.mp he with he | he
      · exact p2 e he
      · rw [List.mem_singleton.mp he]; omega
  · rcases at_ j' k' r' h' with h' | ⟨rfl, rfl, rfl⟩
    · have hj' := (List.getElem?_eq_some_iff.mp h').1
      rcases at_ j k r h with h | ⟨rfl, _, _⟩
      · exact b.asc j j' k k' r r' hj h h'
      · omega
    · rcases at_ j k r h with h | ⟨rfl, _, _⟩
      · exact b.ahead hi h
      · omega
  · rcases at_ j k r h with h | ⟨rfl, rfl, rfl⟩
    · rcases b.old j k r h with e | ⟨p, kp, rp, e, hp, e1, e2, z⟩
      · exact .inl e
      · exact .inr ⟨p, kp, rp, e, up _ _ hp, e1, e2, by omega⟩
    · exact .inr ⟨i, ki, ri, d, up _ _ hi, rfl, by omega, by omega⟩
  · rcases at_ p kp rp hp with hp | ⟨rfl, _, _⟩
    · by_cases q : p < i ∨ (p = i ∧ e < (d : Int))
      · obtain ⟨j, r, h1, h2⟩ := b.cl p kp rp e hp h0 hne q
        exact ⟨j, r, up _ _ h1, h2⟩
      · obtain ⟨rfl, rfl⟩ : p = i ∧ e = (d : Int) := by omega
        rw [hi] at hp
        have e2 : (ki, ri) = (kp, rp) := Option.some.inj hp
        injection e2 with e1 e2
        subst e1
        subst e2
        exact ⟨F.length, _, new, .inl rfl⟩
    · omega
theorem Bf.next (b : Bf act n s F i n) : Bf act n s F (i + 1) 0 := by
  refine ⟨b.nd, b.h0, b.pth, b.asc, fun j k r h => ?_, fun p kp rp e hp h0 hn z => b.cl p kp rp e hp h0 hn (by omega)⟩
  rcases b.old j k r h with e | ⟨p, kp, rp, e, hp, e1, e2, z⟩
  · exact .inl e
  · exact .inr ⟨p, kp, rp, e, hp, e1, e2, by omega⟩
structure Fst {α : Type} (act : α → Int → α) (n : Nat) (s : α) (F : List (α × List Int)) : Prop where
  nd : (F.map (·.1)).Nodup
  h0 : F[0]? = some (s, [])
  pth : ∀ (j : Nat) k r, F[j]? = some (k, r) → k = path act s r ∧ (∀ e ∈ r, 0 ≤ e ∧ e < (n : Int)) ∧ r.length ≤ j
  asc : ∀ (j j' : Nat) k k' r r', j < j' → F[j]? = some (k, r) → F[j']? = some (k', r') → rlt r r'
  all : ∀ r : List Int, (∀ e ∈ r, 0 ≤ e ∧ e < (n : Int)) → ∃ (j : Nat) (r' : List Int), F[j]? = some (path act s r, r') ∧ rle r' r
theorem Bf.done (b : Bf act n s F i 0) (hi : F.length ≤ i) : Fst act n s F := by
  refine ⟨b.nd, b.h0, b.pth, b.asc, fun r => ?_⟩
  generalize hm : r.length = m
  induction m generalizing r with
  | zero =>
    intro _
    obtain rfl : r = [] := List.eq_nil_of_length_eq_zero hm
    exact ⟨0, [], b.h0, .inl rfl⟩
  | succ m ih =>
    intro hr
    rcases List.eq_nil_or_concat r with rfl | ⟨q, e, rfl⟩
    · cases hm
    · have hq : q.length = m := by
        simp only [List.concat_eq_append, List.length_append, List.length_cons, List.length_nil] at hm
        omega
      rw [List.concat_eq_append] at hr ⊢
      obtain ⟨j, r', h1, h2⟩ := ih q hq fun x hx => hr x (List.mem_append_left _ hx)
      have he := hr e (List.mem_append_right _ (List.mem_singleton.mpr rfl))
      have hj := (List.getElem?_eq_some_iff.mp h1).1
      obtain ⟨j2, r2, h3, h4⟩ := b.cl j _ _ e h1 he.1 he.2 (.inl (by omega))
      exact ⟨j2, r2, by rw [path_snoc]; exact h3, h4.trans (h2.app e)⟩
end K1
namespace K1
open PySem PySem.Spec PyProof.Rows L2
noncomputable def tDispT (tk tv : TE) : TE := fun σ H Q => ∀ p, H p = none → tk σ (upd H p (.dT [])) fun x H1 => tv σ H1 fun y H2 => ∃ b k, x = .ref b ∧ H2 b = some (.tup (k.map kV)) ∧ H2 p = some (.dT []) ∧ Q (.ref p) (upd H2 p (.dT [(k, y)]))
theorem pe_dispT {X : Cx} {pos : Pos} {ke ve : Expr} {tk tv : TE} (hu : X.A.units < cLine) (hk : PE X ke tk) (hv : PE X ve tv) : PE X (.Dict [some ke] [ve] pos) (tDispT tk tv) := by
  refine ⟨fun pins s σ H Q I q => ?_⟩
  have hn := I.hok.fresh (Nat.le_refl s.heap.objs.size)
  have I1 := I.laid (a := s.heap.objs.size) (o := .dT []) (h' := s.heap.push { cls := .type "dict", data := .dict #[] }) (t' := s.toks) (fun _ _ q => Heap.get?_push_of_some _ q) (Nat.le_refl _) (dt_empty s.heap I.big)
  have P := pps_cons (pos := pos) hk hv pps_nil
  rw [arm_eval_Dict, zip_pairTrees [some ke] [ve] X.env pos rfl rfl, dictDisplay_pairs _ (by intro e; cases e) (by show 1 < 17; decide)]
  refine wpAny_bind (wpAny_standAt (wpAny_bind (wpAny_subDictH (knd := tupleKind (mixKind X.prog X.w)) (Q := fun d s' => wpAny (model X.prog X.w) X.A (pure (Value.ref d)) (EP X pins σ Q) X.xe s') hu (by show 1 ≤ 15; decide) ?_)))
  let Φ : V → V → Hp → Prop := fun x y H2 => ∃ b k, x = .ref b ∧ H2 b = some (.tup (k.map kV)) ∧ H2 s.heap.objs.size = some (.dT []) ∧ Q (.ref s.heap.objs.size) (upd H2 s.heap.objs.size (.dT [(k, y)]))
  refine thn (P.run pins _ σ _ (fun ps H2 => match ps with | [(x, y)] => Φ x y H2 | _ => False) I1 (q _ hn)) fun ws s2 hh => ?_
  obtain ⟨ps, H2, I2, rel, hh⟩ := hh
  cases ps with
  | nil => exact False.elim hh
  | cons p l =>
    cases l with
    | cons _ _ => exact False.elim hh
    | nil =>
      obtain ⟨x, y⟩ := p
      obtain ⟨b, k, ex, hb, hp, q2⟩ := hh
      cases rel with
      | cons r1 r2 =>
        cases r2
        rename_i u
        obtain ⟨u1, u2⟩ := u
        obtain ⟨rx, ry⟩ := r1
        subst ex
        obtain rfl : u1 = Value.ref b := rx
        obtain ⟨z, hd, xs, kt, dd⟩ := dt_of I2.hok hp
        cases kt
        refine ⟨[(k, b, u2)], ⟨rfl, rfl, key_of I2.hok hb, trivial⟩, dd, fun h' tk' dd' hs => wpAny_pure ?_⟩
        have dd2 : h'.DictOfH (tupleKind (mixKind X.prog X.w)) s.heap.objs.size [(k, b, u2)] := dd'
        have he : ∃ q, h'.get? s.heap.objs.size = some q := let ⟨q, _, _, hq, _⟩ := dd2; ⟨q, hq⟩
        obtain ⟨ob, es, ep, hq, h2, h3, h4, _, h5⟩ := dd2
        have nb : b ≠ s.heap.objs.size := ne_of hb hp (fun z => nomatch z)
        have kt2 : KT (upd H2 s.heap.objs.size (.dT [(k, y)])) [(k, y)] [(k, b, u2)] := .cons ⟨rfl, by rw [upd_ne nb]; exact hb, ry⟩ .nil
        refine ⟨.ref s.heap.objs.size, _, d_write (ob := .dT [(k, y)]) I2 (by rw [hp]; exact True.intro) hs he ⟨by show 1 ≤ sizeLine; decide, hd, _, kt2, ob, es, ep, hq, h2, h3, h4, h5⟩, rfl, q2⟩
noncomputable def iKeysF (td : TE) : TI := fun σ H R => td σ H fun x H1 => ∃ d kvs, x = .ref d ∧ H1 d = some (.dT kvs) ∧ ∀ o, R (Itkt d o kvs) (upd H1 d (.frz o (.dT kvs)))
theorem pi_keysF {X : Cx} {tg e : Expr} {td : TE} (he : PE X e td) : PI X tg e (iKeysF td) := by
  refine ⟨fun pins s σ H R I h => ?_⟩
  refine thn (he.run pins s σ H _ I h) fun u s1 ⟨x, H1, I1, rx, d, kvs, ex, hd0, q⟩ => ?_
  subst ex
  obtain rfl : u = Value.ref d := rx
  obtain ⟨o, I2⟩ := I1.lock hd0 trivial
  obtain ⟨hs, hgd, hx, es, ep, hdt, hsz, ent⟩ := I2.frzT upd_same
  refine iter_keys hs hgd hx hdt (pi_one (tk := s1.toks) I2 _ (turn_keysT _ hdt) ⟨_, Heap.get?_push_size _ rfl, rfl, ?_⟩ (q o))
  rw [hsz] <;> rfl
theorem lc_keysF {d : Addr} {o : Obj} {kvs : List (List Key × V)} {g : TG} {tt : TT} {te : TE} {vs : List Nat} {σ : L2.St} {H1 : Hp} {D : Addr} {Qd : Hp → Prop} (Pv : Nat → Hp → Prop) (h0 : Pv 0 (upd H1 D (.lst []))) (hl : ∀ i H, i ≤ kvs.length → Pv i H → H d = some (.frz o (.dT kvs)))
    (hs : ∀ (i : Nat) k v q H, kvs[i]? = some (k, v) → H q = some (.tup (k.map kV)) → Pv i H → g (.ref q) (wipe σ vs) H fun σ2 H2 => wipe σ2 vs = wipe σ vs ∧ tt σ2 H2 fun b H3 =>
      if b = true then te σ2 H3 fun y H4 => ∃ acc, H4 D = some (.lst acc) ∧ acc.length < sizeLine ∧ Pv (i + 1) (upd H4 D (.lst (acc ++ [y]))) else Pv (i + 1) H3) (hd : ∀ H, Pv kvs.length H → Qd H) :
    ∃ W : Nat → Nat → Hp → Prop, (∃ m, W 0 m (upd H1 D (.lst []))) ∧ ∀ i m H, W i m H →
      ((Itkt d o kvs).stop i H ∧ Qd H) ∨ ((Itkt d o kvs).go i H ∧ ∃ Nx : Hp → Prop, (∀ H', Nx H' → ∃ m', m' < m ∧ W (i + 1) m' H') ∧ ∀ x H', (Itkt d o kvs).yld i H x H' → g x (wipe σ vs) H' fun σ2 H2 => wipe σ2 vs = wipe σ vs ∧ tt σ2 H2 fun b H3 =>
        if b = true then te σ2 H3 fun y H4 => ∃ acc, H4 D = some (.lst acc) ∧ acc.length < sizeLine ∧ Nx (upd H4 D (.lst (acc ++ [y]))) else Nx H3) := by
  refine ⟨fun i m H => m = kvs.length - i ∧ i ≤ kvs.length ∧ Pv i H, ⟨kvs.length, by simp, Nat.zero_le _, h0⟩, ?_⟩
  rintro i m H ⟨rfl, hi, p⟩
  have q := hl i H hi p
  by_cases hlt : i < kvs.length
  · refine .inr ⟨⟨q, hlt⟩, Pv (i + 1), fun H' p' => ⟨kvs.length - (i + 1), by omega, rfl, hlt, p'⟩, fun x H' y => ?_⟩
    obtain ⟨e, k, v, b, e1, e2, e3⟩ := y
    subst e e2
    exact hs i k v b _ e1 e3 p
  · have e : i = kvs.length := by omega
    subst e
    exact .inl ⟨⟨q, Nat.le_refl _⟩, hd H p⟩
end K1
namespace K1
open PySem PySem.Spec PyProof.Rows L2
theorem nodup_le : ∀ (n : Nat) (L : List Int), L.Nodup → (∀ x ∈ L, 0 ≤ x ∧ x < (n : Int)) → L.length ≤ n
  | 0, L, _, h => by
    cases L with
    | nil => exact Nat.le_refl _
    | cons a r => have := h a List.mem_cons_self; omega
  | n + 1, L, nd, h => by
    have ih := nodup_le n (L.erase (n : Int)) (nd.erase _) fun x hx => by
      have h1 := h x (List.mem_of_mem_erase hx)
      have h2 : x ≠ (n : Int) := fun e => by
        rw [e] at hx
        exact (List.Nodup.mem_erase_iff nd).mp hx |>.1 rfl
      omega
    have h3 : L.length ≤ (L.erase (n : Int)).length + 1 := by
      by_cases hm : (n : Int) ∈ L
      · rw [List.length_erase_of_mem hm]; omega
      · rw [List.erase_of_not_mem hm]; omega
    omega
theorem val_some {kvs : List (List Key × V)} {k : List Key} {v : V} (h : valV kvs k = some v) : ∃ i : Nat, kvs[i]? = some (k, v) := by
  unfold valV at h
  cases e : kvs.find? (fun kv => decide (kv.1 = k)) with
  | none => rw [e] at h; cases h
  | some p =>
    rw [e] at h
    have h1 := List.find?_some e
    have h2 := List.mem_of_find?_eq_some e
    obtain ⟨i, hi, ep⟩ := List.mem_iff_getElem.mp h2
    refine ⟨i, ?_⟩
    rw [List.getElem?_eq_getElem hi, ep]
    obtain ⟨p1, p2⟩ := p
    have e1 : p1 = k := of_decide_eq_true h1
    have e2 : p2 = v := Option.some.inj h
    rw [e1, e2]
theorem ixTK {X : Cx} {K : PySem.W.Frag} (h : X.K = K) : IxR X (rIxT K) := by
  subst h
  exact ix_tup

noncomputable def kK (xs : List Int) : List Key := xs.map Sum.inl
theorem kK_v (xs : List Int) : (kK xs).map kV = vrow xs := by
  unfold kK vrow
  rw [List.map_map]; rfl
theorem kK_inj : ∀ {a b : List Int}, kK a = kK b → a = b
  | [], [], _ => rfl
  | [], _ :: _, h => by cases h
  | _ :: _, [], h => by cases h
  | x :: a, y :: b, h => by
    have h : (Sum.inl x :: kK a : List Key) = Sum.inl y :: kK b := h
    injection h with h1 h2
    injection h1 with h1
    rw [h1, kK_inj h2]
noncomputable def actL (ts : Ts) (x : List Int) (d : Int) : List Int := x.map fun s => stp ts s d
theorem path_run (ts : Ts) : ∀ (r x : List Int), path (actL ts) x r = x.map fun s => run ts s r
  | [], x => by
    show x = x.map fun s => s
    rw [List.map_id']
  | d :: r, x => by
    show path (actL ts) (actL ts x d) r = _
    rw [path_run ts r, actL, List.map_map]; rfl
structure DQ (H : Hp) (d q : Addr) (F : List KR) (kvs : List (List Key × V)) (as : List Addr) : Prop where
  hd : H d = some (.dT kvs)
  ky : kvs.map (·.1) = F.map fun e => kK e.1
  vl : ∀ (i : Nat) k v x r, kvs[i]? = some (k, v) → F[i]? = some (x, r) → ∃ a, v = .ref a ∧ H a = some (.tup (vrow r))
  hq : H q = some (.lst (as.map V.ref))
  ln : as.length = F.length
  it : ∀ (i : Nat) a x r, as[i]? = some a → F[i]? = some (x, r) → H a = some (.tup (vrow x))
theorem DQ.same {H H' : Hp} {d q : Addr} {F : List KR} {kvs : List (List Key × V)} {as : List Addr} (b : DQ H d q F kvs as) (s : Same H H') : DQ H' d q F kvs as :=
  ⟨s _ _ b.hd, b.ky, fun i k v x r e1 e2 => let ⟨a, h1, h2⟩ := b.vl i k v x r e1 e2; ⟨a, h1, s _ _ h2⟩, s _ _ b.hq, b.ln, fun i a x r e1 e2 => s _ _ (b.it i a x r e1 e2)⟩
theorem DQ.klen {H : Hp} {d q : Addr} {F : List KR} {kvs : List (List Key × V)} {as : List Addr} (b : DQ H d q F kvs as) : kvs.length = F.length := by
  have := congrArg List.length b.ky
  simpa using this
theorem DQ.none {H : Hp} {d q : Addr} {F : List KR} {kvs : List (List Key × V)} {as : List Addr} (b : DQ H d q F kvs as) {x : List Int} : valV kvs (kK x) = none ↔ x ∉ F.map (·.1) := by
  have e := valV_any (kK x) kvs
  have h : (kvs.any fun kv => decide (kv.1 = kK x)) = true ↔ x ∈ F.map (·.1) := by
    have z : (kvs.any fun kv => decide (kv.1 = kK x)) = ((kvs.map (·.1)).any fun k => decide (k = kK x)) := by rw [List.any_map]; rfl
    rw [z, b.ky, List.any_map, List.any_eq_true]
    constructor
    · rintro ⟨y, hy, e⟩
      have e' : kK y.1 = kK x := of_decide_eq_true e
      exact List.mem_map.mpr ⟨y, hy, kK_inj e'⟩
    · intro hx
      obtain ⟨y, hy, e⟩ := List.mem_map.mp hx
      exact ⟨y, hy, decide_eq_true (congrArg kK e)⟩
  constructor
  · intro hn hx
    rw [hn] at e
    rw [h.mpr hx] at e
    cases e
  · intro hx
    cases q : valV kvs (kK x) with
    | none => rfl
    | some v =>
      rw [q] at e
      exact absurd (h.mp e) hx
theorem DQ.look {H : Hp} {d q : Addr} {F : List KR} {kvs : List (List Key × V)} {as : List Addr} (b : DQ H d q F kvs as) (nd : (F.map (·.1)).Nodup) {x r : List Int} {i : Nat} (hi : F[i]? = some (x, r)) : ∃ a, valV kvs (kK x) = some (.ref a) ∧ H a = some (.tup (vrow r)) := by
  cases e : valV kvs (kK x) with
  | none => exact absurd (List.mem_map.mpr ⟨_, List.mem_of_getElem? hi, rfl⟩) (b.none.mp e)
  | some v =>
    obtain ⟨j, hj⟩ := val_some e
    have hk : (kvs.map (·.1))[j]? = some (kK x) := by rw [List.getElem?_map, hj]; rfl
    rw [b.ky, List.getElem?_map] at hk
    cases e2 : F[j]? with
    | none => rw [e2] at hk; cases hk
    | some y =>
      rw [e2] at hk
      have e3 : y.1 = x := kK_inj (Option.some.inj hk)
      have hij : j = i := by
        have f1 : (F.map (·.1))[j]? = some x := by rw [List.getElem?_map, e2]; exact congrArg some e3
        have f2 : (F.map (·.1))[i]? = some x := by rw [List.getElem?_map, hi]; rfl
        obtain ⟨g1, e5⟩ := List.getElem?_eq_some_iff.mp f1
        obtain ⟨g2, e6⟩ := List.getElem?_eq_some_iff.mp f2
        exact (List.getElem_inj nd).mp (e5.trans e6.symm)
      subst hij
      obtain ⟨a, e4, h4⟩ := b.vl j _ _ _ _ hj hi
      exact ⟨a, by rw [e4], h4⟩
theorem DQ.put {H : Hp} {d q : Addr} {F : List KR} {kvs : List (List Key × V)} {as : List Addr} (b : DQ H d q F kvs as) {x r : List Int} {e a : Addr} (hx : x ∉ F.map (·.1)) (he : H e = some (.tup (vrow x))) (ha : H a = some (.tup (vrow r))) :
    DQ (upd (upd H d (.dT (putK kvs (kK x) (.ref a)))) q (.lst (as.map V.ref ++ [.ref e]))) d q (F ++ [(x, r)]) (kvs ++ [(kK x, .ref a)]) (as ++ [e]) := by
  have ndq : d ≠ q := ne_of b.hd b.hq (by intro z; cases z)
  have keep : ∀ c ys, H c = some (.tup ys) → (upd (upd H d (.dT (putK kvs (kK x) (.ref a)))) q (.lst (as.map V.ref ++ [.ref e]))) c = some (.tup ys) := fun c ys h => by
    rw [upd_ne (ne_of h b.hq (by intro z; cases z)), upd_ne (ne_of h b.hd (by intro z; cases z))]; exact h
  have lk := b.klen
  have ll := b.ln
  refine ⟨?_, ?_, fun i k v y s h h' => ?_, ?_, ?_, fun i c y s h h' => ?_⟩
  · rw [upd_ne ndq, upd_same, putK_new _ (b.none.mpr hx)]
  · rw [List.map_append, b.ky, List.map_append]; rfl
  · by_cases hi : i < F.length
    · rw [List.getElem?_append_left (by omega)] at h
      rw [List.getElem?_append_left hi] at h'
      obtain ⟨c, e1, e2⟩ := b.vl i k v y s h h'
      exact ⟨c, e1, keep _ _ e2⟩
    · have hi2 : i = F.length := by
        have := (List.getElem?_eq_some_iff.mp h').1
        simp only [List.length_append, List.length_cons, List.length_nil] at this
        omega
      subst hi2
      rw [← lk, List.getElem?_append_right (Nat.le_refl _), Nat.sub_self] at h
      rw [List.getElem?_append_right (Nat.le_refl _), Nat.sub_self] at h'
      have e1 : (kK x, V.ref a) = (k, v) := Option.some.inj h
      have e2 : (x, r) = (y, s) := Option.some.inj h'
      injection e1 with _ e1
      injection e2 with _ e2
      subst e2
      exact ⟨a, e1.symm, keep _ _ ha⟩
  · rw [upd_same, List.map_append]; rfl
  · rw [List.length_append, List.length_append, b.ln]; rfl
  · by_cases hi : i < F.length
    · rw [List.getElem?_append_left (by omega)] at h
      rw [List.getElem?_append_left hi] at h'
      exact keep _ _ (b.it i c y s h h')
    · have hi2 : i = F.length := by
        have := (List.getElem?_eq_some_iff.mp h').1
        simp only [List.length_append, List.length_cons, List.length_nil] at this
        omega
      subst hi2
      rw [← ll, List.getElem?_append_right (Nat.le_refl _), Nat.sub_self] at h
      rw [List.getElem?_append_right (Nat.le_refl _), Nat.sub_self] at h'
      have e2 : (x, r) = (y, s) := Option.some.inj h'
      injection e2 with e2 _
      subst e2
      rw [← Option.some.inj h]
      exact keep _ _ he
noncomputable def DAt (H : Hp) (d : Addr) (F : List KR) : Prop := ∃ kvs : List (List Key × V), H d = some (.dT kvs) ∧ kvs.map (·.1) = (F.map fun e => kK e.1) ∧ ∀ (i : Nat) k v x r, kvs[i]? = some (k, v) → F[i]? = some (x, r) → ∃ a, v = .ref a ∧ H a = some (.tup (vrow r))
theorem path_rng {ts : Ts} (w : Wf ts) {x r : List Int} (hr : ∀ e ∈ r, 0 ≤ e ∧ e < (ts.length : Int)) (hx : ∀ s ∈ x, 0 ≤ s ∧ s < (nS ts : Int)) : ∀ s ∈ path (actL ts) x r, 0 ≤ s ∧ s < (nS ts : Int) := fun s hs => by
  rw [path_run] at hs
  obtain ⟨y, hy, rfl⟩ := List.mem_map.mp hs
  exact w.run r y hr (hx y hy)
noncomputable def FewK (ts : Ts) (ss : List Int) : Prop := ∀ (F : List KR), (F.map (·.1)).Nodup → (∀ e ∈ F, ∃ r : List Int, (∀ x ∈ r, 0 ≤ x ∧ x < (ts.length : Int)) ∧ e.1 = path (actL ts) ss r) → F.length ≤ 1000
theorem Bf.few {ts : Ts} {ss : List Int} {F : List KR} {i d : Nat} (f : FewK ts ss) (b : Bf (actL ts) ts.length ss F i d) : F.length ≤ 1000 := f F b.nd fun e he => by
  obtain ⟨j, hj⟩ := List.getElem?_of_mem he
  obtain ⟨h1, h2, _⟩ := b.pth j e.1 e.2 hj
  exact ⟨e.2, h2, h1⟩
noncomputable def spFirst (M : Addr) : Sp := fun vs H Q _ => ∃ m ta ts ss p, vs = [.ref m, .ref p, .non, .non] ∧ MachAt M H m ta (vts ts) ∧ Wf ts ∧ (∀ s ∈ ss, 0 ≤ s ∧ s < (nS ts : Int)) ∧ ss.length ≤ 12 ∧ H p = some (.tup (vrow ss)) ∧ FewK ts ss ∧
  ∀ d F H', Same H H' → H d = none → DAt H' d F → Fst (actL ts) ts.length ss F → F.length ≤ 1000 → Q (.ref d) H'
section
variable {P : Program} {w : World} {K : PySem.W.Frag} {mg : Str → Option Value} {base : Heap}
structure DfF (K : PySem.W.Frag) (mg : Str → Option Value) (f : Addr) (fd : FuncData) : Prop where
  F : FunD K "first_rows" "first_rows" (defArgs sFirst) (defBody sFirst) (defScope sFirst) [.non, .non] [] f fd
  g : mg "first_rows" = some (.ref f)
theorem DfF.b {f : Addr} {fd : FuncData} (D : DfF K mg f fd) : ∃ ds, Vals [.non, .non] ds ∧ Binds K fd ["machine", "states", "out", "most"] ds :=
  D.F.binds1 2 0 (by simp) rfl fun T kV doc pm an cdv ct us its h1 h2 => by
    obtain ⟨a, b, rfl⟩ := len2 h1
    obtain ⟨c, d, rfl⟩ := len2 h2
    exact ⟨_, rfl, rfl⟩
noncomputable abbrev nFR : List Str := ["machine", "states", "out", "most", "rows", "queue", "at", "here", "deed", "table", "ends", "state"]
theorem scFR : FnScope nFR ["machine", "states", "out", "most"] (defScope sFirst) := ⟨rfl, rfl, rfl, by decide +kernel, rfl, by decide +kernel, by decide +kernel⟩
theorem iteE {c : Bool} {A B : Prop} (e : c = true) (h : A) : if c = true then A else B := by subst e; exact iteT h
theorem iteN {c : Bool} {A B : Prop} (e : c = false) (h : B) : if c = true then A else B := by subst e; exact iteF h
theorem pt_never {X : Cx} {e : Expr} : PT X e fun _ _ _ => False := ⟨fun _ _ _ _ _ _ h => h.elim⟩
theorem ok_first {f M : Addr} {fd : FuncData} (D : DfF K mg f fd) (B : Bt mg) (T : McT K mg M) : FnOk P w K mg base CX0 1 f fd ["machine", "states", "out", "most"] (spFirst M) := by
  refine D.F.ok scFR (fun vs H Q E h => ?_) (fun cdv A outer s H vs Q E hr h => ?_)
  · obtain ⟨m, ta, ts, ss, p, rfl, _⟩ := h
    rfl
  · obtain ⟨m, ta, ts, ss, p, rfl, hM, hW, hs, hs12, hp, few, q⟩ := h
    have hu := hu_of hr
    suffices z : ∃ t, PSs (cxOf CX0 P w K mg base nFR "first_rows" (defScope sFirst) f cdv A outer s H E).nox (defBody sFirst) t ∧ t { nx := fun _ H' => Q .non H', rt := Q } (start nFR [.ref m, .ref p, .non, .non]) H from
      z.elim fun t h => ⟨t, h.1.nox, h.2⟩
    refine ⟨_, pss_cons (ps_set (i := 4) scFR.nd rfl (.inl rfl) (pe_dispT (Nat.lt_of_succ_lt hu) (pv 1) (pe_tup pa_nil)))
      (pss_cons (ps_set (i := 5) scFR.nd rfl (.inl rfl) (pe_lst (pa_cons (pv 1) pa_nil)))
      (pss_cons (ps_set (i := 6) scFR.nd rfl (.inl rfl) pe_int)
      (pss_cons (ps_while PassesOwn.never (PW.pt (pw_and (pt_cmpR op_lt (pv 6) (pe_callB call_len_seq (by rfl) B.len PySem.boot_len (pa_cons (pv 5) pa_nil)) (nomark _))
          (pw_and1 (PW.pt (pw_or (pt_cmp (pc_isN (pv 2))) (pw_or1 pt_never))))))
        (pss_cons (ps_set (i := 7) scFR.nd rfl (.inl rfl) (pe_ix ix_list (pv 5) (pv 6) (fun _ _ => rfl)))
        (pss_cons (ps_for PassesOwn.never rfl (pi_enumA (by rfl) B.enumerate (pa_cons (pe_fld (pv 0) rfl) pa_nil)) (pg_tup rfl (pgs_cons (pg_name (i := 8) scFR.nd rfl (.inl rfl)) (pgs_cons (pg_name (i := 9) scFR.nd rfl (.inr rfl)) pgs_nil)))
          (pss_cons (ps_set (i := 10) scFR.nd rfl (.inl rfl) (pe_callTy call_tuple_of (by rfl) B.tuple PyProof.Rows.boot_tuple (pa_cons
              (pe_lc (own := [("state", 11)]) (g := gName 11) (tt := tYes) rfl scFR.nd (pi_tup (pv 7)) (blkOk_by (N := nFR) (sc := defScope sFirst) (by decide +kernel)) (fun _ _ _ _ _ => pg_name (i := 11) scFR.nd rfl (Or.inl rfl)) (fun _ _ _ _ _ => pts_nil)
                (fun _ _ _ _ _ => pe_ix (ixTK (K := K) rfl) (pv 9) (pv 11) (fun _ _ => rfl))) pa_nil)))
          (pss_one (ps_if (pt_cmp (pc_dnotin hu (pv 10) (pv 4))) (pss_cons (ps_dput hu (pv 4) (pv 10) (pe_op op_catA (pe_dget hu (pv 4) (pv 7) (fun _ _ => rfl)) (pe_tup (pa_cons (pv 8) pa_nil))) rfl)
            (pss_one (ps_expr (pe_bm PySem.F.plainAttrs_list PySem.F.slot_list_append PySem.F.type_list_append mt_append (pv 5) (pa_cons (pv 10) pa_nil))))) pss_nil))))
        (pss_cons (ps_if (PW.pt (pw_and (pt_cmp (pc_notN (pv 3))) (pw_and1 pt_never))) pss_never pss_nil)
        (pss_one (ps_aug (i := 6) scFR.nd rfl (.inl rfl) pe_int ip_add))))))
      (pss_one (ps_ret (pv 4)))))), ?_⟩
    intro d hd
    refine ⟨_, rfl, (by show 0 ≤ sizeLine; decide), fun e0 he0 => ?_⟩
    have ned : e0 ≠ d := fun z => by rw [z, upd_same] at he0; cases he0
    have se : Same H (upd (upd H d (.dT [])) e0 (.tup [])) := (same_new hd).trans (same_new he0)
    refine ⟨p, kK ss, rfl, by rw [kK_v]; exact se _ _ hp, by rw [upd_ne ned.symm, upd_same], ?_⟩
    generalize hH1 : upd (upd (upd H d (.dT [])) e0 (.tup [])) d (.dT [(kK ss, .ref e0)]) = H1
    have s1 : Same H H1 := fun b o e => by
      rw [← hH1, upd_ne (ne_of_none e hd)]
      exact se _ _ e
    have hd1' : H1 d = some (.dT [(kK ss, .ref e0)]) := by rw [← hH1, upd_same]
    have he1 : H1 e0 = some (.tup []) := by rw [← hH1, upd_ne ned, upd_same]
    refine ⟨_, rfl, (by show 1 ≤ sizeLine; decide), fun q0 hq0 => ?_⟩
    have s2 : Same H (upd H1 q0 (.lst [.ref p])) := s1.trans (same_new hq0)
    have b0 : DQ (upd H1 q0 (.lst [.ref p])) d q0 [(ss, [])] [(kK ss, .ref e0)] [p] := by
      have sm := same_new (o := HO.lst [.ref p]) hq0
      refine ⟨sm _ _ hd1', rfl, fun i k v x r h h' => ?_, upd_same, rfl, fun i a x r h1 h2 => ?_⟩
      · cases i with
        | zero =>
          have z : (kK ss, V.ref e0) = (k, v) := Option.some.inj h
          have z' : (ss, []) = (x, r) := Option.some.inj h'
          injection z with _ z
          injection z' with _ z'
          subst z'
          exact ⟨e0, z.symm, sm _ _ he1⟩
        | succ i => cases h
      · cases i with
        | zero =>
          obtain rfl : p = a := Option.some.inj h1
          have z' : (ss, []) = (x, r) := Option.some.inj h2
          injection z' with z' _
          subst z'
          exact s2 _ _ hp
        | succ i => cases h1
    have nd0 : H d = none := hd
    refine while_by (fun σ H' => ∃ (i : Nat) (F : List KR) (kvs : List (List Key × V)) (as : List Addr) (v5 v6 v7 v8 : Option V), σ = [some (.ref m), some (.ref p), some .non, some .non, some (.ref d), some (.ref q0), some (.int (i : Int)), v5, v6, v7, v8, none] ∧ Same H H' ∧ DQ H' d q0 F kvs as ∧ Bf (actL ts) ts.length ss F i 0 ∧ i ≤ F.length)
      (fun (σ : L2.St) _ => match σ[6]? with | some (some (V.int i)) => 1000 - i.toNat | _ => 0) ⟨0, _, _, _, none, none, none, none, rfl, s2, b0, Bf.init, Nat.zero_le _⟩ ?_
      (fun σ H Q Q' hQ ⟨v, h1, v3, h2, p, ys, h3, h4, i, j, h5, h6, k, h7, h8⟩ => by
        refine ⟨v, h1, v3, h2, p, ys, h3, h4, i, j, h5, h6, k, h7, ?_⟩
        cases k with
        | false => exact hQ _ _ h8
        | true =>
          obtain ⟨u, hu, c, hc, h9⟩ := h8
          refine ⟨u, hu, c, hc, ?_⟩
          cases c with
          | false => exact h9
          | true => exact hQ _ _ h9)
    rintro σ H' ⟨i, F, kvs, as, v5, v6, v7, v8, rfl, sm, b, bf, hi⟩
    refine ⟨_, rfl, _, rfl, q0, _, rfl, .inl (SqL.of b.hq), _, _, rfl, rfl, _, rfl, ifD (fun ec => ⟨_, rfl, _, rfl, iteE rfl (iteT ?_)⟩) fun ec => iteF ?_⟩
    · have hlt : i < F.length := by
        have z : (i : Int) < ((as.map V.ref).length : Int) := of_decide_eq_true ec
        rw [List.length_map, b.ln] at z
        omega
      obtain ⟨x, rx, hx⟩ : ∃ x rx, F[i]? = some (x, rx) := ⟨F[i].1, F[i].2, List.getElem?_eq_getElem hlt⟩
      obtain ⟨a, ha⟩ : ∃ a, as[i]? = some a := by
        have : i < as.length := by rw [b.ln]; exact hlt
        exact ⟨as[i], List.getElem?_eq_getElem this⟩
      have hax := b.it i a x rx ha hx
      obtain ⟨px, pv, pl⟩ := bf.pth i x rx hx
      have hxr : ∀ s ∈ x, 0 ≤ s ∧ s < (nS ts : Int) := by rw [px]; exact path_rng hW pv hs
      have hxl : x.length ≤ 12 := by rw [px, path_run, List.length_map]; exact hs12
      obtain ⟨dx, hm⟩ := hM.fs
      obtain ⟨tas, ht1, ht2, ht3⟩ := hM.2
      have ltas : tas.length = ts.length := by rw [ht2, vts, List.length_map]
      refine ⟨_, rfl, _, rfl, q0, _, (i : Int), .ref a, rfl, rfl, SqL.of b.hq, atI_nat (by rw [List.getElem?_map, ha]; rfl), ?_⟩
      refine ⟨_, rfl, m, M, dx, _, _, rfl, sm _ _ hm, T.cl, T.nT, mf_t _ _ _, ta, rfl, .inr ⟨_, SqT.of (sm _ _ ht1), for_enumT (K := K) (a := ta) (xs := tas.map V.ref)
        (fun j σ H' => ∃ (F : List KR) (kvs : List (List Key × V)) (as : List Addr) (v6 v7 v8 : Option V), σ = [some (.ref m), some (.ref p), some .non, some .non, some (.ref d), some (.ref q0), some (.int (i : Int)), some (.ref a), v6, v7, v8, none] ∧ Same H H' ∧ DQ H' d q0 F kvs as ∧ Bf (actL ts) ts.length ss F i j ∧ F[i]? = some (x, rx) ∧ H' a = some (.tup (vrow x)))
        ⟨F, kvs, as, _, _, _, rfl, sm, b, bf, hx, hax⟩ (fun j σ H' _ ⟨_, _, _, _, _, _, _, sm, _⟩ => SqT.of (sm _ _ ht1)) ?_ ?_⟩⟩
      · rintro j y T0 σ H' hy hT0 ⟨F, kvs, as, v6, v7, v8, rfl, sm, b, bf, hx, hax⟩
        obtain ⟨tj, htj, rfl⟩ : ∃ t, tas[j]? = some t ∧ y = V.ref t := by
          rw [List.getElem?_map] at hy
          cases e : tas[j]? with
          | none => rw [e] at hy; cases hy
          | some t => rw [e] at hy; exact ⟨t, rfl, (Option.some.inj hy).symm⟩
        have hjt : j < ts.length := by rw [← ltas]; exact (List.getElem?_eq_some_iff.mp htj).1
        have hdj : 0 ≤ (j : Int) ∧ (j : Int) < (ts.length : Int) := by omega
        obtain ⟨t, h1'⟩ : ∃ t, ts[j]? = some t := ⟨ts[j], List.getElem?_eq_getElem hjt⟩
        have hT := ht3 j tj (vrow t) htj (by rw [vts, List.getElem?_map, h1']; rfl)
        generalize hyy : actL ts x (j : Int) = yy
        have lyy : yy.length = x.length := by rw [← hyy, actL, List.length_map]
        have sT := same_new (o := HO.tup [.int (j : Nat), .ref tj]) hT0
        refine ⟨T0, _, rfl, SqT.of upd_same, rfl, _, _, rfl, _, _, rfl, rfl, ?_⟩
        generalize hH2 : upd H' T0 (.tup [.int (j : Nat), .ref tj]) = H2 at sT ⊢
        have b2 := b.same sT
        have sm2 := sm.trans sT
        have hax2 := sT _ _ hax
        -- ends
        refine ⟨_, rfl, a, rfl, ⟨_, SqT.of hax2⟩, fun D0 hD0 => lc_tup (K := K) (a := a) (xs := vrow x) (fun k H3 => Same H2 H3 ∧ H3 D0 = some (.lst ((vrow yy).take k))) ⟨same_new hD0, by rw [upd_same]; rfl⟩ (fun k H3 _ ⟨s3, _⟩ => SqT.of (s3 _ _ hax2)) ?_ ?_⟩
        · rintro k z H3 hz ⟨s3, hD3⟩
          obtain ⟨xk, hxk, rfl⟩ : ∃ xk, x[k]? = some xk ∧ z = V.int xk := by
            rw [vrow, List.getElem?_map] at hz
            cases e : x[k]? with
            | none => rw [e] at hz; cases hz
            | some xk => rw [e] at hz; exact ⟨xk, rfl, (Option.some.inj hz).symm⟩
          have hk : k < x.length := (List.getElem?_eq_some_iff.mp hxk).1
          have hxkr := hxr xk (List.mem_of_getElem? hxk)
          obtain ⟨t', g1, g2, _⟩ := hW.at_ hdj hxkr
          have g1' : ts[j]? = some t' := by simpa using g1
          obtain rfl : t = t' := Option.some.inj (h1'.symm.trans g1')
          refine ⟨rfl, _, rfl, _, rfl, tj, _, xk, .int (stp ts xk j), rfl, rfl, SqT.of (s3 _ _ (sm2 _ _ hT)), at_of (j := xk.toNat) (by omega) (by rw [vrow, List.getElem?_map, g2]; rfl), ?_⟩
          refine ⟨_, hD3, by rw [List.length_take, vrow, List.length_map, sizeLine_eq]; omega, ?_, ?_⟩
          · intro c o e
            rw [upd_ne (ne_of_none e hD0)]
            exact s3 _ _ e
          · have ez : (vrow yy)[k]? = some (V.int (stp ts xk j)) := by rw [← hyy, vrow, actL, List.map_map, List.getElem?_map, hxk]; rfl
            rw [upd_same, take_succ ez]
        · rintro H3 ⟨s3, hD3⟩
          have etk : (vrow yy).take (vrow x).length = vrow yy := by rw [List.take_of_length_le]; rw [vrow, vrow, List.length_map, List.length_map, lyy]; exact Nat.le_refl _
          rw [etk] at hD3
          refine ⟨D0, _, rfl, .inl ⟨SqL.of hD3, fun en hen => ?_⟩⟩
          have s4 := s3.trans (same_new (o := HO.tup (vrow yy)) hen)
          generalize hH4 : upd H3 en (.tup (vrow yy)) = H4
          have hen4 : H4 en = some (.tup (vrow yy)) := by rw [← hH4]; exact upd_same
          have s4' : Same H2 H4 := by rw [← hH4]; exact s4
          have b4 := b2.same s4'
          have sm4 := sm2.trans s4'
          have hax4 := s4' _ _ hax2
          have hsmall : F.length ≤ 1000 := bf.few few
          obtain ⟨_, pv', pl'⟩ := bf.pth i x rx hx
          have hil : i < F.length := (List.getElem?_eq_some_iff.mp hx).1
          refine ⟨_, rfl, _, rfl, d, _, rfl, DGet.t (k := kK yy) b4.hd (by rw [kK_v]; exact hen4), _, rfl, ?_⟩
          cases ev : valV kvs (kK yy) with
          | some v =>
            refine iteF ?_
            have hin : yy ∈ F.map (·.1) := by
              by_cases z : yy ∈ F.map (·.1)
              · exact z
              · rw [b4.none.mpr z] at ev; cases ev
            obtain ⟨e, he, e1⟩ := List.mem_map.mp hin
            obtain ⟨j2, hj2⟩ := List.getElem?_of_mem he
            exact ⟨F, kvs, as, _, _, _, rfl, sm4, b4, bf.more (j := j2) (k := e.1) (r := e.2) hx hj2 (by rw [hyy]; exact e1), hx, hax4⟩
          | none =>
            refine iteT ?_
            have hnin := b4.none.mp ev
            obtain ⟨ra, hv, hra⟩ := b4.look bf.nd hx
            refine ⟨_, rfl, _, rfl, d, .ref ra, rfl, by rw [← hv]; exact DGet.t b4.hd (by rw [kK_v]; exact hax4), _, rfl, (by show 1 ≤ sizeLine; decide), fun dt hdt => ?_⟩
            have s5 := same_new (o := HO.tup [V.int (j : Nat)]) hdt
            have bfn : Bf (actL ts) ts.length ss (F ++ [(yy, rx ++ [(j : Int)])]) i (j + 1) := by
              rw [← hyy]
              exact bf.put hx (by rw [hyy]; exact hnin) hjt
            have hx' : (F ++ [(yy, rx ++ [(j : Int)])])[i]? = some (x, rx) := by rw [List.getElem?_append_left hil]; exact hx
            -- whichever tuple stands for the row, the rest is the same
            have rest : ∀ (rb : Addr) (H6 : Hp), Same H4 H6 → H6 rb = some (.tup (vrow (rx ++ [(j : Int)]))) → DPut H6 d (.ref en) (.ref rb) (upd H6 d (.dT (putK kvs (kK yy) (.ref rb)))) ∧
                DQ (upd (upd H6 d (.dT (putK kvs (kK yy) (.ref rb)))) q0 (.lst (as.map V.ref ++ [.ref en]))) d q0 (F ++ [(yy, rx ++ [(j : Int)])]) (kvs ++ [(kK yy, .ref rb)]) (as ++ [en]) ∧ (upd H6 d (.dT (putK kvs (kK yy) (.ref rb)))) q0 = some (.lst (as.map V.ref)) ∧
                Same H (upd (upd H6 d (.dT (putK kvs (kK yy) (.ref rb)))) q0 (.lst (as.map V.ref ++ [.ref en]))) ∧ (upd (upd H6 d (.dT (putK kvs (kK yy) (.ref rb)))) q0 (.lst (as.map V.ref ++ [.ref en]))) a = some (.tup (vrow x)) := fun rb H6 s6 hrb => by
              have b6 := b4.same s6
              have hq6 := b6.hq
              have ndq : q0 ≠ d := ne_of hq6 b6.hd (by intro z; cases z)
              refine ⟨DPut.t b6.hd (by rw [kK_v]; exact s6 _ _ hen4) (by rw [b6.klen, sizeLine_eq]; omega), b6.put hnin (s6 _ _ hen4) hrb, by rw [upd_ne ndq]; exact hq6, fun c o e => ?_, ?_⟩
              · have hcq : c ≠ q0 := fun z => by rw [z, s1.free hq0] at e; cases e
                rw [upd_ne hcq, upd_ne (ne_of_none e nd0)]
                exact s6 _ _ (sm4 _ _ e)
              · have z := s6 _ _ hax4
                rw [upd_ne (ne_of z hq6 (by intro z; cases z)), upd_ne (ne_of z b6.hd (by intro z; cases z))]
                exact z
            have fin : (as.map V.ref).length < sizeLine := by
              rw [List.length_map, b4.ln, sizeLine_eq]; omega
            have hrl : (vrow rx).length ≤ 1000 := by rw [vrow, List.length_map]; omega
            refine ⟨ra, dt, vrow rx, [.int (j : Nat)], rfl, rfl, SqT.of (s5 _ _ hra), SqT.of upd_same, ?_, fun e => ?_, fun _ e => absurd e (by simp), fun _ _ pn hpn => ?_⟩
            · show (vrow rx).length + 1 ≤ sizeLine
              rw [sizeLine_eq]; omega
            · have e0 : rx = [] := by
                cases rx with
                | nil => rfl
                | cons z r => cases e
              subst e0
              obtain ⟨g1, g2, g3, g4, g5⟩ := rest dt _ s5 upd_same
              refine ⟨_, rfl, _, rfl, d, _, rfl, g1, ?_⟩
              refine ⟨_, rfl, .inl ⟨rfl, _, SqL.of g3⟩, _, rfl, q0, _, _, rfl, rfl, g3, fin, ?_⟩
              exact ⟨_, _, _, _, _, _, rfl, g4, g2, bfn, hx', g5⟩
            · have s6 := s5.trans (same_new (o := HO.tup (vrow rx ++ [V.int (j : Nat)])) hpn)
              obtain ⟨g1, g2, g3, g4, g5⟩ := rest pn _ s6 (by rw [upd_same, vrow, vrow, List.map_append]; rfl)
              refine ⟨_, rfl, _, rfl, d, _, rfl, g1, ?_⟩
              refine ⟨_, rfl, .inl ⟨rfl, _, SqL.of g3⟩, _, rfl, q0, _, _, rfl, rfl, g3, fin, ?_⟩
              exact ⟨_, _, _, _, _, _, rfl, g4, g2, bfn, hx', g5⟩
      · rintro σ H' ⟨F, kvs, as, v6, v7, v8, rfl, sm, b, bf, hx, hax⟩
        have hil : i < F.length := (List.getElem?_eq_some_iff.mp hx).1
        have hsmall : F.length ≤ 1000 := bf.few few
        rw [List.length_map, ltas] at bf
        refine ⟨_, rfl, _, rfl, iteN rfl (iteF ⟨_, rfl, _, _, rfl, rfl, ?_⟩)⟩
        refine ⟨⟨i + 1, F, kvs, as, some (.ref a), v6, v7, v8, ?_, sm, b, bf.next, by omega⟩, ?_⟩
        · have z : ((i + 1 : Nat) : Int) = (i : Int) + 1 := by omega
          rw [z]; rfl
        · show 1000 - ((i : Int) + 1).toNat < 1000 - (i : Int).toNat
          omega
    · have hge : F.length ≤ i := by
        have z : ¬ ((i : Int) < ((as.map V.ref).length : Int)) := of_decide_eq_false ec
        rw [List.length_map, b.ln] at z
        omega
      exact ⟨_, rfl, q d F H' sm nd0 ⟨kvs, b.hd, b.ky, b.vl⟩ (bf.done hge) (bf.few few)⟩
theorem pcF {X : Cx} {CX : CXT} {k : Nat} {f : Addr} {fd : FuncData} {sp : Sp} {E : XK} {p pos : Pos} {e : Expr} {es : List Expr} {t : TA} {ds : List Value} (D : DfF X.K X.mg f fd) (G : FnOk X.prog X.w X.K X.mg X.base CX k f fd ["machine", "states", "out", "most"] sp) (hr : Room k X.A) (hx : Passes CX X E) (ha : PA X (e :: es) t)
    (hv : Vals [.non, .non] ds) (hb : Binds X.K fd ["machine", "states", "out", "most"] ds) (hg : Gl X "first_rows" := by rfl)
    (hdb : (("first_rows" : Str) == ("__debug__" : Str)) = false := by decide) (he : starEach (e :: es) X.env = (false, eval e X.env) :: starEach es X.env := by rfl) (hpl : (backTo pos (starEach es X.env)).any (·.1) = false := by rfl) :
    PE X (.Call (.Name "first_rows" p) (e :: es) [] pos) (tCall sp [.non, .non] E t) := pe_call G hr hg D.g D.F.kp hb hv hx ha hdb he hpl
end
end K1
namespace K1
open PySem PySem.Spec PyProof.Rows L2
noncomputable abbrev uF (x y z : V) : List (Str × V) := [("there", z), ("here", y), ("archive", x)]
noncomputable def spUInit (K : PySem.W.Frag) (C : Addr) : Sp := fun vs H Q _ => ∃ a x y z, vs = [.ref a, x, y, z] ∧ OexC K C ∧ H a = some (exo a C none) ∧
  ∀ d H', (∀ c o, H c = some o → c ≠ a → H' c = some o) → H d = none → d ≠ a → H' a = some (exo a C (some d)) → H' d = some (exd d (uF x y z)) → Q .non H'
section
variable {P : Program} {w : World} {K : PySem.W.Frag} {mg : Str → Option Value} {base : Heap}
theorem scUI : FnScope ["self", "archive", "here", "there"] ["self", "archive", "here", "there"] (defScope sUInit) := ⟨rfl, rfl, rfl, by decide +kernel, rfl, by decide +kernel, by decide +kernel⟩
structure UnC (K : PySem.W.Frag) (mg : Str → Option Value) (C : Addr) : Prop where
  x : OexC K C
  n1 : PySem.W.findIn K (.ref C) "archive" = some none
  n2 : PySem.W.findIn K (.ref C) "here" = some none
  n3 : PySem.W.findIn K (.ref C) "there" = some none
  f : XfC K C
  g : mg "Untold" = some (.ref C)
theorem ok_uinit {f C : Addr} {fd : FuncData} (F : Fun K "__init__" "Untold.__init__" sUInit f fd) (U : UnC K mg C) : FnOk P w K mg base CX0 1 f fd ["self", "archive", "here", "there"] (spUInit K C) := by
  refine F.ok scUI (fun vs H Q E h => ?_) (fun cdv A outer s H vs Q E hr h => ?_)
  · obtain ⟨a, x, y, z, rfl, _⟩ := h
    rfl
  · obtain ⟨a, x, y, z, rfl, hx, ha, q⟩ := h
    refine ⟨_, pss_cons (ps_ost (pv 0) (pv 1)) (pss_cons (ps_ost (pv 0) (pv 2)) (pss_one (ps_ost (pv 0) (pv 3)))), ?_⟩
    refine ⟨_, rfl, _, rfl, a, C, rfl, hx, U.n1, .inl ⟨ha, fun d hd ne => ?_⟩⟩
    refine ⟨_, rfl, _, rfl, a, C, rfl, hx, U.n2, .inr ⟨d, _, upd_same, by rw [upd_ne ne, upd_same], by show 1 ≤ 900; decide, ?_⟩⟩
    refine ⟨_, rfl, _, rfl, a, C, rfl, hx, U.n3, .inr ⟨d, _, by rw [upd_ne ne.symm, upd_same], upd_same, by show 2 ≤ 900; decide, ?_⟩⟩
    refine q d _ (fun c o e n => ?_) hd ne (by rw [upd_ne ne.symm, upd_ne ne.symm, upd_same]) upd_same
    have ncd := ne_of_none e hd
    rw [upd_ne ncd, upd_ne ncd, upd_ne n, upd_ne ncd]
    exact e
noncomputable def RzU (CU : Addr) (x a b : Int) (H : Hp) (E : XK) : Prop := ∀ d H', Same H H' → H d = none → H' d = some (.xd (uF (.int x) (.int a) (.int b))) → E (.ref CU) (some d) H'
end
end K1
namespace K1
open PySem PySem.Spec PyProof.Rows L2
section
variable {X : Cx} {pins : List (Addr × Obj)} {σ : L2.St} {H : Hp} {s : Shared} {d : Addr} {o : Obj}
end
section
variable {P : Program} {w : World} {K : PySem.W.Frag} {d : Addr} {o : Obj} {es : Array DictEntry} {ep : Nat}
end
end K1
namespace K1
open PySem PySem.Spec PyProof.Rows L2
theorem belowB_int {v : V} {n : Nat} (h : belowB v (n : Int) = true) : ∃ i : Int, v = .int i ∧ 0 ≤ i ∧ i < (n : Int) := by
  cases v with
  | int i =>
    have z : (decide (0 ≤ i) && decide (i < (n : Int))) = true := h
    rw [Bool.and_eq_true, decide_eq_true_eq, decide_eq_true_eq] at z
    exact ⟨i, rfl, z⟩
  | _ => cases h
theorem belowI {i : Int} {n : Nat} (h : 0 ≤ i ∧ i < (n : Int)) : belowB (.int i) (n : Int) = true := by
  show (decide (0 ≤ i) && decide (i < (n : Int))) = true
  rw [decide_eq_true h.1, decide_eq_true h.2]; rfl
noncomputable def FstBad (n : Nat) (xs : List V) (v : V) : Prop := ∃ i : Nat, xs[i]? = some v ∧ belowB v (n : Int) = false ∧ ∀ (j : Nat) y, j < i → xs[j]? = some y → belowB y (n : Int) = true
noncomputable def spNeedSs (M CS : Addr) : Sp := fun vs H Q E => ∃ m ta ts p xs, vs = [.ref m, .ref p] ∧ MachAt M H m ta (vts ts) ∧ H p = some (.tup xs) ∧ (∀ x ∈ xs, ∃ (K : PySem.W.Frag) (o : Option (List V)), KV K H x o) ∧
  (∀ v, FstBad (nS ts) xs v → Rz CS "state" v H E) ∧ ((∀ x ∈ xs, belowB x (nS ts : Int) = true) → Q .non H)
theorem nodup_of {α β : Type} {l : List α} {f : α → β} (h : (l.map f).Nodup) : l.Pairwise fun a b => f a ≠ f b := List.pairwise_map.mp h
theorem pair_few {ts : Ts} (w : Wf ts) {a h : Int} (ha : 0 ≤ a ∧ a < (nS ts : Int)) (hh : 0 ≤ h ∧ h < (nS ts : Int)) : FewK ts [a, h] := fun F nd hF => by
  have form : ∀ e ∈ F, ∃ x y : Int, e.1 = [x, y] ∧ 0 ≤ x ∧ x < 12 ∧ 0 ≤ y ∧ y < 12 := fun e he => by
    obtain ⟨r, hr, e1⟩ := hF e he
    have h1 := w.run r a hr ha
    have h2 := w.run r h hr hh
    have := w.s12
    rw [path_run] at e1
    exact ⟨run ts a r, run ts h r, e1, by omega, by omega, by omega, by omega⟩
  have nd2 : (F.map fun e => e.1.getD 0 0 * 12 + e.1.getD 1 0).Nodup := by
    refine List.pairwise_map.mpr (List.Pairwise.imp_of_mem (fun {e e'} he he' ne z => ?_) (nodup_of nd))
    obtain ⟨x, y, e1, _⟩ := form e he
    obtain ⟨x', y', e2, _⟩ := form e' he'
    rw [e1, e2] at z
    have z' : x * 12 + y = x' * 12 + y' := z
    obtain ⟨rfl, rfl⟩ : x = x' ∧ y = y' := by omega
    exact ne (e1.trans e2.symm)
  have := nodup_le 144 _ nd2 fun z hz => by
    obtain ⟨e, he, rfl⟩ := List.mem_map.mp hz
    obtain ⟨x, y, e1, _⟩ := form e he
    rw [e1]
    show 0 ≤ x * 12 + y ∧ x * 12 + y < ((144 : Nat) : Int)
    omega
  rw [List.length_map] at this
  omega
noncomputable def onT (F : List KR) (t : Int) : List KR := F.filter fun e => decide (e.1.getD 0 0 = t)
noncomputable def endsOf (F : List KR) (t : Int) : List Int := (onT F t).map fun e => e.1.getD 1 0
theorem onT_snoc {F : List KR} {t : Int} {i : Nat} {e : KR} (h : F[i]? = some e) : onT (F.take (i + 1)) t = onT (F.take i) t ++ (if e.1.getD 0 0 = t then [e] else []) := by
  rw [take_succ h, onT, List.filter_append]
  show _ = onT (F.take i) t ++ _
  unfold onT
  by_cases z : e.1.getD 0 0 = t
  · rw [if_pos z, List.filter_cons, if_pos (decide_eq_true z), List.filter_nil]
  · rw [if_neg z, List.filter_cons, if_neg (by simpa using z), List.filter_nil]
theorem onT_len (F : List KR) (t : Int) (i : Nat) : (onT (F.take i) t).length ≤ F.length := by
  refine Nat.le_trans (List.length_filter_le _ _) ?_
  rw [List.length_take]; omega
noncomputable def spJoined (M CU : Addr) : Sp := fun vs H Q E => ∃ m ta ts a h t, vs = [.ref m, .int a, .int h, .int t] ∧ MachAt M H m ta (vts ts) ∧ Wf ts ∧ (0 ≤ a ∧ a < (nS ts : Int)) ∧ (0 ≤ h ∧ h < (nS ts : Int)) ∧
  ∀ F H', Same H H' → Fst (actL ts) ts.length [a, h] F → (∀ e, endsOf F t = [e] → Q (.int e) H') ∧ ((endsOf F t).length ≠ 1 → RzU CU a h t H' E)
noncomputable def spJoin (M CS CU : Addr) : Sp := fun vs H Q E => ∃ m ta ts v1 v2 v3, vs = [.ref m, v1, v2, v3] ∧ MachAt M H m ta (vts ts) ∧ Wf ts ∧ (∀ x ∈ [v1, v2, v3], ∃ (K : PySem.W.Frag) (o : Option (List V)), KV K H x o) ∧ (∀ v H', Same H H' → FstBad (nS ts) [v1, v2, v3] v → Rz CS "state" v H' E) ∧
  (∀ a h t, v1 = .int a → v2 = .int h → v3 = .int t → (0 ≤ a ∧ a < (nS ts : Int)) → (0 ≤ h ∧ h < (nS ts : Int)) → (0 ≤ t ∧ t < (nS ts : Int)) → ∀ F H', Same H H' → Fst (actL ts) ts.length [a, h] F → (∀ e, endsOf F t = [e] → Q (.int e) H') ∧ ((endsOf F t).length ≠ 1 → RzU CU a h t H' E))
section
variable {P : Program} {w : World} {K : PySem.W.Frag} {mg : Str → Option Value} {base : Heap}
theorem scNSs : FnScope ["machine", "states", "state"] ["machine", "states"] (defScope sNeedSs) := ⟨rfl, rfl, rfl, by decide +kernel, rfl, by decide +kernel, by decide +kernel⟩
theorem ok_needSs {f fN CS M : Addr} {fd fdN : FuncData} (D : Df K mg "need_states" sNeedSs ["machine", "states"] f fd) (DN : Df K mg "need_state" sNeedS ["machine", "state"] fN fdN)
    (GN : FnOk P w K mg base (L2.CX P w) 3 fN fdN ["machine", "state"] (spNeed M CS "state" nS)) : FnOk P w K mg base (L2.CX P w) 4 f fd ["machine", "states"] (spNeedSs M CS) := by
  refine D.F.okX scNSs (fun vs H Q E h => ?_) (fun cdv A outer s H vs Q E hr h => ?_)
  · obtain ⟨m, ta, ts, p, xs, rfl, _⟩ := h
    rfl
  · obtain ⟨m, ta, ts, p, xs, rfl, hM, hp, kv, qb, qg⟩ := h
    refine ⟨_, pss_one (ps_for (passes_of rfl) rfl (pi_tup (pv 1)) (pg_name (i := 2) scNSs.nd rfl (.inl rfl)) (pss_one (ps_expr (pc DN GN hr (pass1 (takes_of rfl rfl rfl rfl)) (pa_cons (pv 0) (pa_cons (pv 2) pa_nil)))))), ?_⟩
    refine ⟨_, rfl, p, rfl, ⟨_, SqT.of hp⟩, for_tup (K := K) (a := p) (xs := xs) (fun i σ H' => ∃ v2, σ = [some (.ref m), some (.ref p), v2] ∧ H' = H ∧ ∀ (j : Nat) y, j < i → xs[j]? = some y → belowB y (nS ts : Int) = true) ⟨none, rfl, rfl, fun j y hj => absurd hj (Nat.not_lt_zero _)⟩ (fun i σ H' _ ⟨_, _, e, _⟩ => e ▸ SqT.of hp) ?_ ?_⟩
    · rintro i x σ H' hx ⟨v2, rfl, rfl, ok⟩
      refine ⟨_, rfl, _, rfl, m, ta, ts, x, rfl, hM, kv x (List.mem_of_getElem? hx), fun e => ?_, fun e => qb x ⟨i, hx, e, ok⟩⟩
      refine ⟨_, rfl, rfl, fun j y hj hy => ?_⟩
      rcases Nat.lt_succ_iff_lt_or_eq.mp hj with z | z
      · exact ok j y z hy
      · subst z
        rw [hx] at hy
        rw [← Option.some.inj hy]; exact e
    · rintro σ H' ⟨v2, rfl, rfl, ok⟩
      refine qg fun x hx => ?_
      obtain ⟨j, hj⟩ := List.getElem?_of_mem hx
      exact ok j x (List.getElem?_eq_some_iff.mp hj).1 hj
noncomputable abbrev nJd : List Str := ["machine", "archive", "here", "there", "ends", "at", "end"]
theorem scJd : FnScope nJd ["machine", "archive", "here", "there"] (defScope sJoined) := ⟨rfl, rfl, rfl, by decide +kernel, rfl, by decide +kernel, by decide +kernel⟩
noncomputable abbrev gPair (i j : Nat) (K : PySem.W.Frag) : TG := gTup K 2 (gCons (gName i) (gCons (gName j) gNil))
theorem ok_joined {f fF fI CU M : Addr} {fd fdF fdI : FuncData} (D : Df K mg "joined" sJoined ["machine", "archive", "here", "there"] f fd) (DF : DfF K mg fF fdF) (U : UnC K mg CU) (B : Bt mg)
    (iC : PySem.W.findIn K (.ref CU) "__init__" = some (some (.ref fI))) (tI : PySem.W.typeIn K (.ref fI) = some (.type "function")) (bI : Binds K fdI ["self", "archive", "here", "there"] [])
    (GI : FnOk P w K mg base CX0 1 fI fdI ["self", "archive", "here", "there"] (spUInit K CU)) (GF : FnOk P w K mg base CX0 1 fF fdF ["machine", "states", "out", "most"] (spFirst M)) :
    FnOk P w K mg base (L2.CX P w) 4 f fd ["machine", "archive", "here", "there"] (spJoined M CU) := by
  refine D.F.okX scJd (fun vs H Q E h => ?_) (fun cdv A outer s H vs Q E hr h => ?_)
  · obtain ⟨m, ta, ts, a, h, t, rfl, _⟩ := h
    rfl
  · obtain ⟨m, ta, ts, a, h, t, rfl, hM, hW, ha, hh, q⟩ := h
    obtain ⟨ds, vd, bd⟩ := DF.b
    refine ⟨_, pss_cons (ps_setLc (i := 4) (own := [("at", 5), ("end", 6)]) (g := gPair 5 6 K) rfl scJd.nd rfl rfl (sw_true rfl rfl rfl rfl) (pi_keysF (pcF DF GF (hr.mono (by decide)) pass0 (pa_cons (pv 0) (pa_cons (pe_tup (pa_cons (pv 1) (pa_cons (pv 2) pa_nil))) pa_nil)) vd bd)) (blkOk_by (N := nJd) (sc := defScope sJoined) (by decide +kernel))
          (fun _ _ _ _ _ => pg_tup rfl (pgs_cons (pg_name (i := 5) scJd.nd rfl (Or.inl rfl)) (pgs_cons (pg_name (i := 6) scJd.nd rfl (Or.inl rfl)) pgs_nil))) (fun _ _ _ _ _ => pts_one (pt_cmpR op_eq (pv 5) (pv 3) (nomark _))) (fun _ _ _ _ _ => pv 6))
      (pss_cons (ps_if (pt_cmpR op_ne (pe_callB call_len_seq (by rfl) B.len PySem.boot_len (pa_cons (pv 4) pa_nil)) pe_int (nomark _)) (pss_one (ps_raise rfl (takes_of rfl rfl rfl rfl) (pmk_oex (CX := CX0) U.x iC tI GI (hr.mono (show 2 ≤ 3 by decide)) bI .nil (fun _ _ _ _ _ _ _ h => h.elim) (by rfl) U.g (pa_cons (pv 1) (pa_cons (pv 2) (pa_cons (pv 3) pa_nil)))))) pss_nil)
      (pss_one (ps_ret (pe_ix ix_list (pv 4) pe_int (fun _ _ => rfl))))), ?_⟩
    refine ⟨_, rfl, _, rfl, _, rfl, (by show 2 ≤ sizeLine; decide), fun p hp => ?_⟩
    have s1 := same_new (o := HO.tup [V.int a, .int h]) hp
    have hss : ∀ s ∈ [a, h], 0 ≤ s ∧ s < (nS ts : Int) := fun s hs => by
      simp only [List.mem_cons, List.mem_nil_iff, or_false] at hs
      rcases hs with rfl | rfl <;> assumption
    refine ⟨m, ta, ts, [a, h], p, rfl, hM.same s1, hW, hss, (by show 2 ≤ 12; decide), upd_same, pair_few hW ha hh, fun d F H2 s2 hd ⟨kvs, hd2, ky, vl⟩ hF hf => ?_⟩
    have s12 := s1.trans s2
    have hd0 : H d = none := s1.free hd
    have lk : kvs.length = F.length := by simpa using congrArg List.length ky
    refine ⟨d, kvs, rfl, hd2, fun od D0 hD0 => ?_⟩
    have ndD : d ≠ D0 := fun z => by rw [← z, upd_same] at hD0; cases hD0
    have hD2 : H2 D0 = none := by rw [upd_ne ndD.symm] at hD0; exact hD0
    generalize hH3 : upd H2 d (.frz od (.dT kvs)) = H3
    have hd3 : H3 d = some (.frz od (.dT kvs)) := by rw [← hH3, upd_same]
    have s3 : Same H H3 := fun c o e => by
      rw [← hH3, upd_ne (ne_of_none e hd0)]
      exact s12 _ _ e
    have hD3 : H3 D0 = none := by rw [← hH3, upd_ne ndD.symm]; exact hD2
    refine lc_keysF (fun i H' => Same H3 H' ∧ H' D0 = some (.lst ((endsOf (F.take i) t).map V.int))) ⟨same_new hD3, upd_same⟩ (fun i H' _ ⟨s4, _⟩ => s4 _ _ hd3) ?_ ?_
    · rintro i k v qk H' hk hqk ⟨s4, hD4⟩
      obtain ⟨e, he, rfl⟩ : ∃ e, F[i]? = some e ∧ k = kK e.1 := by
        have z : (kvs.map (·.1))[i]? = some k := by rw [List.getElem?_map, hk]; rfl
        rw [ky, List.getElem?_map] at z
        cases e : F[i]? with
        | none => rw [e] at z; cases z
        | some x => rw [e] at z; exact ⟨x, rfl, (Option.some.inj z).symm⟩
      obtain ⟨pe, pv1, _⟩ := hF.pth i e.1 e.2 he
      rw [path_run] at pe
      have pe' : e.1 = [run ts a e.2, run ts h e.2] := pe
      rw [kK_v, pe'] at hqk
      refine ⟨qk, _, rfl, SqT.of hqk, rfl, _, _, rfl, _, _, rfl, rfl, ?_⟩
      refine ⟨rfl, _, rfl, _, rfl, rfl, _, rfl, ?_⟩
      have hon : e.1.getD 0 0 = run ts a e.2 := by rw [pe']; rfl
      have hen : e.1.getD 1 0 = run ts h e.2 := by rw [pe']; rfl
      have snoc := onT_snoc (t := t) he
      refine ifD (fun c => ?_) fun c => ?_
      · have c' : run ts a e.2 = t := by
          have := of_decide_eq_true c
          injection this
        rw [hon, if_pos c'] at snoc
        refine ⟨_, rfl, _, hD4, ?_, ?_, ?_⟩
        · rw [List.length_map, endsOf, List.length_map, sizeLine_eq]
          have := onT_len F t i
          omega
        · intro c o e
          rw [upd_ne (ne_of_none e hD3)]
          exact s4 _ _ e
        · rw [upd_same, endsOf, endsOf, snoc, List.map_append, List.map_append]
          show _ = some (HO.lst (_ ++ [V.int (e.1.getD 1 0)]))
          rw [hen]
      · have c' : run ts a e.2 ≠ t := fun z => by
          have := of_decide_eq_false c
          exact this (by rw [z])
        rw [hon, if_neg c', List.append_nil] at snoc
        refine ⟨s4, ?_⟩
        rw [endsOf, snoc]
        exact hD4
    · rintro H4 ⟨s4, hD4⟩
      rw [lk, List.take_length] at hD4
      obtain ⟨q1, q2⟩ := q F H4 (s3.trans s4) hF
      refine ⟨_, rfl, _, _, rfl, .inl (SqL.of hD4), rfl, _, rfl, ifD (fun c => ?_) fun c => ?_⟩
      · have c' : (endsOf F t).length ≠ 1 := fun z => by
          rw [List.length_map, z] at c
          cases c
        refine ⟨_, rfl, _, rfl, _, rfl, by show 3 ≤ 1000; decide, fun ea hea => ⟨ea, .int a, .int h, .int t, rfl, U.x, upd_same, fun d H5 k2 hd ne hea2 hd2 => ⟨rfl, d, _, hea2, hd2, ?_, ?_⟩⟩⟩
        · rw [upd_ne ne] at hd; exact hd
        · refine q2 c' d _ (fun c o e => ?_) (by rw [upd_ne ne] at hd; exact hd) upd_same
          have nce := ne_of_none e hea
          have ncd : c ≠ d := fun z => by rw [z] at e; rw [upd_ne ne, e] at hd; cases hd
          rw [upd_ne ncd]
          unfold L2.del
          rw [if_neg nce]
          exact k2 c o (by rw [upd_ne nce]; exact e) nce
      · obtain ⟨e, he⟩ : ∃ e, endsOf F t = [e] := by
          match hx : endsOf F t with
          | [] => rw [hx] at c; cases c
          | [e] => exact ⟨e, rfl⟩
          | a :: b :: r =>
            rw [hx] at c
            have z := of_decide_eq_true (show decide (V.int ((((a :: b :: r).map V.int).length : Nat) : Int) = V.int 1) = true by
              have := c
              simpa using this)
            injection z with z
            simp only [List.length_map, List.length_cons] at z
            omega
        rw [he] at hD4
        exact ⟨_, rfl, D0, _, 0, _, rfl, rfl, SqL.of hD4, atI_nat (j := 0) rfl, q1 e he⟩
end
end K1
namespace K1
open PySem PySem.Spec PyProof.Rows L2
section
variable {P : Program} {w : World} {K : PySem.W.Frag} {mg : Str → Option Value} {base : Heap}
theorem scJn : FnScope ["machine", "archive", "here", "there"] ["machine", "archive", "here", "there"] (defScope sJoin) := ⟨rfl, rfl, rfl, by decide +kernel, rfl, by decide +kernel, by decide +kernel⟩
theorem ok_join {f fN fJ CS CU M : Addr} {fd fdN fdJ : FuncData} (D : Df K mg "join" sJoin ["machine", "archive", "here", "there"] f fd) (DN : Df K mg "need_states" sNeedSs ["machine", "states"] fN fdN) (DJ : Df K mg "joined" sJoined ["machine", "archive", "here", "there"] fJ fdJ)
    (GN : FnOk P w K mg base (L2.CX P w) 4 fN fdN ["machine", "states"] (spNeedSs M CS)) (GJ : FnOk P w K mg base (L2.CX P w) 4 fJ fdJ ["machine", "archive", "here", "there"] (spJoined M CU)) : FnOk P w K mg base (L2.CX P w) 5 f fd ["machine", "archive", "here", "there"] (spJoin M CS CU) := by
  refine D.F.okX scJn (fun vs H Q E h => ?_) (fun cdv A outer s H vs Q E hr h => ?_)
  · obtain ⟨m, ta, ts, v1, v2, v3, rfl, _⟩ := h
    rfl
  · obtain ⟨m, ta, ts, v1, v2, v3, rfl, hM, hW, kv, qb, qg⟩ := h
    refine ⟨_, pss_cons (ps_expr (pc DN GN hr (pass1 (takes_of rfl rfl rfl rfl)) (pa_cons (pv 0) (pa_cons (pe_tup (pa_cons (pv 1) (pa_cons (pv 2) (pa_cons (pv 3) pa_nil)))) pa_nil))))
      (pss_one (ps_ret (pc DJ GJ hr (pass1 (takes_of rfl rfl rfl rfl)) (pa_cons (pv 0) (pa_cons (pv 1) (pa_cons (pv 2) (pa_cons (pv 3) pa_nil))))))), ?_⟩
    refine ⟨_, rfl, _, rfl, _, rfl, _, rfl, (by show 3 ≤ sizeLine; decide), fun p hp => ?_⟩
    have s1 := same_new (o := HO.tup [v1, v2, v3]) hp
    refine ⟨m, ta, ts, p, _, rfl, hM.same s1, upd_same, fun x hx => ?_, fun v hv => qb v _ s1 hv, fun ok => ?_⟩
    · obtain ⟨K', o, z⟩ := kv x hx
      exact ⟨K', o, z.same s1⟩
    · obtain ⟨a, rfl, ha⟩ := belowB_int (ok v1 (by simp))
      obtain ⟨h, rfl, hh⟩ := belowB_int (ok v2 (by simp))
      obtain ⟨t, rfl, ht⟩ := belowB_int (ok v3 (by simp))
      exact ⟨_, rfl, _, rfl, _, rfl, _, rfl, m, ta, ts, a, h, t, rfl, hM.same s1, hW, ha, hh, fun F H' s2 hF => qg a h t rfl rfl rfl ha hh ht F H' (s1.trans s2) hF⟩
end
end K1
namespace K1
open PySem PySem.Spec PyProof.Rows L2
theorem seqG {t u : TS} {D : Ends} {σ : L2.St} {H : Hp} (G : L2.St → Hp → Prop) (hu : ∀ σ H, G σ H → u D σ H) (ht : (∀ σ H, G σ H → u D σ H) → t { D with nx := u D } σ H) : tSeq t u D σ H := ht hu
theorem gn {i : Nat} {x : V} {σ : L2.St} {H : Hp} {Q : L2.St → Hp → Prop} (h : Q (σ.set i (some x)) H) : gName i x σ H Q := h
theorem nxP {D : Ends} {σ : L2.St} {H : Hp} (h : D.nx σ H) : tNext D σ H := h
theorem nilP {σ : L2.St} {H : Hp} {Q : List V → Hp → Prop} (h : Q [] H) : tNil σ H Q := h
theorem cP {v : V} {σ : L2.St} {H : Hp} {Q : VK} (h : Q v H) : tC v σ H Q := h
theorem noP {σ : L2.St} {H : Hp} {Q : Option Int → Hp → Prop} (h : Q none H) : tNoPart σ H Q := h
theorem iteY {c : Bool} {A B : Prop} (e : c = true) (h : A) : if c = true then A else B := by subst e; exact iteT h
theorem eqVV {x : V} {Q : VK} {H : Hp} (hs : scal x x = true) (q : Q (.bl true) H) : rEq x x H Q := ⟨hs, qbl (by rw [decide_eq_true rfl]) q⟩
theorem ex_at {α : Type} {l : List α} {i : Nat} (h : i < l.length) : ∃ x, l[i]? = some x := ⟨l[i], List.getElem?_eq_getElem h⟩
theorem lt_at {α : Type} {l : List α} {i : Nat} {x : α} (h : l[i]? = some x) : i < l.length := (List.getElem?_eq_some_iff.mp h).1
theorem map_at {α β : Type} {f : α → β} {l : List α} {i : Nat} {x : α} (h : l[i]? = some x) : (l.map f)[i]? = some (f x) := by rw [List.getElem?_map, h]; rfl
theorem at_map {α β : Type} {f : α → β} {l : List α} {i : Nat} {y : β} (h : (l.map f)[i]? = some y) : ∃ x, l[i]? = some x ∧ y = f x := by
  rw [List.getElem?_map] at h
  cases e : l[i]? with
  | none => rw [e] at h; cases h
  | some x => rw [e] at h; exact ⟨x, rfl, (Option.some.inj h).symm⟩
theorem at_i {xs : List V} {i : Nat} {x : V} (h : xs[i]? = some x) : atI xs (i : Int) = some x := at_of (j := i) rfl h
theorem sz {n : Nat} (h : n ≤ 16777216) : n ≤ sizeLine := by rw [sizeLine_eq]; exact h
theorem szl {n : Nat} (h : n < 16777216) : n < sizeLine := by rw [sizeLine_eq]; exact h
section
variable {X : Cx} {K : PySem.W.Frag}
theorem neD (h : X.K = K) (hu : X.A.units + 64 < cLine) : OpR X (compareOp .NotEq) (rNeD K) := by subst h; exact op_neD hu
theorem eqD (h : X.K = K) (hu : X.A.units + 64 < cLine) : OpR X (compareOp .Eq) (rEqD K) := by subst h; exact op_eqD hu
noncomputable def rLenK (K : PySem.W.Frag) : List V → Hp → VK → Prop := fun xs H Q => ∃ p ys, xs = [.ref p] ∧ (SqL K H p ys ∨ SqT K H p ys) ∧ Q (.int (ys.length : Int)) H
theorem opInK (h : X.K = K) : OpR X (compareOp .In) (rIn K false) := by subst h; exact op_in_seq
theorem opCatA (h : X.K = K) : OpR X (binaryOp .Add) (rCatA K) := by subst h; exact op_catA
theorem pe_fldK {e : Expr} {f : Str} {te : TE} {pos : Pos} (h : X.K = K) (he : PE X e te) (hb : attributeBase e f X.env (eval e X.env) = eval e X.env) : PE X (.Attribute e f pos) (tFld K te f) := by subst h; exact pe_fld he hb
end
theorem cut_to {xs : List V} {k : Nat} (h : k ≤ xs.length) : cutV xs none (some (k : Int)) = xs.take k := by
  unfold cutV
  rw [HT.sIx_nat, HT.sIx_none, Nat.min_eq_left h]; rfl
theorem cut_from {xs : List V} {k : Nat} (h : k ≤ xs.length) : cutV xs (some (k : Int)) none = xs.drop k := by
  unfold cutV
  rw [HT.sIx_nat, HT.sIx_none, Nat.min_eq_left h, ← List.length_drop, List.take_length]
theorem catA_by {K : PySem.W.Frag} {H : Hp} {Q : VK} {a b : Addr} {xs ys : List V} (ha : H a = some (.tup xs)) (hb : H b = some (.tup ys)) (hl : xs.length + ys.length ≤ sizeLine) (q : ∀ p H', Same H H' → H' p = some (.tup (xs ++ ys)) → Q (.ref p) H') : rCatA K (.ref a) (.ref b) H Q := by
  refine ⟨a, b, xs, ys, rfl, rfl, SqT.of ha, SqT.of hb, hl, fun e => ?_, fun _ e => ?_, fun _ _ p hp => q p _ (K1.same_new hp) upd_same⟩
  · subst e
    exact q b H (fun _ _ e => e) hb
  · subst e
    exact q a H (fun _ _ e => e) (by rw [List.append_nil]; exact ha)
theorem slA_by {K : PySem.W.Frag} {H : Hp} {Q : VK} {a : Addr} {xs : List V} {lo hi : Option Int} (ha : H a = some (.tup xs)) (q : ∀ p H', Same H H' → H' p = some (.tup (cutV xs lo hi)) → Q (.ref p) H') : rSlA K (.ref a) lo hi H Q := by
  refine ⟨a, xs, rfl, SqT.of ha, fun e => ?_, fun _ p hp => q p _ (K1.same_new hp) upd_same⟩
  refine q a H (fun _ _ e => e) ?_
  rw [ha]
  unfold cutV
  rw [e.1, e.2, List.drop_zero, Nat.sub_zero, List.take_length]
theorem vrow_set (t : List Int) (i : Nat) (x : Int) : vrow (t.set i x) = (vrow t).set i (.int x) := by unfold vrow; rw [List.map_set]
theorem vrow_len (t : List Int) : (vrow t).length = t.length := List.length_map _
theorem vrow_at {t : List Int} {i : Nat} {v : V} (h : (vrow t)[i]? = some v) : ∃ x, t[i]? = some x ∧ v = .int x := at_map h
theorem vrow_get {t : List Int} {i : Nat} (h : i < t.length) : (vrow t)[i]? = some (V.int (t.getD i 0)) := by
  rw [vrow, List.getElem?_map, List.getD_eq_getElem?_getD, List.getElem?_eq_getElem h]; rfl
theorem neDP {K : PySem.W.Frag} {x y : V} {d : PyData} {n w : Nat} {H : Hp} {Q : VK} (h1 : Dp K H x d) (h2 : Dp K H y d) (pl : Pl d n w) (hn : n ≤ 40) (q : Q (.bl false) H) : rNeD K x y H Q := ⟨d, d, h1, h2, pl.shaped hn, pl.shaped hn, qbl (by rw [SeqAt.eqv_refl _ pl.lay]; rfl) q⟩
theorem eqDP {K : PySem.W.Frag} {x y : V} {d : PyData} {n w : Nat} {H : Hp} {Q : VK} (h1 : Dp K H x d) (h2 : Dp K H y d) (pl : Pl d n w) (hn : n ≤ 40) (q : Q (.bl true) H) : rEqD K x y H Q := ⟨d, d, h1, h2, pl.shaped hn, pl.shaped hn, qbl (SeqAt.eqv_refl _ pl.lay) q⟩
noncomputable def Ks (xs : List Addr) (H H' : Hp) : Prop := ∀ c o, H c = some o → c ∉ xs → (∀ ps, o ≠ .tbl ps) → H' c = some o
section
variable {xs ys : List Addr} {H H1 H2 : Hp}
theorem Ks.trans (a : Ks xs H H1) (b : Ks xs H1 H2) : Ks xs H H2 := fun c o e n1 n2 => b c o (a c o e n1 n2) n1 n2
theorem Ks.tup {c : Addr} {vs : List V} (a : Ks xs H H1) (h : H c = some (.tup vs)) (n : c ∉ xs) : H1 c = some (.tup vs) := a c _ h n fun ps z => by cases z
end
end K1
namespace K1
open PySem PySem.Spec PyProof.Rows L2
noncomputable def spRepl : Sp := fun vs H Q _ => ∃ (p : Addr) (xs : List V) (i : Nat) (v : V), vs = [.ref p, .int (i : Int), v] ∧ H p = some (.tup xs) ∧ i < xs.length ∧ xs.length ≤ 1000 ∧ ∀ q H', Same H H' → H' q = some (.tup (xs.set i v)) → Q (.ref q) H'
noncomputable abbrev Prs := List (Nat × Nat)
noncomputable def pV (p : Nat × Nat) : List V := [.int (p.1 : Int), .int (p.2 : Int)]
structure Wv (n : Nat) (ts : Prs) : Prop where
  n1 : 1 ≤ n
  n12 : n ≤ 12
  t20 : ts.length ≤ 20
  pr : ∀ p ∈ ts, p.1 < n ∧ p.2 < n ∧ p.1 ≠ p.2
theorem Wv.at_ {n : Nat} {ts : Prs} (h : Wv n ts) {i : Nat} {p : Nat × Nat} (e : ts[i]? = some p) : p.1 < n ∧ p.2 < n ∧ p.1 ≠ p.2 := h.pr p (List.mem_of_getElem? e)
noncomputable def wf (ta : Addr) (n : Int) : List (Str × V) := putF "houses" (.int n) (putF "ties" (.ref ta) [])
theorem wf_t (ta : Addr) (n : Int) : (wf ta n).lookup ("ties" : Str) = some (.ref ta) := by
  unfold wf
  rw [lookup_putF, if_neg (by decide +kernel), lookup_putF, if_pos rfl]
theorem wf_h (ta : Addr) (n : Int) : (wf ta n).lookup ("houses" : Str) = some (.int n) := by
  unfold wf
  rw [lookup_putF, if_pos rfl]
noncomputable def PrsA (H : Hp) (as : List Addr) (ts : Prs) : Prop := as.length = ts.length ∧ ∀ (i : Nat) a t, as[i]? = some a → ts[i]? = some t → H a = some (.tup (pV t))
theorem PrsA.same {H H' : Hp} {as : List Addr} {ts : Prs} (h : PrsA H as ts) (s : Same H H') : PrsA H' as ts := ⟨h.1, fun i a t e1 e2 => s _ _ (h.2 i a t e1 e2)⟩
theorem PrsA.get {H : Hp} {as : List Addr} {ts : Prs} (h : PrsA H as ts) {i : Nat} {t : Nat × Nat} (e : ts[i]? = some t) : ∃ a, as[i]? = some a ∧ H a = some (.tup (pV t)) := by
  obtain ⟨a, ha⟩ := ex_at (l := as) (i := i) (by rw [h.1]; exact lt_at e)
  exact ⟨a, ha, h.2 i a t ha e⟩
noncomputable def TiesT (H : Hp) (ta : Addr) (ts : Prs) : Prop := ∃ as : List Addr, H ta = some (.tup (as.map V.ref)) ∧ PrsA H as ts
theorem TiesT.same {H H' : Hp} {ta : Addr} {ts : Prs} (h : TiesT H ta ts) (s : Same H H') : TiesT H' ta ts := let ⟨as, h1, h2⟩ := h; ⟨as, s _ _ h1, h2.same s⟩
noncomputable def WebAt (W : Addr) (H : Hp) (w : Addr) (n : Nat) (ts : Prs) : Prop := ∃ dx ta, H w = some (.ins W dx (wf ta (n : Int))) ∧ TiesT H ta ts
theorem WebAt.same {W : Addr} {H H' : Hp} {w : Addr} {n : Nat} {ts : Prs} (h : WebAt W H w n ts) (s : Same H H') : WebAt W H' w n ts := let ⟨dx, ta, h1, h2⟩ := h; ⟨dx, ta, s _ _ h1, h2.same s⟩
structure WcT (K : PySem.W.Frag) (mg : Str → Option Value) (W : Addr) : Prop where
  cl : Cls K W
  nT : NoAttr K W "ties"
  nH : NoAttr K W "houses"
  g : mg "Web" = some (.ref W)
structure Cw (mg : Str → Option Value) : Prop where
  houses : ∃ t, mg "MOST_HOUSES" = some (.int 12 t)
  ties : ∃ t, mg "MOST_TIES" = some (.int 20 t)
noncomputable def pairB (o : Option (List V)) (n : Int) : Bool := match o with
  | some [x, y] => belowB x n && belowB y n && !decide (x = y)
  | _ => false
theorem fnb_two (x y : V) (n : Int) : decide (fnb [x, y] n = .non) = (belowB x n && belowB y n) := by
  unfold fnb
  rw [List.findIdx?_cons, List.findIdx?_cons, List.findIdx?_nil]
  cases belowB x n <;> cases belowB y n <;> rfl
theorem scal_int {x y : V} {n : Int} (h1 : belowB x n = true) (h2 : belowB y n = true) : scal x y = true := by
  cases x <;> first | (cases h1; done) | skip
  cases y <;> first | (cases h2; done) | rfl
noncomputable def spPair (K : PySem.W.Frag) : Sp := fun vs H Q _ => ∃ v o n, vs = [v, .int n] ∧ Rw K H v o ∧ ∀ H', Same H H' → Q (.bl (pairB o n)) H'
noncomputable def spNeedH (K : PySem.W.Frag) (W C : Addr) : Sp := fun vs H Q E => ∃ w v o n ts, vs = [.ref w, v] ∧ WebAt W H w n ts ∧ KV K H v o ∧ (belowB v (n : Int) = true → Q v H) ∧ (belowB v (n : Int) = false → Rz C "house" v H E)
noncomputable def spNeedT (K : PySem.W.Frag) (W C : Addr) : Sp := fun vs H Q E => ∃ w v o n ts, vs = [.ref w, v] ∧ WebAt W H w n ts ∧ KV K H v o ∧ (belowB v (ts.length : Int) = true → Q v H) ∧ (belowB v (ts.length : Int) = false → Rz C "tie" v H E)
section
variable {P : Program} {w : World} {K : PySem.W.Frag} {mg : Str → Option Value} {base : Heap}
theorem scRe : FnScope ["items", "at", "item"] ["items", "at", "item"] (defScope sRepl) := ⟨rfl, rfl, rfl, by decide +kernel, rfl, by decide +kernel, by decide +kernel⟩
theorem ok_repl {f : Addr} {fd : FuncData} (D : Df K mg "replaced" sRepl ["items", "at", "item"] f fd) : FnOk P w K mg base CX0 1 f fd ["items", "at", "item"] spRepl := by
  refine D.F.ok scRe (fun vs H Q E h => ?_) (fun cdv A outer s H vs Q E hr h => ?_)
  · obtain ⟨p, xs, i, v, rfl, _⟩ := h
    rfl
  · obtain ⟨p, xs, i, v, rfl, hp, hi, hl, q⟩ := h
    refine ⟨_, pss_one (ps_ret (pe_op op_catA (pe_op op_catA (pe_slice sl_tupA (pv 0) po_none (po_some (pv 1))) (pe_tup (pa_cons (pv 2) pa_nil))) (pe_slice sl_tupA (pv 0) (po_some (pe_op op_add (pv 1) pe_int)) po_none))), ?_⟩
    refine ⟨_, rfl, noP ⟨_, rfl, _, rfl, slA_by hp fun p1 H1 s1 hp1 => ?_⟩⟩
    rw [cut_to (by omega)] at hp1
    refine ⟨_, rfl, (by show 1 ≤ sizeLine; decide), fun p2 hp2 => ?_⟩
    refine catA_by (same_new hp2 _ _ hp1) upd_same (sz (by rw [List.length_take]; simp only [List.length_cons, List.length_nil]; omega)) fun p3 H3 s3 hp3 => ?_
    have s03 := (s1.trans (same_new (o := HO.tup [v]) hp2)).trans s3
    refine ⟨_, rfl, _, rfl, _, _, rfl, rfl, _, rfl, noP (slA_by (s03 _ _ hp) fun p4 H4 s4 hp4 => ?_)⟩
    have e1 : ((i : Int) + 1) = ((i + 1 : Nat) : Int) := by omega
    rw [e1, cut_from (by omega)] at hp4
    refine catA_by (s4 _ _ hp3) hp4 (sz (by rw [List.length_append, List.length_take, List.length_drop]; simp only [List.length_cons, List.length_nil]; omega)) fun p5 H5 s5 hp5 => ?_
    refine q p5 H5 ((s03.trans s4).trans s5) ?_
    rw [hp5, List.set_eq_take_append_cons_drop, if_pos hi, List.append_assoc]; rfl
theorem scPr : FnScope ["value", "houses"] ["value", "houses"] (defScope sPair) := ⟨rfl, rfl, rfl, by decide +kernel, rfl, by decide +kernel, by decide +kernel⟩
theorem ok_pair {f fS fF : Addr} {fd fdS fdF : FuncData} (D : Df K mg "is_pair" sPair ["value", "houses"] f fd) (DS : Df K mg "is_sequence" sSeq ["value", "least", "most"] fS fdS) (DF : Df K mg "first_not_below" sFnb ["items", "limit"] fF fdF)
    (GS : FnOk P w K mg base CX0 1 fS fdS ["value", "least", "most"] (spSeq K)) (GF : FnOk P w K mg base CX0 3 fF fdF ["items", "limit"] (spFnb K)) : FnOk P w K mg base CX0 4 f fd ["value", "houses"] (spPair K) := by
  refine D.F.ok scPr (fun vs H Q E h => ?_) (fun cdv A outer s H vs Q E hr h => ?_)
  · obtain ⟨v, o, n, rfl, _⟩ := h
    rfl
  · obtain ⟨v, o, n, rfl, hw, q⟩ := h
    refine ⟨_, pss_cons (ps_if (PW.pt (pw_or (pt_not (pt_val (pc DS GS (hr.mono (by decide)) pass0 (pa_cons (pv 0) (pa_cons pe_int (pa_cons pe_int pa_nil)))))) (pw_or1 (pt_cmp (pc_notN (pc DF GF hr pass0 (pa_cons (pv 0) (pa_cons (pv 1) pa_nil)))))))) (pss_one (ps_ret pe_bl)) pss_nil)
      (pss_one (ps_ret (pe_cmpR op_ne (pe_ix ix_seq (pv 0) pe_int (fun _ _ => rfl)) (pe_ix ix_seq (pv 0) pe_int (fun _ _ => rfl)) (nomark _)))), ?_⟩
    refine ⟨_, rfl, _, o, 2, 2, rfl, hw.kv, fun H1 s1 => ⟨_, rfl, ?_⟩⟩
    by_cases e : seqB o 2 2 = true
    · rw [e]
      refine iteF ?_
      cases o with
      | none => cases e
      | some ys =>
        have hl : ys.length = 2 := by
          have z : (decide ((2 : Int) ≤ (ys.length : Int)) && decide ((ys.length : Int) ≤ 2)) = true := e
          simp only [Bool.and_eq_true, decide_eq_true_eq] at z
          omega
        obtain ⟨x, y, rfl⟩ : ∃ x y, ys = [x, y] := by
          exact len2 hl
        obtain ⟨a, rfl, hS⟩ := hw.kv.seqA
        refine ⟨_, rfl, _, rfl, a, _, n, rfl, hS.same s1, (hw.ks _ rfl).same s1, fun H2 s2 => ⟨_, rfl, ?_⟩⟩
        have s12 := s1.trans s2
        have hS2 := hS.same s12
        have fe := fnb_two x y n
        rw [fe]
        by_cases e2 : (belowB x n && belowB y n) = true
        · have hb := e2
          simp only [Bool.and_eq_true] at hb
          rw [e2]
          refine iteF (nxP ?_)
          have rd : ∀ (j : Nat) (v : V) (Q : VK), [x, y][j]? = some v → Q v H2 → rIx K (.ref a) (.int (j : Int)) H2 Q := fun j v Q hj q => by
            rcases hS2 with h | h
            · exact .inl ⟨a, _, _, v, rfl, rfl, SqL.of h, at_i hj, q⟩
            · exact .inr (.inl ⟨a, _, _, v, rfl, rfl, SqT.of h, at_i hj, q⟩)
          refine ⟨_, rfl, rd 0 x _ rfl ⟨_, rfl, rd 1 y _ rfl ⟨scal_int hb.1 hb.2, qbl ?_ (q _ s12)⟩⟩⟩
          show _ = (belowB x n && belowB y n && !decide (x = y))
          rw [e2]; rfl
        · have e3 : (belowB x n && belowB y n) = false := by simpa using e2
          rw [e3]
          refine iteT (qbl ?_ (q _ s12))
          show _ = (belowB x n && belowB y n && !decide (x = y))
          rw [e3]; rfl
    · have e3 : seqB o 2 2 = false := by simpa using e
      rw [e3]
      refine iteT (iteT (qbl ?_ (q _ s1)))
      cases o with
      | none => rfl
      | some ys =>
        match ys, e3 with
        | [], _ => rfl
        | [x], _ => rfl
        | [x, y], e3 => cases e3
        | x :: y :: z :: r, _ => rfl
end
end K1
namespace K1
open PySem PySem.Spec PyProof.Rows L2
section
variable {K : PySem.W.Frag} {a : Addr} {xs : List V}
theorem lc_enumT {g : TG} {tt : TT} {te : TE} {vs : List Nat} {σ : L2.St} {H1 : Hp} {D : Addr} {Qd : Hp → Prop} (Pv : Nat → Hp → Prop) (h0 : Pv 0 (upd H1 D (.lst []))) (hl : ∀ i H, i ≤ xs.length → Pv i H → SqT K H a xs)
    (hs : ∀ i x T H, xs[i]? = some x → H T = none → Pv i H → g (.ref T) (wipe σ vs) (upd H T (.tup [.int (i : Nat), x])) fun σ2 H2 => wipe σ2 vs = wipe σ vs ∧ tt σ2 H2 fun b H3 =>
      if b = true then te σ2 H3 fun y H4 => ∃ acc, H4 D = some (.lst acc) ∧ acc.length < sizeLine ∧ Pv (i + 1) (upd H4 D (.lst (acc ++ [y]))) else Pv (i + 1) H3) (hd : ∀ H, Pv xs.length H → Qd H) :
    ∃ W : Nat → Nat → Hp → Prop, (∃ m, W 0 m (upd H1 D (.lst []))) ∧ ∀ i m H, W i m H →
      ((IteT K a).stop i H ∧ Qd H) ∨ ((IteT K a).go i H ∧ ∃ Nx : Hp → Prop, (∀ H', Nx H' → ∃ m', m' < m ∧ W (i + 1) m' H') ∧ ∀ x H', (IteT K a).yld i H x H' → g x (wipe σ vs) H' fun σ2 H2 => wipe σ2 vs = wipe σ vs ∧ tt σ2 H2 fun b H3 =>
        if b = true then te σ2 H3 fun y H4 => ∃ acc, H4 D = some (.lst acc) ∧ acc.length < sizeLine ∧ Nx (upd H4 D (.lst (acc ++ [y]))) else Nx H3) := by
  refine ⟨fun i m H => m = xs.length - i ∧ i ≤ xs.length ∧ Pv i H, ⟨xs.length, by simp, Nat.zero_le _, h0⟩, ?_⟩
  rintro i m H ⟨rfl, hi, p⟩
  have q := hl i H hi p
  by_cases hlt : i < xs.length
  · refine .inr ⟨⟨xs, xs[i], q, by simp [hlt]⟩, Pv (i + 1), fun H' p' => ⟨xs.length - (i + 1), by omega, rfl, hlt, p'⟩, fun x H' y => ?_⟩
    obtain ⟨T, x', e1, e2, e3, e4⟩ := y
    subst e1 e3
    exact hs i x' T H (e4 xs q) e2 p
  · have e : i = xs.length := by omega
    subst e
    exact .inl ⟨⟨xs, q, Nat.le_refl _⟩, hd H p⟩
end
section
variable {P : Program} {w : World} {K : PySem.W.Frag} {mg : Str → Option Value} {base : Heap}
theorem pair_ok {n : Nat} {ts : Prs} (hW : Wv n ts) {i : Nat} {t : Nat × Nat} (ht : ts[i]? = some t) : pairB (some (pV t)) (n : Int) = true := by
  obtain ⟨h1, h2, h3⟩ := hW.at_ ht
  show ((decide (0 ≤ (t.1 : Int)) && decide ((t.1 : Int) < (n : Int))) && (decide (0 ≤ (t.2 : Int)) && decide ((t.2 : Int) < (n : Int))) && !decide (V.int (t.1 : Int) = V.int (t.2 : Int))) = true
  rw [decide_eq_true (by omega), decide_eq_true (by omega), decide_eq_true (by omega), decide_eq_true (by omega), decide_eq_false (by intro e; injection e with e; omega)]; rfl
theorem kinds_pV {H : Hp} (t : Nat × Nat) : Kinds K H (pV t) := fun x hx => by
  simp only [pV, List.mem_cons, List.mem_nil_iff, or_false] at hx
  rcases hx with rfl | rfl <;> exact ⟨_, .int _⟩
theorem scCT : FnScope ["houses", "ties", "at", "pair"] ["houses", "ties"] (defScope sCTies) := ⟨rfl, rfl, rfl, by decide +kernel, rfl, by decide +kernel, by decide +kernel⟩
theorem scWI : FnScope ["self", "houses", "ties"] ["self", "houses", "ties"] (defScope sWInit) := ⟨rfl, rfl, rfl, by decide +kernel, rfl, by decide +kernel, by decide +kernel⟩
theorem scNH : FnScope ["web", "house"] ["web", "house"] (defScope sNeedH) := ⟨rfl, rfl, rfl, by decide +kernel, rfl, by decide +kernel, by decide +kernel⟩
theorem ok_needH {f fB C W cI : Addr} {fd fdB : FuncData} {bm : List Value} {ql : Str} (D : Df K mg "need_house" sNeedH ["web", "house"] f fd) (DB : Df K mg "is_below" sBelow ["value", "limit"] fB fdB) (T : WcT K mg W) (TX : LHouse.Txt K mg "NoHouse" ql bm C cI)
    (GB : FnOk P w K mg base CX0 2 fB fdB ["value", "limit"] (spBelow K)) : FnOk P w K mg base (L2.CX P w) 3 f fd ["web", "house"] (spNeedH K W C) := by
  refine D.F.okX scNH (fun vs H Q E h => ?_) (fun cdv A outer s H vs Q E hr h => ?_)
  · obtain ⟨w, v, o, n, ts, rfl, _⟩ := h
    rfl
  · obtain ⟨w, v, o, n, ts, rfl, ⟨dx, ta, h1, _⟩, kv, q1, q2⟩ := h
    refine ⟨_, pss_cons (ps_if (pt_not (pt_val (pc DB GB hr pass0 (pa_cons (pv 1) (pa_cons (pe_fld (pv 0) rfl) pa_nil))))) (pss_one (ps_raise_LHouse rfl TX hr (takes_of rfl rfl rfl rfl) (pa_cons (pv 1) pa_nil))) pss_nil) (pss_one (ps_ret (pv 1))), ?_⟩
    refine ⟨_, rfl, _, rfl, w, W, dx, _, _, rfl, h1, T.cl, T.nH, wf_h _ _, v, o, _, rfl, kv, _, rfl, ifD (fun e => ?_) fun e => ?_⟩
    · exact ⟨_, rfl, _, rfl, fun d hd => q2 (by simpa using e) d _ (same_new hd) hd upd_same⟩
    · exact ⟨_, rfl, q1 (by simpa using e)⟩
theorem scNT : FnScope ["web", "tie"] ["web", "tie"] (defScope sNeedT) := ⟨rfl, rfl, rfl, by decide +kernel, rfl, by decide +kernel, by decide +kernel⟩
theorem ok_needT {f fB C W cI : Addr} {fd fdB : FuncData} {bm : List Value} {ql : Str} (D : Df K mg "need_tie" sNeedT ["web", "tie"] f fd) (DB : Df K mg "is_below" sBelow ["value", "limit"] fB fdB) (B : Bt mg) (T : WcT K mg W) (TX : LTie.Txt K mg "NoTie" ql bm C cI)
    (GB : FnOk P w K mg base CX0 2 fB fdB ["value", "limit"] (spBelow K)) : FnOk P w K mg base (L2.CX P w) 3 f fd ["web", "tie"] (spNeedT K W C) := by
  refine D.F.okX scNT (fun vs H Q E h => ?_) (fun cdv A outer s H vs Q E hr h => ?_)
  · obtain ⟨w, v, o, n, ts, rfl, _⟩ := h
    rfl
  · obtain ⟨w, v, o, n, ts, rfl, ⟨dx, ta, h1, as, g1, g2⟩, kv, q1, q2⟩ := h
    refine ⟨_, pss_cons (ps_if (pt_not (pt_val (pc DB GB hr pass0 (pa_cons (pv 1) (pa_cons (pe_callB call_len_seq (by rfl) B.len PySem.boot_len (pa_cons (pe_fld (pv 0) rfl) pa_nil)) pa_nil))))) (pss_one (ps_raise_LTie rfl TX hr (takes_of rfl rfl rfl rfl) (pa_cons (pv 1) pa_nil))) pss_nil) (pss_one (ps_ret (pv 1))), ?_⟩
    have el : ((as.map V.ref).length : Int) = (ts.length : Int) := by rw [List.length_map, g2.1]
    refine ⟨_, rfl, _, rfl, w, W, dx, _, _, rfl, h1, T.cl, T.nT, wf_t _ _, ta, _, rfl, .inr (SqT.of g1), v, o, _, rfl, kv, _, rfl, ?_⟩
    rw [el]
    refine ifD (fun e => ?_) fun e => ?_
    · exact ⟨_, rfl, _, rfl, fun d hd => q2 (by simpa using e) d _ (same_new hd) hd upd_same⟩
    · exact ⟨_, rfl, q1 (by simpa using e)⟩
end
end K1
namespace K1
open PySem PySem.Spec PyProof.Rows L2
section
variable {P : Program} {w : World} {K : PySem.W.Frag} {mg : Str → Option Value} {base : Heap}
end
end K1
namespace K1
open PySem PySem.Spec PyProof.Rows L2
theorem snoc_at {α : Type} {l : List α} {i : Nat} {a b : α} (h : (l ++ [a])[i]? = some b) : l[i]? = some b ∨ (i = l.length ∧ a = b) := by
  by_cases hi : i < l.length
  · rw [List.getElem?_append_left hi] at h
    exact .inl h
  · rw [List.getElem?_append_right (by omega)] at h
    cases z : i - l.length with
    | zero =>
      rw [z] at h
      exact .inr ⟨by omega, Option.some.inj h⟩
    | succ n => rw [z] at h; cases h
section
variable {P : Program} {w : World} {K : PySem.W.Frag} {mg : Str → Option Value} {base : Heap}
end
end K1
namespace K1
open PySem PySem.Spec PyProof.Rows L2
noncomputable def vn (ns : List Nat) : List V := ns.map fun (x : Nat) => V.int (x : Int)
theorem vn_len (ns : List Nat) : (vn ns).length = ns.length := List.length_map _
section
variable {P : Program} {w : World} {K : PySem.W.Frag} {mg : Str → Option Value} {base : Heap}
end
end K1
namespace K1
open PySem PySem.Spec PyProof.Rows L2
section
variable {P : Program} {w : World} {A : Around} {E : Value → Shared → Prop} {s : Shared}
end
end K1
namespace K1
open PySem PySem.Spec PyProof.Rows L2
noncomputable def DealO (H : Hp) (b l : Addr) : Prop := l ≠ b ∧ ∃ (ns : List Int) (z : Int), ns.length ≤ 64 ∧ H b = some (.lst [.ref l, .int z]) ∧ H l = some (.lst (vrow ns))
noncomputable def Dl (b l : Addr) (H H' : Hp) : Prop := DealO H' b l ∧ ∀ c o, H c = some o → c ≠ b → c ≠ l → H' c = some o
theorem DealO.same {H H' : Hp} {b l : Addr} (h : DealO H b l) (s : Same H H') : DealO H' b l := let ⟨n, ns, z, h1, h2, h3⟩ := h; ⟨n, ns, z, h1, s _ _ h2, s _ _ h3⟩
theorem Dl.refl {b l : Addr} {H : Hp} (h : DealO H b l) : Dl b l H H := ⟨h, fun _ _ e _ _ => e⟩
theorem Dl.trans {b l : Addr} {H H1 H2 : Hp} (a : Dl b l H H1) (c : Dl b l H1 H2) : Dl b l H H2 := ⟨c.1, fun d o e n1 n2 => c.2 d o (a.2 d o e n1 n2) n1 n2⟩
theorem Dl.same {b l : Addr} {H H1 H2 : Hp} (a : Dl b l H H1) (s : Same H1 H2) : Dl b l H H2 := ⟨a.1.same s, fun d o e n1 n2 => s _ _ (a.2 d o e n1 n2)⟩
theorem Same.dl {b l : Addr} {H H1 H2 : Hp} (s : Same H H1) (a : Dl b l H1 H2) : Dl b l H H2 := ⟨a.1, fun d o e n1 n2 => a.2 d o (s _ _ e) n1 n2⟩
theorem Dl.new {b l c : Addr} {H H1 : Hp} {o : HO} (a : Dl b l H H1) (h : H1 c = none) : Dl b l H (upd H1 c o) := a.same (same_new h)
theorem DealO.nb {H : Hp} {b l c : Addr} (h : DealO H b l) (e : H c = none) : c ≠ b := fun z => by obtain ⟨_, _, _, _, h2, _⟩ := h; rw [z, h2] at e; cases e
theorem DealO.nl {H : Hp} {b l c : Addr} (h : DealO H b l) (e : H c = none) : c ≠ l := fun z => by obtain ⟨_, _, _, _, _, h3⟩ := h; rw [z, h3] at e; cases e
theorem layA_ints : ∀ t : List Int, PyData.canLayAll0 (dI t) = true
  | [] => rfl
  | i :: r => by
    show (PyData.canLay0 (.int i) && PyData.canLayAll0 (dI r)) = true
    rw [layA_ints r]
    rfl
theorem depA_ints : ∀ t : List Int, PyData.depthAll (dI t) = 0
  | [] => rfl
  | i :: r => by
    show max (PyData.depth (.int i)) (PyData.depthAll (dI r)) = 0
    rw [depA_ints r]
    rfl
theorem shL_ints (t : List Int) : SeqAt.shaped (.list (dI t)) = true := by
  unfold SeqAt.shaped
  rw [show PyData.canLay0 (.list (dI t)) = true from layA_ints t, show PyData.depth (.list (dI t)) = 1 from by show PyData.depthAll (dI t) + 1 = 1; rw [depA_ints]]
  rfl
theorem eqv_nil (r : List Int) : PyData.eqv (.list (dI r)) (.list []) = decide (r = []) := by
  cases r with
  | nil => rfl
  | cons i r => rfl
theorem neNil {K : PySem.W.Frag} {H : Hp} {l e : Addr} {ns : List Int} {Q : VK} (hl : H l = some (.lst (vrow ns))) (he : H e = some (.lst [])) (q : Q (.bl (!decide (ns = []))) H) : rNeD K (.ref l) (.ref e) H Q :=
  ⟨.list (dI ns), .list [], .lst (SqL.of hl) (dp_ints ns), .lst (SqL.of he) .nil, shL_ints ns, shL_ints [], qbl (by rw [eqv_nil]) q⟩
noncomputable def spAny : Sp := fun vs H Q _ => ∃ b l n, vs = [.ref b, .int n] ∧ DealO H b l ∧ 1 ≤ n ∧ n < 1073741824 ∧ ∀ r H', 0 ≤ r → r < n → Dl b l H H' → Q (.int r) H'
noncomputable def spOf : Sp := fun vs H Q _ => ∃ (b l p : Addr) (xs : List V), vs = [.ref b, .ref p] ∧ DealO H b l ∧ H p = some (.lst xs) ∧ p ≠ b ∧ p ≠ l ∧ 1 ≤ xs.length ∧ xs.length ≤ 1000 ∧ ∀ (i : Nat) v H', xs[i]? = some v → Dl b l H H' → Q v H'
section
variable {P : Program} {w : World} {K : PySem.W.Frag} {mg : Str → Option Value} {base : Heap}
noncomputable abbrev nAn : List Str := ["_law_deal", "_law_bound", "_law_rest"]
theorem scAn : FnScope nAn ["_law_deal", "_law_bound"] (defScope sLAny) := ⟨rfl, rfl, rfl, by decide +kernel, rfl, by decide +kernel, by decide +kernel⟩
noncomputable def lenAt (l : Addr) : L2.St → Hp → Nat := fun _ H => match H l with | some (.lst xs) => xs.length | _ => 0
theorem lenAt_of {l : Addr} {σ : L2.St} {H : Hp} {xs : List V} (h : H l = some (.lst xs)) : lenAt l σ H = xs.length := by
  unfold lenAt
  rw [h]
theorem ok_any {f : Addr} {fd : FuncData} (D : Df K mg "_law_any" sLAny ["_law_deal", "_law_bound"] f fd) (B : Bt mg) : FnOk P w K mg base CX0 1 f fd ["_law_deal", "_law_bound"] spAny := by
  refine D.F.ok scAn (fun vs H Q E h => ?_) (fun cdv A outer s H vs Q E hr h => ?_)
  · obtain ⟨b, l, n, rfl, _⟩ := h
    rfl
  · obtain ⟨b, l, n, rfl, hD, h1, h2, q⟩ := h
    have hu := hr.units
    refine ⟨_, pss_cons (ps_while PassesOwn.never (PW.pt (pw_and (pt_cmpR (neD (K := K) rfl hu) (pe_ix ix_list (pv 0) pe_int (fun _ _ => rfl)) (pe_lst pa_nil) (nomark _)) (pw_and1 (pt_cmpR op_eq (pe_ix ix_list (pe_ix ix_list (pv 0) pe_int (fun _ _ => rfl)) (pe_un un_neg pe_int) (fun _ _ => rfl)) pe_int (nomark _)))))
        (pss_one (ps_expr (pe_bm0 PySem.F.plainAttrs_list PySem.F.slot_list_pop PySem.F.type_list_pop mt_pop (pe_ix ix_list (pv 0) pe_int (fun _ _ => rfl))))))
      (pss_cons (ps_if (pt_cmpR (neD (K := K) rfl hu) (pe_ix ix_list (pv 0) pe_int (fun _ _ => rfl)) (pe_lst pa_nil) (nomark _))
        (pss_cons (ps_set (i := 2) scAn.nd rfl (.inl rfl) (pe_callTy call_int1 (by rfl) B.int PyProof.Rows.boot_int (pa_cons (pe_bm0 PySem.F.plainAttrs_list PySem.F.slot_list_pop PySem.F.type_list_pop mt_pop (pe_ix ix_list (pv 0) pe_int (fun _ _ => rfl))) pa_nil)))
        (pss_cons (ps_expr (pe_bm PySem.F.plainAttrs_list PySem.F.slot_list_append PySem.F.type_list_append mt_append (pe_ix ix_list (pv 0) pe_int (fun _ _ => rfl)) (pa_cons (pe_op op_fdiv (pv 2) (pv 1)) pa_nil)))
        (pss_one (ps_ret (pe_op op_mod (pe_callTy call_int1 (by rfl) B.int PyProof.Rows.boot_int (pa_cons (pv 2) pa_nil)) (pv 1)))))) pss_nil)
      (pss_cons (ps_asg (pe_op op_mod (pe_callTy call_int1 (by rfl) B.int PyProof.Rows.boot_int (pa_cons (pe_op op_add (pe_op op_mul (pe_ix ix_list (pv 0) pe_int (fun _ _ => rfl)) pe_int) pe_int) pa_nil)) pe_int) (pg_sub (pv 0) pe_int set_list))
      (pss_one (ps_ret (pe_op op_mod (pe_callTy call_int1 (by rfl) B.int PyProof.Rows.boot_int (pa_cons (pe_op op_fdiv (pe_ix ix_list (pv 0) pe_int (fun _ _ => rfl)) pe_int) pa_nil)) (pv 1)))))), ?_⟩
    have hp : 0 < n := by omega
    have a0 : ∀ {u v : V}, atI [u, v] 0 = some u := fun {u v} => atI_nat (j := 0) rfl
    have a1 : ∀ {u v : V}, atI [u, v] 1 = some v := fun {u v} => atI_nat (j := 1) rfl
    refine seqG (fun σ H' => σ = [some (.ref b), some (.int n), none] ∧ Dl b l H H') ?_ (fun go => while_by (fun σ H' => σ = [some (.ref b), some (.int n), none] ∧ Dl b l H H') (lenAt l) ⟨rfl, .refl hD⟩ ?_ (fun σ H Q Q' hQ h => ?_))
    · rintro σ H1 ⟨rfl, dl⟩
      obtain ⟨nlb, ns, z, hn, hb, hl⟩ := id dl.1
      refine ⟨_, rfl, b, _, 0, .ref l, rfl, rfl, SqL.of hb, a0, (by show 0 ≤ sizeLine; decide), fun e he => neNil ((same_new he) _ _ hl) upd_same ⟨_, rfl, ?_⟩⟩
      have dl2 := dl.new (o := HO.lst []) he
      have hb2 := (same_new (o := HO.lst []) he) _ _ hb
      have hl2 := (same_new (o := HO.lst []) he) _ _ hl
      generalize upd H1 e (.lst []) = H2 at dl2 hb2 hl2 ⊢
      rcases List.eq_nil_or_concat ns with rfl | ⟨ms, y, rfl⟩
      · refine iteF ?_
        refine ⟨_, rfl, b, _, 1, .int z, rfl, rfl, SqL.of hb2, a1, _, _, rfl, rfl, .inr ⟨by decide, by decide⟩, _, _, rfl, rfl, .inl ⟨_, rfl, _, _, rfl, rfl, (by decide : (0 : Int) < 2147483647), _, rfl, b, _, 1, 1, rfl, rfl, hb2, rfl, ?_⟩⟩
        have hb3 : ∃ z', (upd H2 b (.lst [.ref l, .int z'])) b = some (.lst [.ref l, .int z']) := ⟨0, upd_same⟩
        refine ⟨_, rfl, b, _, 1, .int _, rfl, rfl, SqL.of upd_same, a1, _, _, rfl, rfl, ⟨by decide, by decide⟩, .inl ⟨_, rfl, _, rfl, _, _, rfl, rfl, hp, q _ _ (Int.emod_nonneg _ (by omega)) (Int.emod_lt_of_pos _ hp) ⟨⟨nlb, [], _, by decide, upd_same, by rw [upd_ne nlb]; exact hl2⟩, fun c o e n1 n2 => by rw [upd_ne n1]; exact dl2.2 c o e n1 n2⟩⟩⟩
      · rw [List.concat_eq_append] at hl2 hn
        have ev : vrow (ms ++ [y]) = vrow ms ++ [.int y] := by rw [vrow, List.map_append]; rfl
        rw [ev] at hl2
        refine iteE (by rw [List.concat_eq_append]; simp) ?_
        rw [List.length_append] at hn
        refine ⟨_, rfl, b, _, 0, .ref l, rfl, rfl, SqL.of hb2, a0, .inl ⟨rfl, _, SqL.of hl2⟩, l, _, .int y, rfl, rfl, hl2, ?_, .inl ⟨y, rfl, ?_⟩⟩
        · rw [List.length_append]
          show (vrow ms ++ [V.int y])[(vrow ms).length]? = _
          rw [List.getElem?_append_right (Nat.le_refl _), Nat.sub_self]; rfl
        have ed : (vrow ms ++ [V.int y]).dropLast = vrow ms := List.dropLast_concat
        rw [ed]
        have hb3 : (upd H2 l (.lst (vrow ms))) b = some (.lst [.ref l, .int z]) := by rw [upd_ne nlb.symm]; exact hb2
        have hl3 : (upd H2 l (.lst (vrow ms))) l = some (.lst (vrow ms)) := upd_same
        have k3 : ∀ c o, H c = some o → c ≠ b → c ≠ l → (upd H2 l (.lst (vrow ms))) c = some o := fun c o e n1 n2 => by rw [upd_ne n2]; exact dl2.2 c o e n1 n2
        generalize upd H2 l (.lst (vrow ms)) = H3 at hb3 hl3 k3 ⊢
        refine ⟨_, rfl, b, _, 0, .ref l, rfl, rfl, SqL.of hb3, a0, .inl ⟨rfl, _, SqL.of hl3⟩, _, rfl, _, rfl, _, _, rfl, rfl, ⟨by omega, h2⟩, l, _, _, rfl, rfl, hl3, by rw [vrow, List.length_map, sizeLine_eq]; simp only [List.length_cons, List.length_nil] at hn; omega, ?_⟩
        refine ⟨_, rfl, .inl ⟨_, rfl, _, rfl, _, _, rfl, rfl, hp, q _ _ (Int.emod_nonneg _ (by omega)) (Int.emod_lt_of_pos _ hp) ⟨⟨nlb, ms ++ [y / n], z, by rw [List.length_append]; exact hn, by rw [upd_ne nlb.symm]; exact hb3, by rw [upd_same, vrow, vrow, List.map_append]; rfl⟩, fun c o e n1 n2 => by rw [upd_ne n2]; exact k3 c o e n1 n2⟩⟩⟩
    · rintro σ H1 ⟨rfl, dl⟩
      obtain ⟨nlb, ns, z, hn, hb, hl⟩ := id dl.1
      refine ⟨_, rfl, b, _, 0, .ref l, rfl, rfl, SqL.of hb, a0, (by show 0 ≤ sizeLine; decide), fun e he => neNil ((same_new he) _ _ hl) upd_same ⟨_, rfl, ?_⟩⟩
      have dl2 := dl.new (o := HO.lst []) he
      have hb2 := (same_new (o := HO.lst []) he) _ _ hb
      have hl2 := (same_new (o := HO.lst []) he) _ _ hl
      generalize upd H1 e (.lst []) = H2 at dl2 hb2 hl2 ⊢
      rcases List.eq_nil_or_concat ns with rfl | ⟨ms, y, rfl⟩
      · exact iteF (iteF (go _ _ ⟨rfl, dl2⟩))
      · rw [List.concat_eq_append] at hl2 hn hl
        have ev : vrow (ms ++ [y]) = vrow ms ++ [.int y] := by rw [vrow, List.map_append]; rfl
        rw [ev] at hl2 hl
        refine iteE (by rw [List.concat_eq_append]; simp) ?_
        rw [List.length_append] at hn
        refine ⟨_, rfl, b, _, 0, .ref l, rfl, rfl, SqL.of hb2, a0, 1, rfl, l, _, -1, .int y, rfl, rfl, SqL.of hl2, atI_last _ _, rfl, _, rfl, ifD (fun e1 => ?_) fun e1 => go _ _ ⟨rfl, dl2⟩⟩
        refine ⟨_, rfl, b, _, 0, .ref l, rfl, rfl, SqL.of hb2, a0, .inl ⟨rfl, _, SqL.of hl2⟩, l, _, .int y, rfl, rfl, hl2, ?_, ?_⟩
        · rw [List.length_append]
          show (vrow ms ++ [V.int y])[(vrow ms).length]? = _
          rw [List.getElem?_append_right (Nat.le_refl _), Nat.sub_self]; rfl
        have ed : (vrow ms ++ [V.int y]).dropLast = vrow ms := List.dropLast_concat
        rw [ed]
        refine ⟨⟨rfl, ⟨nlb, ms, z, by omega, by rw [upd_ne nlb.symm]; exact hb2, upd_same⟩, fun c o e n1 n2 => by rw [upd_ne n2]; exact dl2.2 c o e n1 n2⟩, ?_⟩
        have q1 : (upd H2 l (.lst (vrow ms))) l = some (.lst (vrow ms)) := upd_same
        rw [lenAt_of q1, lenAt_of hl, List.length_append]
        exact Nat.lt_succ_self _
    · obtain ⟨v0, h0, a, xs, i, y, e1, e2, hS, hat, hlen, hh⟩ := h
      refine ⟨v0, h0, a, xs, i, y, e1, e2, hS, hat, hlen, fun p hp => ?_⟩
      obtain ⟨d1, d2, D1, D2, s1, s2, c, hc, h3⟩ := hh p hp
      refine ⟨d1, d2, D1, D2, s1, s2, c, hc, ?_⟩
      cases c with
      | false => exact hQ _ _ h3
      | true =>
        obtain ⟨v1, k0, a', xs', i', y', k1, k2, kS, kat, j, ej, a2, xs2, i2, y2, m1, m2, mS, mat, hx, c2, hc2, h4⟩ := h3
        exact ⟨v1, k0, a', xs', i', y', k1, k2, kS, kat, j, ej, a2, xs2, i2, y2, m1, m2, mS, mat, hx, c2, hc2, hQ _ _ h4⟩
end
end K1
namespace K1
open PySem PySem.Spec PyProof.Rows L2
noncomputable def spDealt (K : PySem.W.Frag) : Sp := fun vs H Q _ => ∃ (a : Addr) (ns : List Int), vs = [.ref a] ∧ SqL K H a (ns.map V.int) ∧ ns.length ≤ 63 ∧ ∀ b l H', Same H H' → H b = none → H l = none → DealO H' b l → Q (.ref b) H'
theorem cut_ints (ns : List Int) (lo hi : Option Int) : ∃ ms : List Int, cutV (vrow ns) lo hi = vrow ms ∧ ms.length ≤ ns.length := by
  refine ⟨(ns.drop (HT.sIx (vrow ns).length 0 lo)).take (HT.sIx (vrow ns).length (vrow ns).length hi - HT.sIx (vrow ns).length 0 lo), ?_, ?_⟩
  · unfold cutV
    rw [vrow, vrow, List.map_take, List.map_drop]
  · rw [List.length_take, List.length_drop]
    omega
section
variable {P : Program} {w : World} {K : PySem.W.Frag} {mg : Str → Option Value} {base : Heap}
theorem scOf : FnScope ["_law_deal", "_law_some"] ["_law_deal", "_law_some"] (defScope sLOf) := ⟨rfl, rfl, rfl, by decide +kernel, rfl, by decide +kernel, by decide +kernel⟩
theorem ok_of {f fT : Addr} {fd fdT : FuncData} (D : Df K mg "_law_of" sLOf ["_law_deal", "_law_some"] f fd) (DT : Df K mg "_law_any" sLAny ["_law_deal", "_law_bound"] fT fdT) (B : Bt mg) (GT : FnOk P w K mg base CX0 1 fT fdT ["_law_deal", "_law_bound"] spAny) :
    FnOk P w K mg base CX0 2 f fd ["_law_deal", "_law_some"] spOf := by
  refine D.F.ok scOf (fun vs H Q E h => ?_) (fun cdv A outer s H vs Q E hr h => ?_)
  · obtain ⟨b, l, p, xs, rfl, _⟩ := h
    rfl
  · obtain ⟨b, l, p, xs, rfl, hb, hl, n1, n2, h1, h2, q⟩ := h
    refine ⟨_, pss_one (ps_ret (pe_ix ix_list (pv 1) (pc DT GT hr pass0 (pa_cons (pv 0) (pa_cons (pe_callB call_len_seq (by rfl) B.len PySem.boot_len (pa_cons (pv 1) pa_nil)) pa_nil))) (fun _ _ => rfl))), ?_⟩
    refine ⟨_, rfl, _, rfl, _, rfl, p, xs, rfl, .inl (SqL.of hl), b, l, _, rfl, hb, by omega, by omega, fun r H' r0 r1 bx => ?_⟩
    have hi : r.toNat < xs.length := by omega
    refine ⟨p, xs, r, xs[r.toNat], rfl, rfl, SqL.of (bx.2 _ _ hl n1 n2), at_of (j := r.toNat) (by omega) (List.getElem?_eq_getElem hi), q r.toNat _ H' (List.getElem?_eq_getElem hi) bx⟩
noncomputable abbrev nDe : List Str := ["_law_script", "_law_cell", "_law_cells", "_law_blend"]
theorem scDe : FnScope nDe ["_law_script"] (defScope sLDealt) := ⟨rfl, rfl, rfl, by decide +kernel, rfl, by decide +kernel, by decide +kernel⟩
theorem ok_dealt {f : Addr} {fd : FuncData} (D : Df K mg "_law_dealt" sLDealt ["_law_script"] f fd) (B : Bt mg) : FnOk P w K mg base CX0 1 f fd ["_law_script"] (spDealt K) := by
  refine D.F.ok scDe (fun vs H Q E h => ?_) (fun cdv A outer s H vs Q E hr h => ?_)
  · obtain ⟨a, ns, rfl, _⟩ := h
    rfl
  · obtain ⟨a, ns, rfl, hS, hl, q⟩ := h
    refine ⟨_, pss_cons (ps_setLc (i := 2) (own := [("_law_cell", 1)]) (g := gName 1) (tt := tYes) rfl scDe.nd rfl rfl (sw_true rfl rfl rfl rfl) (pi_list (pe_slice sl_list (pv 0) po_none (po_some pe_int))) (blkOk_by (N := nDe) (sc := defScope sLDealt) (by decide +kernel)) (fun _ _ _ _ _ => pg_name (i := 1) scDe.nd rfl (Or.inl rfl)) (fun _ _ _ _ _ => pts_nil)
          (fun _ _ _ _ _ => pe_callB call_abs (by rfl) B.abs (by decide +kernel) (pa_cons (pe_callTy call_int1 (by rfl) B.int PyProof.Rows.boot_int (pa_cons (pv 1) pa_nil)) pa_nil)))
      (pss_cons (ps_set (i := 3) scDe.nd rfl (.inl rfl) pe_int)
      (pss_cons (ps_for PassesOwn.never rfl (pi_list (pv 2)) (pg_name (i := 1) scDe.nd rfl (.inl rfl)) (pss_one (ps_set (i := 3) scDe.nd rfl (.inl rfl) (pe_op op_mod (pe_callTy call_int1 (by rfl) B.int PyProof.Rows.boot_int (pa_cons (pe_op op_add (pe_op op_add (pe_op op_mul (pv 3) pe_int) (pe_op op_mod (pv 1) pe_int)) pe_int) pa_nil)) pe_int))))
      (pss_one (ps_ret (pe_lst (pa_cons (pe_revL (pe_lc (own := [("_law_cell", 1)]) (g := gName 1) rfl scDe.nd (pi_list (pv 2)) (blkOk_by (N := nDe) (sc := defScope sLDealt) (by decide +kernel)) (fun _ _ _ _ _ => pg_name (i := 1) scDe.nd rfl (Or.inl rfl)) (fun _ _ _ _ _ => pts_one (pt_cmpR op_ge (pv 1) (pe_op op_pow pe_int pe_int) (nomark _)))
          (fun _ _ _ _ _ => pv 1))) (pa_cons (pv 3) pa_nil))))))), ?_⟩
    refine ⟨_, rfl, 48, rfl, a, _, rfl, hS, fun p hp => ?_⟩
    obtain ⟨ms, em, hm⟩ := cut_ints ns none (some 48)
    have s1 := same_new (o := HO.lst (cutV (ns.map V.int) none (some 48))) hp
    have hp1 : (upd H p (.lst (cutV (ns.map V.int) none (some 48)))) p = some (.lst (vrow ms)) := by rw [upd_same, ← em]; rfl
    generalize upd H p (.lst (cutV (ns.map V.int) none (some 48))) = H1 at s1 hp1 ⊢
    refine ⟨p, rfl, ⟨_, SqL.of hp1⟩, fun D0 hD0 => lc_list (K := K) (a := p) (xs := vrow ms) (fun k H3 => Same H1 H3 ∧ ∃ cs : List Int, cs.length = k ∧ H3 D0 = some (.lst (vrow cs))) ⟨same_new hD0, [], rfl, upd_same⟩ (fun k H3 _ ⟨s3, _⟩ => SqL.of (s3 _ _ hp1)) ?_ ?_⟩
    · rintro k z H3 hz ⟨s3, cs, hk, hD3⟩
      obtain ⟨i, _, rfl⟩ : ∃ i, i ∈ ms ∧ V.int i = z := List.mem_map.mp (List.mem_of_getElem? hz)
      have hkl := (List.getElem?_eq_some_iff.mp hz).1
      rw [vrow, List.length_map] at hkl
      refine ⟨rfl, _, rfl, .inl ⟨_, rfl, _, rfl, _, hD3, by rw [vrow, List.length_map, sizeLine_eq]; omega, fun c o e => by rw [upd_ne (ne_of_none e hD0)]; exact s3 _ _ e, cs ++ [if i < 0 then -i else i], by rw [List.length_append, hk]; rfl, by rw [upd_same, vrow, vrow, List.map_append]; rfl⟩⟩
    · rintro H3 ⟨s3, cs, hk, hD3⟩
      rw [vrow, List.length_map] at hk
      have s13 := s1.trans s3
      refine ⟨_, rfl, D0, rfl, ⟨_, SqL.of hD3⟩, for_list (K := K) (a := D0) (xs := vrow cs) (fun k σ H' => ∃ (v1 : Option V) (z : Int), σ = [some (.ref a), v1, some (.ref D0), some (.int z)] ∧ H' = H3) ⟨_, _, rfl, rfl⟩ (fun k σ H' _ ⟨_, _, _, e⟩ => by rw [e]; exact SqL.of hD3) ?_ ?_⟩
      · rintro k x σ H' hx ⟨v1, z, rfl, rfl⟩
        obtain ⟨i, _, rfl⟩ : ∃ i, i ∈ cs ∧ V.int i = x := List.mem_map.mp (List.mem_of_getElem? hx)
        exact ⟨_, rfl, _, _, rfl, rfl, .inr ⟨by decide, by decide⟩, _, rfl, _, _, rfl, rfl, (by decide : (0 : Int) < 2147483629), _, _, rfl, rfl, _, _, rfl, rfl, .inl ⟨_, rfl, _, _, rfl, rfl, (by decide : (0 : Int) < 2147483647), _, _, rfl, rfl⟩⟩
      · rintro σ H' ⟨v1, z, rfl, rfl⟩
        refine ⟨_, rfl, D0, rfl, ⟨_, SqL.of hD3⟩, fun D1 hD1 => lc_list (K := K) (a := D0) (xs := vrow cs) (fun k H4 => Same H' H4 ∧ ∃ es : List Int, es.length ≤ k ∧ H4 D1 = some (.lst (vrow es))) ⟨same_new hD1, [], Nat.le_refl _, upd_same⟩ (fun k H4 _ ⟨s4, _⟩ => SqL.of (s4 _ _ hD3)) ?_ ?_⟩
        · rintro k x H4 hx ⟨s4, es, he, hD4⟩
          obtain ⟨i, _, rfl⟩ : ∃ i, i ∈ cs ∧ V.int i = x := List.mem_map.mp (List.mem_of_getElem? hx)
          have hkl := (List.getElem?_eq_some_iff.mp hx).1
          rw [vrow, List.length_map] at hkl
          refine ⟨rfl, _, rfl, _, _, rfl, rfl, ⟨by decide, by decide, by decide⟩, _, _, rfl, rfl, _, rfl, ifD (fun e => ?_) fun e => ?_⟩
          · exact ⟨_, rfl, _, hD4, by rw [vrow, List.length_map, sizeLine_eq]; omega, fun c o e => by rw [upd_ne (ne_of_none e hD1)]; exact s4 _ _ e, es ++ [i], by rw [List.length_append]; exact Nat.succ_le_succ he, by rw [upd_same, vrow, vrow, List.map_append]; rfl⟩
          · exact ⟨s4, es, Nat.le_succ_of_le he, hD4⟩
        · rintro H4 ⟨s4, es, he, hD4⟩
          rw [vrow, List.length_map] at he
          refine ⟨D1, _, rfl, SqL.of hD4, fun l hl4 => ⟨_, rfl, (by show 2 ≤ sizeLine; decide), fun b hb => ?_⟩⟩
          have s5 := (s13.trans s4).trans (same_new (o := HO.lst (vrow es).reverse) hl4)
          have nlb : l ≠ b := fun z => by rw [← z, upd_same] at hb; cases hb
          refine q b l _ (s5.trans (same_new hb)) (s5.free hb) ((s13.trans s4).free hl4) ⟨nlb, es.reverse, z, by rw [List.length_reverse]; omega, upd_same, ?_⟩
          rw [upd_ne nlb, upd_same, vrow, vrow, List.map_reverse]
end
end K1
namespace K1
open PySem PySem.Spec PyProof.Rows L2
inductive Stp where | dd (h d : Nat) | mt (t : Nat)
deriving DecidableEq
noncomputable def stV : Stp → List V | .dd h d => [.str "do", .int (h : Int), .int (d : Int)] | .mt t => [.str "meet", .int (t : Int)]
noncomputable def okS (n t d : Nat) : Stp → Prop | .dd h e => h < n ∧ e < d | .mt k => k < t
noncomputable def Fi (H : Hp) (x : V) : Prop := (∃ s, x = .str s ∧ PyData.strOk s = true) ∨ (∃ i, x = .int i) ∨ ∃ a s, x = .ref a ∧ H a = some (.tup [.str s]) ∧ PyData.strOk s = true
theorem Fi.same {H H' : Hp} {x : V} (h : Fi H x) (s : Same H H') : Fi H' x := h.elim .inl fun h => h.elim (fun h => .inr (.inl h)) fun ⟨a, z, e, h, h'⟩ => .inr (.inr ⟨a, z, e, s _ _ h, h'⟩)
theorem shS {s : Str} (h : PyData.strOk s = true) : SeqAt.shaped (.str s) = true := by
  unfold SeqAt.shaped
  rw [show PyData.canLay0 (.str s) = true from h]; rfl
theorem shTS {s : Str} (h : PyData.strOk s = true) : SeqAt.shaped (.tuple [.str s]) = true := by
  unfold SeqAt.shaped
  rw [show PyData.canLay0 (.tuple [.str s]) = true from by show (PyData.strOk s && true) = true; rw [h]; rfl]; rfl
theorem Fi.eq {K : PySem.W.Frag} {H : Hp} {x : V} (h : Fi H x) {s : Str} (hs : PyData.strOk s = true) {Q : VK} (q : Q (.bl (decide (x = .str s))) H) : rEqD K x (.str s) H Q := by
  rcases h with ⟨z, rfl, hz⟩ | ⟨i, rfl⟩ | ⟨a, z, rfl, h, hz⟩
  · refine ⟨.str z, .str s, .str z, .str s, shS hz, shS hs, qbl ?_ q⟩
    by_cases e : z = s
    · subst e
      rw [decide_eq_true rfl]
      exact beq_self_eq_true z
    · rw [decide_eq_false (by intro k; injection k with k; exact e k)]
      exact beq_eq_false_iff_ne.mpr e
  · exact ⟨.int i, .str s, .int i, .str s, rfl, shS hs, qbl (by rw [decide_eq_false (by intro k; cases k)]; rfl) q⟩
  · exact ⟨.tuple [.str z], .str s, .tup (SqT.of h) (.cons (.str z) .nil), .str s, shTS hz, shS hs, qbl (by rw [decide_eq_false (by intro k; cases k)]; rfl) q⟩
structure Sv (K : PySem.W.Frag) (H : Hp) (x : V) (r : Option (List V)) : Prop where
  rw : Rw K H x r
  fi : ∀ y ys, r = some (y :: ys) → Fi H y
theorem Sv.same {K : PySem.W.Frag} {H H' : Hp} {x : V} {r : Option (List V)} (h : Sv K H x r) (s : Same H H') : Sv K H' x r := ⟨h.rw.same s, fun y ys e => (h.fi y ys e).same s⟩
noncomputable def stB (n t d : Nat) (r : Option (List V)) : Bool := match r with
  | some [a, b, c] => decide (a = V.str "do") && (belowB b (n : Int) && belowB c (d : Int))
  | some [a, b] => decide (a = V.str "meet") && belowB b (t : Int)
  | _ => false
theorem below_nat {v : V} {n : Nat} (hb : belowB v (n : Int) = true) : ∃ h : Nat, v = .int (h : Int) ∧ h < n := by
  cases v <;> first | (cases hb; done) | skip
  rename_i i
  have z : (decide (0 ≤ i) && decide (i < (n : Int))) = true := hb
  simp only [Bool.and_eq_true, decide_eq_true_eq] at z
  exact ⟨i.toNat, by congr 1; omega, by omega⟩
theorem stB_some {n t d : Nat} {r : Option (List V)} (h : stB n t d r = true) : ∃ s, r = some (stV s) ∧ okS n t d s := by
  unfold stB at h
  split at h
  · simp only [Bool.and_eq_true, decide_eq_true_eq] at h
    obtain ⟨rfl, hb, hc⟩ := h
    obtain ⟨b, rfl, hb2⟩ := below_nat hb
    obtain ⟨c, rfl, hc2⟩ := below_nat hc
    exact ⟨.dd b c, rfl, hb2, hc2⟩
  · simp only [Bool.and_eq_true, decide_eq_true_eq] at h
    obtain ⟨rfl, hb⟩ := h
    obtain ⟨b, rfl, hb2⟩ := below_nat hb
    exact ⟨.mt b, rfl, hb2⟩
  · cases h
theorem belowB_nat {k n : Nat} : belowB (.int (k : Int)) (n : Int) = decide (k < n) := by
  show (decide (0 ≤ (k : Int)) && decide ((k : Int) < (n : Int))) = _
  rw [decide_eq_true (by omega), Bool.true_and]
  by_cases h : k < n
  · rw [decide_eq_true h, decide_eq_true (by omega)]
  · rw [decide_eq_false h, decide_eq_false (by omega)]
theorem stB_ok {n t d : Nat} {s : Stp} (h : okS n t d s) : stB n t d (some (stV s)) = true := by
  cases s with
  | dd a b =>
    show (decide (V.str "do" = V.str "do") && (belowB (.int (a : Int)) (n : Int) && belowB (.int (b : Int)) (d : Int))) = true
    rw [belowB_nat, belowB_nat, decide_eq_true rfl, decide_eq_true h.1, decide_eq_true h.2]; rfl
  | mt a =>
    show (decide (V.str "meet" = V.str "meet") && (belowB (.int (a : Int)) (t : Int))) = true
    rw [belowB_nat, decide_eq_true rfl, decide_eq_true (show a < t from h)]; rfl
noncomputable def spIsStep (K : PySem.W.Frag) (W : Addr) : Sp := fun vs H Q _ => ∃ (w : Addr) (x : V) (r : Option (List V)) (n d : Nat) (ts : Prs), vs = [.ref w, .int (d : Int), x] ∧ WebAt W H w n ts ∧ Sv K H x r ∧ ∀ H', Same H H' → Q (.bl (stB n ts.length d r)) H'
inductive Svs (K : PySem.W.Frag) (H : Hp) : V → Option (List (Option (List V))) → Prop
  | no {v : V} (h : KV K H v none) : Svs K H v none
  | yes {v : V} {xs : List V} {rs : List (Option (List V))} (h : KV K H v (some xs)) (hl : xs.length = rs.length) (r : ∀ (i : Nat) x r, xs[i]? = some x → rs[i]? = some r → Sv K H x r) : Svs K H v (some rs)
theorem Svs.same {K : PySem.W.Frag} {H H' : Hp} {v : V} {o : Option (List (Option (List V)))} (h : Svs K H v o) (s : Same H H') : Svs K H' v o := by
  cases h with
  | no h => exact .no (h.same s)
  | yes h hl r => exact .yes (h.same s) hl fun i x r' e1 e2 => (r i x r' e1 e2).same s
noncomputable def sfV (n t d : Nat) (o : Option (List (Option (List V)))) : V := match o with
  | none => .int (-1)
  | some rs => if rs.length ≤ 400 then (match rs.findIdx? (fun r => !stB n t d r) with | some i => .int (i : Nat) | none => .non) else .int (-1)
noncomputable def spSFault (K : PySem.W.Frag) (W : Addr) : Sp := fun vs H Q _ => ∃ (w : Addr) (v : V) (o : Option (List (Option (List V)))) (n d : Nat) (ts : Prs), vs = [.ref w, .int (d : Int), v] ∧ WebAt W H w n ts ∧ Svs K H v o ∧ ∀ H', Same H H' → Q (sfV n ts.length d o) H'
noncomputable def StpsA (H : Hp) (as : List Addr) (ss : List Stp) : Prop := as.length = ss.length ∧ ∀ (i : Nat) a s, as[i]? = some a → ss[i]? = some s → H a = some (.tup (stV s))
theorem StpsA.same {H H' : Hp} {as : List Addr} {ss : List Stp} (h : StpsA H as ss) (s : Same H H') : StpsA H' as ss := ⟨h.1, fun i a t e1 e2 => s _ _ (h.2 i a t e1 e2)⟩
noncomputable def StpsT (H : Hp) (p : Addr) (ss : List Stp) : Prop := ∃ as : List Addr, H p = some (.tup (as.map V.ref)) ∧ StpsA H as ss
theorem StpsT.same {H H' : Hp} {p : Addr} {ss : List Stp} (h : StpsT H p ss) (s : Same H H') : StpsT H' p ss := let ⟨as, h1, h2⟩ := h; ⟨as, s _ _ h1, h2.same s⟩
structure Cs (mg : Str → Option Value) : Prop where
  steps : ∃ t, mg "MOST_STEPS" = some (.int 400 t)
  doo : ∃ t, mg "DO" = some (.str "do" t)
  meet : ∃ t, mg "MEET" = some (.str "meet" t)
section
variable {P : Program} {w : World} {K : PySem.W.Frag} {mg : Str → Option Value} {base : Heap}
theorem ix_at {H : Hp} {x : V} {ys : List V} (h : KV K H x (some ys)) {j : Nat} {y : V} {Q : VK} (hj : ys[j]? = some y) (q : Q y H) : rIx K x (.int (j : Int)) H Q := by
  cases h with
  | lst h => exact .inl ⟨_, _, _, y, rfl, rfl, SqL.of h, at_i hj, q⟩
  | tup h => exact .inr (.inl ⟨_, _, _, y, rfl, rfl, SqT.of h, at_i hj, q⟩)
theorem scIS : FnScope ["web", "deeds", "value"] ["web", "deeds", "value"] (defScope sIsStep) := ⟨rfl, rfl, rfl, by decide +kernel, rfl, by decide +kernel, by decide +kernel⟩
theorem seq_len {ys : List V} {k : Nat} (e : seqB (some ys) (k : Int) (k : Int) = true) : ys.length = k := by
  have z : (decide ((k : Int) ≤ (ys.length : Int)) && decide ((ys.length : Int) ≤ (k : Int))) = true := e
  simp only [Bool.and_eq_true, decide_eq_true_eq] at z
  omega
theorem ok_isStep {f fS fB W : Addr} {fd fdS fdB : FuncData} (D : Df K mg "is_step" sIsStep ["web", "deeds", "value"] f fd) (DS : Df K mg "is_sequence" sSeq ["value", "least", "most"] fS fdS) (DB : Df K mg "is_below" sBelow ["value", "limit"] fB fdB) (B : Bt mg) (c : Cs mg) (T : WcT K mg W)
    (GS : FnOk P w K mg base CX0 1 fS fdS ["value", "least", "most"] (spSeq K)) (GB : FnOk P w K mg base CX0 2 fB fdB ["value", "limit"] (spBelow K)) : FnOk P w K mg base CX0 3 f fd ["web", "deeds", "value"] (spIsStep K W) := by
  obtain ⟨t1, hc1⟩ := c.doo
  obtain ⟨t2, hc2⟩ := c.meet
  refine D.F.ok scIS (fun vs H Q E h => ?_) (fun cdv A outer s H vs Q E hr h => ?_)
  · obtain ⟨w, x, r, n, d, ts, rfl, _⟩ := h
    rfl
  · obtain ⟨w, x, r, n, d, ts, rfl, ⟨dx, ta, h1, as, g1, g2⟩, hv, q⟩ := h
    have hu := hr.units
    have hr1 := hr.mono (show 1 ≤ 2 by decide)
    refine ⟨_, pss_cons (ps_if (pt_val (pc DS GS hr1 pass0 (pa_cons (pv 2) (pa_cons pe_int (pa_cons pe_int pa_nil)))))
        (pss_one (ps_ret (pe_and (pe_cmpR (eqD (K := K) rfl hu) (pe_ix ix_seq (pv 2) pe_int (fun _ _ => rfl)) (pe_glob (v := .str "do") (by rfl) hc1 ⟨_, rfl⟩) (nomark _))
          (pe_and (pc DB GB hr pass0 (pa_cons (pe_ix ix_seq (pv 2) pe_int (fun _ _ => rfl)) (pa_cons (pe_fld (pv 0) rfl) pa_nil)))
          (pe_one (pc DB GB hr pass0 (pa_cons (pe_ix ix_seq (pv 2) pe_int (fun _ _ => rfl)) (pa_cons (pv 1) pa_nil)))))))) pss_nil)
      (pss_one (ps_ret (pe_and (pc DS GS hr1 pass0 (pa_cons (pv 2) (pa_cons pe_int (pa_cons pe_int pa_nil))))
        (pe_and (pe_cmpR (eqD (K := K) rfl hu) (pe_ix ix_seq (pv 2) pe_int (fun _ _ => rfl)) (pe_glob (v := .str "meet") (by rfl) hc2 ⟨_, rfl⟩) (nomark _))
          (pe_one (pc DB GB hr pass0 (pa_cons (pe_ix ix_seq (pv 2) pe_int (fun _ _ => rfl)) (pa_cons (pe_callB call_len_seq (by rfl) B.len PySem.boot_len (pa_cons (pe_fld (pv 0) rfl) pa_nil)) pa_nil)))))))), ?_⟩
    have el : ((as.map V.ref).length : Int) = (ts.length : Int) := by rw [List.length_map, g2.1]
    refine ⟨_, rfl, x, r, 3, 3, rfl, hv.rw.kv, fun H1 s1 => ⟨_, rfl, ifD (fun e => ?_) fun e => ?_⟩⟩
    · cases r with
      | none => cases e
      | some ys =>
        have hl : ys.length = 3 := seq_len (k := 3) e
        obtain ⟨a, b, c, rfl⟩ := len3 hl
        next =>
          have kv1 := hv.rw.kv.same s1
          have kk := (hv.rw.ks _ rfl).same s1
          obtain ⟨ob, kb⟩ := kk b (by simp)
          obtain ⟨oc, kc⟩ := kk c (by simp)
          refine ⟨_, rfl, ix_at (j := 0) kv1 rfl (cP (Fi.eq ((hv.fi _ _ rfl).same s1) (by decide +kernel) ?_))⟩
          refine ⟨_, rfl, ifD (fun e1 => ?_) fun e1 => ?_⟩
          · refine ⟨_, rfl, ix_at (j := 1) kv1 rfl ⟨_, rfl, w, W, dx, _, _, rfl, s1 _ _ h1, T.cl, T.nH, wf_h _ _, b, ob, (n : Int), rfl, kb, _, rfl, ifD (fun e2 => ?_) fun e2 => ?_⟩⟩
            · refine ⟨_, rfl, ix_at (j := 2) kv1 rfl ⟨_, rfl, c, oc, (d : Int), rfl, kc, qbl ?_ (q _ s1)⟩⟩
              show _ = (_ && (_ && _))
              rw [e1, e2]; rfl
            · refine qbl ?_ (q _ s1)
              show _ = (_ && (_ && _))
              rw [e1, e2]; rfl
          · refine qbl ?_ (q _ s1)
            show _ = (_ && (_ && _))
            rw [e1]; rfl
    · refine nxP ⟨_, rfl, x, r, 2, 2, rfl, hv.rw.kv.same s1, fun H2 s2 => ⟨_, rfl, ifD (fun e2 => ?_) fun e2 => ?_⟩⟩
      · cases r with
        | none => cases e2
        | some ys =>
          have hl : ys.length = 2 := seq_len (k := 2) e2
          obtain ⟨a, b, rfl⟩ := len2 hl
          next =>
            have s12 := s1.trans s2
            have kv1 := hv.rw.kv.same s12
            have kk := (hv.rw.ks _ rfl).same s12
            obtain ⟨ob, kb⟩ := kk b (by simp)
            refine ⟨_, rfl, ix_at (j := 0) kv1 rfl (cP (Fi.eq ((hv.fi _ _ rfl).same s12) (by decide +kernel) ?_))⟩
            refine ⟨_, rfl, ifD (fun e1 => ?_) fun e1 => ?_⟩
            · refine ⟨_, rfl, ix_at (j := 1) kv1 rfl ⟨_, rfl, w, W, dx, _, _, rfl, s12 _ _ h1, T.cl, T.nT, wf_t _ _, ta, _, rfl, .inr (SqT.of (s12 _ _ g1)), ?_⟩⟩
              rw [el]
              refine ⟨b, ob, (ts.length : Int), rfl, kb, qbl ?_ (q _ s12)⟩
              show _ = (_ && _)
              rw [e1]; rfl
            · refine qbl ?_ (q _ s12)
              show _ = (_ && _)
              rw [e1]; rfl
      · refine qbl ?_ (q _ (s1.trans s2))
        cases r with
        | none => rfl
        | some ys =>
          have h3 : ys.length ≠ 3 := fun z => by rw [show seqB (some ys) 3 3 = true from by show (decide ((3 : Int) ≤ (ys.length : Int)) && decide ((ys.length : Int) ≤ 3)) = true; rw [z]; rfl] at e; cases e
          have h2 : ys.length ≠ 2 := fun z => by rw [show seqB (some ys) 2 2 = true from by show (decide ((2 : Int) ≤ (ys.length : Int)) && decide ((ys.length : Int) ≤ 2)) = true; rw [z]; rfl] at e2; cases e2
          match ys, h3, h2 with
          | [], _, _ => rfl
          | [_], _, _ => rfl
          | [_, _], _, h => exact (h rfl).elim
          | [_, _, _], h, _ => exact (h rfl).elim
          | _ :: _ :: _ :: _ :: _, _, _ => rfl
end
end K1
namespace K1
open PySem PySem.Spec PyProof.Rows L2
theorem sf_at {n t d : Nat} {rs : List (Option (List V))} {i : Nat} {r : Option (List V)} (hl : rs.length ≤ 400) (hr : rs[i]? = some r) (hn : stB n t d r = false) (hb : ∀ (j : Nat) y, j < i → rs[j]? = some y → stB n t d y = true) : sfV n t d (some rs) = .int (i : Nat) := by
  unfold sfV
  dsimp only
  rw [if_pos hl, find_at (p := fun r => !stB n t d r) hr (by rw [hn]; rfl) fun j y hj hy => by rw [hb j y hj hy]; rfl]
theorem sf_non {n t d : Nat} {rs : List (Option (List V))} (hl : rs.length ≤ 400) (hb : ∀ (j : Nat) y, j < rs.length → rs[j]? = some y → stB n t d y = true) : sfV n t d (some rs) = .non := by
  unfold sfV
  dsimp only
  rw [if_pos hl, find_none (p := fun r => !stB n t d r) fun j y hj hy => by rw [hb j y hj hy]; rfl]
theorem sf_ok {n t d : Nat} {o : Option (List (Option (List V)))} (h : sfV n t d o = .non) : ∃ ss : List Stp, o = some (ss.map fun s => some (stV s)) ∧ (∀ s ∈ ss, okS n t d s) ∧ ss.length ≤ 400 := by
  unfold sfV at h
  cases o with
  | none => cases h
  | some rs =>
    dsimp only at h
    by_cases hl : rs.length ≤ 400
    · rw [if_pos hl] at h
      cases e : rs.findIdx? (fun r => !stB n t d r) with
      | some i => rw [e] at h; cases h
      | none =>
        rw [List.findIdx?_eq_none_iff] at e
        have key : ∀ qs : List (Option (List V)), (∀ r ∈ qs, stB n t d r = true) → ∃ ss : List Stp, qs = ss.map (fun s => some (stV s)) ∧ ∀ s ∈ ss, okS n t d s := fun qs => by
          induction qs with
          | nil => intro _; exact ⟨[], rfl, fun s hs => nomatch hs⟩
          | cons r qs ih =>
            intro hq
            obtain ⟨s, rfl, h1⟩ := stB_some (hq r List.mem_cons_self)
            obtain ⟨ss, rfl, h2⟩ := ih fun r hr => hq r (List.mem_cons_of_mem _ hr)
            exact ⟨s :: ss, rfl, fun x hx => (List.mem_cons.mp hx).elim (fun e => e ▸ h1) (h2 x)⟩
        obtain ⟨ss, rfl, h2⟩ := key rs fun r hr => by simpa using e r hr
        rw [List.length_map] at hl
        exact ⟨ss, rfl, h2, hl⟩
    · rw [if_neg hl] at h; cases h
theorem sf_int {n t d : Nat} {o : Option (List (Option (List V)))} : sfV n t d o = .non ∨ ∃ z, sfV n t d o = .int z := by
  unfold sfV
  cases o with
  | none => exact .inr ⟨_, rfl⟩
  | some rs =>
    dsimp only
    split
    · split
      · exact .inr ⟨_, rfl⟩
      · exact .inl rfl
    · exact .inr ⟨_, rfl⟩
noncomputable def spStepsOf (K : PySem.W.Frag) (W C : Addr) : Sp := fun vs H Q E => ∃ (w : Addr) (v : V) (o : Option (List (Option (List V)))) (n d : Nat) (ts : Prs), vs = [.ref w, .int (d : Int), v] ∧ WebAt W H w n ts ∧ Svs K H v o ∧ (∀ z, sfV n ts.length d o = .int z → Rz C "at" (.int z) H E) ∧
  ∀ ss : List Stp, o = some (ss.map fun s => some (stV s)) → (∀ s ∈ ss, okS n ts.length d s) → ss.length ≤ 400 → ∀ p H', Same H H' → StpsT H' p ss → Q (.ref p) H'
noncomputable def spCkSteps (K : PySem.W.Frag) (M W C : Addr) : Sp := fun vs H Q E => ∃ (m ta w : Addr) (tb : Ts) (v : V) (o : Option (List (Option (List V)))) (n : Nat) (ts : Prs), vs = [.ref m, .ref w, v] ∧ MachAt M H m ta (vts tb) ∧ WebAt W H w n ts ∧ Svs K H v o ∧ (∀ z, sfV n ts.length tb.length o = .int z → Rz C "at" (.int z) H E) ∧
  ∀ ss : List Stp, o = some (ss.map fun s => some (stV s)) → (∀ s ∈ ss, okS n ts.length tb.length s) → ss.length ≤ 400 → ∀ p H', Same H H' → StpsT H' p ss → Q (.ref p) H'
section
variable {P : Program} {w : World} {K : PySem.W.Frag} {mg : Str → Option Value} {base : Heap}
theorem scSF : FnScope ["web", "deeds", "value", "at", "step"] ["web", "deeds", "value"] (defScope sStepsFault) := ⟨rfl, rfl, rfl, by decide +kernel, rfl, by decide +kernel, by decide +kernel⟩
theorem ok_sfault {f fS fI W : Addr} {fd fdS fdI : FuncData} (D : Df K mg "steps_fault" sStepsFault ["web", "deeds", "value"] f fd) (DS : Df K mg "is_sequence" sSeq ["value", "least", "most"] fS fdS) (DI : Df K mg "is_step" sIsStep ["web", "deeds", "value"] fI fdI) (B : Bt mg) (c : Cs mg)
    (GS : FnOk P w K mg base CX0 1 fS fdS ["value", "least", "most"] (spSeq K)) (GI : FnOk P w K mg base CX0 3 fI fdI ["web", "deeds", "value"] (spIsStep K W)) : FnOk P w K mg base CX0 4 f fd ["web", "deeds", "value"] (spSFault K W) := by
  obtain ⟨t1, hc1⟩ := c.steps
  refine D.F.ok scSF (fun vs H Q E h => ?_) (fun cdv A outer s H vs Q E hr h => ?_)
  · obtain ⟨w, v, o, n, d, ts, rfl, _⟩ := h
    rfl
  · obtain ⟨w, v, o, n, d, ts, rfl, hw, hv, q⟩ := h
    have hr1 := hr.mono (show 1 ≤ 3 by decide)
    refine ⟨_, pss_cons (ps_if (pt_not (pt_val (pc DS GS hr1 pass0 (pa_cons (pv 2) (pa_cons pe_int (pa_cons (pe_glob (v := .int 400) (by rfl) hc1 ⟨_, rfl⟩) pa_nil)))))) (pss_one (ps_ret (pe_un un_neg pe_int))) pss_nil)
      (pss_cons (ps_for PassesOwn.never rfl (pi_enumA (by rfl) B.enumerate (pa_cons (pv 2) pa_nil)) (pg_tup rfl (pgs_cons (pg_name (i := 3) scSF.nd rfl (.inl rfl)) (pgs_cons (pg_name (i := 4) scSF.nd rfl (.inl rfl)) pgs_nil)))
        (pss_one (ps_if (pt_not (pt_val (pc DI GI hr pass0 (pa_cons (pv 0) (pa_cons (pv 1) (pa_cons (pv 4) pa_nil)))))) (pss_one (ps_ret (pv 3))) pss_nil)))
      (pss_one (ps_ret pe_non))), ?_⟩
    cases hv with
    | no kv =>
      exact ⟨_, rfl, v, none, 0, 400, rfl, kv, fun H1 s1 => ⟨_, rfl, iteT ⟨_, rfl, q _ s1⟩⟩⟩
    | yes kv hl R =>
      rename_i xs rs
      refine ⟨_, rfl, v, some xs, 0, 400, rfl, kv, fun H1 s1 => ⟨_, rfl, ifD (fun e => ?_) fun e => ?_⟩⟩
      · have e' : seqB (some xs) 0 400 = false := by simpa using e
        have h4 : ¬ rs.length ≤ 400 := fun z => by
          rw [show seqB (some xs) 0 400 = true from by show (decide ((0 : Int) ≤ (xs.length : Int)) && decide ((xs.length : Int) ≤ 400)) = true; rw [decide_eq_true (by omega), decide_eq_true (by omega)]; rfl] at e'
          cases e'
        refine ⟨_, rfl, eqv (P := fun v => Q v H1) ?_ (q _ s1)⟩
        unfold sfV
        dsimp only
        rw [if_neg h4]
      · have e' : seqB (some xs) 0 400 = true := by simpa using e
        have h4 : rs.length ≤ 400 := by
          have z : (decide ((0 : Int) ≤ (xs.length : Int)) && decide ((xs.length : Int) ≤ 400)) = true := e'
          simp only [Bool.and_eq_true, decide_eq_true_eq] at z
          omega
        obtain ⟨a, rfl, hS⟩ := kv.seqA
        let Pv : Nat → L2.St → Hp → Prop := fun i σ H' => ∃ v3 v4 : Option V, σ = [some (.ref w), some (.int (d : Int)), some (.ref a), v3, v4] ∧ Same H H' ∧ ∀ (j : Nat) r, j < i → rs[j]? = some r → stB n ts.length d r = true
        have P0 : Pv 0 [some (.ref w), some (.int (d : Int)), some (.ref a), none, none] H1 := ⟨none, none, rfl, s1, fun j r hj => absurd hj (Nat.not_lt_zero _)⟩
        have stp : ∀ (i : Nat) x T (σ : L2.St) H' (Qn : L2.St → Hp → Prop), xs[i]? = some x → H' T = none → Pv i σ H' → (∀ v3 v4 H2, Same (L2.upd H' T (.tup [.int (i : Nat), x])) H2 → (∃ r, rs[i]? = some r ∧ stB n ts.length d r = true) → Pv (i + 1) [some (.ref w), some (.int (d : Int)), some (.ref a), v3, v4] H2) → True := fun _ _ _ _ _ _ _ _ _ _ => trivial
        have nxt : ∀ (i : Nat) x, xs[i]? = some x → ∃ r, rs[i]? = some r ∧ Sv K H x r := fun i x hx => by
          obtain ⟨r, hr'⟩ := ex_at (l := rs) (i := i) (by rw [← hl]; exact lt_at hx)
          exact ⟨r, hr', R i x r hx hr'⟩
        have gr : ∀ {i : Nat} {r}, rs[i]? = some r → stB n ts.length d r = true → (∀ (j : Nat) r, j < i → rs[j]? = some r → stB n ts.length d r = true) → ∀ (j : Nat) r, j < i + 1 → rs[j]? = some r → stB n ts.length d r = true := fun {i r} h1 h2 hb j y hj hy => by
          rcases Nat.lt_succ_iff_lt_or_eq.mp hj with z | z
          · exact hb j y z hy
          · subst z
            rw [h1] at hy
            rw [← Option.some.inj hy]
            exact h2
        refine nxP ⟨_, rfl, a, rfl, ?_⟩
        rcases hS with hS | hS
        · refine .inl ⟨xs, SqL.of (s1 _ _ hS), for_enumL (K := K) Pv P0 (fun i σ H' _ ⟨_, _, _, sm, _⟩ => SqL.of (sm _ _ hS)) ?_ ?_⟩
          · rintro i x T σ H' hx hT ⟨v3, v4, rfl, sm, hb⟩
            have sm2 : Same H (L2.upd H' T (.tup [.int (i : Nat), x])) := sm.trans (same_new hT)
            obtain ⟨r, hr', W'⟩ := nxt i x hx
            refine ⟨T, _, rfl, SqT.of upd_same, rfl, _, _, rfl, _, _, rfl, rfl, ?_⟩
            refine ⟨_, rfl, _, rfl, _, rfl, w, x, r, n, d, ts, rfl, hw.same sm2, W'.same sm2, fun H3 s3 => ⟨_, rfl, ifD (fun e => ?_) fun e => ?_⟩⟩
            · have e' : stB n ts.length d r = false := by simpa using e
              exact ⟨_, rfl, eqv (P := fun v => Q v H3) (sf_at h4 hr' e' hb).symm (q _ (sm2.trans s3))⟩
            · exact ⟨_, _, rfl, sm2.trans s3, gr hr' (by simpa using e) hb⟩
          · rintro σ H' ⟨v3, v4, rfl, sm, hb⟩
            refine eqv (P := fun v => Q v H') (sf_non (n := n) (t := ts.length) (d := d) h4 fun j y hj hy => hb j y (by rw [hl]; exact hj) hy).symm (q _ sm)
        · refine .inr ⟨xs, SqT.of (s1 _ _ hS), for_enumT (K := K) Pv P0 (fun i σ H' _ ⟨_, _, _, sm, _⟩ => SqT.of (sm _ _ hS)) ?_ ?_⟩
          · rintro i x T σ H' hx hT ⟨v3, v4, rfl, sm, hb⟩
            have sm2 : Same H (L2.upd H' T (.tup [.int (i : Nat), x])) := sm.trans (same_new hT)
            obtain ⟨r, hr', W'⟩ := nxt i x hx
            refine ⟨T, _, rfl, SqT.of upd_same, rfl, _, _, rfl, _, _, rfl, rfl, ?_⟩
            refine ⟨_, rfl, _, rfl, _, rfl, w, x, r, n, d, ts, rfl, hw.same sm2, W'.same sm2, fun H3 s3 => ⟨_, rfl, ifD (fun e => ?_) fun e => ?_⟩⟩
            · have e' : stB n ts.length d r = false := by simpa using e
              exact ⟨_, rfl, eqv (P := fun v => Q v H3) (sf_at h4 hr' e' hb).symm (q _ (sm2.trans s3))⟩
            · exact ⟨_, _, rfl, sm2.trans s3, gr hr' (by simpa using e) hb⟩
          · rintro σ H' ⟨v3, v4, rfl, sm, hb⟩
            refine eqv (P := fun v => Q v H') (sf_non (n := n) (t := ts.length) (d := d) h4 fun j y hj hy => hb j y (by rw [hl]; exact hj) hy).symm (q _ sm)
theorem scSO : FnScope ["web", "deeds", "value", "at", "step"] ["web", "deeds", "value"] (defScope sStepsOf) := ⟨rfl, rfl, rfl, by decide +kernel, rfl, by decide +kernel, by decide +kernel⟩
theorem ok_stepsOf {f fF W C cI : Addr} {fd fdF : FuncData} {bm : List Value} {ql : Str} (D : Df K mg "steps_of" sStepsOf ["web", "deeds", "value"] f fd) (DF : Df K mg "steps_fault" sStepsFault ["web", "deeds", "value"] fF fdF) (B : Bt mg) (T : LAt.Txt K mg "BadSteps" ql bm C cI)
    (GF : FnOk P w K mg base CX0 4 fF fdF ["web", "deeds", "value"] (spSFault K W)) : FnOk P w K mg base (L2.CX P w) 5 f fd ["web", "deeds", "value"] (spStepsOf K W C) := by
  refine D.F.okX scSO (fun vs H Q E h => ?_) (fun cdv A outer s H vs Q E hr h => ?_)
  · obtain ⟨w, v, o, n, d, ts, rfl, _⟩ := h
    rfl
  · obtain ⟨w, v, o, n, d, ts, rfl, hw, hv, qE, q⟩ := h
    refine ⟨_, pss_cons (ps_set (i := 3) scSO.nd rfl (.inl rfl) (pc DF GF hr pass0 (pa_cons (pv 0) (pa_cons (pv 1) (pa_cons (pv 2) pa_nil)))))
      (pss_cons (ps_if (pt_cmp (pc_notN (pv 3))) (pss_one (ps_raise_LAt rfl T hr (takes_of rfl rfl rfl rfl) (pa_cons (pv 3) pa_nil))) pss_nil)
      (pss_one (ps_ret (pe_callTy call_tuple_of (by rfl) B.tuple (by decide +kernel) (pa_cons
        (pe_lc (own := [("step", 4)]) (g := gName 4) (tt := tYes) rfl scSO.nd (pi_seqA (pv 2)) (blkOk_by (N := ["web", "deeds", "value", "at", "step"]) (sc := defScope sStepsOf) (by decide +kernel)) (fun _ _ _ _ _ => pg_name (i := 4) scSO.nd rfl (Or.inl rfl)) (fun _ _ _ _ _ => pts_nil)
          (fun _ _ _ _ _ => pe_callTy (ctup (K := K) rfl) (by rfl) B.tuple PyProof.Rows.boot_tuple (pa_cons (pv 4) pa_nil))) pa_nil))))), ?_⟩
    refine ⟨_, rfl, _, rfl, _, rfl, w, v, o, n, d, ts, rfl, hw, hv, fun H1 s1 => ?_⟩
    dsimp only [List.set]
    rcases sf_int (n := n) (t := ts.length) (d := d) (o := o) with e | ⟨z, e⟩
    · rw [e]
      refine ⟨_, rfl, _, rfl, iteF (nxP ?_)⟩
      obtain ⟨ss, rfl, h1, h2⟩ := sf_ok e
      have qq := q ss rfl h1 h2
      have hv1 := hv.same s1
      cases hv1 with
      | yes kv hl R =>
        rename_i xs
        rw [List.length_map] at hl
        have gett : ∀ (i : Nat) x, xs[i]? = some x → ∃ b s, x = .ref b ∧ ss[i]? = some s ∧ SeqA H1 b (stV s) := fun i x hx => by
          obtain ⟨s, hs⟩ := ex_at (l := ss) (i := i) (by rw [← hl]; exact lt_at hx)
          have S := R i x (some (stV s)) hx (by rw [List.getElem?_map, hs]; rfl)
          obtain ⟨b, rfl, h2⟩ := S.rw.kv.seqA
          exact ⟨b, s, rfl, hs, h2⟩
        obtain ⟨a, rfl, hS⟩ := kv.seqA
        let Lv : Addr → Nat → Hp → Prop := fun D i H2 => ∃ as : List Addr, as.length = i ∧ Same H1 H2 ∧ H2 D = some (.lst (as.map V.ref)) ∧ ∀ (j : Nat) b s, as[j]? = some b → ss[j]? = some s → H2 b = some (.tup (stV s))
        have fin : ∀ (D : Addr), H1 D = none → ∀ (i : Nat) (as : List Addr) (H2 H3 : Hp) (l : Addr) (s : Stp), i < xs.length → as.length = i → Same H1 H2 → H2 D = some (.lst (as.map V.ref)) → (∀ (j : Nat) b s, as[j]? = some b → ss[j]? = some s → H2 b = some (.tup (stV s))) → ss[i]? = some s → Same H2 H3 → H3 l = some (.tup (stV s)) →
            (∃ acc, H3 D = some (.lst acc) ∧ acc.length < sizeLine ∧ Lv D (i + 1) (upd H3 D (.lst (acc ++ [.ref l])))) := fun D hD i as H2 H3 l s hi ha s2 hD2 hA hs s3 hl3 => by
          have hD3 := s3 _ _ hD2
          have nl : l ≠ D := fun z => by rw [z, hD3] at hl3; cases hl3
          refine ⟨_, hD3, szl (by rw [List.length_map]; omega), as ++ [l], by rw [List.length_append, ha]; rfl, fun c o e => by rw [upd_ne (ne_of_none e hD)]; exact s3 _ _ (s2 _ _ e), by rw [upd_same, List.map_append]; rfl, fun j b t hb ht => ?_⟩
          by_cases hj : j < as.length
          · rw [List.getElem?_append_left hj] at hb
            have hb2 := hA j b t hb ht
            rw [upd_ne (fun z => by rw [z, hD2] at hb2; cases hb2)]
            exact s3 _ _ hb2
          · have hjl := lt_at hb
            rw [List.length_append] at hjl
            have : j = as.length := by simp only [List.length_cons, List.length_nil] at hjl; omega
            subst this
            rw [List.getElem?_append_right (Nat.le_refl _), Nat.sub_self] at hb
            obtain rfl : l = b := Option.some.inj hb
            rw [ha, hs] at ht
            obtain rfl := Option.some.inj ht
            rw [upd_ne nl]; exact hl3
        have dn : ∀ (D : Addr) (H2 : Hp), Lv D xs.length H2 → ∀ (Qx : VK), (∀ p H', Same H1 H' → StpsT H' p ss → Qx (.ref p) H') → ∃ as : List Addr, H2 D = some (.lst (as.map V.ref)) ∧ ∀ p, H2 p = none → Qx (.ref p) (upd H2 p (.tup (as.map V.ref))) := fun D H2 ⟨as, ha, s2, hD2, hA⟩ Qx hq =>
          ⟨as, hD2, fun p hp => hq p _ (s2.trans (same_new hp)) ⟨as, upd_same, ⟨by rw [ha, hl], fun i a s e1 e2 => same_new hp _ _ (hA i a s e1 e2)⟩⟩⟩
        refine ⟨_, rfl, a, rfl, ?_⟩
        rcases hS with hS | hS
        · refine .inl ⟨xs, SqL.of hS, fun D hD => lc_list (K := K) (a := a) (xs := xs) (Lv D) ⟨[], rfl, same_new hD, upd_same, fun j b t z => nomatch z⟩ (fun i H2 _ ⟨as, _, s5, _⟩ => SqL.of (s5 _ _ hS)) ?_ ?_⟩
          · rintro i x H2 hx ⟨as, ha, s2, hD2, hA⟩
            obtain ⟨b, s, e, hs, hb⟩ := gett i x hx
            subst e
            refine ⟨rfl, _, rfl, b, stV s, rfl, ?_⟩
            rcases hb with hb | hb
            · exact .inl ⟨SqL.of (s2 _ _ hb), fun l hl' => fin D hD i as H2 _ l s (lt_at hx) ha s2 hD2 hA hs (same_new hl') upd_same⟩
            · exact .inr ⟨SqT.of (s2 _ _ hb), fin D hD i as H2 _ b s (lt_at hx) ha s2 hD2 hA hs (fun _ _ e => e) (s2 _ _ hb)⟩
          · rintro H2 h2
            obtain ⟨as, hD2, k⟩ := dn D H2 h2 Q fun p H' s3 => qq p H' (s1.trans s3)
            exact ⟨D, _, rfl, .inl ⟨SqL.of hD2, k⟩⟩
        · refine .inr ⟨xs, SqT.of hS, fun D hD => lc_tup (K := K) (a := a) (xs := xs) (Lv D) ⟨[], rfl, same_new hD, upd_same, fun j b t z => nomatch z⟩ (fun i H2 _ ⟨as, _, s5, _⟩ => SqT.of (s5 _ _ hS)) ?_ ?_⟩
          · rintro i x H2 hx ⟨as, ha, s2, hD2, hA⟩
            obtain ⟨b, s, e, hs, hb⟩ := gett i x hx
            subst e
            refine ⟨rfl, _, rfl, b, stV s, rfl, ?_⟩
            rcases hb with hb | hb
            · exact .inl ⟨SqL.of (s2 _ _ hb), fun l hl' => fin D hD i as H2 _ l s (lt_at hx) ha s2 hD2 hA hs (same_new hl') upd_same⟩
            · exact .inr ⟨SqT.of (s2 _ _ hb), fin D hD i as H2 _ b s (lt_at hx) ha s2 hD2 hA hs (fun _ _ e => e) (s2 _ _ hb)⟩
          · rintro H2 h2
            obtain ⟨as, hD2, k⟩ := dn D H2 h2 Q fun p H' s3 => qq p H' (s1.trans s3)
            exact ⟨D, _, rfl, .inl ⟨SqL.of hD2, k⟩⟩
    · rw [e]
      exact ⟨_, rfl, _, rfl, iteT ⟨_, rfl, _, rfl, fun d' hd => qE z e d' _ (s1.trans (same_new hd)) (s1.free hd) upd_same⟩⟩
theorem scCkS : FnScope ["machine", "web", "value"] ["machine", "web", "value"] (defScope sCheckSteps) := ⟨rfl, rfl, rfl, by decide +kernel, rfl, by decide +kernel, by decide +kernel⟩
theorem ok_ckSteps {f fF M W C : Addr} {fd fdF : FuncData} (D : Df K mg "check_steps" sCheckSteps ["machine", "web", "value"] f fd) (DF : Df K mg "steps_of" sStepsOf ["web", "deeds", "value"] fF fdF) (T : McT K mg M)
    (GF : FnOk P w K mg base (L2.CX P w) 5 fF fdF ["web", "deeds", "value"] (spStepsOf K W C)) : FnOk P w K mg base (L2.CX P w) 6 f fd ["machine", "web", "value"] (spCkSteps K M W C) := by
  refine D.F.okX scCkS (fun vs H Q E h => ?_) (fun cdv A outer s H vs Q E hr h => ?_)
  · obtain ⟨m, ta, w, tb, v, o, n, ts, rfl, _⟩ := h
    rfl
  · obtain ⟨m, ta, w, tb, v, o, n, ts, rfl, hM, hw, hv, qE, q⟩ := h
    refine ⟨_, pss_one (ps_ret (pc DF GF hr (pass1 (takes_of rfl rfl rfl rfl)) (pa_cons (pv 1) (pa_cons (pe_fld (pv 0) rfl) (pa_cons (pv 2) pa_nil))))), ?_⟩
    obtain ⟨dx, h1⟩ := hM.fs
    exact ⟨_, rfl, _, rfl, m, M, dx, _, _, rfl, h1, T.cl, T.nD, mf_d _ _ _, _, rfl, w, v, o, n, tb.length, ts, rfl, hw, hv, qE, q⟩
end
end K1
namespace TM
open PySem PySem.Spec PyProof.Rows L2
theorem mul1 (l : Addr) (items : Array Value) (n : Nat) (dd : Option Addr) (sl : Array (Option Value)) (u : Tok) :
    Meets (Builtin.«tuple.__mul__» ⟨[.ref l, .int 1 u], []⟩) (fun _ R s => s.heap.get? l = some { cls := .type "tuple", dict := dd, data := .seq items n, slots := sl } ∧ R (.ok (.ret (Value.ref l))) s) :=
  .of_wp fun prog w A R s h => by
    obtain ⟨hp, g, d, tk, os⟩ := s
    obtain ⟨hl, h⟩ := h
    have f1 := AutoSeq1.idx_int
    have c0 : (decide ((1 : Int) < -(2 ^ 63)) || decide ((1 : Int) ≥ 2 ^ 63)) = false := by decide
    have c1 : (items.isEmpty || (1 : Int) == 1) = true := by rw [show ((1 : Int) == 1) = true by decide, Bool.or_true]
    wp_walk using wpAny_loadPart' hl
    repeat (first
      | (refine wpAny_ite_false (decide_eq_false (by rw [c0]; exact Bool.false_ne_true)) ?_; wp_walk using wpAny_loadPart' hl)
      | (refine wpAny_ite_true (decide_eq_true (by rw [c1])) ?_; wp_walk using wpAny_loadPart' hl))
    exact ⟨_, rfl, h⟩
theorem mul0 (l : Addr) (items : Array Value) (n : Nat) (dd : Option Addr) (sl : Array (Option Value)) (u : Tok) (c1 : (items.isEmpty || (0 : Int) == 1) = false) :
    Meets (Builtin.«tuple.__mul__» ⟨[.ref l, .int 0 u], []⟩) (fun _ R s => s.heap.get? l = some { cls := .type "tuple", dict := dd, data := .seq items n, slots := sl } ∧
      R (.ok (.ret (Value.ref s.heap.objs.size))) { s with heap := s.heap.push { cls := Value.type "tuple", data := Data.seq #[] }, toks := s.toks }) :=
  .of_wp fun prog w A R s h => by
    obtain ⟨hp, g, d, tk, os⟩ := s
    obtain ⟨hl, h⟩ := h
    have f1 := AutoSeq1.idx_int
    have c0 : (decide ((0 : Int) < -(2 ^ 63)) || decide ((0 : Int) ≥ 2 ^ 63)) = false := by decide
    have c2 : (decide ((0 : Int) ≤ 0) || items.isEmpty) = true := by rw [decide_eq_true (by decide)]; rfl
    wp_walk using wpAny_loadPart' hl
    repeat (first
      | (refine wpAny_ite_false (decide_eq_false (by rw [c0]; exact Bool.false_ne_true)) ?_; wp_walk using wpAny_loadPart' hl)
      | (refine wpAny_ite_false (decide_eq_false (by rw [c1]; exact Bool.false_ne_true)) ?_; wp_walk using wpAny_loadPart' hl)
      | (refine wpAny_ite_true (decide_eq_true (by rw [c2])) ?_; wp_walk using wpAny_loadPart' hl))
    exact ⟨_, rfl, h⟩
noncomputable def rRepG (K : PySem.W.Frag) : R2 := fun x y H Q => ∃ l k xs, x = .ref l ∧ y = .int k ∧ H l = some (.tup xs) ∧ xs ≠ [] ∧ 0 ≤ k ∧ k ≤ 1000 ∧ xs.length ≤ 1000 ∧ ∀ p H', Same H H' → H' p = some (.tup (List.replicate k.toNat xs).flatten) → Q (.ref p) H'
theorem op_repG {X : Cx} {K : PySem.W.Frag} (hK : X.K = K) : OpR X (binaryOp .Mult) (rRepG K) := by
  subst hK
  intro pins s σ H x y v u Q I rx ry h
  obtain ⟨l, k, xs, rfl, rfl, hT, hne, h1, h2, hz, q⟩ := h
  by_cases k2 : 2 ≤ k
  · exact op_repT pins s σ H _ _ v u Q I rx ry ⟨l, k, xs, rfl, rfl, SqT.of hT, hne, k2, h2, hz, fun p hp => q p _ (K1.same_new hp) upd_same⟩
  cases rx
  obtain ⟨t, rfl⟩ := ry
  obtain ⟨its, r, ⟨⟨cls, dd, data, sl⟩, ho, hc, n, hd⟩, hs⟩ := I.tuple (SqT.of hT)
  simp only at hc hd
  subst hc hd
  have hle : its.length = xs.length := r.length.symm
  have hn : its ≠ [] := fun e => hne (by
    rw [e] at hle
    exact List.eq_nil_of_length_eq_zero hle.symm)
  have hi : its.toArray.isEmpty = false := by
    cases its with
    | nil => exact absurd rfl hn
    | cons a b => rfl
  have k01 : k = 0 ∨ k = 1 := by omega
  rcases k01 with rfl | rfl
  · have c1 : (its.toArray.isEmpty || (0 : Int) == 1) = false := by rw [hi]; rfl
    refine wpAny_binaryOp_repeat_ref (T := "tuple") (U := "int") (by decide) ⟨_, ho, rfl⟩ (fun s' => typeIs_int s' 0 t) noFill_tuple_mul F.fills_int_mul F.slot_int_rmul repeat_tuple F.slot_int_index.lookup
      (call_meets F.slot_int_rmul (typeIs_int s 0 t) F.entry_int_rmul (F.args_int_rmul_2 _ _) (int_rmul_tuple 0 t l its.toArray n dd sl)
        ⟨ho, rfl, ⟨_, ho, rfl⟩, call_meets F.slot_tuple_mul ⟨_, ho, rfl⟩ F.entry_tuple_mul (F.args_tuple_mul_2 _ _) (mul0 l its.toArray n dd sl t c1) ⟨ho, ?_⟩⟩)
    have hf := I.hok.fresh (Nat.le_refl s.heap.objs.size)
    refine ⟨.ref s.heap.objs.size, _, I.laid (t' := s.toks) (o := .tup []) (fun b ob q => Heap.get?_push_of_some _ q) (Nat.le_refl _) ?_, rfl, q _ _ (K1.same_new hf) upd_same⟩
    exact ⟨by show 0 ≤ sizeLine; decide, [], .nil, IsTup.new _ _⟩
  · refine wpAny_binaryOp_repeat_ref (T := "tuple") (U := "int") (by decide) ⟨_, ho, rfl⟩ (fun s' => typeIs_int s' 1 t) noFill_tuple_mul F.fills_int_mul F.slot_int_rmul repeat_tuple F.slot_int_index.lookup
      (call_meets F.slot_int_rmul (typeIs_int s 1 t) F.entry_int_rmul (F.args_int_rmul_2 _ _) (int_rmul_tuple 1 t l its.toArray n dd sl)
        ⟨ho, rfl, ⟨_, ho, rfl⟩, call_meets F.slot_tuple_mul ⟨_, ho, rfl⟩ F.entry_tuple_mul (F.args_tuple_mul_2 _ _) (mul1 l its.toArray n dd sl t) ⟨ho, ?_⟩⟩)
    refine ⟨.ref l, H, I, rfl, q l H (fun _ _ e => e) ?_⟩
    rw [hT]
    simp
end TM
namespace Z3
open PySem PySem.Spec PyProof.Rows L2
noncomputable def It3 (K : PySem.W.Frag) (a b c : Addr) : It :=
  ⟨fun i H => ∃ (xs ys zs : List V) (x y z : V), SqT K H a xs ∧ SqT K H b ys ∧ SqT K H c zs ∧ xs[i]? = some x ∧ ys[i]? = some y ∧ zs[i]? = some z,
    fun i H v H' => ∃ T x y z, v = .ref T ∧ H T = none ∧ H' = upd H T (.tup [x, y, z]) ∧ (∀ xs, SqT K H a xs → xs[i]? = some x) ∧ (∀ ys, SqT K H b ys → ys[i]? = some y) ∧ ∀ zs, SqT K H c zs → zs[i]? = some z,
    fun i H => ∃ xs ys zs : List V, SqT K H a xs ∧ SqT K H b ys ∧ SqT K H c zs ∧ i ≤ xs.length ∧ i ≤ ys.length ∧ i ≤ zs.length ∧ (i = xs.length ∨ i = ys.length ∨ i = zs.length)⟩
theorem zlt {h : Heap} {c : Addr} {o : Obj} (e : h.get? c = some o) : c ≠ h.objs.size := Nat.ne_of_lt (Heap.lt_size e)
structure Sep (z TI TO i1 i2 i3 a b c : Addr) : Prop extends ZipSep3 z TI TO i1 i2 i3 [i1, a] [i2, b] [i3, c] where
  na : a ≠ i1
  nb : b ≠ i2
  nc : c ≠ i3
  n1 : i1 ≠ z
  n2 : i2 ≠ z
  n3 : i3 ≠ z
theorem itobj {h : Heap} {i l : Addr} {k : Nat} (x : h.IsTupleIter i l k) : ∃ o, h.get? i = some o ∧ ∀ v, o.data ≠ .cell v := by
  obtain ⟨o, e, _, d⟩ := x
  exact ⟨o, e, fun v q => by rw [d] at q; cases q⟩
theorem turn3 {P : Program} {w : World} {K : PySem.W.Frag} {elts : List Expr} {kk : Nat} {tpos : Pos} {a b c z TI TO i1 i2 i3 : Addr} (S : Sep z TI TO i1 i2 i3 a b c) :
    Turn P w K (.Tuple elts kk tpos) (It3 K a b c) [z, TI, TO, i1, i2, i3] z (fun i h => IsZip h z TI TO .none ∧ IsTupOf3 h TI (.ref i1) (.ref i2) (.ref i3) ∧ (∃ x y z, IsTupOf3 h TO x y z) ∧ h.IsTupleIter i1 a i ∧ h.IsTupleIter i2 b i ∧ h.IsTupleIter i3 c i) where
  mem := by simp
  obj := fun i h st c hc => by
    obtain ⟨hz, hTI, ⟨x, y, w, hTO⟩, h1, h2, h3⟩ := st
    simp only [List.mem_cons, List.mem_nil_iff, or_false] at hc
    rcases hc with rfl | rfl | rfl | rfl | rfl | rfl
    · exact ⟨_, hz, fun v q => nomatch q⟩
    · exact ⟨_, hTI, fun v q => nomatch q⟩
    · exact ⟨_, hTO, fun v q => nomatch q⟩
    · exact itobj h1
    · exact itobj h2
    · exact itobj h3
  keep := fun i h h' st k => by
    obtain ⟨hz, hTI, ⟨x, y, w, hTO⟩, h1, h2, h3⟩ := st
    exact ⟨k _ (by simp) _ hz, k _ (by simp) _ hTI, ⟨x, y, w, k _ (by simp) _ hTO⟩, h1.at fun o q => k _ (by simp) o q, h2.at fun o q => k _ (by simp) o q, h3.at fun o q => k _ (by simp) o q⟩
  item := by
    intro X hP hw hK hc i pins s σ H E I hf st hg
    subst hP hw hK
    obtain ⟨hz, hTI, ⟨x0, y0, w0, hTO⟩, h1, h2, h3⟩ := st
    obtain ⟨xs, ys, zs, x, y, w, hqx, hqy, hqz, hx, hy, hw⟩ := hg
    obtain ⟨its, rv, p, _⟩ := I.tuple hqx
    obtain ⟨its2, rv2, p2, _⟩ := I.tuple hqy
    obtain ⟨its3, rv3, p3, _⟩ := I.tuple hqz
    obtain ⟨u, hu, ru⟩ := rv.get hx
    obtain ⟨u2, hu2, ru2⟩ := rv2.get hy
    obtain ⟨u3, hu3, ru3⟩ := rv3.get hw
    have l1 : i < its.toArray.size := by simpa using (List.getElem?_eq_some_iff.mp hu).1
    have l2 : i < its2.toArray.size := by simpa using (List.getElem?_eq_some_iff.mp hu2).1
    have l3 : i < its3.toArray.size := by simpa using (List.getElem?_eq_some_iff.mp hu3).1
    have d1 := Draws.tuple (prog := X.prog) (w := X.w) (A := X.A.in1) (I.ok.hd hc) i1 a S.na its.toArray
    have d2 := Draws.tuple (prog := X.prog) (w := X.w) (A := X.A.in1) (I.ok.hd hc) i2 b S.nb its2.toArray
    have d3 := Draws.tuple (prog := X.prog) (w := X.w) (A := X.A.in1) (I.ok.hd hc) i3 c S.nc its3.toArray
    refine wpAny_pyNext_zipD3_item S.toZipSep3 d1 d2 d3 hz hTI hTO ⟨h1, p⟩ ⟨h2, p2⟩ ⟨h3, p3⟩ l1 l2 l3 fun v1 v2 v3 h' tk e1 e2 e3 z' TO' s1' s2' s3' hT hsz hk => ?_
    obtain rfl : u = v1 := by
      have q : its[i]? = some v1 := by simpa using e1
      exact Option.some.inj (hu.symm.trans q)
    obtain rfl : u2 = v2 := by
      have q : its2[i]? = some v2 := by simpa using e2
      exact Option.some.inj (hu2.symm.trans q)
    obtain rfl : u3 = v3 := by
      have q : its3[i]? = some v3 := by simpa using e3
      exact Option.some.inj (hu3.symm.trans q)
    refine ⟨_, rfl, wpAny_letOwnedTupleGo_zip (s := { s with heap := h', toks := tk }) z' fun h'' z'' sb => ?_⟩
    have nz := zlt hz
    have hT2 : h''.get? s.heap.objs.size = some { cls := .type "tuple", data := .seq #[u, u2, u3] } := (sb.2 _ (Ne.symm nz)).trans hT
    have new : ObjOk X.prog X.w (upd H s.heap.objs.size (.tup [x, y, w])) h'' s.heap.objs.size (.tup [x, y, w]) :=
      ⟨by show 3 ≤ sizeLine; decide, [u, u2, u3], .cons ru (.cons ru2 (.cons ru3 .nil)), ⟨_, hT2, rfl, _, rfl⟩⟩
    have I1 : Inv X pins σ (upd H s.heap.objs.size (.tup [x, y, w])) { s with heap := h'', toks := tk } :=
      I.turnedNew (t' := tk) (ch := [z, TI, TO, i1, i2, i3]) (fun c o hb q => (sb.2 c (fun q' => hb (by simp [q']))).trans (hk c o (fun q' => hb (by simp [q'])) (fun q' => hb (by simp [q'])) (fun q' => hb (by simp [q'])) (fun q' => hb (by simp [q'])) (fun q' => hb (by simp [q'])) q)) hf (Nat.le_refl _) new
    have back : ∀ c o, c ≠ z → h'.get? c = some o → h''.get? c = some o := fun c o k q => (sb.2 c k).trans q
    refine ⟨.ref s.heap.objs.size, _, I1, rfl, ⟨_, x, y, w, rfl, I.hok.fresh (Nat.le_refl _), rfl, fun l hl => by rw [I.tuple_inj hl hqx]; exact hx, fun l hl => by rw [I.tuple_inj hl hqy]; exact hy, fun l hl => by rw [I.tuple_inj hl hqz]; exact hw⟩, ⟨z'', back _ _ S.TIz (hk _ _ S.TIz S.TITO S.TIi1 S.TIi2 S.TIi3 hTI), ⟨u, u2, u3, back _ _ S.TOz TO'⟩, s1'.1.at fun o q => back _ o S.n1 q, s2'.1.at fun o q => back _ o S.n2 q, s3'.1.at fun o q => back _ o S.n3 q⟩, fun c hcm => ?_⟩
    have hlt : c ≠ s.heap.objs.size := by
      simp only [List.mem_cons, List.mem_nil_iff, or_false] at hcm
      rcases hcm with rfl | rfl | rfl | rfl | rfl | rfl
      · exact nz
      · exact zlt hTI
      · exact zlt hTO
      · obtain ⟨o, e, _⟩ := itobj h1; exact zlt e
      · obtain ⟨o, e, _⟩ := itobj h2; exact zlt e
      · obtain ⟨o, e, _⟩ := itobj h3; exact zlt e
    rw [upd_ne hlt]
    exact (hf c hcm).1
  done := by
    intro X hP hw hK hc i pins s σ H E I hf st hg
    subst hP hw hK
    obtain ⟨hz, hTI, ⟨x0, y0, w0, hTO⟩, h1, h2, h3⟩ := st
    obtain ⟨xs, ys, zs, hqx, hqy, hqz, k1, k2, k3, hend⟩ := hg
    obtain ⟨its, rv, p, _⟩ := I.tuple hqx
    obtain ⟨its2, rv2, p2, _⟩ := I.tuple hqy
    obtain ⟨its3, rv3, p3, _⟩ := I.tuple hqz
    have l1 : its.toArray.size = xs.length := by have := rv.length; simp; omega
    have l2 : its2.toArray.size = ys.length := by have := rv2.length; simp; omega
    have l3 : its3.toArray.size = zs.length := by have := rv3.length; simp; omega
    have d1 := Draws.tuple (prog := X.prog) (w := X.w) (A := X.A.in1) (I.ok.hd hc) i1 a S.na its.toArray
    have d2 := Draws.tuple (prog := X.prog) (w := X.w) (A := X.A.in1) (I.ok.hd hc) i2 b S.nb its2.toArray
    have d3 := Draws.tuple (prog := X.prog) (w := X.w) (A := X.A.in1) (I.ok.hd hc) i3 c S.nc its3.toArray
    exact wpAny_pyNext_zipD3_end S.toZipSep3 d1 d2 d3 hz hTI hTO ⟨h1, p⟩ ⟨h2, p2⟩ ⟨h3, p3⟩ (by rw [l1]; exact k1) (by rw [l2]; exact k2) (by rw [l3]; exact k3) (by rw [l1, l2, l3]; exact hend) fun h' tk hk =>
      ⟨rfl, I.turnedL (t' := tk) (ch := [z, TI, TO, i1, i2, i3]) (fun c o hb q => hk c o (fun q' => hb (by simp [q'])) (fun q' => hb (by simp [q'])) (fun q' => hb (by simp [q'])) (fun q' => hb (by simp [q'])) (fun q' => hb (by simp [q'])) q) hf⟩
  self := fun A i s Q E st h => wpAny_pyIter_zip st.1 h
theorem nne (x y : Nat) (h : x < y ∨ y < x) : @Ne Addr x y := fun z => by
  have z' : @Eq Nat x y := z
  omega
theorem nin (x y y2 : Nat) (h : x < y ∨ y < x) (h2 : x < y2 ∨ y2 < x) : @Membership.mem Addr (List Addr) _ [y, y2] x → False := fun m => by
  rcases List.mem_cons.mp m with z | m
  · exact nne _ _ h z
  · exact nne _ _ h2 (List.mem_singleton.mp m)
theorem sep (n a b c : Nat) (ha : a < n) (hb : b < n) (hc : c < n) : Sep (n + 5) (n + 3) (n + 4) n (n + 1) (n + 2) a b c :=
  { TIz := nne _ _ (by omega), TOz := nne _ _ (by omega), TITO := nne _ _ (by omega)
    TIi1 := nne _ _ (by omega), mem1 := List.mem_cons_self, zf1 := nin _ _ _ (by omega) (by omega), Tf1 := nin _ _ _ (by omega) (by omega)
    TIi2 := nne _ _ (by omega), mem2 := List.mem_cons_self, zf2 := nin _ _ _ (by omega) (by omega), Tf2 := nin _ _ _ (by omega) (by omega)
    TIi3 := nne _ _ (by omega), mem3 := List.mem_cons_self, zf3 := nin _ _ _ (by omega) (by omega), Tf3 := nin _ _ _ (by omega) (by omega)
    sep1_2 := nin _ _ _ (by omega) (by omega), sep1_3 := nin _ _ _ (by omega) (by omega), sep2_1 := nin _ _ _ (by omega) (by omega)
    sep2_3 := nin _ _ _ (by omega) (by omega), sep3_1 := nin _ _ _ (by omega) (by omega), sep3_2 := nin _ _ _ (by omega) (by omega)
    na := nne _ _ (by omega), nb := nne _ _ (by omega), nc := nne _ _ (by omega), n1 := nne _ _ (by omega), n2 := nne _ _ (by omega), n3 := nne _ _ (by omega) }
theorem six (n c : Nat) (h : c ∈ [n + 5, n + 3, n + 4, n, n + 1, n + 2]) : n ≤ c := by
  simp only [List.mem_cons, List.mem_nil_iff, or_false] at h
  omega
noncomputable def iZip3 (K : PySem.W.Frag) (ta : TA) : TI := fun σ H R => ta σ H fun vs H1 => ∃ a b c xs ys zs, vs = [.ref a, .ref b, .ref c] ∧ SqT K H1 a xs ∧ SqT K H1 b ys ∧ SqT K H1 c zs ∧ R (It3 K a b c) H1
theorem pi_zip3 {X : Cx} {e e2 e3 : Expr} {ta : TA} {p pos tpos : Pos} {elts : List Expr} {kk : Nat} (hg : Gl X "zip") (hm : X.mg "zip" = none) (ha : PA X [e, e2, e3] ta)
    (hs : starEach [e, e2, e3] X.env = (false, eval e X.env) :: starEach [e2, e3] X.env := by rfl) (hpl : (backTo pos (starEach [e2, e3] X.env)).any (·.1) = false := by rfl) :
    PI X (.Tuple elts kk tpos) (.Call (.Name "zip" p) [e, e2, e3] [] pos) (iZip3 X.K ta) := by
  refine ⟨fun pins s σ H R I h => ?_⟩
  have run := ha.run pos pins s σ H _ I h
  refine Call_ (ld_blt I hg hm PyProof.Rows.boot_zip ?_)
  refine PyProof.Rows.callWith_type1 (thn run ?_) hs hpl
  rintro us s1 ⟨vs, H1, I1, r1, a, b, c, xs, ys, zs, rfl, hqx, hqy, hqz, q⟩
  cases r1 with
  | cons r rr =>
   cases rr with
   | cons r' rr =>
    cases rr with
    | cons r'' rr =>
     cases rr
     cases r
     cases r'
     cases r''
     obtain ⟨its, rv, p1, _⟩ := I1.tuple hqx
     obtain ⟨its2, rv2, p2, _⟩ := I1.tuple hqy
     obtain ⟨its3, rv3, p3, _⟩ := I1.tuple hqz
     have la : a < s1.heap.objs.size := by obtain ⟨o, ho, _⟩ := id p1; exact Heap.lt_size ho
     have lb : b < s1.heap.objs.size := by obtain ⟨o, ho, _⟩ := id p2; exact Heap.lt_size ho
     have lc : c < s1.heap.objs.size := by obtain ⟨o, ho, _⟩ := id p3; exact Heap.lt_size ho
     refine zip_begins3 (begins_tuple a its.toArray) (begins_tuple b its2.toArray) (begins_tuple c its3.toArray) p1 p2 p3 fun h' hz hTI hTO g1 g2 g3 hsz hk => wpAny_pyIter_zip hz ?_
     have I2 : Inv X pins σ H1 { s1 with heap := h' } := I1.kept (t' := s1.toks) hk
     refine ⟨_, [s1.heap.objs.size + 5, s1.heap.objs.size + 3, s1.heap.objs.size + 4, s1.heap.objs.size, s1.heap.objs.size + 1, s1.heap.objs.size + 2], _, _, H1, rfl, I2, turn3 (sep _ _ _ _ la lb lc), ⟨hz, hTI, ⟨_, _, _, hTO⟩, ⟨_, g1, rfl, rfl⟩, ⟨_, g2, rfl, rfl⟩, ⟨_, g3, rfl, rfl⟩⟩, fun c hcm => ?_, q⟩
     have hle : s1.heap.objs.size ≤ c := six _ _ hcm
     exact I1.fpOk hle (I1.hok.fresh hle)
theorem lc_zip3 {K : PySem.W.Frag} {a b c : Addr} {xs ys zs : List V} {g : TG} {tt : TT} {te : TE} {vs : List Nat} {σ : L2.St} {H1 : Hp} {D : Addr} {Qd : Hp → Prop} (hl1 : xs.length = ys.length) (hl2 : xs.length = zs.length) (Pv : Nat → Hp → Prop) (h0 : Pv 0 (upd H1 D (.lst []))) (hq : ∀ i H, i ≤ xs.length → Pv i H → SqT K H a xs ∧ SqT K H b ys ∧ SqT K H c zs)
    (hs : ∀ i x y z T H, xs[i]? = some x → ys[i]? = some y → zs[i]? = some z → H T = none → Pv i H → g (.ref T) (wipe σ vs) (upd H T (.tup [x, y, z])) fun σ2 H2 => wipe σ2 vs = wipe σ vs ∧ tt σ2 H2 fun b H3 =>
      if b = true then te σ2 H3 fun y H4 => ∃ acc, H4 D = some (.lst acc) ∧ acc.length < sizeLine ∧ Pv (i + 1) (upd H4 D (.lst (acc ++ [y]))) else Pv (i + 1) H3) (hd : ∀ H, Pv xs.length H → Qd H) :
    ∃ W : Nat → Nat → Hp → Prop, (∃ m, W 0 m (upd H1 D (.lst []))) ∧ ∀ i m H, W i m H →
      ((It3 K a b c).stop i H ∧ Qd H) ∨ ((It3 K a b c).go i H ∧ ∃ Nx : Hp → Prop, (∀ H', Nx H' → ∃ m', m' < m ∧ W (i + 1) m' H') ∧ ∀ x H', (It3 K a b c).yld i H x H' → g x (wipe σ vs) H' fun σ2 H2 => wipe σ2 vs = wipe σ vs ∧ tt σ2 H2 fun b H3 =>
        if b = true then te σ2 H3 fun y H4 => ∃ acc, H4 D = some (.lst acc) ∧ acc.length < sizeLine ∧ Nx (upd H4 D (.lst (acc ++ [y]))) else Nx H3) := by
  refine ⟨fun i m H => m = xs.length - i ∧ i ≤ xs.length ∧ Pv i H, ⟨xs.length, by simp, Nat.zero_le _, h0⟩, ?_⟩
  rintro i m H ⟨rfl, hi, p⟩
  obtain ⟨q1, q2, q3⟩ := hq i H hi p
  by_cases hlt : i < xs.length
  · have hlt2 : i < ys.length := by omega
    have hlt3 : i < zs.length := by omega
    refine .inr ⟨⟨xs, ys, zs, _, _, _, q1, q2, q3, List.getElem?_eq_getElem hlt, List.getElem?_eq_getElem hlt2, List.getElem?_eq_getElem hlt3⟩, Pv (i + 1), fun H' p' => ⟨xs.length - (i + 1), by omega, rfl, hlt, p'⟩, fun x H' y => ?_⟩
    obtain ⟨T, x', y', z', e1, e2, e3, e4, e5, e6⟩ := y
    subst e1 e3
    exact hs i x' y' z' T H (e4 xs q1) (e5 ys q2) (e6 zs q3) e2 p
  · have e : i = xs.length := by omega
    subst e
    exact .inl ⟨⟨xs, ys, zs, q1, q2, q3, Nat.le_refl _, by omega, by omega, .inl rfl⟩, hd H p⟩
end Z3
namespace K1
open PySem PySem.Spec PyProof.Rows L2
theorem tt_in {T : TA} {σ : L2.St} {H : Hp} {Q : VK} (h : tTup T σ H fun x H1 => 1 ≤ sizeLine ∧ ∀ q, H1 q = none → Q (.ref q) (upd H1 q (.tup [x]))) : tTup (tCons (tTup T) tNil) σ H Q := h
theorem tt_c {v : V} {t : TA} {σ : L2.St} {H : Hp} {Q : VK} (h : t σ H fun vs H1 => (v :: vs).length ≤ sizeLine ∧ ∀ p, H1 p = none → Q (.ref p) (upd H1 p (.tup (v :: vs)))) : tTup (tCons (tC v) t) σ H Q := h
noncomputable def But (c : Addr) (H H' : Hp) : Prop := ∀ b u, H b = some u → b ≠ c → H' b = some u
theorem But.refl {c : Addr} {H : Hp} : But c H H := fun _ _ e _ => e
theorem But.trans {c : Addr} {H H1 H2 : Hp} (a : But c H H1) (b : But c H1 H2) : But c H H2 := fun d u e n => b d u (a d u e n) n
theorem But.same {c : Addr} {H H1 H2 : Hp} (a : But c H H1) (s : Same H1 H2) : But c H H2 := fun d u e n => s _ _ (a d u e n)
theorem Same.but {c : Addr} {H H1 : Hp} (s : Same H H1) : But c H H1 := fun d u e _ => s _ _ e
theorem But.upd {c : Addr} {H : Hp} {o : HO} : But c H (upd H c o) := fun d u e n => by rw [upd_ne n]; exact e
theorem But.put {c : Addr} {H H' : Hp} {o : HO} (s : Same H H') : But c H (L2.upd H' c o) := fun d u e n => by rw [upd_ne n]; exact s _ _ e
noncomputable def nf (fi : Int) (m w sa aa pa : Addr) : List (Str × V) := [("first", .int fi), ("machine", .ref m), ("web", .ref w), ("states", .ref sa), ("archives", .ref aa), ("steps", .ref pa)]
noncomputable def f3 (fi : Int) (m w : Addr) : List (Str × V) := [("first", .int fi), ("machine", .ref m), ("web", .ref w)]
noncomputable def f5 (fi : Int) (m w sa aa : Addr) : List (Str × V) := [("first", .int fi), ("machine", .ref m), ("web", .ref w), ("states", .ref sa), ("archives", .ref aa)]
section
variable (fi : Int) (m w sa aa pa x : Addr)
theorem f3_eq : putF ("web" : Str) (.ref w) (putF ("machine" : Str) (.ref m) (putF ("first" : Str) (.int fi) [])) = f3 fi m w := by rfl
theorem f5_eq : putF ("archives" : Str) (.ref aa) (putF ("states" : Str) (.ref sa) (f3 fi m w)) = f5 fi m w sa aa := by rfl
theorem f6_eq : putF ("steps" : Str) (.ref pa) (f5 fi m w sa aa) = nf fi m w sa aa pa := by rfl
theorem nf_m : (nf fi m w sa aa pa).lookup ("machine" : Str) = some (.ref m) := by rfl
theorem nf_w : (nf fi m w sa aa pa).lookup ("web" : Str) = some (.ref w) := by rfl
theorem nf_s : (nf fi m w sa aa pa).lookup ("states" : Str) = some (.ref sa) := by rfl
theorem nf_a : (nf fi m w sa aa pa).lookup ("archives" : Str) = some (.ref aa) := by rfl
theorem nf_p : (nf fi m w sa aa pa).lookup ("steps" : Str) = some (.ref pa) := by rfl
theorem nf_ps : putF ("states" : Str) (.ref x) (nf fi m w sa aa pa) = nf fi m w x aa pa := by rfl
theorem nf_pa : putF ("archives" : Str) (.ref x) (nf fi m w sa aa pa) = nf fi m w sa x pa := by rfl
theorem nf_pp : putF ("steps" : Str) (.ref x) (nf fi m w sa aa pa) = nf fi m w sa aa x := by rfl
end
structure Ev where
  m : Addr
  ta : Addr
  w : Addr
  tb : Ts
  n : Nat
  ts : Prs
  fi : Int
structure Sn where
  ss : List Int
  ar : List Int
  ds : List Stp
structure EvAt (M W : Addr) (H : Hp) (e : Ev) : Prop where
  mc : MachAt M H e.m e.ta (vts e.tb)
  wb : WebAt W H e.w e.n e.ts
  wf : Wf e.tb
  wv : Wv e.n e.ts
theorem EvAt.same {M W : Addr} {H H' : Hp} {e : Ev} (h : EvAt M W H e) (s : Same H H') : EvAt M W H' e := ⟨h.mc.same s, h.wb.same s, h.wf, h.wv⟩
theorem MachAt.but {N M : Addr} {H H' : Hp} {c m ta : Addr} {ts : List (List V)} {dx : Addr} {fs : List (Str × V)} (h : MachAt M H m ta ts) (hc : H c = some (.ins N dx fs)) (nm : m ≠ c) (b : But c H H') : MachAt M H' m ta ts := by
  obtain ⟨⟨dx', t0, h0, h1⟩, as, h2, h3, h4⟩ := h
  have nt : ∀ {a : Addr} {xs : List V}, H a = some (.tup xs) → a ≠ c := fun e z => by rw [z, hc] at e; cases e
  exact ⟨⟨dx', t0, h0, b _ _ h1 nm⟩, as, b _ _ h2 (nt h2), h3, fun i a t e1 e2 => b _ _ (h4 i a t e1 e2) (nt (h4 i a t e1 e2))⟩
theorem WebAt.but {N W : Addr} {H H' : Hp} {c w : Addr} {n : Nat} {ts : Prs} {dx : Addr} {fs : List (Str × V)} (h : WebAt W H w n ts) (hc : H c = some (.ins N dx fs)) (nw : w ≠ c) (b : But c H H') : WebAt W H' w n ts := by
  obtain ⟨dx', ta, h1, as, h2, h3⟩ := h
  have nt : ∀ {a : Addr} {xs : List V}, H a = some (.tup xs) → a ≠ c := fun e z => by rw [z, hc] at e; cases e
  exact ⟨dx', ta, b _ _ h1 nw, as, b _ _ h2 (nt h2), h3.1, fun i a t e1 e2 => b _ _ (h3.2 i a t e1 e2) (nt (h3.2 i a t e1 e2))⟩
theorem EvAt.but {N M W : Addr} {H H' : Hp} {c : Addr} {e : Ev} {dx : Addr} {fs : List (Str × V)} (h : EvAt M W H e) (hc : H c = some (.ins N dx fs)) (nm : e.m ≠ c) (nw : e.w ≠ c) (b : But c H H') : EvAt M W H' e := ⟨h.mc.but hc nm b, h.wb.but hc nw b, h.wf, h.wv⟩
theorem StpsT.but {N : Addr} {H H' : Hp} {c p : Addr} {ss : List Stp} {dx : Addr} {fs : List (Str × V)} (h : StpsT H p ss) (hc : H c = some (.ins N dx fs)) (b : But c H H') : StpsT H' p ss := by
  obtain ⟨as, h1, h2, h3⟩ := h
  have nt : ∀ {a : Addr} {xs : List V}, H a = some (.tup xs) → a ≠ c := fun e z => by rw [z, hc] at e; cases e
  exact ⟨as, b _ _ h1 (nt h1), h2, fun i a t e1 e2 => b _ _ (h3 i a t e1 e2) (nt (h3 i a t e1 e2))⟩
noncomputable def rngL (k : Nat) (xs : List Int) : Prop := ∀ x ∈ xs, 0 ≤ x ∧ x < (k : Int)
theorem rngL.get {k : Nat} {xs : List Int} (h : rngL k xs) {i : Nat} (hi : i < xs.length) : 0 ≤ xs.getD i 0 ∧ xs.getD i 0 < (k : Int) := by
  rw [List.getD_eq_getElem?_getD, List.getElem?_eq_getElem hi]
  exact h _ (List.getElem_mem hi)
theorem rngL.set {k : Nat} {xs : List Int} (h : rngL k xs) {i : Nat} {x : Int} (hx : 0 ≤ x ∧ x < (k : Int)) : rngL k (xs.set i x) := fun y hy => by
  rcases List.mem_or_eq_of_mem_set hy with z | z
  · exact h y z
  · rw [z]; exact hx
structure NetAt (N M W : Addr) (H : Hp) (c : Addr) (e : Ev) (s : Sn) : Prop where
  ob : ∃ dx sa aa pa, H c = some (.ins N dx (nf e.fi e.m e.w sa aa pa)) ∧ H sa = some (.tup (vrow s.ss)) ∧ H aa = some (.tup (vrow s.ar)) ∧ StpsT H pa s.ds
  ev : EvAt M W H e
  nm : e.m ≠ c
  nw : e.w ≠ c
  ls : s.ss.length = e.n
  la : s.ar.length = e.ts.length
  bs : rngL (nS e.tb) s.ss
  ba : rngL (nS e.tb) s.ar
  ld : s.ds.length ≤ 1000
theorem NetAt.same {N M W : Addr} {H H' : Hp} {c : Addr} {e : Ev} {s : Sn} (h : NetAt N M W H c e s) (q : Same H H') : NetAt N M W H' c e s :=
  ⟨let ⟨dx, sa, aa, pa, h1, h2, h3, h4⟩ := h.ob; ⟨dx, sa, aa, pa, q _ _ h1, q _ _ h2, q _ _ h3, h4.same q⟩, h.ev.same q, h.nm, h.nw, h.ls, h.la, h.bs, h.ba, h.ld⟩
structure NtT (K : PySem.W.Frag) (mg : Str → Option Value) (N : Addr) : Prop where
  cl : Cls K N
  nF : NoAttr K N "first"
  nM : NoAttr K N "machine"
  nW : NoAttr K N "web"
  nS : NoAttr K N "states"
  nA : NoAttr K N "archives"
  nP : NoAttr K N "steps"
  g : mg "Net" = some (.ref N)
theorem NetAt.put {N M W : Addr} {H H' : Hp} {c dx sa aa pa : Addr} {e : Ev} {s s' : Sn} (h : NetAt N M W H c e s) (q : Same H H') (h1 : H' sa = some (.tup (vrow s'.ss))) (h2 : H' aa = some (.tup (vrow s'.ar))) (h3 : StpsT H' pa s'.ds)
    (l1 : s'.ss.length = e.n) (l2 : s'.ar.length = e.ts.length) (b1 : rngL (nS e.tb) s'.ss) (b2 : rngL (nS e.tb) s'.ar) (l3 : s'.ds.length ≤ 1000) : NetAt N M W (L2.upd H' c (.ins N dx (nf e.fi e.m e.w sa aa pa))) c e s' := by
  obtain ⟨dx0, sa0, aa0, pa0, g1, g2, g3, g4⟩ := h.ob
  have g1' := q _ _ g1
  have nt : ∀ {a : Addr} {xs : List V}, H' a = some (.tup xs) → a ≠ c := fun e z => by rw [z, g1'] at e; cases e
  exact ⟨⟨dx, sa, aa, pa, upd_same, by rw [upd_ne (nt h1)]; exact h1, by rw [upd_ne (nt h2)]; exact h2, h3.but g1' But.upd⟩, (h.ev.same q).but g1' h.nm h.nw But.upd, h.nm, h.nw, l1, l2, b1, b2, l3⟩
noncomputable def Sn.doo (e : Ev) (s : Sn) (h d : Nat) : Sn := ⟨s.ss.set h (stp e.tb (s.ss.getD h 0) (d : Int)), s.ar, s.ds ++ [.dd h d]⟩
noncomputable def Sn.met (s : Sn) (p : Nat × Nat) (t : Nat) (x : Int) : Sn := ⟨(s.ss.set p.1 x).set p.2 x, s.ar.set t x, s.ds ++ [.mt t]⟩
noncomputable def sn0 (e : Ev) : Sn := ⟨List.replicate e.n e.fi, List.replicate e.ts.length e.fi, []⟩
noncomputable def spStand (K : PySem.W.Frag) (N M W CS : Addr) : Sp := fun vs H Q E => ∃ (c dx : Addr) (e : Ev) (v : V) (o : Option (List V)), vs = [.ref c, .ref e.m, .ref e.w, v] ∧ H c = some (.ins N dx []) ∧ EvAt M W H e ∧ e.m ≠ c ∧ e.w ≠ c ∧ KV K H v o ∧
  (belowB v (nS e.tb : Int) = false → Rz CS "state" v H E) ∧ (∀ i, v = .int i → e.fi = i) ∧ (v = .int e.fi → (0 ≤ e.fi ∧ e.fi < (nS e.tb : Int)) → ∀ H', But c H H' → NetAt N M W H' c e (sn0 e) → Q .non H')
noncomputable def spDoneAt (K : PySem.W.Frag) (N M W CH CD : Addr) : Sp := fun vs H Q E => ∃ (c : Addr) (e : Ev) (s : Sn) (v a : V) (o1 o2 : Option (List V)), vs = [.ref c, v, a] ∧ NetAt N M W H c e s ∧ KV K H v o1 ∧ KV K H a o2 ∧ s.ds.length < 1000 ∧
  (belowB v (e.n : Int) = false → Rz CH "house" v H E) ∧ (belowB v (e.n : Int) = true → belowB a (e.tb.length : Int) = false → Rz CD "deed" a H E) ∧
  (∀ h d : Nat, v = .int (h : Int) → a = .int (d : Int) → h < e.n → d < e.tb.length → ∀ H', But c H H' → NetAt N M W H' c e (s.doo e h d) → Q (.int (stp e.tb (s.ss.getD h 0) (d : Int))) H')
noncomputable def JoinP (CU : Addr) (e : Ev) (s : Sn) (t : Nat) (p : Nat × Nat) (H : Hp) (E : XK) (Q : Int → Hp → Prop) : Prop := ∀ F H', Same H H' → Fst (actL e.tb) e.tb.length [s.ar.getD t 0, s.ss.getD p.1 0] F →
  (∀ x, endsOf F (s.ss.getD p.2 0) = [x] → Q x H') ∧ ((endsOf F (s.ss.getD p.2 0)).length ≠ 1 → RzU CU (s.ar.getD t 0) (s.ss.getD p.1 0) (s.ss.getD p.2 0) H' E)
noncomputable def spJoinO (K : PySem.W.Frag) (N M W CT CU : Addr) : Sp := fun vs H Q E => ∃ (c : Addr) (e : Ev) (s : Sn) (v : V) (o : Option (List V)), vs = [.ref c, v] ∧ NetAt N M W H c e s ∧ KV K H v o ∧ (belowB v (e.ts.length : Int) = false → Rz CT "tie" v H E) ∧
  (∀ (t : Nat) p, v = .int (t : Int) → e.ts[t]? = some p → JoinP CU e s t p H E fun x H' => Q (.int x) H')
noncomputable def spPutJ (N M W : Addr) : Sp := fun vs H Q _ => ∃ (c : Addr) (e : Ev) (s : Sn) (t : Nat) (p : Nat × Nat) (x : Int), vs = [.ref c, .int (t : Int), .int x] ∧ NetAt N M W H c e s ∧ e.ts[t]? = some p ∧ (0 ≤ x ∧ x < (nS e.tb : Int)) ∧ s.ds.length < 1000 ∧
  ∀ H', But c H H' → NetAt N M W H' c e (s.met p t x) → Q .non H'
theorem ends_rng {tb : Ts} (hw : Wf tb) {a h t x : Int} {F : List KR} (ha : 0 ≤ a ∧ a < (nS tb : Int)) (hh : 0 ≤ h ∧ h < (nS tb : Int)) (f : Fst (actL tb) tb.length [a, h] F) (hx : x ∈ endsOf F t) : 0 ≤ x ∧ x < (nS tb : Int) := by
  obtain ⟨e, he, rfl⟩ := List.mem_map.mp hx
  have he' := (List.mem_filter.mp he).1
  obtain ⟨j, hj⟩ := List.getElem?_of_mem he'
  obtain ⟨h1, h2, _⟩ := f.pth j e.1 e.2 hj
  rw [h1, path_run]
  exact hw.run e.2 h h2 hh
end K1
namespace K1
open PySem PySem.Spec PyProof.Rows L2
section
variable {P : Program} {w : World} {K : PySem.W.Frag} {mg : Str → Option Value} {base : Heap}
theorem scSt : FnScope ["net", "machine", "web", "first"] ["net", "machine", "web", "first"] (defScope sStandFirst) := ⟨rfl, rfl, rfl, by decide +kernel, rfl, by decide +kernel, by decide +kernel⟩
theorem rep_v (k : Nat) (i : Int) : (List.replicate k [V.int i]).flatten = vrow (List.replicate k i) := by
  unfold vrow
  rw [List.map_replicate]
  induction k with
  | zero => rfl
  | succ k ih => rw [List.replicate_succ, List.replicate_succ, List.flatten_cons, ih]; rfl
theorem ok_stand {f fN CS M N W : Addr} {fd fdN : FuncData} (D : Df K mg "stand_first" sStandFirst ["net", "machine", "web", "first"] f fd) (DN : Df K mg "need_state" sNeedS ["machine", "state"] fN fdN) (B : Bt mg) (T : NtT K mg N) (TW : WcT K mg W)
    (GN : FnOk P w K mg base (L2.CX P w) 3 fN fdN ["machine", "state"] (spNeed M CS "state" nS)) : FnOk P w K mg base (L2.CX P w) 4 f fd ["net", "machine", "web", "first"] (spStand K N M W CS) := by
  refine D.F.okX scSt (fun vs H Q E h => ?_) (fun cdv A outer s H vs Q E hr h => ?_)
  · obtain ⟨c, dx, e, v, o, rfl, _⟩ := h
    rfl
  · obtain ⟨c, dx, e, v, o, rfl, hc, hE, nm, nw, kv, qb, qi, qg⟩ := h
    refine ⟨_, pss_cons (ps_fld (pv 0) (pc DN GN hr (pass1 (takes_of rfl rfl rfl rfl)) (pa_cons (pv 1) (pa_cons (pv 3) pa_nil))) rfl)
      (pss_cons (ps_fld (pv 0) (pv 1) rfl)
      (pss_cons (ps_fld (pv 0) (pv 2) rfl)
      (pss_cons (ps_fld (pv 0) (pe_op (TM.op_repG (K := K) rfl) (pe_tup (pa_cons (pv 3) pa_nil)) (pe_fld (pv 2) rfl)) rfl)
      (pss_cons (ps_fld (pv 0) (pe_op (TM.op_repG (K := K) rfl) (pe_tup (pa_cons (pv 3) pa_nil)) (pe_callB call_len_seq (by rfl) B.len PySem.boot_len (pa_cons (pe_fld (pv 2) rfl) pa_nil))) rfl)
      (pss_one (ps_fld (pv 0) (pe_tup pa_nil) rfl)))))), ?_⟩
    have n1 := hE.wv.n1
    have n12 := hE.wv.n12
    have t20 := hE.wv.t20
    refine ⟨_, rfl, _, rfl, e.m, e.ta, e.tb, v, rfl, hE.mc, ⟨K, o, kv⟩, fun hb => ?_, fun hb => qb hb⟩
    obtain ⟨i, rfl, h0, h1⟩ : ∃ i, v = .int i ∧ 0 ≤ i ∧ i < (nS e.tb : Int) := by
      cases v <;> first | (cases hb; done) | skip
      rename_i i
      have z : (decide (0 ≤ i) && decide (i < (nS e.tb : Int))) = true := hb
      simp only [Bool.and_eq_true, decide_eq_true_eq] at z
      exact ⟨i, rfl, z⟩
    obtain rfl := qi i rfl
    refine ⟨_, rfl, c, N, dx, [], rfl, hc, T.cl, T.nF, (by show 0 < 1000; decide), ?_⟩
    refine ⟨_, rfl, _, rfl, c, N, dx, _, rfl, upd_same, T.cl, T.nM, (by show 1 < 1000; decide), ?_⟩
    rw [upd_upd]
    refine ⟨_, rfl, _, rfl, c, N, dx, _, rfl, upd_same, T.cl, T.nW, (by show 2 < 1000; decide), ?_⟩
    rw [upd_upd]
    rw [f3_eq]
    have b3 : But c H (upd H c (.ins N dx (f3 e.fi e.m e.w))) := But.upd
    have hc3 : (upd H c (.ins N dx (f3 e.fi e.m e.w))) c = some (.ins N dx (f3 e.fi e.m e.w)) := upd_same
    generalize upd H c (.ins N dx (f3 e.fi e.m e.w)) = H3 at b3 hc3 ⊢
    have hE3 := hE.but hc nm nw b3
    obtain ⟨dxw, ta, w1, tas, w2, w3⟩ := id hE3.wb
    refine ⟨_, rfl, (by show 1 ≤ sizeLine; decide), fun p hp => ?_⟩
    have s4 := same_new (o := HO.tup [V.int e.fi]) hp
    refine ⟨_, rfl, e.w, W, dxw, _, _, rfl, s4 _ _ w1, TW.cl, TW.nH, wf_h _ _, p, (e.n : Int), [.int e.fi], rfl, rfl, upd_same, by simp, by omega, by omega, by simp, fun sa H5 s5 hsa => ?_⟩
    have s35 := s4.trans s5
    rw [Int.toNat_natCast, rep_v] at hsa
    refine ⟨_, rfl, c, N, dx, _, rfl, s35 _ _ hc3, T.cl, T.nS, (by show 3 < 1000; decide), ?_⟩
    have nsa : sa ≠ c := fun z => by rw [z, s35 _ _ hc3] at hsa; cases hsa
    generalize hH6 : upd H5 c (.ins N dx (putF "states" (.ref sa) (f3 e.fi e.m e.w))) = H6
    have hc6 : H6 c = some (.ins N dx (putF "states" (.ref sa) (f3 e.fi e.m e.w))) := by rw [← hH6]; exact upd_same
    have b6 : But c H3 H6 := by rw [← hH6]; exact But.put s35
    have hsa6 : H6 sa = some (.tup (vrow (List.replicate e.n e.fi))) := by rw [← hH6, upd_ne nsa]; exact hsa
    have hE6 := hE3.but hc3 nm nw b6
    obtain ⟨dxw6, ta6, w61, tas6, w62, w63⟩ := id hE6.wb
    have el : ((tas6.map V.ref).length : Int) = (e.ts.length : Int) := by rw [List.length_map, w63.1]
    refine ⟨_, rfl, (by show 1 ≤ sizeLine; decide), fun p2 hp2 => ?_⟩
    have s7 := same_new (o := HO.tup [V.int e.fi]) hp2
    refine ⟨_, rfl, e.w, W, dxw6, _, _, rfl, s7 _ _ w61, TW.cl, TW.nT, wf_t _ _, ta6, _, rfl, .inr (SqT.of (s7 _ _ w62)), ?_⟩
    rw [el]
    refine ⟨p2, (e.ts.length : Int), [.int e.fi], rfl, rfl, upd_same, by simp, by omega, by omega, by simp, fun aa H8 s8 haa => ?_⟩
    have s68 := s7.trans s8
    rw [Int.toNat_natCast, rep_v] at haa
    refine ⟨_, rfl, c, N, dx, _, rfl, s68 _ _ hc6, T.cl, T.nA, (by show 4 < 1000; decide), ?_⟩
    have naa : aa ≠ c := fun z => by rw [z, s68 _ _ hc6] at haa; cases haa
    rw [f5_eq]
    generalize hH9 : upd H8 c (.ins N dx (f5 e.fi e.m e.w sa aa)) = H9
    have hc9 : H9 c = some (.ins N dx (f5 e.fi e.m e.w sa aa)) := by rw [← hH9]; exact upd_same
    have b9 : But c H6 H9 := by rw [← hH9]; exact But.put s68
    have haa9 : H9 aa = some (.tup (vrow (List.replicate e.ts.length e.fi))) := by rw [← hH9, upd_ne naa]; exact haa
    have hsa9 : H9 sa = some (.tup (vrow (List.replicate e.n e.fi))) := b9 _ _ hsa6 nsa
    refine ⟨(by show 0 ≤ sizeLine; decide), fun pa hpa => ?_⟩
    have s10 := same_new (o := HO.tup []) hpa
    refine ⟨_, rfl, c, N, dx, _, rfl, s10 _ _ hc9, T.cl, T.nP, (by show 5 < 1000; decide), ?_⟩
    rw [f6_eq]
    have npa : pa ≠ c := fun z => by rw [z, hc9] at hpa; cases hpa
    have rr : ∀ k, rngL (nS e.tb) (List.replicate k e.fi) := fun k x hx => by rw [List.eq_of_mem_replicate hx]; exact ⟨h0, h1⟩
    refine qg rfl ⟨h0, h1⟩ _ ((b3.trans b6).trans (b9.trans (But.put s10))) ⟨⟨dx, sa, aa, pa, upd_same, by rw [upd_ne nsa]; exact s10 _ _ hsa9, by rw [upd_ne naa]; exact s10 _ _ haa9, [], by rw [upd_ne npa]; exact upd_same, rfl, fun i a t z => nomatch z⟩, ?_, nm, nw, List.length_replicate, List.length_replicate, rr _, rr _, Nat.zero_le _⟩
    exact ((hE6.but hc6 nm nw b9).same s10).but (s10 _ _ hc9) nm nw But.upd
theorem scDA : FnScope ["net", "house", "deed", "table"] ["net", "house", "deed"] (defScope sDoneAt) := ⟨rfl, rfl, rfl, by decide +kernel, rfl, by decide +kernel, by decide +kernel⟩
theorem ok_doneAt {f fH fD fR CH CD M N W : Addr} {fd fdH fdD fdR : FuncData} (D : Df K mg "done_at" sDoneAt ["net", "house", "deed"] f fd) (DH : Df K mg "need_house" sNeedH ["web", "house"] fH fdH) (DD : Df K mg "need_deed" sNeedD ["machine", "deed"] fD fdD) (DR : Df K mg "replaced" sRepl ["items", "at", "item"] fR fdR)
    (T : NtT K mg N) (TM' : McT K mg M) (TW : WcT K mg W) (c : Cs mg) (GH : FnOk P w K mg base (L2.CX P w) 3 fH fdH ["web", "house"] (spNeedH K W CH)) (GD : FnOk P w K mg base (L2.CX P w) 3 fD fdD ["machine", "deed"] (spNeed M CD "deed" List.length)) (GR : FnOk P w K mg base CX0 1 fR fdR ["items", "at", "item"] spRepl) :
    FnOk P w K mg base (L2.CX P w) 4 f fd ["net", "house", "deed"] (spDoneAt K N M W CH CD) := by
  obtain ⟨t1, hc1⟩ := c.doo
  refine D.F.okX scDA (fun vs H Q E h => ?_) (fun cdv A outer s H vs Q E hr h => ?_)
  · obtain ⟨c, e, s, v, a, o1, o2, rfl, _⟩ := h
    rfl
  · obtain ⟨c, e, s, v, a, o1, o2, rfl, hN, kv, ka, hld, q1, q2, q3⟩ := h
    have hr1 := hr.mono (show 1 ≤ 3 by decide)
    refine ⟨_, pss_cons (ps_expr (pc DH GH hr (pass1 (takes_of rfl rfl rfl rfl)) (pa_cons (pe_fld (pv 0) rfl) (pa_cons (pv 1) pa_nil))))
      (pss_cons (ps_set (i := 3) scDA.nd rfl (.inl rfl) (pe_ix ix_tup (pe_fld (pe_fld (pv 0) rfl) rfl) (pc DD GD hr (pass1 (takes_of rfl rfl rfl rfl)) (pa_cons (pe_fld (pv 0) rfl) (pa_cons (pv 2) pa_nil))) (fun _ _ => rfl)))
      (pss_cons (ps_fld (pv 0) (pc DR GR hr1 pass0 (pa_cons (pe_fld (pv 0) rfl) (pa_cons (pv 1) (pa_cons (pe_ix ix_tup (pv 3) (pe_ix ix_tup (pe_fld (pv 0) rfl) (pv 1) (fun _ _ => rfl)) (fun _ _ => rfl)) pa_nil)))) rfl)
      (pss_cons (ps_fld (pv 0) (pe_op op_catA (pe_fld (pv 0) rfl) (pe_tup (pa_cons (pe_tup (pa_cons (pe_glob (v := .str "do") (by rfl) hc1 ⟨_, rfl⟩) (pa_cons (pv 1) (pa_cons (pv 2) pa_nil)))) pa_nil))) rfl)
      (pss_one (ps_ret (pe_ix ix_tup (pe_fld (pv 0) rfl) (pv 1) (fun _ _ => rfl))))))), ?_⟩
    obtain ⟨dx, sa, aa, pa, h1, h2, h3, h4⟩ := hN.ob
    have n12 := hN.ev.wv.n12
    have ls := hN.ls
    have hwf := hN.ev.wf
    refine ⟨_, rfl, c, N, dx, _, _, rfl, h1, T.cl, T.nW, nf_w _ _ _ _ _ _, _, rfl, e.w, v, o1, e.n, e.ts, rfl, hN.ev.wb, kv, fun hb => ?_, fun hb => q1 hb⟩
    obtain ⟨h, rfl, hn⟩ := below_nat hb
    obtain ⟨dxm, hm⟩ := hN.ev.mc.fs
    obtain ⟨as, ha1, ha2, ha3⟩ := hN.ev.mc.2
    refine ⟨_, rfl, c, N, dx, _, _, rfl, h1, T.cl, T.nM, nf_m _ _ _ _ _ _, e.m, M, dxm, _, _, rfl, hm, TM'.cl, TM'.nT, mf_t _ _ _, ?_⟩
    refine ⟨_, rfl, c, N, dx, _, _, rfl, h1, T.cl, T.nM, nf_m _ _ _ _ _ _, _, rfl, e.m, e.ta, e.tb, a, rfl, hN.ev.mc, ⟨K, o2, ka⟩, fun hb2 => ?_, fun hb2 => q2 hb hb2⟩
    obtain ⟨d, rfl, hd⟩ := below_nat hb2
    have hs := hN.bs.get (i := h) (by omega)
    obtain ⟨t, ht1, ht2, ht3⟩ := hwf.at_ (s := s.ss.getD h 0) (d := (d : Int)) ⟨by omega, by omega⟩ hs
    rw [Int.toNat_natCast] at ht1
    have hla : d < as.length := by rw [ha2, vts, List.length_map]; omega
    obtain ⟨tA, hA⟩ := ex_at hla
    have hT := ha3 d _ (vrow t) hA (by rw [vts, List.getElem?_map, ht1]; rfl)
    refine ⟨e.ta, _, (d : Int), .ref tA, rfl, rfl, SqT.of ha1, at_i (map_at hA), ?_⟩
    dsimp only [List.set]
    refine ⟨_, rfl, c, N, dx, _, _, rfl, h1, T.cl, T.nS, nf_s _ _ _ _ _ _, _, rfl, _, rfl, _, rfl, c, N, dx, _, _, rfl, h1, T.cl, T.nS, nf_s _ _ _ _ _ _, _, rfl, sa, _, (h : Int), .int (s.ss.getD h 0), rfl, rfl, SqT.of h2, at_i (vrow_get (by omega)), ?_⟩
    generalize hx : stp e.tb (s.ss.getD h 0) (d : Int) = x at ht2 ht3 q3
    refine ⟨tA, _, s.ss.getD h 0, .int x, rfl, rfl, SqT.of hT, at_of (j := (s.ss.getD h 0).toNat) (by omega) (by rw [vrow, List.getElem?_map, ht2]; rfl), ?_⟩
    refine ⟨sa, _, h, .int x, rfl, h2, by rw [vrow_len]; omega, by rw [vrow_len]; omega, fun y1 H1 s1 hy1 => ?_⟩
    rw [← vrow_set] at hy1
    refine ⟨_, rfl, c, N, dx, _, rfl, s1 _ _ h1, T.cl, T.nS, (by show 6 < 1000; decide), ?_⟩
    rw [nf_ps]
    have N1 : NetAt N M W (upd H1 c (.ins N dx (nf e.fi e.m e.w y1 aa pa))) c e ⟨s.ss.set h x, s.ar, s.ds⟩ := hN.put s1 hy1 (s1 _ _ h3) (h4.same s1) (by show (s.ss.set h x).length = _; rw [List.length_set]; exact ls) hN.la (hN.bs.set ht3) hN.ba hN.ld
    have b1 : But c H (upd H1 c (.ins N dx (nf e.fi e.m e.w y1 aa pa))) := But.put s1
    have hc1' : (upd H1 c (.ins N dx (nf e.fi e.m e.w y1 aa pa))) c = some (.ins N dx (nf e.fi e.m e.w y1 aa pa)) := upd_same
    have nc : ∀ {a : Addr} {xs : List V}, H1 a = some (.tup xs) → a ≠ c := fun e z => by rw [z, s1 _ _ h1] at e; cases e
    have hy1' : (upd H1 c (.ins N dx (nf e.fi e.m e.w y1 aa pa))) y1 = some (.tup (vrow (s.ss.set h x))) := by rw [upd_ne (nc hy1)]; exact hy1
    have h3' : (upd H1 c (.ins N dx (nf e.fi e.m e.w y1 aa pa))) aa = some (.tup (vrow s.ar)) := by rw [upd_ne (nc (s1 _ _ h3))]; exact s1 _ _ h3
    have h4' : StpsT (upd H1 c (.ins N dx (nf e.fi e.m e.w y1 aa pa))) pa s.ds := (h4.same s1).but (s1 _ _ h1) But.upd
    generalize upd H1 c (.ins N dx (nf e.fi e.m e.w y1 aa pa)) = H2 at N1 b1 hc1' hy1' h3' h4' ⊢
    obtain ⟨ps, hp1, hp2⟩ := id h4'
    have lp : ps.length < 1000 := by rw [hp2.1]; exact hld
    refine ⟨_, rfl, c, N, dx, _, _, rfl, hc1', T.cl, T.nP, nf_p _ _ _ _ _ _, ?_⟩
    refine tt_in (tt_c ⟨_, rfl, _, rfl, (by show 3 ≤ sizeLine; decide), fun sp hsp => ⟨(by show 1 ≤ sizeLine; decide), fun sq hsq => ?_⟩⟩)
    have s2 := same_new (o := HO.tup [.str "do", .int (h : Int), .int (d : Int)]) hsp
    have s3 := same_new (o := HO.tup [.ref sp]) hsq
    have s23 := s2.trans s3
    refine catA_by (s23 _ _ hp1) upd_same (sz (by rw [List.length_map]; simp only [List.length_cons, List.length_nil]; omega)) fun pb H4 s4 hpb => ?_
    have s24 := s23.trans s4
    refine ⟨_, rfl, c, N, dx, _, rfl, s24 _ _ hc1', T.cl, T.nP, (by show 6 < 1000; decide), ?_⟩
    rw [nf_pp]
    have hds : StpsT H4 pb (s.ds ++ [.dd h d]) := ⟨ps ++ [sp], by rw [hpb, List.map_append]; rfl, by rw [List.length_append, List.length_append, hp2.1]; rfl, fun i a z ei ez => ?_⟩
    rotate_left
    · by_cases hi : i < ps.length
      · rw [List.getElem?_append_left hi] at ei
        rw [List.getElem?_append_left (by rw [← hp2.1]; exact hi)] at ez
        exact s24 _ _ (hp2.2 i a z ei ez)
      · have hil := lt_at ei
        rw [List.length_append] at hil
        have : i = ps.length := by simp only [List.length_cons, List.length_nil] at hil; omega
        subst this
        rw [List.getElem?_append_right (Nat.le_refl _), Nat.sub_self] at ei
        rw [hp2.1, List.getElem?_append_right (Nat.le_refl _), Nat.sub_self] at ez
        obtain rfl : sp = a := Option.some.inj ei
        obtain rfl : Stp.dd h d = z := Option.some.inj ez
        exact (s3.trans s4) _ _ upd_same
    have N4 : NetAt N M W (upd H4 c (.ins N dx (nf e.fi e.m e.w y1 aa pb))) c e ⟨s.ss.set h x, s.ar, s.ds ++ [.dd h d]⟩ := N1.put s24 (s24 _ _ hy1') (s24 _ _ h3') hds (by show (s.ss.set h x).length = _; rw [List.length_set]; exact ls) hN.la (hN.bs.set ht3) hN.ba (by show (s.ds ++ [Stp.dd h d]).length ≤ _; rw [List.length_append]; simp only [List.length_cons, List.length_nil]; omega)
    have nc4 : y1 ≠ c := fun z => by rw [z, hc1'] at hy1'; cases hy1'
    refine ⟨_, rfl, c, N, dx, _, _, rfl, upd_same, T.cl, T.nS, nf_s _ _ _ _ _ _, _, rfl, y1, _, (h : Int), .int x, rfl, rfl, SqT.of (by rw [upd_ne nc4]; exact s24 _ _ hy1'), at_i (by rw [vrow_get (by rw [List.length_set]; omega), List.getD_eq_getElem?_getD, List.getElem?_set_self (by omega)]; rfl), ?_⟩
    have z := q3 h d rfl rfl hn hd _ (b1.trans (But.put s24)) (by unfold Sn.doo; rw [hx]; exact N4)
    rw [hx] at z
    exact z
theorem scJO : FnScope ["net", "tie", "one", "other"] ["net", "tie"] (defScope sJoinedOver) := ⟨rfl, rfl, rfl, by decide +kernel, rfl, by decide +kernel, by decide +kernel⟩
theorem ok_joinO {f fT fJ CS CT CU M N W : Addr} {fd fdT fdJ : FuncData} (D : Df K mg "joined_over" sJoinedOver ["net", "tie"] f fd) (DT : Df K mg "need_tie" sNeedT ["web", "tie"] fT fdT) (DJ : Df K mg "join" sJoin ["machine", "archive", "here", "there"] fJ fdJ)
    (T : NtT K mg N) (TW : WcT K mg W) (GT : FnOk P w K mg base (L2.CX P w) 3 fT fdT ["web", "tie"] (spNeedT K W CT)) (GJ : FnOk P w K mg base (L2.CX P w) 5 fJ fdJ ["machine", "archive", "here", "there"] (spJoin M CS CU)) :
    FnOk P w K mg base (L2.CX P w) 6 f fd ["net", "tie"] (spJoinO K N M W CT CU) := by
  refine D.F.okX scJO (fun vs H Q E h => ?_) (fun cdv A outer s H vs Q E hr h => ?_)
  · obtain ⟨c, e, s, v, o, rfl, _⟩ := h
    rfl
  · obtain ⟨c, e, s, v, o, rfl, hN, kv, q1, q2⟩ := h
    refine ⟨_, pss_cons (ps_asg (pe_ix ix_tup (pe_fld (pe_fld (pv 0) rfl) rfl) (pc DT GT (hr.mono (by decide)) (pass1 (takes_of rfl rfl rfl rfl)) (pa_cons (pe_fld (pv 0) rfl) (pa_cons (pv 1) pa_nil))) (fun _ _ => rfl)) (pg_tup rfl (pgs_cons (pg_name (i := 2) scJO.nd rfl (.inl rfl)) (pgs_cons (pg_name (i := 3) scJO.nd rfl (.inl rfl)) pgs_nil))))
      (pss_one (ps_ret (pc DJ GJ hr (pass1 (takes_of rfl rfl rfl rfl)) (pa_cons (pe_fld (pv 0) rfl) (pa_cons (pe_ix ix_tup (pe_fld (pv 0) rfl) (pv 1) (fun _ _ => rfl)) (pa_cons (pe_ix ix_tup (pe_fld (pv 0) rfl) (pv 2) (fun _ _ => rfl)) (pa_cons (pe_ix ix_tup (pe_fld (pv 0) rfl) (pv 3) (fun _ _ => rfl)) pa_nil))))))), ?_⟩
    obtain ⟨dx, sa, aa, pa, h1, h2, h3, h4⟩ := hN.ob
    have hwf := hN.ev.wf
    have ls := hN.ls
    have la := hN.la
    obtain ⟨dxw, ta, w1, tas, w2, w3⟩ := id hN.ev.wb
    refine ⟨_, rfl, c, N, dx, _, _, rfl, h1, T.cl, T.nW, nf_w _ _ _ _ _ _, e.w, W, dxw, _, _, rfl, w1, TW.cl, TW.nT, wf_t _ _, _, rfl, c, N, dx, _, _, rfl, h1, T.cl, T.nW, nf_w _ _ _ _ _ _, _, rfl, e.w, v, o, e.n, e.ts, rfl, hN.ev.wb, kv, fun hb => ?_, fun hb => q1 hb⟩
    obtain ⟨t, rfl, tn⟩ := below_nat hb
    obtain ⟨p, hp⟩ := ex_at tn
    obtain ⟨p1, p2, p3⟩ := hN.ev.wv.at_ hp
    obtain ⟨pa', ha, hpa⟩ := w3.get hp
    have hpa' : H pa' = some (.tup [.int (p.1 : Int), .int (p.2 : Int)]) := hpa
    refine ⟨ta, _, (t : Int), .ref pa', rfl, rfl, SqT.of w2, at_i (map_at ha), pa', _, rfl, SqT.of hpa', rfl, _, _, rfl, _, _, rfl, rfl, ?_⟩
    have rdS : ∀ {j : Nat}, j < e.n → atI (vrow s.ss) (j : Int) = some (.int (s.ss.getD j 0)) := fun hj => at_i (vrow_get (by omega))
    have rdA : atI (vrow s.ar) (t : Int) = some (.int (s.ar.getD t 0)) := at_i (vrow_get (by omega))
    refine ⟨_, rfl, c, N, dx, _, _, rfl, h1, T.cl, T.nM, nf_m _ _ _ _ _ _, _, rfl, c, N, dx, _, _, rfl, h1, T.cl, T.nA, nf_a _ _ _ _ _ _, _, rfl, aa, _, (t : Int), _, rfl, rfl, SqT.of h3, rdA,
      _, rfl, c, N, dx, _, _, rfl, h1, T.cl, T.nS, nf_s _ _ _ _ _ _, _, rfl, sa, _, (p.1 : Int), _, rfl, rfl, SqT.of h2, rdS p1, _, rfl, c, N, dx, _, _, rfl, h1, T.cl, T.nS, nf_s _ _ _ _ _ _, _, rfl, sa, _, (p.2 : Int), _, rfl, rfl, SqT.of h2, rdS p2, ?_⟩
    have ga := hN.ba.get (i := t) (by omega)
    have g1 := hN.bs.get (i := p.1) (by omega)
    have g2 := hN.bs.get (i := p.2) (by omega)
    refine ⟨e.m, e.ta, e.tb, _, _, _, rfl, hN.ev.mc, hwf, fun x hx => ?_, fun x H' sm hf => ?_, fun a h t' ea eh et _ _ _ F H' sm hF => ?_⟩
    · simp only [List.mem_cons, List.mem_nil_iff, or_false] at hx
      rcases hx with rfl | rfl | rfl <;> exact ⟨K, none, .int _⟩
    · obtain ⟨i, h1, h2, _⟩ := hf
      exfalso
      have bb : ∀ {z : Int}, 0 ≤ z ∧ z < (nS e.tb : Int) → belowB (.int z) (nS e.tb : Int) = true := fun {z} h => by
        show (decide (0 ≤ z) && decide (z < (nS e.tb : Int))) = true
        rw [decide_eq_true h.1, decide_eq_true h.2]; rfl
      match i, h1 with
      | 0, h1 => rw [← Option.some.inj h1, bb ga] at h2; cases h2
      | 1, h1 => rw [← Option.some.inj h1, bb g1] at h2; cases h2
      | 2, h1 => rw [← Option.some.inj h1, bb g2] at h2; cases h2
      | (i + 3), h1 => cases h1
    · injection ea with ea
      injection eh with eh
      injection et with et
      subst ea eh et
      exact q2 t p rfl hp F H' sm hF
theorem scPJ : FnScope ["net", "tie", "joined", "one", "other"] ["net", "tie", "joined"] (defScope sPutJoined) := ⟨rfl, rfl, rfl, by decide +kernel, rfl, by decide +kernel, by decide +kernel⟩
theorem ok_putJ {f fR M N W : Addr} {fd fdR : FuncData} (D : Df K mg "put_joined" sPutJoined ["net", "tie", "joined"] f fd) (DR : Df K mg "replaced" sRepl ["items", "at", "item"] fR fdR) (T : NtT K mg N) (TW : WcT K mg W) (c : Cs mg)
    (GR : FnOk P w K mg base CX0 1 fR fdR ["items", "at", "item"] spRepl) : FnOk P w K mg base CX0 2 f fd ["net", "tie", "joined"] (spPutJ N M W) := by
  obtain ⟨t1, hc1⟩ := c.meet
  refine D.F.ok scPJ (fun vs H Q E h => ?_) (fun cdv A outer s H vs Q E hr h => ?_)
  · obtain ⟨c, e, s, t, p, x, rfl, _⟩ := h
    rfl
  · obtain ⟨c, e, s, t, p, x, rfl, hN, hp, hx, hld, q⟩ := h
    refine ⟨_, pss_cons (ps_asg (pe_ix ix_tup (pe_fld (pe_fld (pv 0) rfl) rfl) (pv 1) (fun _ _ => rfl)) (pg_tup rfl (pgs_cons (pg_name (i := 3) scPJ.nd rfl (.inl rfl)) (pgs_cons (pg_name (i := 4) scPJ.nd rfl (.inl rfl)) pgs_nil))))
      (pss_cons (ps_fld (pv 0) (pc DR GR hr pass0 (pa_cons (pc DR GR hr pass0 (pa_cons (pe_fld (pv 0) rfl) (pa_cons (pv 3) (pa_cons (pv 2) pa_nil)))) (pa_cons (pv 4) (pa_cons (pv 2) pa_nil)))) rfl)
      (pss_cons (ps_fld (pv 0) (pc DR GR hr pass0 (pa_cons (pe_fld (pv 0) rfl) (pa_cons (pv 1) (pa_cons (pv 2) pa_nil)))) rfl)
      (pss_one (ps_fld (pv 0) (pe_op op_catA (pe_fld (pv 0) rfl) (pe_tup (pa_cons (pe_tup (pa_cons (pe_glob (v := .str "meet") (by rfl) hc1 ⟨_, rfl⟩) (pa_cons (pv 1) pa_nil))) pa_nil))) rfl)))), ?_⟩
    obtain ⟨dx, sa, aa, pa, h1, h2, h3, h4⟩ := hN.ob
    have n12 := hN.ev.wv.n12
    have t20 := hN.ev.wv.t20
    have ls := hN.ls
    have la := hN.la
    have tn := lt_at hp
    obtain ⟨dxw, ta, w1, tas, w2, w3⟩ := id hN.ev.wb
    obtain ⟨p1, p2, p3⟩ := hN.ev.wv.at_ hp
    obtain ⟨pa', ha, hpa⟩ := w3.get hp
    have hpa' : H pa' = some (.tup [.int (p.1 : Int), .int (p.2 : Int)]) := hpa
    refine ⟨_, rfl, c, N, dx, _, _, rfl, h1, T.cl, T.nW, nf_w _ _ _ _ _ _, e.w, W, dxw, _, _, rfl, w1, TW.cl, TW.nT, wf_t _ _, _, rfl, ta, _, (t : Int), .ref pa', rfl, rfl, SqT.of w2, at_i (map_at ha), pa', _, rfl, SqT.of hpa', rfl, _, _, rfl, _, _, rfl, rfl, ?_⟩
    refine ⟨_, rfl, c, N, dx, _, _, rfl, h1, T.cl, T.nS, nf_s _ _ _ _ _ _, _, rfl, _, rfl, sa, _, p.1, .int x, rfl, h2, by rw [vrow_len]; omega, by rw [vrow_len]; omega, fun y1 H1 s1 hy1 => ?_⟩
    rw [← vrow_set] at hy1
    refine ⟨_, rfl, _, rfl, y1, _, p.2, .int x, rfl, hy1, by rw [vrow_len, List.length_set]; omega, by rw [vrow_len, List.length_set]; omega, fun y2 H2 s2 hy2 => ?_⟩
    rw [← vrow_set] at hy2
    have s12 := s1.trans s2
    refine ⟨_, rfl, c, N, dx, _, rfl, s12 _ _ h1, T.cl, T.nS, (by show 6 < 1000; decide), ?_⟩
    rw [nf_ps]
    have N2 : NetAt N M W (upd H2 c (.ins N dx (nf e.fi e.m e.w y2 aa pa))) c e ⟨(s.ss.set p.1 x).set p.2 x, s.ar, s.ds⟩ := hN.put s12 hy2 (s12 _ _ h3) (h4.same s12) (by show ((s.ss.set p.1 x).set p.2 x).length = _; rw [List.length_set, List.length_set]; exact ls) la ((hN.bs.set hx).set hx) hN.ba hN.ld
    have b2 : But c H (upd H2 c (.ins N dx (nf e.fi e.m e.w y2 aa pa))) := But.put s12
    have hc2 : (upd H2 c (.ins N dx (nf e.fi e.m e.w y2 aa pa))) c = some (.ins N dx (nf e.fi e.m e.w y2 aa pa)) := upd_same
    have nc : ∀ {a : Addr} {xs : List V}, H2 a = some (.tup xs) → a ≠ c := fun e z => by rw [z, s12 _ _ h1] at e; cases e
    have hy2' : (upd H2 c (.ins N dx (nf e.fi e.m e.w y2 aa pa))) y2 = some (.tup (vrow ((s.ss.set p.1 x).set p.2 x))) := by rw [upd_ne (nc hy2)]; exact hy2
    have h3' : (upd H2 c (.ins N dx (nf e.fi e.m e.w y2 aa pa))) aa = some (.tup (vrow s.ar)) := by rw [upd_ne (nc (s12 _ _ h3))]; exact s12 _ _ h3
    have h4' : StpsT (upd H2 c (.ins N dx (nf e.fi e.m e.w y2 aa pa))) pa s.ds := (h4.same s12).but (s12 _ _ h1) But.upd
    generalize upd H2 c (.ins N dx (nf e.fi e.m e.w y2 aa pa)) = H3 at N2 b2 hc2 hy2' h3' h4' ⊢
    refine ⟨_, rfl, c, N, dx, _, _, rfl, hc2, T.cl, T.nA, nf_a _ _ _ _ _ _, _, rfl, _, rfl, aa, _, t, .int x, rfl, h3', by rw [vrow_len]; omega, by rw [vrow_len]; omega, fun y4 H4 s4 hy4 => ?_⟩
    rw [← vrow_set] at hy4
    refine ⟨_, rfl, c, N, dx, _, rfl, s4 _ _ hc2, T.cl, T.nA, (by show 6 < 1000; decide), ?_⟩
    rw [nf_pa]
    have N4 : NetAt N M W (upd H4 c (.ins N dx (nf e.fi e.m e.w y2 y4 pa))) c e ⟨(s.ss.set p.1 x).set p.2 x, s.ar.set t x, s.ds⟩ := N2.put s4 (s4 _ _ hy2') hy4 (h4'.same s4) (by show ((s.ss.set p.1 x).set p.2 x).length = _; rw [List.length_set, List.length_set]; exact ls) (by show (s.ar.set t x).length = _; rw [List.length_set]; exact la) ((hN.bs.set hx).set hx) (hN.ba.set hx) hN.ld
    have b4 : But c H3 (upd H4 c (.ins N dx (nf e.fi e.m e.w y2 y4 pa))) := But.put s4
    have hc4 : (upd H4 c (.ins N dx (nf e.fi e.m e.w y2 y4 pa))) c = some (.ins N dx (nf e.fi e.m e.w y2 y4 pa)) := upd_same
    have nc4 : ∀ {a : Addr} {xs : List V}, H4 a = some (.tup xs) → a ≠ c := fun e z => by rw [z, s4 _ _ hc2] at e; cases e
    have hy5 : (upd H4 c (.ins N dx (nf e.fi e.m e.w y2 y4 pa))) y2 = some (.tup (vrow ((s.ss.set p.1 x).set p.2 x))) := by rw [upd_ne (nc4 (s4 _ _ hy2'))]; exact s4 _ _ hy2'
    have h5 : (upd H4 c (.ins N dx (nf e.fi e.m e.w y2 y4 pa))) y4 = some (.tup (vrow (s.ar.set t x))) := by rw [upd_ne (nc4 hy4)]; exact hy4
    have h6 : StpsT (upd H4 c (.ins N dx (nf e.fi e.m e.w y2 y4 pa))) pa s.ds := (h4'.same s4).but (s4 _ _ hc2) But.upd
    generalize upd H4 c (.ins N dx (nf e.fi e.m e.w y2 y4 pa)) = H5 at N4 b4 hc4 hy5 h5 h6 ⊢
    obtain ⟨ps, hp1, hp2⟩ := id h6
    have lp : ps.length < 1000 := by rw [hp2.1]; exact hld
    refine ⟨_, rfl, c, N, dx, _, _, rfl, hc4, T.cl, T.nP, nf_p _ _ _ _ _ _, ?_⟩
    refine tt_in (tt_c ⟨_, rfl, (by show 2 ≤ sizeLine; decide), fun sp hsp => ⟨(by show 1 ≤ sizeLine; decide), fun sq hsq => ?_⟩⟩)
    have s6 := same_new (o := HO.tup [.str "meet", .int (t : Int)]) hsp
    have s7 := same_new (o := HO.tup [.ref sp]) hsq
    have s67 := s6.trans s7
    refine catA_by (s67 _ _ hp1) upd_same (sz (by rw [List.length_map]; simp only [List.length_cons, List.length_nil]; omega)) fun pb H8 s8 hpb => ?_
    have s68 := s67.trans s8
    refine ⟨_, rfl, c, N, dx, _, rfl, s68 _ _ hc4, T.cl, T.nP, (by show 6 < 1000; decide), ?_⟩
    rw [nf_pp]
    have hds : StpsT H8 pb (s.ds ++ [.mt t]) := ⟨ps ++ [sp], by rw [hpb, List.map_append]; rfl, by rw [List.length_append, List.length_append, hp2.1]; rfl, fun i a z ei ez => ?_⟩
    rotate_left
    · by_cases hi : i < ps.length
      · rw [List.getElem?_append_left hi] at ei
        rw [List.getElem?_append_left (by rw [← hp2.1]; exact hi)] at ez
        exact s68 _ _ (hp2.2 i a z ei ez)
      · have hil := lt_at ei
        rw [List.length_append] at hil
        have : i = ps.length := by simp only [List.length_cons, List.length_nil] at hil; omega
        subst this
        rw [List.getElem?_append_right (Nat.le_refl _), Nat.sub_self] at ei
        rw [hp2.1, List.getElem?_append_right (Nat.le_refl _), Nat.sub_self] at ez
        obtain rfl : sp = a := Option.some.inj ei
        obtain rfl : Stp.mt t = z := Option.some.inj ez
        exact (s7.trans s8) _ _ upd_same
    exact q _ ((b2.trans b4).trans (But.put s68)) (N4.put s68 (s68 _ _ hy5) (s68 _ _ h5) hds (by show ((s.ss.set p.1 x).set p.2 x).length = _; rw [List.length_set, List.length_set]; exact ls) (by show (s.ar.set t x).length = _; rw [List.length_set]; exact la) ((hN.bs.set hx).set hx) (hN.ba.set hx) (by show (s.ds ++ [Stp.mt t]).length ≤ _; rw [List.length_append]; simp only [List.length_cons, List.length_nil]; omega))
end
end K1
namespace K1
open PySem PySem.Spec PyProof.Rows L2
noncomputable def EndR (tb : Ts) (a h t x : Int) : Prop := ∃ r : List Int, (∀ d ∈ r, 0 ≤ d ∧ d < (tb.length : Int)) ∧ run tb a r = t ∧ run tb h r = x
theorem Fst.ends {tb : Ts} {a h t : Int} {F : List KR} (f : Fst (actL tb) tb.length [a, h] F) (x : Int) : x ∈ endsOf F t ↔ EndR tb a h t x := by
  constructor
  · intro hx
    obtain ⟨e, he, rfl⟩ := List.mem_map.mp hx
    obtain ⟨he1, he2⟩ := List.mem_filter.mp he
    have he2 : e.1.getD 0 0 = t := of_decide_eq_true he2
    obtain ⟨j, hj⟩ := List.getElem?_of_mem he1
    obtain ⟨h1, h2, _⟩ := f.pth j e.1 e.2 hj
    rw [h1, path_run] at he2
    exact ⟨e.2, h2, he2, by rw [h1, path_run]; rfl⟩
  · rintro ⟨r, hr, e1, e2⟩
    obtain ⟨j, r', hj, _⟩ := f.all r hr
    rw [path_run] at hj
    exact List.mem_map.mpr ⟨_, List.mem_filter.mpr ⟨List.mem_of_getElem? hj, decide_eq_true (show run tb a r = t from e1)⟩, e2⟩
theorem Fst.endsNd {tb : Ts} {a h t : Int} {F : List KR} (f : Fst (actL tb) tb.length [a, h] F) : (endsOf F t).Nodup := by
  have h1 : F.Pairwise fun e e' => e.1 ≠ e'.1 := by
    have := f.nd
    rw [List.Nodup, List.pairwise_map] at this
    exact this
  unfold endsOf onT
  rw [List.Nodup, List.pairwise_map]
  refine (h1.filter _).imp_of_mem fun {e e'} he he' hne hx => hne ?_
  obtain ⟨m1, m2⟩ := List.mem_filter.mp he
  obtain ⟨m3, m4⟩ := List.mem_filter.mp he'
  have m2 : e.1.getD 0 0 = t := of_decide_eq_true m2
  have m4 : e'.1.getD 0 0 = t := of_decide_eq_true m4
  obtain ⟨j, hj⟩ := List.getElem?_of_mem m1
  obtain ⟨k1, _, _⟩ := f.pth j e.1 e.2 hj
  obtain ⟨j', hj'⟩ := List.getElem?_of_mem m3
  obtain ⟨k2, _, _⟩ := f.pth j' e'.1 e'.2 hj'
  rw [path_run] at k1 k2
  rw [k1] at m2 hx
  rw [k2] at m4 hx
  have x1 : run tb a e.2 = t := m2
  have x2 : run tb a e'.2 = t := m4
  have x3 : run tb h e.2 = run tb h e'.2 := hx
  rw [k1, k2]
  show [run tb a e.2, run tb h e.2] = [run tb a e'.2, run tb h e'.2]
  rw [x1, x2, x3]
noncomputable def JR (tb : Ts) (a h t : Int) : Option Int → Prop
  | some x => ∀ y, EndR tb a h t y ↔ y = x
  | none => ¬ ∃ x, ∀ y, EndR tb a h t y ↔ y = x
theorem JR.uniq {tb : Ts} {a h t : Int} : ∀ {r r' : Option Int}, JR tb a h t r → JR tb a h t r' → r = r'
  | some x, some y, h1, h2 => by rw [(h2 x).mp ((h1 x).mpr rfl)]
  | some x, none, h1, h2 => (h2 ⟨x, h1⟩).elim
  | none, some y, h1, h2 => (h1 ⟨y, h2⟩).elim
  | none, none, _, _ => rfl
section
variable {tb : Ts} {a h t : Int} {l : List Int}
theorem JR.one {x : Int} (j : JR tb a h t (some x)) (nd : l.Nodup) (hm : ∀ y, y ∈ l ↔ EndR tb a h t y) : l = [x] := by
  have k : ∀ y, y ∈ l ↔ y = x := fun y => (hm y).trans (j y)
  match l, nd, k with
  | [], _, k => exact absurd ((k x).mpr rfl) (by simp)
  | [y], _, k => rw [(k y).mp (by simp)]
  | y :: z :: r, nd, k =>
    have e1 := (k y).mp (by simp)
    have e2 := (k z).mp (by simp)
    rw [List.nodup_cons] at nd
    exact (nd.1 (by rw [e1, e2]; simp)).elim
theorem JR.of_one {x : Int} (e : l = [x]) (hm : ∀ y, y ∈ l ↔ EndR tb a h t y) : JR tb a h t (some x) := fun y => by
  rw [← hm y, e]; simp
theorem JR.of_not (e : l.length ≠ 1) (nd : l.Nodup) (hm : ∀ y, y ∈ l ↔ EndR tb a h t y) : JR tb a h t none := fun ⟨x, hx⟩ => e (by rw [JR.one (x := x) hx nd hm]; rfl)
end
noncomputable def StR (e : Ev) (s : Sn) : Stp → Option Sn → Prop
  | .dd h d, o => o = some (s.doo e h d)
  | .mt t, o => ∃ p r, e.ts[t]? = some p ∧ JR e.tb (s.ar.getD t 0) (s.ss.getD p.1 0) (s.ss.getD p.2 0) r ∧ o = r.map (s.met p t)
theorem StR.uniq {e : Ev} {s : Sn} {st : Stp} {o o' : Option Sn} (h : StR e s st o) (h' : StR e s st o') : o = o' := by
  cases st with
  | dd a b => rw [show o = _ from h, show o' = _ from h']
  | mt t =>
    obtain ⟨p, r, h1, h2, rfl⟩ := h
    obtain ⟨p', r', k1, k2, rfl⟩ := h'
    rw [h1] at k1
    obtain rfl := Option.some.inj k1
    rw [h2.uniq k2]
noncomputable def dueT (e : Ev) (s : Sn) (st : Stp) (a h t : Int) : Prop := ∃ (k : Nat) (p : Nat × Nat), st = .mt k ∧ e.ts[k]? = some p ∧ a = s.ar.getD k 0 ∧ h = s.ss.getD p.1 0 ∧ t = s.ss.getD p.2 0
inductive Run (e : Ev) : Sn → List Stp → Sn → Prop
  | nil (s : Sn) : Run e s [] s
  | cons {s s1 s2 : Sn} {st : Stp} {l : List Stp} : StR e s st (some s1) → Run e s1 l s2 → Run e s (st :: l) s2
inductive Brk (e : Ev) : Sn → List Stp → Int → Int → Int → Prop
  | now {s : Sn} {st : Stp} {l : List Stp} {a h t : Int} : StR e s st none → dueT e s st a h t → Brk e s (st :: l) a h t
  | later {s s1 : Sn} {st : Stp} {l : List Stp} {a h t : Int} : StR e s st (some s1) → Brk e s1 l a h t → Brk e s (st :: l) a h t
theorem Run.snoc {e : Ev} {s s1 s2 : Sn} {l : List Stp} {st : Stp} (h : Run e s l s1) (k : StR e s1 st (some s2)) : Run e s (l ++ [st]) s2 := by
  induction h with
  | nil s => exact .cons k (.nil _)
  | cons a _ ih => exact .cons a (ih k)
theorem Run.brk {e : Ev} {s s1 : Sn} {l : List Stp} {st : Stp} {r : List Stp} {a h t : Int} (hr : Run e s l s1) (k : StR e s1 st none) (d : dueT e s1 st a h t) : Brk e s (l ++ st :: r) a h t := by
  induction hr with
  | nil s => exact .now k d
  | cons a _ ih => exact .later a (ih k d)
theorem StR.ds {e : Ev} {s s' : Sn} {st : Stp} (h : StR e s st (some s')) : s'.ds = s.ds ++ [st] := by
  cases st with
  | dd a b => rw [Option.some.inj (show some s' = _ from h)]; rfl
  | mt t =>
    obtain ⟨p, r, h1, h2, h3⟩ := h
    cases r with
    | none => cases h3
    | some x => rw [Option.some.inj h3]; rfl
theorem Run.ds {e : Ev} {s s' : Sn} {l : List Stp} (h : Run e s l s') : s'.ds = s.ds ++ l := by
  induction h with
  | nil s => rw [List.append_nil]
  | cons a _ ih => rw [ih, a.ds, List.append_assoc]; rfl
theorem Run.uniq {e : Ev} {s s1 s2 : Sn} {l : List Stp} (h : Run e s l s1) (k : Run e s l s2) : s1 = s2 := by
  induction h with
  | nil s => cases k; rfl
  | cons a _ ih =>
    cases k with
    | cons b k =>
      have := a.uniq b
      obtain rfl := Option.some.inj this
      exact ih k
theorem Run.no_brk {e : Ev} {s s1 : Sn} {l : List Stp} {a h t : Int} (hr : Run e s l s1) (b : Brk e s l a h t) : False := by
  induction hr with
  | nil s => cases b
  | cons x _ ih =>
    cases b with
    | now y _ => cases x.uniq y
    | later y b =>
      have := x.uniq y
      obtain rfl := Option.some.inj this
      exact ih b
theorem RzU.same {CU : Addr} {x a b : Int} {H H' : Hp} {E : XK} (h : RzU CU x a b H E) (s : Same H H') : RzU CU x a b H' E := fun d H2 s2 hd he => h d H2 (s.trans s2) (s.free hd) he
noncomputable def spMovedL (M : Addr) : Sp := fun vs H Q _ => ∃ m ta ts s p row, vs = [.ref m, .int s, .ref p] ∧ MachAt M H m ta (vts ts) ∧ Wf ts ∧ (0 ≤ s ∧ s < (nS ts : Int)) ∧ H p = some (.lst (vrow row)) ∧ (∀ d ∈ row, 0 ≤ d ∧ d < (ts.length : Int)) ∧ Q (.int (run ts s row)) H
noncomputable def spMeetJ (K : PySem.W.Frag) (N M W CT CU : Addr) : Sp := fun vs H Q E => ∃ (c : Addr) (e : Ev) (s : Sn) (v : V) (o : Option (List V)), vs = [.ref c, v] ∧ NetAt N M W H c e s ∧ KV K H v o ∧ s.ds.length < 1000 ∧ (belowB v (e.ts.length : Int) = false → Rz CT "tie" v H E) ∧
  (∀ (t : Nat) p, v = .int (t : Int) → e.ts[t]? = some p → (∀ x, JR e.tb (s.ar.getD t 0) (s.ss.getD p.1 0) (s.ss.getD p.2 0) (some x) → ∀ H', But c H H' → NetAt N M W H' c e (s.met p t x) → Q (.int x) H') ∧
    (JR e.tb (s.ar.getD t 0) (s.ss.getD p.1 0) (s.ss.getD p.2 0) none → RzU CU (s.ar.getD t 0) (s.ss.getD p.1 0) (s.ss.getD p.2 0) H E))
noncomputable def spPTake (N M W CU : Addr) : Sp := fun vs H Q E => ∃ (c p : Addr) (e : Ev) (s : Sn) (st : Stp), vs = [.ref c, .ref p] ∧ NetAt N M W H c e s ∧ H p = some (.tup (stV st)) ∧ okS e.n e.ts.length e.tb.length st ∧ s.ds.length < 1000 ∧
  (∀ s', StR e s st (some s') → ∀ H', But c H H' → NetAt N M W H' c e s' → Q .non H') ∧ (∀ a h t, StR e s st none → dueT e s st a h t → RzU CU a h t H E)
section
variable {P : Program} {w : World} {K : PySem.W.Frag} {mg : Str → Option Value} {base : Heap}
theorem ok_movedL {f M : Addr} {fd : FuncData} (D : Df K mg "moved" sMoved ["machine", "state", "row"] f fd) (T : McT K mg M) : FnOk P w K mg base CX0 1 f fd ["machine", "state", "row"] (spMovedL M) := by
  refine D.F.ok scMv (fun vs H Q E h => ?_) (fun cdv A outer s H vs Q E hr h => ?_)
  · obtain ⟨m, ta, ts, v, p, row, rfl, _⟩ := h
    rfl
  · obtain ⟨m, ta, ts, s0, p, row, rfl, hM, hW, hs, hp, hd, q⟩ := h
    refine ⟨_, pss_cons (ps_for PassesOwn.never rfl (pi_list (pv 2)) (pg_name (i := 3) scMv.nd rfl (.inl rfl)) (pss_one (ps_set (i := 1) scMv.nd rfl (.inl rfl) (pe_ix ix_tup (pe_ix ix_tup (pe_fld (pv 0) rfl) (pv 3) (fun _ _ => rfl)) (pv 1) (fun _ _ => rfl)))))
      (pss_one (ps_ret (pv 1))), ?_⟩
    refine ⟨_, rfl, p, rfl, ⟨_, SqL.of hp⟩, for_list (K := K) (a := p) (xs := vrow row) (fun i σ H' => ∃ v3 : Option V, σ = [some (.ref m), some (.int (run ts s0 (row.take i))), some (.ref p), v3] ∧ H' = H)
      ⟨none, rfl, rfl⟩ (fun i σ H' _ ⟨_, _, e⟩ => by rw [e]; exact SqL.of hp) ?_ ?_⟩
    · rintro i y σ H' hi ⟨v3, rfl, rfl⟩
      obtain ⟨d, ed, rfl⟩ : ∃ d, row[i]? = some d ∧ y = V.int d := by
        rw [vrow, List.getElem?_map] at hi
        cases e : row[i]? with
        | none => rw [e] at hi; cases hi
        | some z =>
          rw [e] at hi
          exact ⟨z, rfl, (Option.some.inj hi).symm⟩
      have hb := hd d (List.mem_of_getElem? ed)
      have hr' := hW.run (row.take i) s0 (fun e he => hd e (List.mem_of_mem_take he)) hs
      obtain ⟨t, h1, h2, h3⟩ := hW.at_ hb hr'
      obtain ⟨dx, hm⟩ := hM.fs
      obtain ⟨as, ha1, ha2, ha3⟩ := hM.2
      have hla : d.toNat < as.length := by rw [ha2, vts, List.length_map]; omega
      have hA : as[d.toNat]? = some as[d.toNat] := by simp [hla]
      have hT := ha3 d.toNat _ (vrow t) hA (by rw [vts, List.getElem?_map, h1]; rfl)
      refine ⟨_, rfl, m, M, dx, _, _, rfl, hm, T.cl, T.nT, mf_t _ _ _, _, rfl, ta, _, d, _, rfl, rfl, SqT.of ha1, at_of (j := d.toNat) (by omega) (by rw [List.getElem?_map, hA]; rfl), ?_⟩
      refine ⟨_, rfl, _, _, _, .int (stp ts (run ts s0 (row.take i)) d), rfl, rfl, SqT.of hT, at_of (j := (run ts s0 (row.take i)).toNat) (by omega) (by rw [vrow, List.getElem?_map, h2]; rfl), ?_⟩
      refine ⟨some (.int d), ?_, rfl⟩
      rw [take_succ ed, run_snoc]
      rfl
    · rintro σ H' ⟨v3, rfl, rfl⟩
      have e : row.take (vrow row).length = row := by rw [vrow, List.length_map, List.take_length]
      rw [e]
      exact ⟨_, rfl, q⟩
theorem scNI : FnScope ["self", "machine", "web", "first"] ["self", "machine", "web", "first"] (defScope sNetInit) := ⟨rfl, rfl, rfl, by decide +kernel, rfl, by decide +kernel, by decide +kernel⟩
theorem ok_ninit {f fS CS M N W : Addr} {fd fdS : FuncData} (F : Fun K "__init__" "Net.__init__" sNetInit f fd) (DS : Df K mg "stand_first" sStandFirst ["net", "machine", "web", "first"] fS fdS)
    (GS : FnOk P w K mg base (L2.CX P w) 4 fS fdS ["net", "machine", "web", "first"] (spStand K N M W CS)) : FnOk P w K mg base (L2.CX P w) 5 f fd ["self", "machine", "web", "first"] (spStand K N M W CS) := by
  refine F.okX scNI (fun vs H Q E h => ?_) (fun cdv A outer s H vs Q E hr h => ?_)
  · obtain ⟨c, dx, e, v, o, rfl, _⟩ := h
    rfl
  · obtain ⟨c, dx, e, v, o, rfl, q⟩ := h
    refine ⟨_, pss_one (ps_expr (pc DS GS hr (pass1 (takes_of rfl rfl rfl rfl)) (pa_cons (pv 0) (pa_cons (pv 1) (pa_cons (pv 2) (pa_cons (pv 3) pa_nil)))))), ?_⟩
    exact ⟨_, rfl, _, rfl, _, rfl, _, rfl, c, dx, e, v, o, rfl, q⟩
theorem scND' : FnScope ["self", "house", "deed"] ["self", "house", "deed"] (defScope sNetDo) := ⟨rfl, rfl, rfl, by decide +kernel, rfl, by decide +kernel, by decide +kernel⟩
theorem ok_ndo {f fS CH CD M N W : Addr} {fd fdS : FuncData} (F : Fun K "do" "Net.do" sNetDo f fd) (DS : Df K mg "done_at" sDoneAt ["net", "house", "deed"] fS fdS)
    (GS : FnOk P w K mg base (L2.CX P w) 4 fS fdS ["net", "house", "deed"] (spDoneAt K N M W CH CD)) : FnOk P w K mg base (L2.CX P w) 5 f fd ["self", "house", "deed"] (spDoneAt K N M W CH CD) := by
  refine F.okX scND' (fun vs H Q E h => ?_) (fun cdv A outer s H vs Q E hr h => ?_)
  · obtain ⟨c, e, s, v, a, o1, o2, rfl, _⟩ := h
    rfl
  · obtain ⟨c, e, s, v, a, o1, o2, rfl, q⟩ := h
    refine ⟨_, pss_one (ps_ret (pc DS GS hr (pass1 (takes_of rfl rfl rfl rfl)) (pa_cons (pv 0) (pa_cons (pv 1) (pa_cons (pv 2) pa_nil))))), ?_⟩
    exact ⟨_, rfl, _, rfl, _, rfl, c, e, s, v, a, o1, o2, rfl, q⟩
theorem scNM : FnScope ["self", "tie", "joined"] ["self", "tie"] (defScope sNetMeet) := ⟨rfl, rfl, rfl, by decide +kernel, rfl, by decide +kernel, by decide +kernel⟩
theorem ok_nmeet {f fJ fP CT CU M N W : Addr} {fd fdJ fdP : FuncData} (F : Fun K "meet" "Net.meet" sNetMeet f fd) (DJ : Df K mg "joined_over" sJoinedOver ["net", "tie"] fJ fdJ) (DP : Df K mg "put_joined" sPutJoined ["net", "tie", "joined"] fP fdP)
    (GJ : FnOk P w K mg base (L2.CX P w) 6 fJ fdJ ["net", "tie"] (spJoinO K N M W CT CU)) (GP : FnOk P w K mg base CX0 2 fP fdP ["net", "tie", "joined"] (spPutJ N M W)) : FnOk P w K mg base (L2.CX P w) 7 f fd ["self", "tie"] (spMeetJ K N M W CT CU) := by
  refine F.okX scNM (fun vs H Q E h => ?_) (fun cdv A outer s H vs Q E hr h => ?_)
  · obtain ⟨c, e, s, v, o, rfl, _⟩ := h
    rfl
  · obtain ⟨c, e, s, v, o, rfl, hN, kv, hld, q1, q2⟩ := h
    refine ⟨_, pss_cons (ps_set (i := 2) scNM.nd rfl (.inl rfl) (pc DJ GJ hr (pass1 (takes_of rfl rfl rfl rfl)) (pa_cons (pv 0) (pa_cons (pv 1) pa_nil))))
      (pss_cons (ps_expr (pc DP GP (hr.mono (by decide)) pass0 (pa_cons (pv 0) (pa_cons (pv 1) (pa_cons (pv 2) pa_nil)))))
      (pss_one (ps_ret (pv 2)))), ?_⟩
    refine ⟨_, rfl, _, rfl, c, e, s, v, o, rfl, hN, kv, q1, fun t p ev hp F H1 s1 hF => ?_⟩
    obtain ⟨qa, qb⟩ := q2 t p ev hp
    subst ev
    have tn := lt_at hp
    obtain ⟨p1, p2, p3⟩ := hN.ev.wv.at_ hp
    have ga := hN.ba.get (i := t) (by rw [hN.la]; exact tn)
    have g1 := hN.bs.get (i := p.1) (by rw [hN.ls]; exact p1)
    refine ⟨fun x hx => ?_, fun hx => (qb (JR.of_not hx hF.endsNd hF.ends)).same s1⟩
    have hr' := ends_rng hN.ev.wf ga g1 hF (x := x) (by rw [hx]; simp)
    dsimp only [List.set]
    refine ⟨_, rfl, _, rfl, _, rfl, c, e, s, t, p, x, rfl, hN.same s1, hp, hr', hld, fun H' b hN' => ?_⟩
    exact ⟨_, rfl, qa x (JR.of_one hx hF.ends) H' ((Same.but s1).trans b) hN'⟩
structure NMs (P : Program) (w : World) (K : PySem.W.Frag) (mg : Str → Option Value) (base : Heap) (N M W CH CD CT CU : Addr) : Prop where
  T : NtT K mg N
  do_ : ∃ f fd, Meth K N "do" f ∧ Binds K fd ["self", "house", "deed"] [] ∧ FnOk P w K mg base (L2.CX P w) 5 f fd ["self", "house", "deed"] (spDoneAt K N M W CH CD)
  meet : ∃ f fd, Meth K N "meet" f ∧ Binds K fd ["self", "tie"] [] ∧ FnOk P w K mg base (L2.CX P w) 7 f fd ["self", "tie"] (spMeetJ K N M W CT CU)
theorem nf_do (fi : Int) (m w sa aa pa : Addr) : (nf fi m w sa aa pa).lookup ("do" : Str) = none := by rfl
theorem nf_meet (fi : Int) (m w sa aa pa : Addr) : (nf fi m w sa aa pa).lookup ("meet" : Str) = none := by rfl
theorem scPT : FnScope ["books", "step"] ["books", "step"] (defScope sPTake) := ⟨rfl, rfl, rfl, by decide +kernel, rfl, by decide +kernel, by decide +kernel⟩
theorem ok_ptake {f CH CD CT CU M N W : Addr} {fd : FuncData} (D : Df K mg "take" sPTake ["books", "step"] f fd) (nm : NMs P w K mg base N M W CH CD CT CU) (c : Cs mg) : FnOk P w K mg base (L2.CX P w) 8 f fd ["books", "step"] (spPTake N M W CU) := by
  obtain ⟨t1, hc1⟩ := c.doo
  obtain ⟨fD, fdD, mD, bD, GD⟩ := nm.do_
  obtain ⟨fM, fdM, mM, bM, GM⟩ := nm.meet
  have NT := nm.T
  refine D.F.okX scPT (fun vs H Q E h => ?_) (fun cdv A outer s H vs Q E hr h => ?_)
  · obtain ⟨c, p, e, s, st, rfl, _⟩ := h
    rfl
  · obtain ⟨c, p, e, s, st, rfl, hN, hp, hok, hld, q1, q2⟩ := h
    refine ⟨_, pss_one (ps_if (pt_cmpR op_eq (pe_ix ix_tup (pv 1) pe_int (fun _ _ => rfl)) (pe_glob (v := .str "do") (by rfl) hc1 ⟨_, rfl⟩) (nomark _))
      (pss_one (ps_expr (pe_meth (pv 0) NT.cl mD GD (hr.mono (by decide)) bD .nil (pass1 (takes_of rfl rfl rfl rfl)) (pa_cons (pe_ix ix_tup (pv 1) pe_int (fun _ _ => rfl)) (pa_cons (pe_ix ix_tup (pv 1) pe_int (fun _ _ => rfl)) pa_nil)))))
      (pss_one (ps_expr (pe_meth (pv 0) NT.cl mM GM hr bM .nil (pass1 (takes_of rfl rfl rfl rfl)) (pa_cons (pe_ix ix_tup (pv 1) pe_int (fun _ _ => rfl)) pa_nil))))), ?_⟩
    obtain ⟨dx, sa, aa, pa, h1, h2, h3, h4⟩ := hN.ob
    cases st with
    | dd h d =>
      have rd : ∀ (j : Nat) v, (stV (.dd h d))[j]? = some v → atI (stV (.dd h d)) (j : Int) = some v := fun j v hv => at_i hv
      refine ⟨_, rfl, p, _, (0 : Int), .str "do", rfl, rfl, SqT.of hp, rd 0 _ rfl, ⟨rfl, true, congrArg V.bl (decide_eq_true rfl), iteT ?_⟩⟩
      refine ⟨_, rfl, c, dx, _, rfl, h1, nf_do _ _ _ _ _ _, ?_⟩
      refine ⟨_, rfl, p, _, (1 : Int), .int (h : Int), rfl, rfl, SqT.of hp, rd 1 _ rfl, _, rfl, p, _, (2 : Int), .int (d : Int), rfl, rfl, SqT.of hp, rd 2 _ rfl, ?_⟩
      refine ⟨c, e, s, _, _, none, none, rfl, hN, .int _, .int _, hld, fun hb => ?_, fun _ hb => ?_, fun h' d' eh ed _ _ H' b hN' => ?_⟩
      · rw [belowB_nat, decide_eq_true hok.1] at hb; cases hb
      · rw [belowB_nat, decide_eq_true hok.2] at hb; cases hb
      · injection eh with eh
        injection ed with ed
        obtain rfl : h' = h := by omega
        obtain rfl : d' = d := by omega
        exact q1 _ rfl H' b hN'
    | mt t =>
      have rd : ∀ (j : Nat) v, (stV (.mt t))[j]? = some v → atI (stV (.mt t)) (j : Int) = some v := fun j v hv => at_i hv
      refine ⟨_, rfl, p, _, (0 : Int), .str "meet", rfl, rfl, SqT.of hp, rd 0 _ rfl, ⟨rfl, false, congrArg V.bl (decide_eq_false (by decide +kernel)), iteF ?_⟩⟩
      refine ⟨_, rfl, c, dx, _, rfl, h1, nf_meet _ _ _ _ _ _, ?_⟩
      refine ⟨_, rfl, p, _, (1 : Int), .int (t : Int), rfl, rfl, SqT.of hp, rd 1 _ rfl, ?_⟩
      refine ⟨c, e, s, _, none, rfl, hN, .int _, hld, fun hb => ?_, fun t' p' et hp' => ⟨fun x hx H' b hN' => ?_, fun hx => ?_⟩⟩
      · rw [belowB_nat, decide_eq_true (show t < e.ts.length from hok)] at hb; cases hb
      · injection et with et
        obtain rfl : t' = t := by omega
        exact q1 _ ⟨p', some x, hp', hx, rfl⟩ H' b hN'
      · injection et with et
        obtain rfl : t' = t := by omega
        exact q2 _ _ _ ⟨p', none, hp', hx, rfl⟩ ⟨t', p', rfl, hp', rfl, rfl, rfl⟩
end
end K1
namespace K1
open PySem PySem.Spec PyProof.Rows L2
theorem mkSameN {G : Hp} {c dx : Addr} {o1 o2 : HO} (hc : G c = none) (hd : G dx = none) (ne : dx ≠ c) : Same G (upd (upd G dx o1) c o2) := (same_new hd).trans (same_new (by rw [upd_ne ne.symm]; exact hc))
theorem StpsA.get {H : Hp} {as : List Addr} {ss : List Stp} (h : StpsA H as ss) {i : Nat} {x : V} (e : (as.map V.ref)[i]? = some x) : ∃ a s, x = .ref a ∧ as[i]? = some a ∧ ss[i]? = some s ∧ H a = some (.tup (stV s)) := by
  obtain ⟨a, ha, rfl⟩ := at_map e
  obtain ⟨s, hs⟩ := ex_at (l := ss) (i := i) (by rw [← h.1]; exact lt_at ha)
  exact ⟨a, s, rfl, ha, hs, h.2 i a s ha hs⟩
noncomputable def spStandA (K : PySem.W.Frag) (M W CB CU : Addr) : Sp := fun vs H Q E => ∃ (e : Ev) (v : V) (o : Option (List (Option (List V)))), vs = [.ref e.m, .ref e.w, .int e.fi, v] ∧ EvAt M W H e ∧ (0 ≤ e.fi ∧ e.fi < (nS e.tb : Int)) ∧ Svs K H v o ∧ (∀ z, sfV e.n e.ts.length e.tb.length o = .int z → Rz CB "at" (.int z) H E) ∧
  ∀ ss : List Stp, o = some (ss.map fun s => some (stV s)) → (∀ s ∈ ss, okS e.n e.ts.length e.tb.length s) → ss.length ≤ 400 →
    (∀ s' p sa aa H', Run e (sn0 e) ss s' → Same H H' → H' p = some (.tup [.ref sa, .ref aa]) → H' sa = some (.tup (vrow s'.ss)) → H' aa = some (.tup (vrow s'.ar)) → Q (.ref p) H') ∧ (∀ a h t, Brk e (sn0 e) ss a h t → RzU CU a h t H E)
section
variable {P : Program} {w : World} {K : PySem.W.Frag} {mg : Str → Option Value} {base : Heap}
theorem Rz.mono {C : Addr} {f : Str} {v : V} {H H' : Hp} {E : XK} (h : Rz C f v H E) (s : Same H H') : Rz C f v H' E := fun d H2 s2 hd he => h d H2 (s.trans s2) (s.free hd) he
theorem scSA : FnScope ["machine", "web", "first", "steps", "net", "step"] ["machine", "web", "first", "steps"] (defScope sStandingAfter) := ⟨rfl, rfl, rfl, by decide +kernel, rfl, by decide +kernel, by decide +kernel⟩
theorem ok_standA {f fI fC fT CB CS CH CD CT CU M N W : Addr} {fd fdI fdC fdT : FuncData} (D : Df K mg "standing_after" sStandingAfter ["machine", "web", "first", "steps"] f fd) (DC : Df K mg "check_steps" sCheckSteps ["machine", "web", "value"] fC fdC) (DT : Df K mg "take" sPTake ["books", "step"] fT fdT) (NT : NtT K mg N)
    (MI : Mk K N fI) (BI : Binds K fdI ["self", "machine", "web", "first"] []) (GI : FnOk P w K mg base (L2.CX P w) 5 fI fdI ["self", "machine", "web", "first"] (spStand K N M W CS))
    (GC : FnOk P w K mg base (L2.CX P w) 6 fC fdC ["machine", "web", "value"] (spCkSteps K M W CB)) (GT : FnOk P w K mg base (L2.CX P w) 8 fT fdT ["books", "step"] (spPTake N M W CU)) :
    FnOk P w K mg base (L2.CX P w) 9 f fd ["machine", "web", "first", "steps"] (spStandA K M W CB CU) := by
  refine D.F.okX scSA (fun vs H Q E h => ?_) (fun cdv A outer s H vs Q E hr h => ?_)
  · obtain ⟨e, v, o, rfl, _⟩ := h
    rfl
  · obtain ⟨e, v, o, rfl, hE, hfi, hv, q1, q2⟩ := h
    refine ⟨_, pss_cons (ps_set (i := 4) scSA.nd rfl (.inl rfl) (pe_make MI GI (hr.mono (by decide)) rfl NT.g BI .nil (pass1 (takes_of rfl rfl rfl rfl)) (pa_cons (pv 0) (pa_cons (pv 1) (pa_cons (pv 2) pa_nil)))))
      (pss_cons (ps_for (passes_of rfl) rfl (pi_tup (pc DC GC (hr.mono (by decide)) (pass1 (takes_of rfl rfl rfl rfl)) (pa_cons (pv 0) (pa_cons (pv 1) (pa_cons (pv 3) pa_nil))))) (pg_name (i := 5) scSA.nd rfl (.inl rfl))
        (pss_one (ps_expr (pc DT GT hr (pass1 (takes_of rfl rfl rfl rfl)) (pa_cons (pv 4) (pa_cons (pv 5) pa_nil))))))
      (pss_one (ps_ret (pe_tup (pa_cons (pe_fld (pv 4) rfl) (pa_cons (pe_fld (pv 4) rfl) pa_nil)))))), ?_⟩
    refine ⟨_, rfl, _, rfl, _, rfl, fun c dxc hc0 hdc0 nec => ?_⟩
    have smc := mkSameN (o1 := HO.own c) (o2 := HO.ins N dxc []) hc0 hdc0 nec
    have hc1 : (upd (upd H dxc (.own c)) c (.ins N dxc [])) c = some (.ins N dxc []) := upd_same
    generalize upd (upd H dxc (.own c)) c (.ins N dxc []) = H1 at smc hc1 ⊢
    obtain ⟨dm, hm⟩ := hE.mc.fs
    obtain ⟨dw, tw, hw, _⟩ := id hE.wb
    have nm : e.m ≠ c := ne_of_none hm hc0
    have nw : e.w ≠ c := ne_of_none hw hc0
    refine ⟨c, dxc, e, .int e.fi, none, rfl, hc1, hE.same smc, nm, nw, .int _, fun hb => ?_, fun i ei => ?_, fun _ _ H2 b2 hN => ?_⟩
    · have : belowB (.int e.fi) (nS e.tb : Int) = true := by
        show (decide (0 ≤ e.fi) && decide (e.fi < (nS e.tb : Int))) = true
        rw [decide_eq_true hfi.1, decide_eq_true hfi.2]; rfl
      rw [this] at hb; cases hb
    · injection ei
    refine ⟨rfl, ?_⟩
    have s2 : Same H H2 := fun d u ed => b2 d u (smc d u ed) (ne_of_none ed hc0)
    dsimp only [List.set]
    refine ⟨_, rfl, _, rfl, _, rfl, e.m, e.ta, e.w, e.tb, v, o, e.n, e.ts, rfl, hE.mc.same s2, hE.wb.same s2, hv.same s2, fun z ez => (q1 z ez).mono s2, fun ss eo hok hl p H3 s3 hp => ?_⟩
    obtain ⟨qa, qb⟩ := q2 ss eo hok hl
    obtain ⟨as, hp1, hp2⟩ := hp
    have s23 := s2.trans s3
    have key : ∀ {H' : Hp} {b : Addr} {xs : List V}, But c H3 H' → H3 b = some (.tup xs) → H' b = some (.tup xs) := fun {H' b xs} bb e => bb _ _ e fun z => by
      obtain ⟨dx, sa, aa, pa, h1, _⟩ := hN.ob
      rw [z, s3 _ _ h1] at e
      cases e
    have upto : ∀ {H' : Hp}, But c H3 H' → Same H H' := fun {H'} bb d u ed => bb d u (s23 d u ed) (ne_of_none ed hc0)
    refine ⟨p, rfl, ⟨_, SqT.of hp1⟩, for_tup (K := K) (a := p) (xs := as.map V.ref) (fun i σ H' => ∃ (s : Sn) (v5 : Option V), σ = [some (.ref e.m), some (.ref e.w), some (.int e.fi), some v, some (.ref c), v5] ∧ But c H3 H' ∧ NetAt N M W H' c e s ∧ Run e (sn0 e) (ss.take i) s)
      ⟨_, none, rfl, .refl, hN.same s3, .nil _⟩ (fun i σ H' _ ⟨_, _, _, bb, _⟩ => SqT.of (key bb hp1)) ?_ ?_⟩
    · rintro i x σ H' hx ⟨s, v5, rfl, bb, hN', hR⟩
      obtain ⟨a, st, rfl, ha, hst, hat⟩ := hp2.get hx
      have hld : s.ds.length < 1000 := by
        rw [hR.ds]
        show ((sn0 e).ds ++ ss.take i).length < 1000
        rw [List.length_append, List.length_take]
        show 0 + _ < _
        omega
      refine gn ?_
      dsimp only [List.set]
      refine ⟨_, rfl, _, rfl, c, a, e, s, st, rfl, hN', key bb hat, hok st (List.mem_of_getElem? hst), hld, fun s' hs' H4 b4 N4 => ?_, fun a' h' t' hn hd => ?_⟩
      · exact ⟨s', _, rfl, bb.trans b4, N4, by rw [take_succ hst]; exact hR.snoc hs'⟩
      · have es : ss = ss.take i ++ st :: ss.drop (i + 1) := by
          conv => lhs; rw [← List.take_append_drop i ss]
          rw [List.drop_eq_getElem_cons (lt_at hst)]
          congr 2
          exact (List.getElem?_eq_some_iff.mp hst).2
        have hb : Brk e (sn0 e) ss a' h' t' := by rw [es]; exact hR.brk hn hd
        exact (qb a' h' t' hb).same (upto bb)
    · rintro σ H' ⟨s, v5, rfl, bb, hN', hR⟩
      rw [List.take_of_length_le (by rw [List.length_map, hp2.1]; exact Nat.le_refl _)] at hR
      obtain ⟨dx, sa, aa, pa, h1, h2, h3, h4⟩ := hN'.ob
      refine ⟨_, rfl, c, N, dx, _, _, rfl, h1, NT.cl, NT.nS, nf_s _ _ _ _ _ _, _, rfl, c, N, dx, _, _, rfl, h1, NT.cl, NT.nA, nf_a _ _ _ _ _ _, (by show 2 ≤ sizeLine; decide), fun p' hp' => ?_⟩
      have sn := same_new (o := HO.tup [.ref sa, .ref aa]) hp'
      exact qa s p' sa aa _ hR ((upto bb).trans sn) upd_same (sn _ _ h2) (sn _ _ h3)
end
end K1
namespace K1
open PySem PySem.Spec PyProof.Rows L2
inductive Reach (ts : Ts) (s : Int) : Int → Prop
  | refl : Reach ts s s
  | step {x d : Int} (h : Reach ts s x) (hd : 0 ≤ d ∧ d < (ts.length : Int)) : Reach ts s (stp ts x d)
theorem Reach.rng {ts : Ts} (w : Wf ts) {s x : Int} (hs : 0 ≤ s ∧ s < (nS ts : Int)) (h : Reach ts s x) : 0 ≤ x ∧ x < (nS ts : Int) := by
  induction h with
  | refl => exact hs
  | step h hd ih => exact (w.at_ hd ih).choose_spec.2.2
noncomputable def Bad (ts : Ts) (x a b : Int) : Prop := stp ts (stp ts x a) b ≠ stp ts (stp ts x b) a
noncomputable instance {ts : Ts} {x a b : Int} : Decidable (Bad ts x a b) := inferInstanceAs (Decidable (_ ≠ _))
noncomputable def In8 (ts : Ts) (d : Int) : Prop := 0 ≤ d ∧ d < (ts.length : Int)
theorem reach_run {ts : Ts} {s : Int} : ∀ (r : List Int) (x : Int), Reach ts s x → (∀ d ∈ r, In8 ts d) → Reach ts s (run ts x r)
  | [], x, h, _ => h
  | d :: r, x, h, hd => reach_run r (stp ts x d) (.step h (hd d List.mem_cons_self)) fun e he => hd e (List.mem_cons_of_mem _ he)
theorem run_perm {ts : Ts} {s : Int} (hc : ∀ x, Reach ts s x → ∀ a b, In8 ts a → In8 ts b → ¬ Bad ts x a b) {r u : List Int} (p : r.Perm u) : (∀ d ∈ r, In8 ts d) → ∀ x, Reach ts s x → run ts x r = run ts x u := by
  induction p with
  | nil => intro _ x _; rfl
  | cons d p ih =>
    intro hd x hx
    exact ih (fun e he => hd e (List.mem_cons_of_mem _ he)) (stp ts x d) (.step hx (hd d List.mem_cons_self))
  | swap a b l =>
    intro hd x hx
    have ha := hd b List.mem_cons_self
    have hb := hd a (List.mem_cons_of_mem _ List.mem_cons_self)
    have := hc x hx b a ha hb
    unfold Bad at this
    show run ts (stp ts (stp ts x b) a) l = run ts (stp ts (stp ts x a) b) l
    rw [Classical.not_not.mp this]
  | trans p q ih1 ih2 =>
    intro hd x hx
    rw [ih1 hd x hx, ih2 (fun e he => hd e (p.mem_iff.mpr he)) x hx]
theorem run_app (ts : Ts) (s : Int) (a b : List Int) : run ts s (a ++ b) = run ts (run ts s a) b := by
  unfold run
  rw [List.foldl_append]
end K1
namespace K1
open PySem PySem.Spec PyProof.Rows L2
noncomputable def LLq (H : Hp) (p : Addr) (as : List Addr) (ts : Ts) : Prop := H p = some (.lst (as.map V.ref)) ∧ as.length = ts.length ∧ ∀ (i : Nat) a t, as[i]? = some a → ts[i]? = some t → H a = some (.lst (vrow t))
noncomputable def LLo (b l : Addr) (H : Hp) (p : Addr) (ts : Ts) : Prop := ∃ as, LLq H p as ts ∧ p ≠ b ∧ p ≠ l ∧ ∀ a ∈ as, a ≠ b ∧ a ≠ l
theorem LLq.same {H H' : Hp} {p : Addr} {as : List Addr} {ts : Ts} (h : LLq H p as ts) (s : Same H H') : LLq H' p as ts := ⟨s _ _ h.1, h.2.1, fun i a t e1 e2 => s _ _ (h.2.2 i a t e1 e2)⟩
theorem ixN_of {i n : Nat} (h : i < n) : ixN n (i : Int) = some i := by unfold ixN; rw [if_pos (by omega), if_pos (by omega)]; simp
theorem getD_at {l : List Int} {i : Nat} (h : i < l.length) : l[i]? = some (l.getD i 0) := by
  rw [List.getD_eq_getElem?_getD, List.getElem?_eq_getElem h]; rfl
end K1
namespace K1
open PySem PySem.Spec PyProof.Rows L2
theorem flat_rep {α : Type} (x : α) : ∀ n : Nat, (List.replicate n [x]).flatten = List.replicate n x
  | 0 => rfl
  | n + 1 => by rw [List.replicate_succ, List.flatten_cons, flat_rep x n]; rfl
theorem rep_by {Q : VK} {H : Hp} {l : Addr} {x : V} (k : Nat) (h : H l = some (.lst [x])) (hk : k ≤ 100000) (q : ∀ p, H p = none → Q (.ref p) (upd H p (.lst (List.replicate k x)))) : rRep (.ref l) (.int (k : Int)) H Q :=
  ⟨l, k, [x], rfl, rfl, h, by omega, by omega, by rw [sizeLine_eq]; show 1 * (k : Int).toNat ≤ _; omega, fun p hp => by rw [flat_rep]; exact q p hp⟩
noncomputable def nx (m b h : Nat) : Nat := if h + 1 < m then h + 1 else b
noncomputable def it (m b : Nat) : Nat → Nat → Nat
  | 0, h => h
  | k + 1, h => nx m b (it m b k h)
theorem nx_lt {m b h : Nat} (hb : b < m) : nx m b h < m := by
  unfold nx
  split <;> omega
theorem it_lt {m b : Nat} (hb : b < m) : ∀ k h, h < m → it m b k h < m
  | 0, _, h => h
  | k + 1, _, _ => nx_lt hb
theorem it_add (m b : Nat) (j h : Nat) : ∀ k, it m b (j + k) h = it m b k (it m b j h)
  | 0 => rfl
  | k + 1 => by show nx m b (it m b (j + k) h) = nx m b (it m b k (it m b j h)); rw [it_add m b j h k]
theorem it_comm (m b j k h : Nat) : it m b k (it m b j h) = it m b j (it m b k h) := by rw [← it_add, ← it_add, Nat.add_comm]
theorem Dl.put {b l D : Addr} {H H1 : Hp} {o : HO} (a : Dl b l H H1) (hD : H D = none) (n1 : D ≠ b) (n2 : D ≠ l) : Dl b l H (upd H1 D o) := ⟨by
  obtain ⟨w0, ns, z, w1, w2, w3⟩ := a.1
  exact ⟨w0, ns, z, w1, by rw [upd_ne n1.symm]; exact w2, by rw [upd_ne n2.symm]; exact w3⟩, fun c o e m1 m2 => by rw [upd_ne (ne_of_none e hD)]; exact a.2 c o e m1 m2⟩
end K1
namespace K1
open PySem PySem.Spec PyProof.Rows L2
noncomputable def ltie (a b c : List Int) : List Int := List.zipWith (fun x y => x - y) (List.zipWith (fun x y => x + y) a b) c
structure Cu where
  hs : List (List Int)
  ts : List (List Int)
  ds : List Int
noncomputable def cu0 (n m k : Nat) : Cu := ⟨List.replicate n (List.replicate k 0), List.replicate m (List.replicate k 0), []⟩
noncomputable def Cu.doo (c : Cu) (h : Nat) (d : Int) : Cu := ⟨c.hs.set h ((c.hs.getD h []).set c.ds.length 1), c.ts, c.ds ++ [d]⟩
noncomputable def Cu.jn (c : Cu) (p : Nat × Nat) (t : Nat) : List Int := ltie (c.hs.getD p.1 []) (c.hs.getD p.2 []) (c.ts.getD t [])
noncomputable def Cu.met (c : Cu) (p : Nat × Nat) (t : Nat) : Cu := ⟨(c.hs.set p.1 (c.jn p t)).set p.2 (c.jn p t), c.ts.set t (c.jn p t), c.ds⟩
noncomputable def Cu.st (ps : Prs) (c : Cu) : Stp → Cu
  | .dd h d => c.doo h (d : Int)
  | .mt t => c.met (ps.getD t (0, 0)) t
noncomputable def cur (ps : Prs) (c : Cu) (l : List Stp) : Cu := l.foldl (Cu.st ps) c
theorem cur_snoc (ps : Prs) (c : Cu) (l : List Stp) (s : Stp) : cur ps c (l ++ [s]) = (cur ps c l).st ps s := by unfold cur; rw [List.foldl_append]; rfl
noncomputable def actD : List Stp → List Int
  | [] => []
  | .dd _ d :: l => (d : Int) :: actD l
  | .mt _ :: l => actD l
theorem actD_app : ∀ a b : List Stp, actD (a ++ b) = actD a ++ actD b
  | [], _ => rfl
  | .dd h d :: a, b => by show (d : Int) :: actD (a ++ b) = (d : Int) :: (actD a ++ actD b); rw [actD_app a b]
  | .mt t :: a, b => actD_app a b
theorem actD_len : ∀ a : List Stp, (actD a).length ≤ a.length
  | [] => Nat.le_refl _
  | .dd h d :: a => Nat.succ_le_succ (actD_len a)
  | .mt t :: a => Nat.le_succ_of_le (actD_len a)
theorem actD_mem {n t d : Nat} : ∀ {l : List Stp}, (∀ s ∈ l, okS n t d s) → ∀ x ∈ actD l, 0 ≤ x ∧ x < (d : Int)
  | [], _ => fun x hx => nomatch hx
  | .dd h e :: l, hl => fun x hx => by
    rcases List.mem_cons.mp hx with hx | hx
    · have h1 : okS n t d (.dd h e) := hl _ List.mem_cons_self
      rw [hx]
      exact ⟨by omega, by have := h1.2; omega⟩
    · exact actD_mem (fun s hs => hl s (List.mem_cons_of_mem _ hs)) x hx
  | .mt _ :: l, hl => actD_mem (l := l) fun s hs => hl s (List.mem_cons_of_mem _ hs)
noncomputable def cnt (n : Nat) (ps : Prs) (l : List Stp) : Cu := cur ps (cu0 n ps.length (actD l).length) l
structure CuOk (n m k : Nat) (c : Cu) : Prop where
  lh : c.hs.length = n
  lt : c.ts.length = m
  rh : ∀ r ∈ c.hs, r.length = k
  rt : ∀ r ∈ c.ts, r.length = k
theorem getL {l : List (List Int)} {i : Nat} (h : i < l.length) : l[i]? = some (l.getD i []) := by
  rw [List.getD_eq_getElem?_getD, List.getElem?_eq_getElem h]; rfl
theorem memL {l : List (List Int)} {i : Nat} (h : i < l.length) : l.getD i [] ∈ l := List.mem_of_getElem? (getL h)
theorem setL {l : List (List Int)} {i j : Nat} {x : List Int} (h : i < l.length) : (l.set i x).getD j [] = if j = i then x else l.getD j [] := by
  rw [List.getD_eq_getElem?_getD, List.getElem?_set]
  by_cases z : i = j
  · rw [if_pos z, if_pos h, if_pos z.symm]; rfl
  · rw [if_neg z, if_neg (Ne.symm z), List.getD_eq_getElem?_getD]
theorem setI {l : List Int} {i j : Nat} {x : Int} (h : i < l.length) : (l.set i x).getD j 0 = if j = i then x else l.getD j 0 := by
  rw [List.getD_eq_getElem?_getD, List.getElem?_set]
  by_cases z : i = j
  · rw [if_pos z, if_pos h, if_pos z.symm]; rfl
  · rw [if_neg z, if_neg (Ne.symm z), List.getD_eq_getElem?_getD]
theorem ltie_len {a b c : List Int} {k : Nat} (ha : a.length = k) (hb : b.length = k) (hc : c.length = k) : (ltie a b c).length = k := by
  unfold ltie
  rw [List.length_zipWith, List.length_zipWith, ha, hb, hc, Nat.min_self, Nat.min_self]
theorem ltie_at {a b c : List Int} {k i : Nat} (ha : a.length = k) (hb : b.length = k) (hc : c.length = k) (hi : i < k) : (ltie a b c).getD i 0 = a.getD i 0 + b.getD i 0 - c.getD i 0 := by
  unfold ltie
  simp only [List.getD_eq_getElem?_getD, List.getElem?_zipWith, List.getElem?_eq_getElem (show i < a.length by omega), List.getElem?_eq_getElem (show i < b.length by omega), List.getElem?_eq_getElem (show i < c.length by omega)]
  rfl
theorem cu0_ok (n m k : Nat) : CuOk n m k (cu0 n m k) := by
  refine ⟨List.length_replicate, List.length_replicate, fun r hr => ?_, fun r hr => ?_⟩ <;> (rw [List.eq_of_mem_replicate hr]; exact List.length_replicate)
theorem mem_setL {l : List (List Int)} {i : Nat} {x : List Int} {k : Nat} (h : ∀ r ∈ l, r.length = k) (hx : x.length = k) : ∀ r ∈ l.set i x, r.length = k := fun r hr => by
  rcases List.mem_or_eq_of_mem_set hr with z | z
  · exact h r z
  · rw [z]; exact hx
section
variable {n m k : Nat} {c : Cu}
theorem CuOk.row (o : CuOk n m k c) {h : Nat} (hh : h < n) : (c.hs.getD h []).length = k := o.rh _ (memL (by rw [o.lh]; exact hh))
theorem CuOk.rowT (o : CuOk n m k c) {t : Nat} (ht : t < m) : (c.ts.getD t []).length = k := o.rt _ (memL (by rw [o.lt]; exact ht))
theorem CuOk.jl (o : CuOk n m k c) {p : Nat × Nat} {t : Nat} (h1 : p.1 < n) (h2 : p.2 < n) (ht : t < m) : (c.jn p t).length = k := ltie_len (o.row h1) (o.row h2) (o.rowT ht)
theorem CuOk.doo (o : CuOk n m k c) {h : Nat} {d : Int} (hh : h < n) : CuOk n m k (c.doo h d) := ⟨by show (c.hs.set _ _).length = n; rw [List.length_set]; exact o.lh, o.lt, mem_setL o.rh (by rw [List.length_set]; exact o.row hh), o.rt⟩
theorem CuOk.met (o : CuOk n m k c) {p : Nat × Nat} {t : Nat} (h1 : p.1 < n) (h2 : p.2 < n) (ht : t < m) : CuOk n m k (c.met p t) :=
  ⟨by show ((c.hs.set _ _).set _ _).length = n; rw [List.length_set, List.length_set]; exact o.lh, by show (c.ts.set _ _).length = m; rw [List.length_set]; exact o.lt, mem_setL (mem_setL o.rh (o.jl h1 h2 ht)) (o.jl h1 h2 ht), mem_setL o.rt (o.jl h1 h2 ht)⟩
noncomputable def Cu.h (c : Cu) (i a : Nat) : Int := (c.hs.getD i []).getD a 0
noncomputable def Cu.t (c : Cu) (i a : Nat) : Int := (c.ts.getD i []).getD a 0
theorem doo_h (o : CuOk n m k c) {h : Nat} {d : Int} (hh : h < n) (hk : c.ds.length < k) (i a : Nat) : (c.doo h d).h i a = if i = h ∧ a = c.ds.length then 1 else c.h i a := by
  show ((c.hs.set h ((c.hs.getD h []).set c.ds.length 1)).getD i []).getD a 0 = _
  rw [setL (by rw [o.lh]; exact hh)]
  by_cases z : i = h
  · subst z
    rw [if_pos rfl, setI (by rw [o.row hh]; exact hk)]
    by_cases y : a = c.ds.length
    · rw [if_pos y, if_pos ⟨rfl, y⟩]
    · rw [if_neg y, if_neg (fun w => y w.2)]; rfl
  · rw [if_neg z, if_neg (fun w => z w.1)]; rfl
theorem met_h (o : CuOk n m k c) {p : Nat × Nat} {t : Nat} (h1 : p.1 < n) (h2 : p.2 < n) (ht : t < m) {a : Nat} (ha : a < k) (i : Nat) : (c.met p t).h i a = if i = p.1 ∨ i = p.2 then c.h p.1 a + c.h p.2 a - c.t t a else c.h i a := by
  show (((c.hs.set p.1 (c.jn p t)).set p.2 (c.jn p t)).getD i []).getD a 0 = _
  have e : (c.jn p t).getD a 0 = c.h p.1 a + c.h p.2 a - c.t t a := ltie_at (o.row h1) (o.row h2) (o.rowT ht) ha
  rw [setL (by rw [List.length_set, o.lh]; exact h2)]
  by_cases z : i = p.2
  · rw [if_pos z, if_pos (.inr z), e]
  · rw [if_neg z, setL (by rw [o.lh]; exact h1)]
    by_cases y : i = p.1
    · rw [if_pos y, if_pos (.inl y), e]
    · rw [if_neg y, if_neg (fun w => w.elim y z)]; rfl
theorem met_t (o : CuOk n m k c) {p : Nat × Nat} {t : Nat} (h1 : p.1 < n) (h2 : p.2 < n) (ht : t < m) {a : Nat} (ha : a < k) (i : Nat) : (c.met p t).t i a = if i = t then c.h p.1 a + c.h p.2 a - c.t t a else c.t i a := by
  show ((c.ts.set t (c.jn p t)).getD i []).getD a 0 = _
  have e : (c.jn p t).getD a 0 = c.h p.1 a + c.h p.2 a - c.t t a := ltie_at (o.row h1) (o.row h2) (o.rowT ht) ha
  rw [setL (by rw [o.lt]; exact ht)]
  by_cases z : i = t
  · rw [if_pos z, if_pos z, e]
  · rw [if_neg z, if_neg z]; rfl
theorem cu0_h (n m k i a : Nat) : (cu0 n m k).h i a = 0 := by
  show ((List.replicate n (List.replicate k 0)).getD i []).getD a 0 = 0
  rw [List.getD_eq_getElem?_getD, List.getD_eq_getElem?_getD, List.getElem?_replicate]
  split
  · show ((List.replicate k (0 : Int))[a]?).getD 0 = 0
    rw [List.getElem?_replicate]
    split <;> rfl
  · rfl
theorem cu0_t (n m k i a : Nat) : (cu0 n m k).t i a = 0 := cu0_h m n k i a
end
structure Cur (n : Nat) (ps : Prs) (k : Nat) (l : List Stp) (c : Cu) : Prop where
  ok : CuOk n ps.length k c
  ds : c.ds = actD l
  /-- what is not yet done counts nowhere -/
  z : ∀ i a, c.ds.length ≤ a → c.h i a = 0 ∧ c.t i a = 0
  /-- no tie counts more than a house of its -/
  up : ∀ (t : Nat) p a, ps[t]? = some p → 0 ≤ c.t t a ∧ c.t t a ≤ c.h p.1 a ∧ c.t t a ≤ c.h p.2 a
  nn : ∀ i a, 0 ≤ c.h i a
  bd : ∀ i a, c.h i a ≤ 2 ^ l.length
theorem cur_h_out {n m k : Nat} {c : Cu} (o : CuOk n m k c) {i a : Nat} (h : n ≤ i ∨ k ≤ a) : c.h i a = 0 := by
  show (c.hs.getD i []).getD a 0 = 0
  by_cases z : i < n
  · have := o.row z
    rw [List.getD_eq_getElem?_getD (l := c.hs.getD i []), List.getElem?_eq_none (by omega)]; rfl
  · rw [List.getD_eq_getElem?_getD (l := c.hs), List.getElem?_eq_none (by rw [o.lh]; omega)]; rfl
theorem cur_t_out {n m k : Nat} {c : Cu} (o : CuOk n m k c) {i a : Nat} (h : m ≤ i ∨ k ≤ a) : c.t i a = 0 := by
  show (c.ts.getD i []).getD a 0 = 0
  by_cases z : i < m
  · have := o.rowT z
    rw [List.getD_eq_getElem?_getD (l := c.ts.getD i []), List.getElem?_eq_none (by omega)]; rfl
  · rw [List.getD_eq_getElem?_getD (l := c.ts), List.getElem?_eq_none (by rw [o.lt]; omega)]; rfl
theorem Cur.init (n : Nat) (ps : Prs) (k : Nat) : Cur n ps k [] (cu0 n ps.length k) :=
  ⟨cu0_ok n ps.length k, rfl, fun i a _ => ⟨cu0_h _ _ _ _ _, cu0_t _ _ _ _ _⟩, fun t p a _ => by rw [cu0_h, cu0_h, cu0_t]; omega, fun i a => by rw [cu0_h]; exact Int.le_refl _, fun i a => by rw [cu0_h]; exact by decide⟩
theorem two_succ (k : Nat) : (2 : Int) ^ (k + 1) = 2 ^ k + 2 ^ k := by rw [Int.pow_succ]; omega
theorem two_pos (k : Nat) : (1 : Int) ≤ 2 ^ k := by
  induction k with
  | zero => decide
  | succ k ih => rw [two_succ]; omega
theorem Cur.dd {n : Nat} {ps : Prs} {k : Nat} {l : List Stp} {c : Cu} (I : Cur n ps k l c) {h d : Nat} (hh : h < n) (hk : c.ds.length < k) : Cur n ps k (l ++ [.dd h d]) (c.doo h d) := by
  have H := doo_h (d := (d : Int)) I.ok hh hk
  have T : ∀ i a, (c.doo h d).t i a = c.t i a := fun i a => rfl
  have hl : (l ++ [Stp.dd h d]).length = l.length + 1 := by rw [List.length_append]; rfl
  refine ⟨I.ok.doo hh, ?_, fun i a ha => ?_, fun t p a hp => ?_, fun i a => ?_, fun i a => ?_⟩
  · show c.ds ++ [(d : Int)] = _
    rw [actD_app, I.ds]; rfl
  · have ha : (c.ds ++ [(d : Int)]).length ≤ a := ha
    rw [List.length_append] at ha
    simp only [List.length_cons, List.length_nil] at ha
    rw [H, if_neg (by omega), T]
    exact I.z i a (by omega)
  · have z := I.up t p a hp
    have y := I.z
    rw [T, H, H]
    refine ⟨z.1, ?_, ?_⟩
    · split
      · rename_i w
        have := (I.z t a (by omega)).2
        omega
      · exact z.2.1
    · split
      · rename_i w
        have := (I.z t a (by omega)).2
        omega
      · exact z.2.2
  · rw [H]
    split
    · decide
    · exact I.nn i a
  · rw [H, hl, two_succ]
    have := two_pos l.length
    split
    · omega
    · have := I.bd i a; omega
theorem Cur.mt {n : Nat} {ps : Prs} {k : Nat} {l : List Stp} {c : Cu} (I : Cur n ps k l c) (hW : Wv n ps) {t : Nat} (ht : t < ps.length) (hk : c.ds.length ≤ k) : Cur n ps k (l ++ [.mt t]) (c.met (ps.getD t (0, 0)) t) := by
  obtain ⟨p, hp⟩ := ex_at ht
  have ep : ps.getD t (0, 0) = p := by rw [List.getD_eq_getElem?_getD, hp]; rfl
  rw [ep]
  obtain ⟨p1, p2, p3⟩ := hW.at_ hp
  have hl : (l ++ [Stp.mt t]).length = l.length + 1 := by rw [List.length_append]; rfl
  have out : ∀ i a, k ≤ a → (c.met p t).h i a = 0 ∧ (c.met p t).t i a = 0 := fun i a ha => ⟨cur_h_out (I.ok.met p1 p2 ht) (.inr ha), cur_t_out (I.ok.met p1 p2 ht) (.inr ha)⟩
  have H : ∀ i a, a < k → (c.met p t).h i a = if i = p.1 ∨ i = p.2 then c.h p.1 a + c.h p.2 a - c.t t a else c.h i a := fun i a ha => met_h I.ok p1 p2 ht ha i
  have T : ∀ i a, a < k → (c.met p t).t i a = if i = t then c.h p.1 a + c.h p.2 a - c.t t a else c.t i a := fun i a ha => met_t I.ok p1 p2 ht ha i
  have grow : ∀ i a, a < k → c.h i a ≤ (c.met p t).h i a := fun i a ha => by
    rw [H i a ha]
    have z := I.up t p a hp
    split
    · rename_i w
      rcases w with rfl | rfl <;> omega
    · exact Int.le_refl _
  refine ⟨I.ok.met p1 p2 ht, ?_, fun i a ha => ?_, fun t' q a hq => ?_, fun i a => ?_, fun i a => ?_⟩
  · show c.ds = _
    rw [actD_app, I.ds]
    show _ = actD l ++ []
    rw [List.append_nil]
  · have ha : c.ds.length ≤ a := ha
    by_cases hak : a < k
    · rw [H i a hak, T i a hak]
      have z1 := (I.z p.1 a ha).1
      have z2 := (I.z p.2 a ha).1
      have z3 := (I.z t a ha).2
      have z4 := I.z i a ha
      constructor
      · split
        · omega
        · exact z4.1
      · split
        · omega
        · exact z4.2
    · exact out i a (by omega)
  · by_cases hak : a < k
    · have z := I.up t p a hp
      have y := I.up t' q a hq
      by_cases e : t' = t
      · subst e
        rw [hp] at hq
        obtain rfl := Option.some.inj hq
        rw [T t' a hak, H _ a hak, H _ a hak, if_pos rfl, if_pos (.inl rfl), if_pos (.inr rfl)]
        omega
      · have g1 := grow q.1 a hak
        have g2 := grow q.2 a hak
        rw [T t' a hak, if_neg e]
        omega
    · rw [(out t' a (by omega)).2, (out q.1 a (by omega)).1, (out q.2 a (by omega)).1]
      omega
  · by_cases hak : a < k
    · have := grow i a hak
      have := I.nn i a
      omega
    · rw [(out i a (by omega)).1]; exact Int.le_refl _
  · rw [hl, two_succ]
    by_cases hak : a < k
    · rw [H i a hak]
      have := two_pos l.length
      have z := I.up t p a hp
      have b1 := I.bd p.1 a
      have b2 := I.bd p.2 a
      have b3 := I.bd i a
      split <;> omega
    · rw [(out i a (by omega)).1]
      have := two_pos l.length
      omega
theorem snocI {P : List Stp → Prop} (h0 : P []) (h1 : ∀ l s, P l → P (l ++ [s])) : ∀ l, P l := fun l => by
  rw [← List.reverse_reverse l]
  induction l.reverse with
  | nil => exact h0
  | cons s r ih => rw [List.reverse_cons]; exact h1 _ _ ih
theorem cur_all {n d : Nat} {ps : Prs} (hW : Wv n ps) (k : Nat) : ∀ l : List Stp, (∀ s ∈ l, okS n ps.length d s) → (actD l).length ≤ k → Cur n ps k l (cur ps (cu0 n ps.length k) l) := by
  refine snocI (fun _ _ => Cur.init n ps k) fun l s ih hok hk => ?_
  rw [actD_app, List.length_append] at hk
  have I := ih (fun u hu => hok u (List.mem_append_left _ hu)) (by omega)
  have hs := hok s (List.mem_append_right _ (List.mem_singleton.mpr rfl))
  have hd : (cur ps (cu0 n ps.length k) l).ds.length = (actD l).length := by rw [I.ds]
  rw [cur_snoc]
  cases s with
  | dd h e => exact I.dd hs.1 (by rw [hd]; simp only [actD, List.length_cons, List.length_nil] at hk; omega)
  | mt t => exact I.mt hW hs (by rw [hd]; omega)
theorem cnt_cur {n d : Nat} {ps : Prs} (hW : Wv n ps) {l : List Stp} (hok : ∀ s ∈ l, okS n ps.length d s) : Cur n ps (actD l).length l (cnt n ps l) := cur_all hW _ l hok (Nat.le_refl _)
end K1
namespace K1
open PySem PySem.Spec PyProof.Rows L2
noncomputable def padR (j : Nat) (r : List Int) : List Int := r ++ List.replicate j 0
noncomputable def padC (c : Cu) : Cu := ⟨c.hs.map (padR 1), c.ts.map (padR 1), c.ds⟩
theorem pad_getD {l : List (List Int)} {i : Nat} (h : i < l.length) : (l.map (padR 1)).getD i [] = padR 1 (l.getD i []) := by
  rw [List.getD_eq_getElem?_getD, List.getD_eq_getElem?_getD, List.getElem?_map, List.getElem?_eq_getElem h]; rfl
theorem pad_set {r : List Int} {i : Nat} {x : Int} (h : i < r.length) : (padR 1 r).set i x = padR 1 (r.set i x) := by
  unfold padR
  rw [List.set_append_left _ _ h]
theorem pad_ltie {a b c : List Int} (h1 : a.length = b.length) (h2 : b.length = c.length) : ltie (padR 1 a) (padR 1 b) (padR 1 c) = padR 1 (ltie a b c) := by
  unfold ltie padR
  rw [List.zipWith_append h1, List.zipWith_append (by rw [List.length_zipWith, h1, Nat.min_self, h2])]
  rfl
theorem padC_doo {n m k : Nat} {c : Cu} (o : CuOk n m k c) {h : Nat} {d : Int} (hh : h < n) (hk : c.ds.length < k) : (padC c).doo h d = padC (c.doo h d) := by
  show Cu.mk ((c.hs.map (padR 1)).set h (((c.hs.map (padR 1)).getD h []).set c.ds.length 1)) _ _ = Cu.mk ((c.hs.set h ((c.hs.getD h []).set c.ds.length 1)).map (padR 1)) _ _
  rw [pad_getD (by rw [o.lh]; exact hh), pad_set (by rw [o.row hh]; exact hk), List.map_set]; rfl
theorem padC_met {n m k : Nat} {c : Cu} (o : CuOk n m k c) {p : Nat × Nat} {t : Nat} (h1 : p.1 < n) (h2 : p.2 < n) (ht : t < m) : (padC c).met p t = padC (c.met p t) := by
  have ej : (padC c).jn p t = padR 1 (c.jn p t) := by
    show ltie ((c.hs.map (padR 1)).getD p.1 []) ((c.hs.map (padR 1)).getD p.2 []) ((c.ts.map (padR 1)).getD t []) = _
    rw [pad_getD (by rw [o.lh]; exact h1), pad_getD (by rw [o.lh]; exact h2), pad_getD (by rw [o.lt]; exact ht)]
    exact pad_ltie (by rw [o.row h1, o.row h2]) (by rw [o.row h2, o.rowT ht])
  show Cu.mk (((c.hs.map (padR 1)).set p.1 _).set p.2 _) ((c.ts.map (padR 1)).set t _) _ = Cu.mk (((c.hs.set p.1 _).set p.2 _).map (padR 1)) ((c.ts.set t _).map (padR 1)) _
  rw [ej, List.map_set, List.map_set, List.map_set]; rfl
theorem cur_pad {n d : Nat} {ps : Prs} (hW : Wv n ps) (k : Nat) : ∀ l : List Stp, (∀ s ∈ l, okS n ps.length d s) → (actD l).length ≤ k → cur ps (cu0 n ps.length (k + 1)) l = padC (cur ps (cu0 n ps.length k) l) := by
  refine snocI (fun _ _ => ?_) fun l s ih hok hk => ?_
  · show cu0 n ps.length (k + 1) = padC (cu0 n ps.length k)
    unfold cu0 padC
    simp only [List.map_replicate]
    congr 1 <;> (congr 1; unfold padR; rw [List.replicate_succ']; rfl)
  · rw [actD_app, List.length_append] at hk
    have ok' : ∀ u ∈ l, okS n ps.length d u := fun u hu => hok u (List.mem_append_left _ hu)
    have e := ih ok' (by omega)
    have I := cur_all hW k l ok' (by omega)
    have hs := hok s (List.mem_append_right _ (List.mem_singleton.mpr rfl))
    rw [cur_snoc, cur_snoc, e]
    cases s with
    | dd h e => exact padC_doo I.ok hs.1 (by rw [I.ds]; simp only [actD, List.length_cons, List.length_nil] at hk; omega)
    | mt t =>
      obtain ⟨p, hp⟩ := ex_at (show t < ps.length from hs)
      have ep : ps.getD t (0, 0) = p := by rw [List.getD_eq_getElem?_getD, hp]; rfl
      obtain ⟨p1, p2, p3⟩ := hW.at_ hp
      show (padC _).met (ps.getD t (0, 0)) t = padC (Cu.met _ (ps.getD t (0, 0)) t)
      rw [ep]
      exact padC_met I.ok p1 p2 hs
theorem cnt_dd {n d : Nat} {ps : Prs} (hW : Wv n ps) {l : List Stp} (hok : ∀ s ∈ l, okS n ps.length d s) (h e : Nat) : cnt n ps (l ++ [.dd h e]) = (padC (cnt n ps l)).doo h (e : Int) := by
  have hl : (actD (l ++ [.dd h e])).length = (actD l).length + 1 := by rw [actD_app, List.length_append]; rfl
  unfold cnt
  rw [hl, cur_snoc, cur_pad hW _ l hok (Nat.le_refl _)]; rfl
theorem cnt_mt {n : Nat} {ps : Prs} {l : List Stp} {t : Nat} {p : Nat × Nat} (hp : ps[t]? = some p) : cnt n ps (l ++ [.mt t]) = (cnt n ps l).met p t := by
  have hl : (actD (l ++ [.mt t])).length = (actD l).length := by rw [actD_app, List.length_append]; rfl
  have ep : ps.getD t (0, 0) = p := by rw [List.getD_eq_getElem?_getD, hp]; rfl
  unfold cnt
  rw [hl, cur_snoc]
  show Cu.met _ (ps.getD t (0, 0)) t = _
  rw [ep]
section
variable {n : Nat} {ps : Prs} {o : Nat}
end
end K1
namespace K1
open PySem PySem.Spec PyProof.Rows L2
noncomputable def rc : List Int → List Int → List Int
  | d :: ds, x :: cs => List.replicate x.toNat d ++ rc ds cs
  | _, _ => []
theorem mem_rc {x : Int} : ∀ {ds cs : List Int}, x ∈ rc ds cs → x ∈ ds
  | [], cs, h => by cases h
  | d :: ds, [], h => by cases h
  | d :: ds, c :: cs, h => by
    rcases List.mem_append.mp h with h | h
    · rw [List.eq_of_mem_replicate h]; exact List.mem_cons_self
    · exact List.mem_cons_of_mem _ (mem_rc h)
theorem rc_add : ∀ (ds a b : List Int), a.length = b.length → (∀ x ∈ a, 0 ≤ x) → (∀ x ∈ b, 0 ≤ x) → (rc ds (List.zipWith (fun x y => x + y) a b)).Perm (rc ds a ++ rc ds b)
  | [], a, b, _, _, _ => List.Perm.refl _
  | d :: ds, [], [], _, _, _ => List.Perm.refl _
  | d :: ds, [], _ :: _, h, _, _ => by cases h
  | d :: ds, _ :: _, [], h, _, _ => by cases h
  | d :: ds, x :: a, y :: b, h, ha, hb => by
    have ih := rc_add ds a b (Nat.succ.inj h) (fun z hz => ha z (List.mem_cons_of_mem _ hz)) (fun z hz => hb z (List.mem_cons_of_mem _ hz))
    have hx := ha x List.mem_cons_self
    have hy := hb y List.mem_cons_self
    show (List.replicate (x + y).toNat d ++ rc ds (List.zipWith (fun x y => x + y) a b)).Perm ((List.replicate x.toNat d ++ rc ds a) ++ (List.replicate y.toNat d ++ rc ds b))
    refine List.perm_iff_count.mpr fun q => ?_
    have e := List.perm_iff_count.mp ih q
    rw [show (x + y).toNat = x.toNat + y.toNat by omega, ← List.replicate_append_replicate]
    simp only [List.count_append] at e ⊢
    omega
theorem rc_snoc : ∀ (ds row : List Int) (d : Int), ds.length < row.length → rc (ds ++ [d]) row = rc ds row ++ List.replicate (row.getD ds.length 0).toNat d
  | [], [], _, h => absurd h (Nat.not_lt_zero _)
  | [], x :: r, d, _ => by
    show List.replicate x.toNat d ++ rc [] r = [] ++ List.replicate x.toNat d
    rw [show rc [] r = [] from rfl, List.append_nil]; rfl
  | e :: ds, [], _, h => absurd h (Nat.not_lt_zero _)
  | e :: ds, x :: r, d, h => by
    show List.replicate x.toNat e ++ rc (ds ++ [d]) r = (List.replicate x.toNat e ++ rc ds r) ++ List.replicate (r.getD ds.length 0).toNat d
    rw [rc_snoc ds r d (Nat.lt_of_succ_lt_succ h), List.append_assoc]
theorem rc_set : ∀ (ds row : List Int) (i : Nat) (x : Int), ds.length ≤ i → rc ds (row.set i x) = rc ds row
  | [], row, i, x, _ => rfl
  | d :: ds, [], i, x, _ => rfl
  | d :: ds, y :: row, 0, x, h => absurd h (Nat.not_succ_le_zero _)
  | d :: ds, y :: row, i + 1, x, h => by
    show List.replicate y.toNat d ++ rc ds (row.set i x) = List.replicate y.toNat d ++ rc ds row
    rw [rc_set ds row i x (Nat.le_of_succ_le_succ h)]
theorem rc_pad : ∀ (ds row : List Int) (j : Nat), ds.length ≤ row.length → rc ds (padR j row) = rc ds row
  | [], row, j, _ => rfl
  | d :: ds, [], j, h => absurd h (Nat.not_succ_le_zero _)
  | d :: ds, y :: row, j, h => by
    show List.replicate y.toNat d ++ rc ds (padR j row) = List.replicate y.toNat d ++ rc ds row
    rw [rc_pad ds row j (Nat.le_of_succ_le_succ h)]
noncomputable def hrdK (r : List Int) (k : Nat) : List Nat := (List.range k).filter fun i => decide (0 < r.getD i 0)
noncomputable def hrd (r : List Int) : List Nat := hrdK r r.length
theorem hrdK_succ (r : List Int) (k : Nat) : hrdK r (k + 1) = hrdK r k ++ if 0 < r.getD k 0 then [k] else [] := by
  unfold hrdK
  rw [List.range_succ, List.filter_append]
  congr 1
  by_cases h : 0 < r.getD k 0
  · rw [if_pos h, List.filter_cons_of_pos (p := fun i => decide (0 < r.getD i 0)) (a := k) (decide_eq_true h)]; rfl
  · rw [if_neg h, List.filter_cons_of_neg (p := fun i => decide (0 < r.getD i 0)) (a := k) (by show ¬ decide (0 < r.getD k 0) = true; rw [decide_eq_false h]; exact Bool.false_ne_true)]; rfl
theorem hrdK_len (r : List Int) (k : Nat) : (hrdK r k).length ≤ k := Nat.le_trans (List.length_filter_le _ _) (by rw [List.length_range]; exact Nat.le_refl _)
theorem hrdK_lt {r : List Int} {k i : Nat} (h : i ∈ hrdK r k) : i < k := List.mem_range.mp (List.mem_filter.mp h).1
noncomputable def mn1 (x : Int) : Int := if x < 1 then x else 1
theorem rc_mn (ds r : List Int) (h0 : ∀ i, 0 ≤ r.getD i 0) (hl : ds.length = r.length) : rc ds (r.map mn1) = (hrd r).map fun i => ds.getD i 0 := by
  have key : ∀ k, k ≤ r.length → rc (ds.take k) (r.map mn1) = (hrdK r k).map fun i => ds.getD i 0 := by
    intro k
    induction k with
    | zero => intro _; rfl
    | succ k ih =>
      intro hk
      have hd : ds[k]? = some (ds.getD k 0) := getD_at (by omega)
      rw [take_succ hd, rc_snoc _ _ _ (by rw [List.length_take, List.length_map]; omega), ih (by omega), hrdK_succ, List.map_append]
      congr 1
      have e1 : (r.map mn1).getD (ds.take k).length 0 = mn1 (r.getD k 0) := by
        rw [List.length_take, Nat.min_eq_left (by omega), List.getD_eq_getElem?_getD, List.getElem?_map, getD_at (l := r) (i := k) (by omega)]; rfl
      rw [e1]
      have := h0 k
      unfold mn1
      by_cases z : 0 < r.getD k 0
      · rw [if_neg (by omega), if_pos z]; rfl
      · rw [if_pos (by omega), if_neg z, show (r.getD k 0).toNat = 0 by omega]; rfl
  have := key r.length (Nat.le_refl _)
  rw [List.take_of_length_le (by omega)] at this
  exact this
theorem add_sub : ∀ (x c : List Int), x.length = c.length → List.zipWith (fun x y => x + y) c (List.zipWith (fun x y => x - y) x c) = x
  | [], [], _ => rfl
  | [], _ :: _, h => by cases h
  | _ :: _, [], h => by cases h
  | a :: x, b :: c, h => by
    show (b + (a - b)) :: List.zipWith (fun x y => x + y) c (List.zipWith (fun x y => x - y) x c) = a :: x
    rw [add_sub x c (Nat.succ.inj h)]
    congr 1; omega
theorem ltie_add : ∀ (x y c : List Int), x.length = c.length → y.length = c.length → ltie x y c = List.zipWith (fun x y => x + y) y (List.zipWith (fun x y => x - y) x c)
  | [], [], [], _, _ => rfl
  | a :: x, b :: y, e :: c, h1, h2 => by
    show (a + b - e) :: ltie x y c = (b + (a - e)) :: List.zipWith (fun x y => x + y) y (List.zipWith (fun x y => x - y) x c)
    rw [ltie_add x y c (Nat.succ.inj h1) (Nat.succ.inj h2)]
    congr 1; omega
  | [], [], _ :: _, h, _ => by cases h
  | [], _ :: _, [], _, h => by cases h
  | [], _ :: _, _ :: _, h, _ => by cases h
  | _ :: _, [], [], h, _ => by cases h
  | _ :: _, [], _ :: _, _, h => by cases h
  | _ :: _, _ :: _, [], h, _ => by cases h
theorem nn_mem {r : List Int} (h : ∀ i, 0 ≤ r.getD i 0) : ∀ x ∈ r, 0 ≤ x := fun x hx => by
  obtain ⟨i, hi⟩ := List.getElem?_of_mem hx
  have := h i
  rw [List.getD_eq_getElem?_getD, hi] at this
  exact this
theorem nn_sub : ∀ {x c : List Int}, x.length = c.length → (∀ i, c.getD i 0 ≤ x.getD i 0) → ∀ z ∈ List.zipWith (fun x y => x - y) x c, 0 ≤ z
  | [], c, _, _ => fun z hz => by cases hz
  | a :: x, [], h, _ => by cases h
  | a :: x, b :: c, h, hle => fun z hz => by
    rcases List.mem_cons.mp hz with e | e
    · have : b ≤ a := hle 0
      rw [e]; show 0 ≤ a - b; omega
    · exact nn_sub (Nat.succ.inj h) (fun i => hle (i + 1)) z e
noncomputable def Cmm (tb : Ts) (s : Int) : Prop := ∀ x, Reach tb s x → ∀ a b, In8 tb a → In8 tb b → ¬ Bad tb x a b
section
variable {tb : Ts} {s : Int}
theorem jr_led (hc : Cmm tb s) {ds x y c : List Int} (hd : ∀ d ∈ ds, In8 tb d) (h1 : x.length = c.length) (h2 : y.length = c.length) (hi : ∀ i, 0 ≤ c.getD i 0 ∧ c.getD i 0 ≤ x.getD i 0 ∧ c.getD i 0 ≤ y.getD i 0) :
    JR tb (run tb s (rc ds c)) (run tb s (rc ds x)) (run tb s (rc ds y)) (some (run tb s (rc ds (ltie x y c)))) := by
  have hr : ∀ cs, ∀ d ∈ rc ds cs, In8 tb d := fun cs d h => hd d (mem_rc h)
  generalize hu : List.zipWith (fun x y => x - y) x c = u
  generalize hv : List.zipWith (fun x y => x - y) y c = v
  have c0 := nn_mem fun i => (hi i).1
  have y0 := nn_mem (r := y) fun i => by have := hi i; omega
  have u0 : ∀ z ∈ u, 0 ≤ z := by rw [← hu]; exact nn_sub h1 fun i => (hi i).2.1
  have v0 : ∀ z ∈ v, 0 ≤ z := by rw [← hv]; exact nn_sub h2 fun i => (hi i).2.2
  have ul : c.length = u.length := by rw [← hu, List.length_zipWith, h1, Nat.min_self]
  have vl : c.length = v.length := by rw [← hv, List.length_zipWith, h2, Nat.min_self]
  have px : (rc ds x).Perm (rc ds c ++ rc ds u) := by
    have := rc_add ds c u ul c0 u0
    rwa [← hu, add_sub x c h1, hu] at this
  have py : (rc ds y).Perm (rc ds c ++ rc ds v) := by
    have := rc_add ds c v vl c0 v0
    rwa [← hv, add_sub y c h2, hv] at this
  have pj : (rc ds (ltie x y c)).Perm (rc ds y ++ rc ds u) := by
    rw [ltie_add x y c h1 h2, hu]
    exact rc_add ds y u (by rw [h2, ul]) y0 u0
  have go : ∀ {r q : List Int}, r.Perm q → (∀ d ∈ r, In8 tb d) → run tb s r = run tb s q := fun p h => run_perm hc p h s .refl
  have ej := go pj (hr _)
  refine fun z => ⟨?_, fun e => ?_⟩
  · rintro ⟨r, r0, r1, r2⟩
    have hh : ∀ d ∈ rc ds c ++ rc ds u ++ r, In8 tb d := fun d h => (List.mem_append.mp h).elim (fun h => (List.mem_append.mp h).elim (hr _ d) (hr _ d)) (r0 d)
    rw [ej, ← r2, go px (hr _), ← run_app, go (q := rc ds c ++ r ++ rc ds u) (List.perm_iff_count.mpr fun a => by simp only [List.count_append]; omega) hh, run_app, run_app, r1, ← run_app]
  · refine ⟨rc ds v, hr _, ?_, ?_⟩
    · rw [← run_app, ← go py (hr _)]
    · rw [e, ej, ← run_app]
      refine go (List.perm_iff_count.mpr fun a => ?_) fun d h => (List.mem_append.mp h).elim (hr _ d) (hr _ d)
      have a1 := List.perm_iff_count.mp px a
      have a2 := List.perm_iff_count.mp py a
      simp only [List.count_append] at a1 a2 ⊢
      omega
end
structure LedI (e : Ev) (c : Cu) (s : Sn) : Prop where
  h : ∀ i, i < e.n → s.ss.getD i 0 = run e.tb e.fi (rc c.ds (c.hs.getD i []))
  t : ∀ i, i < e.ts.length → s.ar.getD i 0 = run e.tb e.fi (rc c.ds (c.ts.getD i []))
  ls : s.ss.length = e.n
  la : s.ar.length = e.ts.length
theorem rep_at {α : Type} {x y : α} {n i : Nat} (h : i < n) : (List.replicate n x).getD i y = x := by
  rw [List.getD_eq_getElem?_getD, List.getElem?_replicate, if_pos h]; rfl
theorem led_init (e : Ev) (k : Nat) : LedI e (cu0 e.n e.ts.length k) (sn0 e) :=
  ⟨fun i hi => rep_at hi, fun i hi => rep_at hi, List.length_replicate, List.length_replicate⟩
theorem LedI.pad {e : Ev} {k : Nat} {c : Cu} {s : Sn} (I : LedI e c s) (o : CuOk e.n e.ts.length k c) (hk : c.ds.length ≤ k) : LedI e (padC c) s := by
  refine ⟨fun i hi => ?_, fun i hi => ?_, I.ls, I.la⟩
  · show _ = run e.tb e.fi (rc c.ds ((c.hs.map (padR 1)).getD i []))
    rw [pad_getD (by rw [o.lh]; exact hi), rc_pad _ _ _ (by rw [o.row hi]; exact hk)]
    exact I.h i hi
  · show _ = run e.tb e.fi (rc c.ds ((c.ts.map (padR 1)).getD i []))
    rw [pad_getD (by rw [o.lt]; exact hi), rc_pad _ _ _ (by rw [o.rowT hi]; exact hk)]
    exact I.t i hi
theorem LedI.dd {e : Ev} {k : Nat} {l : List Stp} {c : Cu} {s : Sn} (I : LedI e c s) (C : Cur e.n e.ts k l c) {h d : Nat} (hh : h < e.n) (hk : c.ds.length < k) : LedI e (c.doo h d) (s.doo e h d) := by
  refine ⟨fun i hi => ?_, fun i hi => ?_, by show (s.ss.set _ _).length = _; rw [List.length_set]; exact I.ls, I.la⟩
  · show (s.ss.set h (stp e.tb (s.ss.getD h 0) (d : Int))).getD i 0 = run e.tb e.fi (rc (c.ds ++ [(d : Int)]) ((c.hs.set h ((c.hs.getD h []).set c.ds.length 1)).getD i []))
    rw [setI (by rw [I.ls]; exact hh), setL (by rw [C.ok.lh]; exact hh)]
    by_cases z : i = h
    · subst z
      have lr := C.ok.row hi
      rw [if_pos rfl, if_pos rfl, rc_snoc _ _ _ (by rw [List.length_set, lr]; exact hk), rc_set _ _ _ _ (Nat.le_refl _), setI (by rw [lr]; exact hk), if_pos rfl, run_app, ← I.h i hi]; rfl
    · rw [if_neg z, if_neg z, rc_snoc _ _ _ (by rw [C.ok.row hi]; exact hk), show (c.hs.getD i []).getD c.ds.length 0 = 0 from (C.z i _ (Nat.le_refl _)).1]
      show _ = run e.tb e.fi (rc c.ds (c.hs.getD i []) ++ [])
      rw [List.append_nil]; exact I.h i hi
  · show s.ar.getD i 0 = run e.tb e.fi (rc (c.ds ++ [(d : Int)]) (c.ts.getD i []))
    rw [rc_snoc _ _ _ (by rw [C.ok.rowT hi]; exact hk), show (c.ts.getD i []).getD c.ds.length 0 = 0 from (C.z i _ (Nat.le_refl _)).2]
    show _ = run e.tb e.fi (rc c.ds (c.ts.getD i []) ++ [])
    rw [List.append_nil]; exact I.t i hi
theorem LedI.mt {e : Ev} {k : Nat} {l : List Stp} {c : Cu} {s : Sn} (hc : Cmm e.tb e.fi) (hW : Wv e.n e.ts) (hd : ∀ d ∈ c.ds, In8 e.tb d) (I : LedI e c s) (C : Cur e.n e.ts k l c) {t : Nat} {p : Nat × Nat} (hp : e.ts[t]? = some p) :
    ∃ x, JR e.tb (s.ar.getD t 0) (s.ss.getD p.1 0) (s.ss.getD p.2 0) (some x) ∧ LedI e (c.met p t) (s.met p t x) := by
  obtain ⟨p1, p2, p3⟩ := hW.at_ hp
  have ht := lt_at hp
  refine ⟨run e.tb e.fi (rc c.ds (c.jn p t)), ?_, fun i hi => ?_, fun i hi => ?_, by show ((s.ss.set _ _).set _ _).length = _; rw [List.length_set, List.length_set]; exact I.ls, by show (s.ar.set _ _).length = _; rw [List.length_set]; exact I.la⟩
  · rw [I.t t ht, I.h _ p1, I.h _ p2]
    exact jr_led hc hd (by rw [C.ok.row p1, C.ok.rowT ht]) (by rw [C.ok.row p2, C.ok.rowT ht]) fun a => C.up t p a hp
  · show ((s.ss.set p.1 _).set p.2 _).getD i 0 = run e.tb e.fi (rc c.ds (((c.hs.set p.1 (c.jn p t)).set p.2 (c.jn p t)).getD i []))
    rw [setI (by rw [List.length_set, I.ls]; exact p2), setI (by rw [I.ls]; exact p1), setL (by rw [List.length_set, C.ok.lh]; exact p2), setL (by rw [C.ok.lh]; exact p1)]
    by_cases z : i = p.2
    · rw [if_pos z, if_pos z]
    · rw [if_neg z, if_neg z]
      by_cases y : i = p.1
      · rw [if_pos y, if_pos y]
      · rw [if_neg y, if_neg y]; exact I.h i hi
  · show (s.ar.set t _).getD i 0 = run e.tb e.fi (rc c.ds ((c.ts.set t (c.jn p t)).getD i []))
    rw [setI (by rw [I.la]; exact ht), setL (by rw [C.ok.lt]; exact ht)]
    by_cases z : i = t
    · rw [if_pos z, if_pos z]
    · rw [if_neg z, if_neg z]; exact I.t i hi
end K1
namespace K1
open PySem PySem.Spec PyProof.Rows L2
noncomputable abbrev Rwz := List (List Int)
noncomputable def RwsA (H : Hp) (as : List Addr) (rs : Rwz) : Prop := as.length = rs.length ∧ ∀ (i : Nat) a r, as[i]? = some a → rs[i]? = some r → H a = some (.tup (vrow r))
theorem RwsA.same {H H' : Hp} {as : List Addr} {rs : Rwz} (h : RwsA H as rs) (s : Same H H') : RwsA H' as rs := ⟨h.1, fun i a t e1 e2 => s _ _ (h.2 i a t e1 e2)⟩
theorem RwsA.kp {H H' : Hp} {as : List Addr} {rs : Rwz} (h : RwsA H as rs) (k : ∀ a xs, H a = some (.tup xs) → H' a = some (.tup xs)) : RwsA H' as rs := ⟨h.1, fun i a t e1 e2 => k _ _ (h.2 i a t e1 e2)⟩
theorem RwsA.get {H : Hp} {as : List Addr} {rs : Rwz} (h : RwsA H as rs) {i : Nat} {r : List Int} (e : rs[i]? = some r) : ∃ a, as[i]? = some a ∧ H a = some (.tup (vrow r)) := by
  obtain ⟨a, ha⟩ := ex_at (l := as) (i := i) (by rw [h.1]; exact lt_at e)
  exact ⟨a, ha, h.2 i a r ha e⟩
theorem RwsA.get' {H : Hp} {as : List Addr} {rs : Rwz} (h : RwsA H as rs) {i : Nat} {x : V} (e : (as.map V.ref)[i]? = some x) : ∃ a r, x = .ref a ∧ as[i]? = some a ∧ rs[i]? = some r ∧ H a = some (.tup (vrow r)) := by
  obtain ⟨a, ha, rfl⟩ := at_map e
  obtain ⟨r, hr⟩ := ex_at (l := rs) (i := i) (by rw [← h.1]; exact lt_at ha)
  exact ⟨a, r, rfl, ha, hr, h.2 i a r ha hr⟩
theorem RwsA.set {H : Hp} {as : List Addr} {rs : Rwz} (h : RwsA H as rs) {a : Addr} {r : List Int} (ha : H a = some (.tup (vrow r))) (i : Nat) : RwsA H (as.set i a) (rs.set i r) := by
  refine ⟨by rw [List.length_set, List.length_set]; exact h.1, fun j b t e1 e2 => ?_⟩
  rw [List.getElem?_set] at e1 e2
  by_cases c : i = j
  · rw [if_pos c] at e1 e2
    split at e1
    · split at e2
      · obtain rfl := Option.some.inj e1
        obtain rfl := Option.some.inj e2
        exact ha
      · cases e2
    · cases e1
  · rw [if_neg c] at e1 e2
    exact h.2 j b t e1 e2
theorem RwsA.rep {H : Hp} {a : Addr} {r : List Int} (h : H a = some (.tup (vrow r))) (n : Nat) : RwsA H (List.replicate n a) (List.replicate n r) := by
  refine ⟨by rw [List.length_replicate, List.length_replicate], fun i b t e1 e2 => ?_⟩
  rw [List.eq_of_mem_replicate (List.mem_of_getElem? e1), List.eq_of_mem_replicate (List.mem_of_getElem? e2)]; exact h
noncomputable def RwsT (H : Hp) (p : Addr) (rs : Rwz) : Prop := ∃ as : List Addr, H p = some (.tup (as.map V.ref)) ∧ RwsA H as rs
theorem RwsT.same {H H' : Hp} {p : Addr} {rs : Rwz} (h : RwsT H p rs) (s : Same H H') : RwsT H' p rs := let ⟨as, h1, h2⟩ := h; ⟨as, s _ _ h1, h2.same s⟩
theorem RwsT.kp {H H' : Hp} {p : Addr} {rs : Rwz} (h : RwsT H p rs) (k : ∀ a xs, H a = some (.tup xs) → H' a = some (.tup xs)) : RwsT H' p rs := let ⟨as, h1, h2⟩ := h; ⟨as, k _ _ h1, h2.kp k⟩
theorem refs_set (as : List Addr) (i : Nat) (a : Addr) : (as.set i a).map V.ref = (as.map V.ref).set i (.ref a) := by rw [List.map_set]
theorem rep_r (k : Nat) (a : Addr) : (List.replicate k [V.ref a]).flatten = (List.replicate k a).map V.ref := by
  rw [flat_rep, List.map_replicate]
noncomputable def cf (w dd ha ta : Addr) : List (Str × V) := [("web", .ref w), ("deeds", .ref dd), ("houses", .ref ha), ("ties", .ref ta)]
theorem cf_w (w dd ha ta : Addr) : (cf w dd ha ta).lookup ("web" : Str) = some (.ref w) := by rfl
theorem cf_d (w dd ha ta : Addr) : (cf w dd ha ta).lookup ("deeds" : Str) = some (.ref dd) := by rfl
theorem cf_h (w dd ha ta : Addr) : (cf w dd ha ta).lookup ("houses" : Str) = some (.ref ha) := by rfl
theorem cf_t (w dd ha ta : Addr) : (cf w dd ha ta).lookup ("ties" : Str) = some (.ref ta) := by rfl
theorem cf_m (w dd ha ta : Addr) : (cf w dd ha ta).lookup ("meet" : Str) = none := by rfl
theorem cf_do (w dd ha ta : Addr) : (cf w dd ha ta).lookup ("do" : Str) = none := by rfl
theorem cf_pd (w dd ha ta x : Addr) : putF ("deeds" : Str) (.ref x) (cf w dd ha ta) = cf w x ha ta := by rfl
theorem cf_ph (w dd ha ta x : Addr) : putF ("houses" : Str) (.ref x) (cf w dd ha ta) = cf w dd x ta := by rfl
theorem cf_pt (w dd ha ta x : Addr) : putF ("ties" : Str) (.ref x) (cf w dd ha ta) = cf w dd ha x := by rfl
structure CcT (K : PySem.W.Frag) (mg : Str → Option Value) (Cc : Addr) : Prop where
  cl : Cls K Cc
  nW : NoAttr K Cc "web"
  nD : NoAttr K Cc "deeds"
  nH : NoAttr K Cc "houses"
  nT : NoAttr K Cc "ties"
  g : mg "Counts" = some (.ref Cc)
structure CuAt (Cc W : Addr) (H : Hp) (c w : Addr) (n : Nat) (ps : Prs) (k : Nat) (u : Cu) : Prop where
  ob : ∃ dx dd ha ta, H c = some (.ins Cc dx (cf w dd ha ta)) ∧ H dd = some (.tup (vrow u.ds)) ∧ RwsT H ha u.hs ∧ RwsT H ta u.ts
  wb : WebAt W H w n ps
  wv : Wv n ps
  nw : w ≠ c
  ok : CuOk n ps.length k u
  lk : k ≤ 400
  ld : u.ds.length ≤ 400
noncomputable def spLess : Sp := fun vs H Q _ => ∃ (a b c : Addr) (xs ys zs : List Int), vs = [.ref a, .ref b, .ref c] ∧ H a = some (.tup (vrow xs)) ∧ H b = some (.tup (vrow ys)) ∧ H c = some (.tup (vrow zs)) ∧ xs.length = ys.length ∧ xs.length = zs.length ∧ xs.length ≤ 1000 ∧ ∀ p H', Same H H' → H' p = some (.tup (vrow (ltie xs ys zs))) → Q (.ref p) H'
noncomputable def spKInit (Cc W : Addr) : Sp := fun vs H Q _ => ∃ (c dx w : Addr) (n : Nat) (ps : Prs) (k : Nat), vs = [.ref c, .ref w, .int (k : Int)] ∧ H c = some (.ins Cc dx []) ∧ WebAt W H w n ps ∧ Wv n ps ∧ w ≠ c ∧ k ≤ 400 ∧ ∀ H', But c H H' → CuAt Cc W H' c w n ps k (cu0 n ps.length k) → Q .non H'
noncomputable def spKDo (Cc W : Addr) : Sp := fun vs H Q _ => ∃ (c w : Addr) (n : Nat) (ps : Prs) (k : Nat) (u : Cu) (h d : Nat), vs = [.ref c, .int (h : Int), .int (d : Int)] ∧ CuAt Cc W H c w n ps k u ∧ h < n ∧ u.ds.length < k ∧ ∀ H', But c H H' → CuAt Cc W H' c w n ps k (u.doo h (d : Int)) → Q .non H'
noncomputable def spKMeet (Cc W : Addr) : Sp := fun vs H Q _ => ∃ (c w : Addr) (n : Nat) (ps : Prs) (k : Nat) (u : Cu) (t : Nat) (p : Nat × Nat), vs = [.ref c, .int (t : Int)] ∧ CuAt Cc W H c w n ps k u ∧ ps[t]? = some p ∧ ∀ H', But c H H' → CuAt Cc W H' c w n ps k (u.met p t) → Q .non H'
section
variable {P : Program} {w : World} {K : PySem.W.Frag} {mg : Str → Option Value} {base : Heap}
noncomputable abbrev nLs : List Str := ["here", "there", "between", "one", "other", "tie"]
theorem scLs : FnScope nLs ["here", "there", "between"] (defScope sLessTie) := ⟨rfl, rfl, rfl, by decide +kernel, rfl, by decide +kernel, by decide +kernel⟩
theorem ok_less {f : Addr} {fd : FuncData} (D : Df K mg "less_tie" sLessTie ["here", "there", "between"] f fd) (B : Bt mg) : FnOk P w K mg base CX0 1 f fd ["here", "there", "between"] spLess := by
  refine D.F.ok scLs (fun vs H Q E h => ?_) (fun cdv A outer s H vs Q E hr h => ?_)
  · obtain ⟨a, b, c, xs, ys, zs, rfl, _⟩ := h
    rfl
  · obtain ⟨a, b, c, xs, ys, zs, rfl, ha, hb, hc, l1, l2, l3, q⟩ := h
    refine ⟨_, (pss_one (ps_ret (pe_callTy call_tuple_of (by rfl) B.tuple PyProof.Rows.boot_tuple (pa_cons (pe_lc (own := [("one", 3), ("other", 4), ("tie", 5)]) (g := gTup K 3 (gCons (gName 3) (gCons (gName 4) (gCons (gName 5) gNil)))) (tt := tYes) rfl scLs.nd (Z3.pi_zip3 (by rfl) B.zip (pa_cons (pv 0) (pa_cons (pv 1) (pa_cons (pv 2) pa_nil)))) (blkOk_by (N := nLs) (sc := defScope sLessTie) (by decide +kernel)) (fun _ _ _ _ _ => (pg_tup rfl (pgs_cons (pg_name (i := 3) scLs.nd rfl (Or.inl rfl)) (pgs_cons (pg_name (i := 4) scLs.nd rfl (Or.inl rfl)) (pgs_cons (pg_name (i := 5) scLs.nd rfl (Or.inl rfl)) pgs_nil))))) (fun _ _ _ _ _ => pts_nil) (fun _ _ _ _ _ => (pe_op op_sub (pe_op op_add (pv 3) (pv 4)) (pv 5)))) pa_nil)))), ?_⟩
    have ll := ltie_len (a := xs) (b := ys) (c := zs) rfl l1.symm l2.symm
    refine ⟨_, rfl, _, rfl, _, rfl, a, b, c, _, _, _, rfl, SqT.of ha, SqT.of hb, SqT.of hc, fun D0 hD0 => Z3.lc_zip3 (K := K) (by rw [vrow_len, vrow_len]; exact l1) (by rw [vrow_len, vrow_len]; exact l2) (fun i H' => Same H H' ∧ H' D0 = some (.lst (vrow ((ltie xs ys zs).take i)))) ⟨same_new hD0, by rw [upd_same]; rfl⟩ (fun i H' _ ⟨s1, _⟩ => ⟨SqT.of (s1 _ _ ha), SqT.of (s1 _ _ hb), SqT.of (s1 _ _ hc)⟩) ?_ ?_⟩
    · rintro i x y z T H1 hx hy hz hT ⟨s1, hD1⟩
      obtain ⟨x', hx', rfl⟩ := vrow_at hx
      obtain ⟨y', hy', rfl⟩ := vrow_at hy
      obtain ⟨z', hz', rfl⟩ := vrow_at hz
      have sT := same_new (o := HO.tup [V.int x', .int y', .int z']) hT
      refine ⟨T, _, rfl, SqT.of upd_same, rfl, _, _, rfl, _, _, rfl, _, _, rfl, rfl, rfl, ?_⟩
      have hi := lt_at hx'
      refine ⟨_, rfl, _, rfl, _, _, rfl, rfl, _, rfl, _, _, rfl, rfl, _, sT _ _ hD1, szl (by rw [vrow_len, List.length_take]; omega), fun c' o e => ?_, ?_⟩
      · rw [upd_ne (ne_of_none e hD0)]
        exact sT _ _ (s1 _ _ e)
      · have e : (ltie xs ys zs)[i]? = some (x' + y' - z') := by
          unfold ltie
          rw [List.getElem?_zipWith, List.getElem?_zipWith, hx', hy', hz']
        rw [upd_same, take_succ e, vrow, vrow, List.map_append]; rfl
    · rintro H1 ⟨s1, hD1⟩
      rw [List.take_of_length_le (by rw [vrow_len, ll]; exact Nat.le_refl _)] at hD1
      exact ⟨D0, _, rfl, .inl ⟨SqL.of hD1, fun l hl => q l _ (s1.trans (same_new hl)) upd_same⟩⟩
noncomputable abbrev nKI : List Str := ["self", "web", "acts"]
theorem scKI : FnScope nKI ["self", "web", "acts"] (defScope sCountsInit) := ⟨rfl, rfl, rfl, by decide +kernel, rfl, by decide +kernel, by decide +kernel⟩
theorem ok_kinit {f W Cc : Addr} {fd : FuncData} (F : Fun K "__init__" "Counts.__init__" sCountsInit f fd) (B : Bt mg) (T : CcT K mg Cc) (TW : WcT K mg W) : FnOk P w K mg base CX0 1 f fd ["self", "web", "acts"] (spKInit Cc W) := by
  refine F.ok scKI (fun vs H Q E h => ?_) (fun cdv A outer s H vs Q E hr h => ?_)
  · obtain ⟨c, dx, w, n, ts, k, rfl, _⟩ := h
    rfl
  · obtain ⟨c, dx, w, n, ts, k, rfl, hc, hw, hW, nw, hk, q⟩ := h
    refine ⟨_, (pss_cons (ps_fld (pv 0) (pv 1) rfl)
    (pss_cons (ps_fld (pv 0) (pe_tup pa_nil) rfl)
    (pss_cons (ps_fld (pv 0) (pe_op (TM.op_repG (K := K) rfl) (pe_tup (pa_cons (pe_op (TM.op_repG (K := K) rfl) (pe_tup (pa_cons pe_int pa_nil)) (pv 2)) pa_nil)) (pe_fld (pv 1) rfl)) rfl)
    (pss_one (ps_fld (pv 0) (pe_op (TM.op_repG (K := K) rfl) (pe_tup (pa_cons (pe_op (TM.op_repG (K := K) rfl) (pe_tup (pa_cons pe_int pa_nil)) (pv 2)) pa_nil)) (pe_callB call_len_seq (by rfl) B.len PySem.boot_len (pa_cons (pe_fld (pv 1) rfl) pa_nil))) rfl))))), ?_⟩
    have n12 := hW.n12
    have t20 := hW.t20
    refine ⟨_, rfl, _, rfl, c, Cc, dx, [], rfl, hc, T.cl, T.nW, (by show 0 < 1000; decide), ?_⟩
    have hc1 : (upd H c (.ins Cc dx (putF "web" (.ref w) []))) c = some (.ins Cc dx (putF "web" (.ref w) [])) := upd_same
    have b1 : But c H (upd H c (.ins Cc dx (putF "web" (.ref w) []))) := But.upd
    generalize upd H c (.ins Cc dx (putF "web" (.ref w) [])) = H1 at hc1 b1 ⊢
    refine ⟨(by show 0 ≤ sizeLine; decide), fun dd hdd => ?_⟩
    have s2 := same_new (o := HO.tup []) hdd
    have hc2 := s2 _ _ hc1
    have hd2 : (upd H1 dd (HO.tup [])) dd = some (.tup []) := upd_same
    have b2 := b1.same s2
    generalize upd H1 dd (.tup []) = H2 at hc2 hd2 b2 ⊢
    refine ⟨_, rfl, c, Cc, dx, _, rfl, hc2, T.cl, T.nD, (by show 1 < 1000; decide), ?_⟩
    have ndc : dd ≠ c := fun z => by rw [z, hc2] at hd2; cases hd2
    have hc3 : (upd H2 c (.ins Cc dx (putF "deeds" (.ref dd) (putF "web" (.ref w) [])))) c = some (.ins Cc dx (putF "deeds" (.ref dd) (putF "web" (.ref w) []))) := upd_same
    have b3 : But c H (upd H2 c (.ins Cc dx (putF "deeds" (.ref dd) (putF "web" (.ref w) [])))) := b2.trans But.upd
    have hd3 : (upd H2 c (.ins Cc dx (putF "deeds" (.ref dd) (putF "web" (.ref w) [])))) dd = some (.tup []) := by rw [upd_ne ndc]; exact hd2
    generalize upd H2 c (.ins Cc dx (putF "deeds" (.ref dd) (putF "web" (.ref w) []))) = H3 at hc3 b3 hd3 ⊢
    refine ⟨(by show 1 ≤ sizeLine; decide), fun p1 hp1 => ?_⟩
    have t1 := same_new (o := HO.tup [V.int 0]) hp1
    refine ⟨_, rfl, p1, (k : Int), _, rfl, rfl, upd_same, by simp, by omega, by omega, (by show 1 ≤ 1000; decide), fun p2 H4 t2 hp2 => ⟨(by show 1 ≤ sizeLine; decide), fun p3 hp3 => ?_⟩⟩
    rw [Int.toNat_natCast, rep_v] at hp2
    have t3 := same_new (o := HO.tup [V.ref p2]) hp3
    have s34 := (t1.trans t2).trans t3
    have hw4 := (hw.but hc nw b3).same s34
    obtain ⟨dxw, ta, w1, tas, w2, w3⟩ := id hw4
    refine ⟨_, rfl, w, W, dxw, _, _, rfl, w1, TW.cl, TW.nH, wf_h _ _, p3, (n : Int), _, rfl, rfl, upd_same, by simp, by omega, by omega, (by show 1 ≤ 1000; decide), fun ha H5 t5 hha => ?_⟩
    rw [Int.toNat_natCast, rep_r] at hha
    have s35 := s34.trans t5
    refine ⟨_, rfl, c, Cc, dx, _, rfl, s35 _ _ hc3, T.cl, T.nH, (by show 2 < 1000; decide), ?_⟩
    have nt5 : ∀ {a : Addr} {xs : List V}, H5 a = some (.tup xs) → a ≠ c := fun e z => by rw [z, s35 _ _ hc3] at e; cases e
    have kp5 : ∀ a xs, H5 a = some (.tup xs) → (upd H5 c (.ins Cc dx (putF "houses" (.ref ha) (putF "deeds" (.ref dd) (putF "web" (.ref w) []))))) a = some (.tup xs) := fun a xs e => by rw [upd_ne (nt5 e)]; exact e
    have rh : RwsT (upd H5 c (.ins Cc dx (putF "houses" (.ref ha) (putF "deeds" (.ref dd) (putF "web" (.ref w) []))))) ha (List.replicate n (List.replicate k 0)) := ⟨_, kp5 _ _ hha, RwsA.rep (kp5 _ _ (t5 _ _ (t3 _ _ hp2))) n⟩
    have hd5 := kp5 _ _ (s35 _ _ hd3)
    have b5 : But c H (upd H5 c (.ins Cc dx (putF "houses" (.ref ha) (putF "deeds" (.ref dd) (putF "web" (.ref w) []))))) := (b3.same s35).trans But.upd
    have hc5 : (upd H5 c (.ins Cc dx (putF "houses" (.ref ha) (putF "deeds" (.ref dd) (putF "web" (.ref w) []))))) c = some (.ins Cc dx (putF "houses" (.ref ha) (putF "deeds" (.ref dd) (putF "web" (.ref w) [])))) := upd_same
    generalize upd H5 c (.ins Cc dx (putF "houses" (.ref ha) (putF "deeds" (.ref dd) (putF "web" (.ref w) [])))) = H6 at b5 hc5 rh hd5 ⊢
    refine ⟨(by show 1 ≤ sizeLine; decide), fun q1 hq1 => ?_⟩
    have u1 := same_new (o := HO.tup [V.int 0]) hq1
    refine ⟨_, rfl, q1, (k : Int), _, rfl, rfl, upd_same, by simp, by omega, by omega, (by show 1 ≤ 1000; decide), fun q2 H7 u2 hq2 => ⟨(by show 1 ≤ sizeLine; decide), fun q3 hq3 => ?_⟩⟩
    rw [Int.toNat_natCast, rep_v] at hq2
    have u3 := same_new (o := HO.tup [V.ref q2]) hq3
    have s67 := (u1.trans u2).trans u3
    have hw7 := (hw.but hc nw b5).same s67
    obtain ⟨dxw7, ta7, w71, tas7, w72, w73⟩ := id hw7
    have el : ((tas7.map V.ref).length : Int) = (ts.length : Int) := by rw [List.length_map, w73.1]
    refine ⟨_, rfl, w, W, dxw7, _, _, rfl, w71, TW.cl, TW.nT, wf_t _ _, ta7, _, rfl, .inr (SqT.of w72), ?_⟩
    rw [el]
    refine ⟨q3, (ts.length : Int), _, rfl, rfl, upd_same, by simp, by omega, by omega, (by show 1 ≤ 1000; decide), fun ta' H8 u5 hta => ?_⟩
    rw [Int.toNat_natCast, rep_r] at hta
    have s68 := s67.trans u5
    refine ⟨_, rfl, c, Cc, dx, _, rfl, s68 _ _ hc5, T.cl, T.nT, (by show 3 < 1000; decide), ?_⟩
    have nt8 : ∀ {a : Addr} {xs : List V}, H8 a = some (.tup xs) → a ≠ c := fun e z => by rw [z, s68 _ _ hc5] at e; cases e
    have kp8 : ∀ a xs, H8 a = some (.tup xs) → (upd H8 c (.ins Cc dx (cf w dd ha ta'))) a = some (.tup xs) := fun a xs e => by rw [upd_ne (nt8 e)]; exact e
    have hw8 := (hw7.same u5).but (s68 _ _ hc5) nw (But.upd (o := .ins Cc dx (cf w dd ha ta')))
    exact q _ ((b5.same s68).trans But.upd) ⟨⟨dx, dd, ha, ta', upd_same, kp8 _ _ (s68 _ _ hd5), (rh.same s68).kp kp8, _, kp8 _ _ hta, RwsA.rep (kp8 _ _ (u5 _ _ (u3 _ _ hq2))) _⟩, hw8, hW, nw, cu0_ok _ _ _, hk, Nat.zero_le _⟩
noncomputable abbrev nKD : List Str := ["self", "house", "deed", "act"]
theorem scKD : FnScope nKD ["self", "house", "deed"] (defScope sCountsDo) := ⟨rfl, rfl, rfl, by decide +kernel, rfl, by decide +kernel, by decide +kernel⟩
theorem ok_kdo {f fR W Cc : Addr} {fd fdR : FuncData} (F : Fun K "do" "Counts.do" sCountsDo f fd) (DR : Df K mg "replaced" sRepl ["items", "at", "item"] fR fdR) (B : Bt mg) (T : CcT K mg Cc) (GR : FnOk P w K mg base CX0 1 fR fdR ["items", "at", "item"] spRepl) : FnOk P w K mg base CX0 2 f fd ["self", "house", "deed"] (spKDo Cc W) := by
  refine F.ok scKD (fun vs H Q E h => ?_) (fun cdv A outer s H vs Q E hr h => ?_)
  · obtain ⟨c, w, n, ps, k, u, h, d, rfl, _⟩ := h
    rfl
  · obtain ⟨c, w, n, ps, k, u, h, d, rfl, hK, hn, hk, q⟩ := h
    refine ⟨_, (pss_cons (ps_set (i := 3) scKD.nd rfl (.inl rfl) (pe_callB call_len_seq (by rfl) B.len PySem.boot_len (pa_cons (pe_fld (pv 0) rfl) pa_nil)))
    (pss_cons (ps_fld (pv 0) (pe_op (opCatA (K := K) rfl) (pe_fld (pv 0) rfl) (pe_tup (pa_cons (pv 2) pa_nil))) rfl)
    (pss_one (ps_fld (pv 0) (pc DR GR hr pass0 (pa_cons (pe_fld (pv 0) rfl) (pa_cons (pv 1) (pa_cons (pc DR GR hr pass0 (pa_cons (pe_ix ix_tup (pe_fld (pv 0) rfl) (pv 1) (fun _ _ => rfl)) (pa_cons (pv 3) (pa_cons pe_int pa_nil)))) pa_nil)))) rfl)))), ?_⟩
    obtain ⟨dx, dd, ha, ta, h1, h2, ⟨as, h3, h4⟩, h5⟩ := hK.ob
    have lk := hK.lk
    have n12 := hK.wv.n12
    have la : as.length = n := by rw [h4.1, hK.ok.lh]
    obtain ⟨a1, ea1, ha1⟩ := h4.get (getL (l := u.hs) (i := h) (by rw [hK.ok.lh]; exact hn))
    have lr := hK.ok.row hn
    refine ⟨_, rfl, c, Cc, dx, _, _, rfl, h1, T.cl, T.nD, cf_d _ _ _ _, dd, _, rfl, .inr (SqT.of h2), ?_⟩
    rw [vrow_len]
    dsimp only [List.set]
    refine ⟨_, rfl, c, Cc, dx, _, _, rfl, h1, T.cl, T.nD, cf_d _ _ _ _, ?_⟩
    refine ⟨_, rfl, (by show 1 ≤ sizeLine; decide), fun p1 hp1 => ?_⟩
    have s1 := same_new (o := HO.tup [V.int (d : Int)]) hp1
    refine catA_by (s1 _ _ h2) upd_same (sz (by rw [vrow_len]; simp only [List.length_cons, List.length_nil]; omega)) fun d2 H2 s2 hd2 => ?_
    have s12 := s1.trans s2
    refine ⟨_, rfl, c, Cc, dx, _, rfl, s12 _ _ h1, T.cl, T.nD, (by show 4 < 1000; decide), ?_⟩
    rw [cf_pd]
    have nc : ∀ {a : Addr} {xs : List V}, H2 a = some (.tup xs) → a ≠ c := fun e z => by rw [z, s12 _ _ h1] at e; cases e
    have kp : ∀ a xs, H2 a = some (.tup xs) → (upd H2 c (.ins Cc dx (cf w d2 ha ta))) a = some (.tup xs) := fun a xs e => by rw [upd_ne (nc e)]; exact e
    have hd3 : (upd H2 c (.ins Cc dx (cf w d2 ha ta))) d2 = some (.tup (vrow (u.ds ++ [(d : Int)]))) := kp _ _ (by rw [hd2, vrow, vrow, List.map_append]; rfl)
    have r4 := (h4.same s12).kp kp
    have g3 := kp _ _ (s12 _ _ h3)
    have g1 := kp _ _ (s12 _ _ ha1)
    have r5 := (h5.same s12).kp kp
    have gw := (hK.wb.same s12).but (s12 _ _ h1) hK.nw (But.upd (o := .ins Cc dx (cf w d2 ha ta)))
    have b4 : But c H (upd H2 c (.ins Cc dx (cf w d2 ha ta))) := But.put s12
    have hc4 : (upd H2 c (.ins Cc dx (cf w d2 ha ta))) c = some (.ins Cc dx (cf w d2 ha ta)) := upd_same
    generalize upd H2 c (.ins Cc dx (cf w d2 ha ta)) = H3 at hd3 r4 g3 g1 r5 gw b4 hc4 ⊢
    refine ⟨_, rfl, c, Cc, dx, _, _, rfl, hc4, T.cl, T.nH, cf_h _ _ _ _, _, rfl, _, rfl, c, Cc, dx, _, _, rfl, hc4, T.cl, T.nH, cf_h _ _ _ _, _, rfl, ha, _, (h : Int), .ref a1, rfl, rfl, SqT.of g3, at_i (map_at ea1), _, rfl, ?_⟩
    refine ⟨a1, _, u.ds.length, .int 1, rfl, g1, by rw [vrow_len, lr]; exact hk, by rw [vrow_len, lr]; omega, fun y1 H4 s4 hy1 => ?_⟩
    rw [← vrow_set] at hy1
    refine ⟨ha, _, h, .ref y1, rfl, s4 _ _ g3, by rw [List.length_map]; omega, by rw [List.length_map]; omega, fun y2 H5 s5 hy2 => ?_⟩
    rw [← refs_set] at hy2
    have s45 := s4.trans s5
    refine ⟨_, rfl, c, Cc, dx, _, rfl, s45 _ _ hc4, T.cl, T.nH, (by show 4 < 1000; decide), ?_⟩
    rw [cf_ph]
    have nc5 : ∀ {a : Addr} {xs : List V}, H5 a = some (.tup xs) → a ≠ c := fun e z => by rw [z, s45 _ _ hc4] at e; cases e
    have kp5 : ∀ a xs, H5 a = some (.tup xs) → (upd H5 c (.ins Cc dx (cf w d2 y2 ta))) a = some (.tup xs) := fun a xs e => by rw [upd_ne (nc5 e)]; exact e
    exact q _ (b4.trans (But.put s45)) ⟨⟨dx, d2, y2, ta, upd_same, kp5 _ _ (s45 _ _ hd3), ⟨_, kp5 _ _ hy2, ((r4.same s45).kp kp5).set (kp5 _ _ (s5 _ _ hy1)) h⟩, (r5.same s45).kp kp5⟩, (gw.same s45).but (s45 _ _ hc4) hK.nw But.upd, hK.wv, hK.nw, hK.ok.doo hn, lk, by show (u.ds ++ [(d : Int)]).length ≤ 400; rw [List.length_append]; simp only [List.length_cons, List.length_nil]; omega⟩
noncomputable abbrev nKM : List Str := ["self", "tie", "one", "other", "joined"]
theorem scKM : FnScope nKM ["self", "tie"] (defScope sCountsMeet) := ⟨rfl, rfl, rfl, by decide +kernel, rfl, by decide +kernel, by decide +kernel⟩
theorem ok_kmeet {f fL fR W Cc : Addr} {fd fdL fdR : FuncData} (F : Fun K "meet" "Counts.meet" sCountsMeet f fd) (DL : Df K mg "less_tie" sLessTie ["here", "there", "between"] fL fdL) (DR : Df K mg "replaced" sRepl ["items", "at", "item"] fR fdR) (T : CcT K mg Cc) (TW : WcT K mg W)
    (GL : FnOk P w K mg base CX0 1 fL fdL ["here", "there", "between"] spLess) (GR : FnOk P w K mg base CX0 1 fR fdR ["items", "at", "item"] spRepl) : FnOk P w K mg base CX0 2 f fd ["self", "tie"] (spKMeet Cc W) := by
  refine F.ok scKM (fun vs H Q E h => ?_) (fun cdv A outer s H vs Q E hr h => ?_)
  · obtain ⟨c, w, n, ps, k, u, t, p, rfl, _⟩ := h
    rfl
  · obtain ⟨c, w, n, ps, k, u, t, p, rfl, hK, hp, q⟩ := h
    refine ⟨_, (pss_cons (ps_asg (pe_ix ix_tup (pe_fld (pe_fld (pv 0) rfl) rfl) (pv 1) (fun _ _ => rfl)) (pg_tup rfl (pgs_cons (pg_name (i := 2) scKM.nd rfl (.inl rfl)) (pgs_cons (pg_name (i := 3) scKM.nd rfl (.inl rfl)) pgs_nil))))
    (pss_cons (ps_set (i := 4) scKM.nd rfl (.inl rfl) (pc DL GL hr pass0 (pa_cons (pe_ix ix_tup (pe_fld (pv 0) rfl) (pv 2) (fun _ _ => rfl)) (pa_cons (pe_ix ix_tup (pe_fld (pv 0) rfl) (pv 3) (fun _ _ => rfl)) (pa_cons (pe_ix ix_tup (pe_fld (pv 0) rfl) (pv 1) (fun _ _ => rfl)) pa_nil)))))
    (pss_cons (ps_fld (pv 0) (pc DR GR hr pass0 (pa_cons (pc DR GR hr pass0 (pa_cons (pe_fld (pv 0) rfl) (pa_cons (pv 2) (pa_cons (pv 4) pa_nil)))) (pa_cons (pv 3) (pa_cons (pv 4) pa_nil)))) rfl)
    (pss_one (ps_fld (pv 0) (pc DR GR hr pass0 (pa_cons (pe_fld (pv 0) rfl) (pa_cons (pv 1) (pa_cons (pv 4) pa_nil)))) rfl))))), ?_⟩
    obtain ⟨dx, dd, ha, ta, h1, hdd, ⟨as, h2, h4⟩, ⟨bs, h3, h5⟩⟩ := hK.ob
    have hW := hK.wv
    have lk := hK.lk
    have n12 := hW.n12
    have t20 := hW.t20
    have htl := lt_at hp
    obtain ⟨p1, p2, p3⟩ := hW.at_ hp
    obtain ⟨dxw, tw, w1, tas, w2, w3⟩ := id hK.wb
    obtain ⟨pa, hpa0, hpa⟩ := w3.get hp
    have hpa' : H pa = some (.tup [.int (p.1 : Int), .int (p.2 : Int)]) := hpa
    have la : as.length = n := by rw [h4.1, hK.ok.lh]
    have lb : bs.length = ps.length := by rw [h5.1, hK.ok.lt]
    obtain ⟨a1, ea1, ha1⟩ := h4.get (getL (l := u.hs) (i := p.1) (by rw [hK.ok.lh]; exact p1))
    obtain ⟨a2, ea2, ha2⟩ := h4.get (getL (l := u.hs) (i := p.2) (by rw [hK.ok.lh]; exact p2))
    obtain ⟨a3, ea3, ha3⟩ := h5.get (getL (l := u.ts) (i := t) (by rw [hK.ok.lt]; exact htl))
    have r1 := hK.ok.row p1
    have r2 := hK.ok.row p2
    have r3 := hK.ok.rowT htl
    refine ⟨_, rfl, c, Cc, dx, _, _, rfl, h1, T.cl, T.nW, cf_w _ _ _ _, w, W, dxw, _, _, rfl, w1, TW.cl, TW.nT, wf_t _ _, _, rfl, tw, _, (t : Int), .ref pa, rfl, rfl, SqT.of w2, at_i (map_at hpa0), pa, _, rfl, SqT.of hpa', rfl, _, _, rfl, _, _, rfl, rfl, ?_⟩
    refine ⟨_, rfl, c, Cc, dx, _, _, rfl, h1, T.cl, T.nH, cf_h _ _ _ _, _, rfl, ha, _, (p.1 : Int), .ref a1, rfl, rfl, SqT.of h2, at_i (map_at ea1), _, rfl, c, Cc, dx, _, _, rfl, h1, T.cl, T.nH, cf_h _ _ _ _, _, rfl, ha, _, (p.2 : Int), .ref a2, rfl, rfl, SqT.of h2, at_i (map_at ea2),
      _, rfl, c, Cc, dx, _, _, rfl, h1, T.cl, T.nT, cf_t _ _ _ _, _, rfl, ta, _, (t : Int), .ref a3, rfl, rfl, SqT.of h3, at_i (map_at ea3), a1, a2, a3, _, _, _, rfl, ha1, ha2, ha3, by rw [r1, r2], by rw [r1, r3], by omega, fun j H1 s1 hj => ?_⟩
    refine gn ?_
    dsimp only [List.set]
    refine ⟨_, rfl, c, Cc, dx, _, _, rfl, s1 _ _ h1, T.cl, T.nH, cf_h _ _ _ _, _, rfl, _, rfl, ha, _, p.1, .ref j, rfl, s1 _ _ h2, by rw [List.length_map]; omega, by rw [List.length_map]; omega, fun y1 H2 s2 hy1 => ?_⟩
    rw [← refs_set] at hy1
    refine ⟨_, rfl, _, rfl, y1, _, p.2, .ref j, rfl, hy1, by rw [List.length_map, List.length_set]; omega, by rw [List.length_map, List.length_set]; omega, fun y2 H3 s3 hy2 => ?_⟩
    rw [← refs_set] at hy2
    have s13 := (s1.trans s2).trans s3
    refine ⟨_, rfl, c, Cc, dx, _, rfl, s13 _ _ h1, T.cl, T.nH, (by show 4 < 1000; decide), ?_⟩
    rw [cf_ph]
    have hj3 := s3 _ _ (s2 _ _ hj)
    have nc : ∀ {a : Addr} {xs : List V}, H3 a = some (.tup xs) → a ≠ c := fun e z => by rw [z, s13 _ _ h1] at e; cases e
    have kp : ∀ a xs, H3 a = some (.tup xs) → (upd H3 c (.ins Cc dx (cf w dd y2 ta))) a = some (.tup xs) := fun a xs e => by rw [upd_ne (nc e)]; exact e
    have r4 := ((h4.same s13).kp kp).set (kp _ _ hj3) p.1 |>.set (kp _ _ hj3) p.2
    have r5 := (h5.same s13).kp kp
    have g2 := kp _ _ hy2
    have g3 := kp _ _ (s13 _ _ h3)
    have gd := kp _ _ (s13 _ _ hdd)
    have gj := kp _ _ hj3
    have gw := (hK.wb.same s13).but (s13 _ _ h1) hK.nw (But.upd (o := .ins Cc dx (cf w dd y2 ta)))
    have b4 : But c H (upd H3 c (.ins Cc dx (cf w dd y2 ta))) := But.put s13
    have hc4 : (upd H3 c (.ins Cc dx (cf w dd y2 ta))) c = some (.ins Cc dx (cf w dd y2 ta)) := upd_same
    generalize upd H3 c (.ins Cc dx (cf w dd y2 ta)) = H4 at r4 r5 g2 g3 gd gj gw b4 hc4 ⊢
    refine ⟨_, rfl, c, Cc, dx, _, _, rfl, hc4, T.cl, T.nT, cf_t _ _ _ _, _, rfl, _, rfl, ta, _, t, .ref j, rfl, g3, by rw [List.length_map]; omega, by rw [List.length_map]; omega, fun y4 H5 s5 hy4 => ?_⟩
    rw [← refs_set] at hy4
    refine ⟨_, rfl, c, Cc, dx, _, rfl, s5 _ _ hc4, T.cl, T.nT, (by show 4 < 1000; decide), ?_⟩
    rw [cf_pt]
    have nc5 : ∀ {a : Addr} {xs : List V}, H5 a = some (.tup xs) → a ≠ c := fun e z => by rw [z, s5 _ _ hc4] at e; cases e
    have kp5 : ∀ a xs, H5 a = some (.tup xs) → (upd H5 c (.ins Cc dx (cf w dd y2 y4))) a = some (.tup xs) := fun a xs e => by rw [upd_ne (nc5 e)]; exact e
    exact q _ (b4.trans (But.put s5)) ⟨⟨dx, dd, y2, y4, upd_same, kp5 _ _ (s5 _ _ gd), ⟨_, kp5 _ _ (s5 _ _ g2), (r4.same s5).kp kp5⟩, ⟨_, kp5 _ _ hy4, ((r5.same s5).kp kp5).set (kp5 _ _ (s5 _ _ gj)) t⟩⟩, (gw.same s5).but (s5 _ _ hc4) hK.nw But.upd, hW, hK.nw, hK.ok.met p1 p2 htl, lk, hK.ld⟩
end
end K1
namespace K1
open PySem PySem.Spec PyProof.Rows L2
noncomputable def hrdI (r : List Int) : List Int := (hrd r).map fun i : Nat => (i : Int)
noncomputable def spCTake (Cc W : Addr) : Sp := fun vs H Q _ => ∃ (c p w : Addr) (n d : Nat) (ps : Prs) (k : Nat) (u : Cu) (st : Stp), vs = [.ref c, .ref p] ∧ CuAt Cc W H c w n ps k u ∧ H p = some (.tup (stV st)) ∧ okS n ps.length d st ∧ (∀ h e, st = .dd h e → u.ds.length < k) ∧ ∀ H', But c H H' → CuAt Cc W H' c w n ps k (u.st ps st) → Q .non H'
noncomputable def spDeeds : Sp := fun vs H Q _ => ∃ (p : Addr) (ss : List Stp), vs = [.ref p] ∧ StpsT H p ss ∧ ss.length ≤ 400 ∧ ∀ q H', Same H H' → H' q = some (.tup (vrow (actD ss))) → Q (.ref q) H'
noncomputable def spCounted (Cc W : Addr) : Sp := fun vs H Q _ => ∃ (w p : Addr) (n d : Nat) (ps : Prs) (ss : List Stp), vs = [.ref w, .ref p] ∧ WebAt W H w n ps ∧ Wv n ps ∧ StpsT H p ss ∧ (∀ s ∈ ss, okS n ps.length d s) ∧ ss.length ≤ 400 ∧ ∀ c H', Same H H' → H c = none → CuAt Cc W H' c w n ps (actD ss).length (cnt n ps ss) → Q (.ref c) H'
noncomputable def spCActs : Sp := fun vs H Q _ => ∃ (a : Addr) (r : List Int), vs = [.ref a] ∧ H a = some (.tup (vrow r)) ∧ r.length ≤ 400 ∧ ∀ p H', Same H H' → H' p = some (.tup (vrow (hrdI r))) → Q (.ref p) H'
noncomputable def spAnyS (K : PySem.W.Frag) (W C : Addr) : Sp := fun vs H Q E => ∃ (w : Addr) (v : V) (o : Option (List (Option (List V)))) (n : Nat) (ps : Prs), vs = [.ref w, v] ∧ WebAt W H w n ps ∧ Svs K H v o ∧ (∀ z, sfV n ps.length 8 o = .int z → Rz C "at" (.int z) H E) ∧
  ∀ ss : List Stp, o = some (ss.map fun s => some (stV s)) → (∀ s ∈ ss, okS n ps.length 8 s) → ss.length ≤ 400 → ∀ p H', Same H H' → StpsT H' p ss → Q (.ref p) H'
noncomputable def spPlain (K : PySem.W.Frag) (M W CS CB CH : Addr) : Sp := fun vs H Q E => ∃ (m ta w : Addr) (tb : Ts) (n : Nat) (ps : Prs) (fv sv hv : V) (o1 : Option (List V)) (o : Option (List (Option (List V)))) (o3 : Option (List V)), vs = [.ref m, .ref w, fv, sv, hv] ∧ MachAt M H m ta (vts tb) ∧ Wf tb ∧ WebAt W H w n ps ∧ Wv n ps ∧ KV K H fv o1 ∧ Svs K H sv o ∧ KV K H hv o3 ∧
  (belowB fv (nS tb : Int) = false → Rz CS "state" fv H E) ∧ (belowB fv (nS tb : Int) = true → (∀ z, sfV n ps.length tb.length o = .int z → Rz CB "at" (.int z) H E) ∧
  ∀ ss : List Stp, o = some (ss.map fun s => some (stV s)) → (∀ s ∈ ss, okS n ps.length tb.length s) → ss.length ≤ 400 → (belowB hv (n : Int) = false → Rz CH "house" hv H E) ∧
    ∀ (fi : Int) (h : Nat), fv = .int fi → hv = .int (h : Int) → h < n → ∀ H', Same H H' → Q (.int (run tb fi ((hrd ((cnt n ps ss).hs.getD h [])).map fun i => (actD ss).getD i 0))) H')
theorem Rz.up {C : Addr} {f : Str} {v : V} {H H' : Hp} {E : XK} (h : Rz C f v H E) (s : Same H H') : Rz C f v H' E := fun d H2 s2 hd hx => h d H2 (s.trans s2) (s.free hd) hx
theorem StpsA.get' {H : Hp} {as : List Addr} {ss : List Stp} (h : StpsA H as ss) {i : Nat} {x : V} (e : (as.map V.ref)[i]? = some x) : ∃ a s, x = .ref a ∧ as[i]? = some a ∧ ss[i]? = some s ∧ H a = some (.tup (stV s)) := by
  obtain ⟨a, ha, rfl⟩ := at_map e
  obtain ⟨s, hs⟩ := ex_at (l := ss) (i := i) (by rw [← h.1]; exact lt_at ha)
  exact ⟨a, s, rfl, ha, hs, h.2 i a s ha hs⟩
structure CMs (P : Program) (w : World) (K : PySem.W.Frag) (mg : Str → Option Value) (base : Heap) (Cc W : Addr) : Prop where
  T : CcT K mg Cc
  do_ : ∃ f fd, Meth K Cc "do" f ∧ Binds K fd ["self", "house", "deed"] [] ∧ FnOk P w K mg base CX0 2 f fd ["self", "house", "deed"] (spKDo Cc W)
  meet : ∃ f fd, Meth K Cc "meet" f ∧ Binds K fd ["self", "tie"] [] ∧ FnOk P w K mg base CX0 2 f fd ["self", "tie"] (spKMeet Cc W)
section
variable {P : Program} {w : World} {K : PySem.W.Frag} {mg : Str → Option Value} {base : Heap}
noncomputable abbrev nCPT : List Str := ["books", "step"]
theorem scCPT : FnScope nCPT ["books", "step"] (defScope sPTake) := ⟨rfl, rfl, rfl, by decide +kernel, rfl, by decide +kernel, by decide +kernel⟩
theorem ok_ctake {f Cc W : Addr} {fd : FuncData} (D : Df K mg "take" sPTake ["books", "step"] f fd) (nm : CMs P w K mg base Cc W) (c : Cs mg) : FnOk P w K mg base CX0 3 f fd ["books", "step"] (spCTake Cc W) := by
  obtain ⟨t1, hc1⟩ := c.doo
  obtain ⟨fD, fdD, mD, bD, GD⟩ := nm.do_
  obtain ⟨fM, fdM, mM, bM, GM⟩ := nm.meet
  have CT := nm.T
  refine D.F.ok scCPT (fun vs H Q E h => ?_) (fun cdv A outer s H vs Q E hr h => ?_)
  · obtain ⟨c, p, w, n, d, ps, k, u, st, rfl, _⟩ := h
    rfl
  · obtain ⟨c, p, w, n, d, ps, k, u, st, rfl, hK, hp, hok, hk, q⟩ := h
    refine ⟨_, (pss_one (ps_if (pt_cmpR op_eq (pe_ix ix_tup (pv 1) pe_int (fun _ _ => rfl)) (pe_glob (v := .str "do") (by rfl) hc1 ⟨_, rfl⟩) (nomark _))
      (pss_one (ps_expr (pe_meth (pv 0) CT.cl mD GD (hr.mono (by decide)) bD .nil pass0 (pa_cons (pe_ix ix_tup (pv 1) pe_int (fun _ _ => rfl)) (pa_cons (pe_ix ix_tup (pv 1) pe_int (fun _ _ => rfl)) pa_nil)))))
      (pss_one (ps_expr (pe_meth (pv 0) CT.cl mM GM (hr.mono (by decide)) bM .nil pass0 (pa_cons (pe_ix ix_tup (pv 1) pe_int (fun _ _ => rfl)) pa_nil)))))), ?_⟩
    obtain ⟨dx, dd, ha, ta, h1, _⟩ := id hK.ob
    cases st with
    | dd h d =>
      have rd : ∀ (j : Nat) v, (stV (.dd h d))[j]? = some v → atI (stV (.dd h d)) (j : Int) = some v := fun j v hv => at_i hv
      refine ⟨_, rfl, p, _, (0 : Int), .str "do", rfl, rfl, SqT.of hp, rd 0 _ rfl, ⟨rfl, true, congrArg V.bl (decide_eq_true rfl), iteT ?_⟩⟩
      refine ⟨_, rfl, c, dx, _, rfl, h1, cf_do _ _ _ _, ?_⟩
      refine ⟨_, rfl, p, _, (1 : Int), .int (h : Int), rfl, rfl, SqT.of hp, rd 1 _ rfl, _, rfl, p, _, (2 : Int), .int (d : Int), rfl, rfl, SqT.of hp, rd 2 _ rfl, ?_⟩
      exact ⟨c, w, n, ps, k, u, h, d, rfl, hK, hok.1, hk h d rfl, fun H' b hN => q H' b hN⟩
    | mt t =>
      have rd : ∀ (j : Nat) v, (stV (.mt t))[j]? = some v → atI (stV (.mt t)) (j : Int) = some v := fun j v hv => at_i hv
      refine ⟨_, rfl, p, _, (0 : Int), .str "meet", rfl, rfl, SqT.of hp, rd 0 _ rfl, ⟨rfl, false, congrArg V.bl (decide_eq_false (by decide +kernel)), iteF ?_⟩⟩
      refine ⟨_, rfl, c, dx, _, rfl, h1, cf_m _ _ _ _, ?_⟩
      refine ⟨_, rfl, p, _, (1 : Int), .int (t : Int), rfl, rfl, SqT.of hp, rd 1 _ rfl, ?_⟩
      obtain ⟨pr, hpr⟩ := ex_at (show t < ps.length from hok)
      have ep : ps.getD t (0, 0) = pr := by rw [List.getD_eq_getElem?_getD, hpr]; rfl
      refine ⟨c, w, n, ps, k, u, t, pr, rfl, hK, hpr, fun H' b hN => q H' b ?_⟩
      show CuAt Cc W H' c w n ps k (u.met (ps.getD t (0, 0)) t)
      rw [ep]; exact hN
noncomputable abbrev nDO : List Str := ["steps", "step"]
theorem scDO : FnScope nDO ["steps"] (defScope sDeedsOf) := ⟨rfl, rfl, rfl, by decide +kernel, rfl, by decide +kernel, by decide +kernel⟩
theorem ok_deeds {f : Addr} {fd : FuncData} (D : Df K mg "deeds_of" sDeedsOf ["steps"] f fd) (B : Bt mg) (c : Cs mg) : FnOk P w K mg base CX0 1 f fd ["steps"] spDeeds := by
  obtain ⟨t1, hc1⟩ := c.doo
  refine D.F.ok scDO (fun vs H Q E h => ?_) (fun cdv A outer s H vs Q E hr h => ?_)
  · obtain ⟨p, ss, rfl, _⟩ := h
    rfl
  · obtain ⟨p, ss, rfl, ⟨as, hp1, hp2⟩, hl, q⟩ := h
    refine ⟨_, (pss_one (ps_ret (pe_callTy call_tuple_of (by rfl) B.tuple PyProof.Rows.boot_tuple (pa_cons (pe_lc (own := [("step", 1)]) (g := gName 1) rfl scDO.nd (pi_tup (pv 0)) (blkOk_by (N := nDO) (sc := defScope sDeedsOf) (by decide +kernel)) (fun _ _ _ _ _ => (pg_name (i := 1) scDO.nd rfl (Or.inl rfl))) (fun _ _ _ _ _ => pts_one (pt_cmpR op_eq (pe_ix (ixTK (K := K) rfl) (pv 1) pe_int (fun _ _ => rfl)) (pe_glob (v := .str "do") (by rfl) hc1 ⟨_, rfl⟩) (nomark _))) (fun _ _ _ _ _ => (pe_ix (ixTK (K := K) rfl) (pv 1) pe_int (fun _ _ => rfl)))) pa_nil)))), ?_⟩
    refine ⟨_, rfl, p, rfl, ⟨_, SqT.of hp1⟩, fun D0 hD0 => lc_tup (K := K) (a := p) (xs := as.map V.ref) (fun i H3 => Same H H3 ∧ H3 D0 = some (.lst (vrow (actD (ss.take i))))) ⟨same_new hD0, by rw [upd_same]; rfl⟩ (fun i H3 _ ⟨s3, _⟩ => SqT.of (s3 _ _ hp1)) ?_ ?_⟩
    · rintro i x H3 hx ⟨s3, hD3⟩
      obtain ⟨a, st, rfl, ha, hst, hat⟩ := hp2.get' hx
      have ea := take_succ hst
      have hla : (actD (ss.take i)).length ≤ 400 := Nat.le_trans (actD_len _) (by rw [List.length_take]; omega)
      have hat3 := s3 _ _ hat
      refine ⟨rfl, ?_⟩
      cases st with
      | dd h d =>
        have rd : ∀ (j : Nat) v, (stV (.dd h d))[j]? = some v → atI (stV (.dd h d)) (j : Int) = some v := fun j v hv => at_i hv
        refine ⟨_, rfl, a, _, (0 : Int), .str "do", rfl, rfl, SqT.of hat3, rd 0 _ rfl, ⟨rfl, true, congrArg V.bl (decide_eq_true rfl), iteT ?_⟩⟩
        refine ⟨_, rfl, a, _, (2 : Int), .int (d : Int), rfl, rfl, SqT.of hat3, rd 2 _ rfl, _, hD3, szl (by rw [vrow_len]; omega), fun c o e => by rw [upd_ne (ne_of_none e hD0)]; exact s3 _ _ e, ?_⟩
        rw [upd_same, ea, actD_app, vrow, vrow, List.map_append]; rfl
      | mt t =>
        have rd : ∀ (j : Nat) v, (stV (.mt t))[j]? = some v → atI (stV (.mt t)) (j : Int) = some v := fun j v hv => at_i hv
        refine ⟨_, rfl, a, _, (0 : Int), .str "meet", rfl, rfl, SqT.of hat3, rd 0 _ rfl, ⟨rfl, false, congrArg V.bl (decide_eq_false (by decide +kernel)), iteF ?_⟩⟩
        refine ⟨s3, ?_⟩
        rw [ea, actD_app, show actD [Stp.mt t] = [] from rfl, List.append_nil]; exact hD3
    · rintro H3 ⟨s3, hD3⟩
      rw [List.take_of_length_le (by rw [List.length_map, hp2.1]; exact Nat.le_refl _)] at hD3
      exact ⟨D0, _, rfl, .inl ⟨SqL.of hD3, fun l hl' => q l _ (s3.trans (same_new hl')) upd_same⟩⟩
noncomputable abbrev nCtd : List Str := ["web", "steps", "counts", "step"]
theorem scCtd : FnScope nCtd ["web", "steps"] (defScope sCounted) := ⟨rfl, rfl, rfl, by decide +kernel, rfl, by decide +kernel, by decide +kernel⟩
theorem ok_counted {f fD fI fT W Cc : Addr} {fd fdD fdI fdT : FuncData} (D : Df K mg "counted" sCounted ["web", "steps"] f fd) (DD : Df K mg "deeds_of" sDeedsOf ["steps"] fD fdD) (DT : Df K mg "take" sPTake ["books", "step"] fT fdT) (B : Bt mg) (CT : CcT K mg Cc)
    (MI : Mk K Cc fI) (BI : Binds K fdI ["self", "web", "acts"] []) (GI : FnOk P w K mg base CX0 1 fI fdI ["self", "web", "acts"] (spKInit Cc W)) (GD : FnOk P w K mg base CX0 1 fD fdD ["steps"] spDeeds) (GT : FnOk P w K mg base CX0 3 fT fdT ["books", "step"] (spCTake Cc W)) :
    FnOk P w K mg base CX0 4 f fd ["web", "steps"] (spCounted Cc W) := by
  refine D.F.ok scCtd (fun vs H Q E h => ?_) (fun cdv A outer s H vs Q E hr h => ?_)
  · obtain ⟨w, p, n, d, ps, ss, rfl, _⟩ := h
    rfl
  · obtain ⟨w, p, n, d, ps, ss, rfl, hw, hW, hS, hok, hl, q⟩ := h
    have r1 := hr.mono (show 1 ≤ 3 by decide)
    refine ⟨_, (pss_cons (ps_set (i := 2) scCtd.nd rfl (.inl rfl) (pe_make MI GI (hr.mono (by decide)) rfl CT.g BI .nil pass0 (pa_cons (pv 0) (pa_cons (pe_callB call_len_seq (by rfl) B.len PySem.boot_len (pa_cons (pc DD GD r1 pass0 (pa_cons (pv 1) pa_nil)) pa_nil)) pa_nil))))
    (pss_cons (ps_for PassesOwn.never rfl (pi_tup (pv 1)) (pg_name (i := 3) scCtd.nd rfl (.inl rfl))
      (pss_one (ps_expr (pc DT GT hr pass0 (pa_cons (pv 2) (pa_cons (pv 3) pa_nil))))))
    (pss_one (ps_ret (pv 2))))), ?_⟩
    refine ⟨_, rfl, _, rfl, p, ss, rfl, hS, hl, fun ad H1 s1 had => ⟨ad, _, rfl, .inr (SqT.of had), fun c dxc hc0 hdc0 nec => ?_⟩⟩
    rw [vrow_len]
    have smc := mkSameN (o1 := HO.own c) (o2 := HO.ins Cc dxc []) hc0 hdc0 nec
    have hw1 := hw.same s1
    obtain ⟨dxw, tw, w1, _⟩ := id hw1
    have nwc : w ≠ c := ne_of_none w1 hc0
    have al := Nat.le_trans (actD_len ss) hl
    refine ⟨c, dxc, w, n, ps, (actD ss).length, rfl, upd_same, hw1.same smc, hW, nwc, al, fun H2 b2 hN => ⟨rfl, ?_⟩⟩
    dsimp only [List.set]
    have s2 : Same H1 H2 := fun d o e => b2 _ _ (smc _ _ e) (ne_of_none e hc0)
    have s12 := s1.trans s2
    have fc : H c = none := s1.free hc0
    obtain ⟨as, hp1, hp2⟩ := hS.same s12
    refine ⟨_, rfl, p, rfl, ⟨_, SqT.of hp1⟩, for_tup (K := K) (a := p) (xs := as.map V.ref) (fun i σ H' => ∃ v3 : Option V, σ = [some (.ref w), some (.ref p), some (.ref c), v3] ∧ But c H2 H' ∧ CuAt Cc W H' c w n ps (actD ss).length (cur ps (cu0 n ps.length (actD ss).length) (ss.take i)))
      ⟨none, rfl, .refl, hN⟩ (fun i σ H' _ ⟨_, _, bb, hN'⟩ => SqT.of (bb _ _ hp1 (fun z => by
        obtain ⟨_, _, _, _, g1, _⟩ := hN.ob
        rw [z, g1] at hp1; cases hp1))) ?_ ?_⟩
    · rintro i x σ H' hx ⟨v3, rfl, bb, hN'⟩
      obtain ⟨a, st, rfl, ha, hst, hat⟩ := hp2.get' hx
      refine gn ?_
      dsimp only [List.set]
      have hat' : H' a = some (.tup (stV st)) := bb _ _ hat (fun z => by
        obtain ⟨_, _, _, _, g1, _⟩ := hN.ob
        rw [z, g1] at hat; cases hat)
      have es := take_succ hst
      refine ⟨_, rfl, _, rfl, c, a, w, n, d, ps, _, _, st, rfl, hN', hat', hok st (List.mem_of_getElem? hst), fun h e z => ?_, fun H4 b4 N4 => ⟨_, rfl, bb.trans b4, by rw [es, cur_snoc]; exact N4⟩⟩
      subst z
      have I := cur_all hW (actD ss).length (ss.take i) (fun s hs => hok s (List.mem_of_mem_take hs)) (by
        have := congrArg List.length (actD_app (ss.take i) (ss.drop i))
        rw [List.take_append_drop, List.length_append] at this; omega)
      rw [I.ds]
      have := congrArg List.length (actD_app (ss.take (i + 1)) (ss.drop (i + 1)))
      rw [List.take_append_drop, List.length_append, es, actD_app, List.length_append] at this
      simp only [actD, List.length_cons, List.length_nil] at this
      omega
    · rintro σ H' ⟨v3, rfl, bb, hN'⟩
      rw [List.take_of_length_le (by rw [List.length_map, hp2.1]; exact Nat.le_refl _)] at hN'
      exact ⟨_, rfl, q c H' (fun d u e => bb _ _ (s12 _ _ e) (ne_of_none e fc)) fc hN'⟩
noncomputable abbrev nAnS : List Str := ["web", "value"]
theorem scAnS : FnScope nAnS ["web", "value"] (defScope sAnySteps) := ⟨rfl, rfl, rfl, by decide +kernel, rfl, by decide +kernel, by decide +kernel⟩
theorem ok_anyS {f fO W C : Addr} {fd fdO : FuncData} (D : Df K mg "any_steps" sAnySteps ["web", "value"] f fd) (DO : Df K mg "steps_of" sStepsOf ["web", "deeds", "value"] fO fdO) (ct : Ct mg) (GO : FnOk P w K mg base (L2.CX P w) 5 fO fdO ["web", "deeds", "value"] (spStepsOf K W C)) :
    FnOk P w K mg base (L2.CX P w) 6 f fd ["web", "value"] (spAnyS K W C) := by
  obtain ⟨t1, hc1⟩ := ct.tabs
  refine D.F.okX scAnS (fun vs H Q E h => ?_) (fun cdv A outer s H vs Q E hr h => ?_)
  · obtain ⟨w, v, o, n, ps, rfl, _⟩ := h
    rfl
  · obtain ⟨w, v, o, n, ps, rfl, hw, hv, qE, q⟩ := h
    refine ⟨_, (pss_one (ps_ret (pc DO GO hr (pass1 (takes_of rfl rfl rfl rfl)) (pa_cons (pv 0) (pa_cons (pe_glob (v := .int 8) (by rfl) hc1 ⟨_, rfl⟩) (pa_cons (pv 1) pa_nil)))))), ?_⟩
    exact ⟨_, rfl, _, rfl, w, v, o, n, 8, ps, rfl, hw, hv, qE, q⟩
noncomputable abbrev nCc : List Str := ["counts", "act", "many"]
theorem scCc : FnScope nCc ["counts"] (defScope sCountedActs) := ⟨rfl, rfl, rfl, by decide +kernel, rfl, by decide +kernel, by decide +kernel⟩
theorem ok_cacts {f : Addr} {fd : FuncData} (D : Df K mg "counted_acts" sCountedActs ["counts"] f fd) (B : Bt mg) : FnOk P w K mg base CX0 1 f fd ["counts"] spCActs := by
  refine D.F.ok scCc (fun vs H Q E h => ?_) (fun cdv A outer s H vs Q E hr h => ?_)
  · obtain ⟨a, r, rfl, _⟩ := h
    rfl
  · obtain ⟨a, r, rfl, ha, hl, q⟩ := h
    refine ⟨_, (pss_one (ps_ret (pe_callTy call_tuple_of (by rfl) B.tuple PyProof.Rows.boot_tuple (pa_cons (pe_lc (own := [("act", 1), ("many", 2)]) (g := gTup K 2 (gCons (gName 1) (gCons (gName 2) gNil))) rfl scCc.nd (pi_enumA (by rfl) B.enumerate (pa_cons (pv 0) pa_nil)) (blkOk_by (N := nCc) (sc := defScope sCountedActs) (by decide +kernel)) (fun _ _ _ _ _ => (pg_tup rfl (pgs_cons (pg_name (i := 1) scCc.nd rfl (Or.inl rfl)) (pgs_cons (pg_name (i := 2) scCc.nd rfl (Or.inl rfl)) pgs_nil)))) (fun _ _ _ _ _ => pts_one (pt_cmpR op_gt (pv 2) pe_int (nomark _))) (fun _ _ _ _ _ => (pv 1))) pa_nil)))), ?_⟩
    refine ⟨_, rfl, a, rfl, .inr ⟨_, SqT.of ha, fun D0 hD0 => lc_enumT (K := K) (a := a) (xs := vrow r) (fun i H3 => Same H H3 ∧ H3 D0 = some (.lst (vrow ((hrdK r i).map fun j : Nat => (j : Int))))) ⟨same_new hD0, by rw [upd_same]; rfl⟩ (fun i H3 _ ⟨s3, _⟩ => SqT.of (s3 _ _ ha)) ?_ ?_⟩⟩
    · rintro i x T H3 hx hT ⟨s3, hD3⟩
      obtain ⟨z, hz, rfl⟩ := vrow_at hx
      have sT := same_new (o := HO.tup [V.int (i : Nat), .int z]) hT
      have hi := lt_at hz
      have ez : r.getD i 0 = z := by rw [List.getD_eq_getElem?_getD, hz]; rfl
      refine ⟨T, _, rfl, SqT.of upd_same, rfl, _, _, rfl, _, _, rfl, rfl, rfl, ?_⟩
      refine ⟨_, rfl, _, _, rfl, rfl, _, rfl, ifD (fun e => ?_) fun e => ?_⟩
      · have hz0 : 0 < z := by simpa using e
        refine ⟨_, rfl, _, sT _ _ hD3, szl (by rw [vrow_len, List.length_map]; have := hrdK_len r i; omega), fun c o e => ?_, ?_⟩
        · rw [upd_ne (ne_of_none e hD0)]
          exact sT _ _ (s3 _ _ e)
        · rw [upd_same, hrdK_succ, ez, if_pos hz0, List.map_append, vrow, vrow, List.map_append]; rfl
      · have hz0 : ¬ 0 < z := by simpa using e
        refine ⟨s3.trans sT, ?_⟩
        rw [hrdK_succ, ez, if_neg hz0, List.append_nil]
        exact sT _ _ hD3
    · rintro H3 ⟨s3, hD3⟩
      rw [vrow_len] at hD3
      exact ⟨D0, _, rfl, .inl ⟨SqL.of hD3, fun l hl' => q l _ (s3.trans (same_new hl')) upd_same⟩⟩
end
end K1
namespace K1
open PySem PySem.Spec PyProof.Rows L2
section
variable {P : Program} {w : World} {K : PySem.W.Frag} {mg : Str → Option Value} {base : Heap}
noncomputable abbrev nPS : List Str := ["machine", "web", "first", "steps", "house", "counts", "act"]
theorem scPS : FnScope nPS ["machine", "web", "first", "steps", "house"] (defScope sPlainState) := ⟨rfl, rfl, rfl, by decide +kernel, rfl, by decide +kernel, by decide +kernel⟩
theorem ok_plain {f fN fC fK fH fM fA M W CS CB CH Cc : Addr} {fd fdN fdC fdK fdH fdM fdA : FuncData} (D : Df K mg "plain_state" sPlainState ["machine", "web", "first", "steps", "house"] f fd) (DN : Df K mg "need_state" sNeedS ["machine", "state"] fN fdN) (DC : Df K mg "counted" sCounted ["web", "steps"] fC fdC) (DK : Df K mg "check_steps" sCheckSteps ["machine", "web", "value"] fK fdK) (DH : Df K mg "need_house" sNeedH ["web", "house"] fH fdH) (DM : Df K mg "moved" sMoved ["machine", "state", "row"] fM fdM) (DA : Df K mg "counted_acts" sCountedActs ["counts"] fA fdA) (CT : CcT K mg Cc)
    (GN : FnOk P w K mg base (L2.CX P w) 3 fN fdN ["machine", "state"] (spNeed M CS "state" nS)) (GC : FnOk P w K mg base CX0 4 fC fdC ["web", "steps"] (spCounted Cc W)) (GK : FnOk P w K mg base (L2.CX P w) 6 fK fdK ["machine", "web", "value"] (spCkSteps K M W CB)) (GH : FnOk P w K mg base (L2.CX P w) 3 fH fdH ["web", "house"] (spNeedH K W CH)) (GM : FnOk P w K mg base CX0 1 fM fdM ["machine", "state", "row"] (spMovedL M)) (GA : FnOk P w K mg base CX0 1 fA fdA ["counts"] spCActs) :
    FnOk P w K mg base (L2.CX P w) 7 f fd ["machine", "web", "first", "steps", "house"] (spPlain K M W CS CB CH) := by
  refine D.F.okX scPS (fun vs H Q E h => ?_) (fun cdv A outer s H vs Q E hr h => ?_)
  · obtain ⟨m, ta, w, tb, n, ps, fv, sv, hv, o1, o, o3, rfl, _⟩ := h
    rfl
  · obtain ⟨m, ta, w, tb, n, ps, fv, sv, hv, o1, o, o3, rfl, hM, hWf, hw, hW, kf, ks, kh, q1, q2⟩ := h
    have r4 := hr.mono (show 4 ≤ 6 by decide)
    have r3 := hr.mono (show 3 ≤ 6 by decide)
    have r1 := hr.mono (show 1 ≤ 6 by decide)
    have r6 := hr
    refine ⟨_, (pss_cons (ps_expr (pc DN GN r3 (pass1 (takes_of rfl rfl rfl rfl)) (pa_cons (pv 0) (pa_cons (pv 2) pa_nil))))
    (pss_cons (ps_set (i := 5) scPS.nd rfl (.inr rfl) (pc DC GC r4 pass0 (pa_cons (pv 1) (pa_cons (pc DK GK r6 (pass1 (takes_of rfl rfl rfl rfl)) (pa_cons (pv 0) (pa_cons (pv 1) (pa_cons (pv 3) pa_nil)))) pa_nil))))
    (pss_cons (ps_expr (pc DH GH r3 (pass1 (takes_of rfl rfl rfl rfl)) (pa_cons (pv 1) (pa_cons (pv 4) pa_nil))))
    (pss_one (ps_ret (pc DM GM r1 pass0 (pa_cons (pv 0) (pa_cons (pv 2) (pa_cons (pe_lc (own := [("act", 6)]) (g := gName 6) (tt := tYes) rfl scPS.nd (pi_tup (pc DA GA r1 pass0 (pa_cons (pe_ix ix_tup (pe_fld (pv 5) rfl) (pv 4) (fun _ _ => rfl)) pa_nil))) (blkOk_by (N := nPS) (sc := defScope sPlainState) (by decide +kernel)) (fun _ _ _ _ _ => (pg_name (i := 6) scPS.nd rfl (Or.inl rfl))) (fun _ _ _ _ _ => pts_nil) (fun _ _ _ _ _ => (pe_ix (ixTK (K := K) rfl) (pe_fldK (K := K) rfl (pv 5) rfl) (pv 6) (fun _ _ => rfl)))) pa_nil))))))))), ?_⟩
    refine ⟨_, rfl, _, rfl, m, ta, tb, fv, rfl, hM, ⟨K, o1, kf⟩, fun hb => ?_, fun hb => q1 hb⟩
    obtain ⟨qE, q⟩ := q2 hb
    refine ⟨_, rfl, _, rfl, _, rfl, _, rfl, m, ta, w, tb, sv, o, n, ps, rfl, hM, hw, ks, fun z ez => qE z ez, fun ss e hok hl p H1 s1 hp => ?_⟩
    obtain ⟨qH, qR⟩ := q ss e hok hl
    refine ⟨w, p, n, tb.length, ps, ss, rfl, hw.same s1, hW, hp, hok, hl, fun c H2 s2 _ hN => ?_⟩
    dsimp only [List.set]
    have s12 := s1.trans s2
    refine ⟨_, rfl, _, rfl, w, hv, o3, n, ps, rfl, hN.wb, kh.same s12, fun hb2 => ?_, fun hb2 => (qH hb2).up s12⟩
    obtain ⟨fi, rfl, hfi⟩ : ∃ fi : Int, fv = .int fi ∧ 0 ≤ fi ∧ fi < (nS tb : Int) := by
      cases fv <;> first | (cases hb; done) | skip
      rename_i i
      have z : (decide (0 ≤ i) && decide (i < (nS tb : Int))) = true := hb
      simp only [Bool.and_eq_true, decide_eq_true_eq] at z
      exact ⟨i, rfl, z⟩
    obtain ⟨h, rfl, hn⟩ := below_nat hb2
    obtain ⟨dx, dd, ha, ta', g1, g2, ⟨as, g3, g4⟩, _⟩ := hN.ob
    have lk := hN.lk
    have ld := hN.ld
    have eds : (cnt n ps ss).ds = actD ss := (cnt_cur hW hok).ds
    obtain ⟨a1, ea1, ha1⟩ := g4.get (getL (l := (cnt n ps ss).hs) (i := h) (by rw [hN.ok.lh]; exact hn))
    have rl := hN.ok.row hn
    generalize hrw : (cnt n ps ss).hs.getD h [] = rw' at ha1 rl qR
    refine ⟨_, rfl, _, rfl, _, rfl, c, Cc, dx, _, _, rfl, g1, CT.cl, CT.nH, cf_h _ _ _ _, _, rfl, ha, _, (h : Int), .ref a1, rfl, rfl, SqT.of g3, at_i (map_at ea1), a1, _, rfl, ha1, by omega, fun p2 H3 s3 hp2 => ?_⟩
    refine ⟨p2, rfl, ⟨_, SqT.of hp2⟩, fun D0 hD0 => lc_tup (K := K) (a := p2) (xs := vrow (hrdI rw')) (fun i H4 => Same H3 H4 ∧ H4 D0 = some (.lst (vrow (((hrd rw').take i).map fun j => (actD ss).getD j 0)))) ⟨same_new hD0, by rw [upd_same]; rfl⟩ (fun i H4 _ ⟨s4, _⟩ => SqT.of (s4 _ _ hp2)) ?_ ?_⟩
    · rintro i x H4 hx ⟨s4, hD4⟩
      obtain ⟨z, hz, rfl⟩ := vrow_at hx
      obtain ⟨j, hj, rfl⟩ := at_map hz
      have jl : j < (actD ss).length := by
        have := hrdK_lt (List.mem_of_getElem? hj)
        omega
      have s34 := s3.trans s4
      refine ⟨rfl, _, rfl, c, Cc, dx, _, _, rfl, s34 _ _ g1, CT.cl, CT.nD, cf_d _ _ _ _, _, rfl, dd, _, (j : Int), .int ((actD ss).getD j 0), rfl, rfl, SqT.of (s34 _ _ g2), by rw [eds]; exact at_i (vrow_get jl), ?_⟩
      refine ⟨_, hD4, szl (by rw [vrow_len, List.length_map, List.length_take]; have := hrdK_len rw' rw'.length; show _ < 16777216; have h2 : (hrd rw').length ≤ rw'.length := this; omega), fun c' o' e' => by rw [upd_ne (ne_of_none e' hD0)]; exact s4 _ _ e', ?_⟩
      rw [upd_same, take_succ hj, List.map_append, vrow, vrow, List.map_append]; rfl
    · rintro H4 ⟨s4, hD4⟩
      rw [vrow_len, hrdI, List.length_map, List.take_of_length_le (Nat.le_refl _)] at hD4
      have s34 := s3.trans s4
      have sall := s12.trans s34
      refine ⟨m, ta, tb, fi, D0, _, rfl, hM.same sall, hWf, hfi, hD4, fun d hd => ?_, ?_⟩
      · obtain ⟨j, hj, rfl⟩ := List.mem_map.mp hd
        have jl : j < (actD ss).length := by
          have := hrdK_lt hj
          omega
        exact actD_mem hok _ (List.mem_of_getElem? (getD_at jl))
      · have z := qR fi h rfl rfl hn H4 sall
        rw [hrw] at z; exact z
end
end K1
namespace K1
open PySem PySem.Spec PyProof.Rows L2
noncomputable def wAll (K : PySem.W.Frag) (i : Nat) (Wout : WX) (D : Ends) : List (Value × (Addr → Value → Option Addr → TS)) → WX
  | [] => Wout
  | (c, ts) :: r => fun cls d σ H => ∃ b, PySem.W.exmOne K cls c = some b ∧ (b = true → ∀ a, H a = none → ts a cls d { nx := fun σ' H' => D.nx (σ'.set i none) H', rt := D.rt, bk := fun σ' H' => D.bk (σ'.set i none) H', ct := fun σ' H' => D.ct (σ'.set i none) H' } (σ.set i (some (.ref a))) H) ∧
      (b = false → wAll K i Wout D r cls d σ H)
inductive HdsA (X : Cx) (n : Str) : List ExceptHandler → List (Value × (Addr → Value → Option Addr → TS)) → Prop
  | nil : HdsA X n [] []
  | cons {x : Str} {c : Value} {ts : Addr → Value → Option Addr → TS} {b₀ : Stmt} {suite : List Stmt} {np pos' : Pos} {hds : List ExceptHandler} {l : List (Value × (Addr → Value → Option Addr → TS))} (hc : Names X x c)
      (hsu : ∀ (a : Addr) (oe : Obj) (cls : Value) (d : Option Addr) (pn : List (Addr × Obj)), Zc cls d oe → (∃ vs, oe.data = .fields vs) → PSs (X.suite a ((a, oe) :: pn)) (b₀ :: suite) (ts a cls d)) (r : HdsA X n hds l) :
      HdsA X n (.ExceptHandler (some (.Name x np)) (some n) (b₀ :: suite) pos' :: hds) ((c, ts) :: l)
section
variable {X : Cx} {n : Str} {i : Nat} {body : List Stmt} {h₀ : ExceptHandler} {hds : List ExceptHandler} {l : List (Value × (Addr → Value → Option Addr → TS))} {pos : Pos} {tb : WX → TS} {Wout : WX}
theorem ps_try_all (hs : X.stack = X.env :: X.outer) (hf : X.env.frame = some X.env.locals) (hN : X.N.Nodup) (hi : X.N[i]? = some n) (hln : X.env.kindOf n = some .local) (tk : Takes X Wout)
    (hb : ∀ (W : WX) (pn : List (Addr × Obj)) (xe : Value → Shared → Prop), Takes (X.tr pn xe) W → PassesOwn (model X.prog X.w) X.A X.env xe → PSs (X.tr pn xe) body (tb W))
    (hh : HdsA X n (h₀ :: hds) l) : PS X (.Try body (h₀ :: hds) [] [] pos) (fun D σ H => tb (wAll X.K i Wout D l) D σ H) := by
  refine ⟨fun pins s σ H D I h => ?_⟩
  have ok := I.ok
  have hfr : X.A.frames = some (X.env :: X.outer) := by rw [ok.frames, hs]
  have hloc : Loc X.env.scope n := .inl hln
  refine wpAny_Try_except ?_
  refine wpAny_mono ((hb (wAll X.K i Wout D l) (X.pn ++ pins) (fun e s₁ => wpAny (model X.prog X.w) X.A (noteFrame e X.env) (fun _ s₂ => wpAny (model X.prog X.w) X.A (setFlight e none) (fun _ s₃ =>
    wpAny (model X.prog X.w) X.A (handleBy e X.env (h₀ :: hds)) (SP X pins D) X.xe s₃) X.xe s₂) X.xe s₁) (fun u s' xx => ?_) PassesOwn.looking).run [] s σ H D (I.toTry _) h) (fun f s1 hsp => ?_) (fun e s1 he => he)
  · -- the catch
    obtain ⟨a, B, sI, pins', σ', H', cls, d, rfl, J', nb, up, sky, na, os, ag, w⟩ := xx
    have J : Inv X pins σ' H' sI := J'.ofTry ok
    have sky' : Sky B (X.env :: X.outer) a (Zc cls d) X.env.locals s'.heap := by rw [← hs]; exact sky
    show wpAny (model X.prog X.w) X.A (noteFrame (.ref a) X.env) _ _ _
    refine Sky.land Zc.steady hfr hf sky' fun h3 fl3 up3 => ?_
    have J3 : Inv X pins σ' H' { s' with heap := h3 } := J.landed nb fl3.1 (up.trans up3) os ag
    obtain ⟨oe3, vs3, he3, hz3, hd3⟩ := fl3.there
    have notFr : ∀ {h : Heap} {o : Obj} {vs : Array Value}, h.FunFrames B (X.env :: X.outer) → h.get? a = some o → o.data = .fields vs → a ∉ frs (X.env :: X.outer) := fun {h o vs} ff e dd hm => by
      obtain ⟨_, o', e', hnf⟩ := ff.mem hm
      rw [e] at e'; cases e'
      exact hnf _ dd
    have nfr := notFr fl3.2.2.1 he3 hd3
    have nL : a ≠ X.env.locals := fun z => nfr (List.mem_filterMap.mpr ⟨X.env, List.mem_cons_self, by rw [hf, z]⟩)
    have nF : a ∉ X.fs := fun hm => by
      obtain ⟨e, he, q⟩ := List.mem_filterMap.mp hm
      exact nfr (List.mem_filterMap.mpr ⟨e, List.mem_cons_of_mem _ he, q⟩)
    have S3 := J3.suite he3 hd3 na nL nF
    have go : ∀ {hds' : List ExceptHandler} {l' : List (Value × (Addr → Value → Option Addr → TS))}, HdsA X n hds' l' → wAll X.K i Wout D l' cls d σ' H' →
        wpAny (model X.prog X.w) X.A (handleBy (.ref a) X.env hds') (SP X pins D) X.xe { s' with heap := h3 } := by
      intro hds' l' hk
      induction hk with
      | nil =>
        intro w
        refine wpAny_handleBy_nil ?_
        obtain ⟨k1, k2, k3, oe, vs, T, oT, ts', he, hz, hd, h1, hr⟩ := id fl3
        unfold PySem.passOn
        refine wpAny_bind (wpAny_field he hd h1 ?_)
        rw [if_neg (show ¬ ((Value.ref T == Value.none) = true) from by simp)]
        have fin : wpAny (model X.prog X.w) X.A (setFlight (.ref a) X.env.frame) (fun _ s4 => wpAny (model X.prog X.w) X.A (throw (.ref a) : Sem Flow) (SP X pins D) X.xe s4) X.xe { s' with heap := h3 } := by
          rw [hf]
          refine HandSPX.setFlight_upZ fl3 fun h4 hh4 up4 => wpAny_throw (tk _ _ ?_)
          exact ⟨a, B, sI, pins, σ', H', cls, d, rfl, J, nb, (up.trans up3).trans up4, .inr (.inr (by rw [hs]; exact hh4)), na, os, ag, w⟩
        first
          | exact wpAny_bind (wpAny_pure (wpAny_bind fin))
          | exact wpAny_bind fin
      | @cons x c ts b₀ suite np pos' hds2 l2 hc hsu r ih =>
        intro w
        obtain ⟨b, hb1, hyes, hno⟩ := w
        refine wpAny_handleBy_cons (codeAny_handlers_test ?_) (by intro q; cases q)
        have LT : PySem.W.Looks (model X.prog X.w) h3 (typeOf (.ref a)) cls := fun A Q E s k q => wpAny_typeOf_ref (k _ _ he3) (by rw [hz3.1]; exact q)
        have LM := PySem.W.exm_one (M := model X.prog X.w) (J3.kIn) LT hb1
        have test : ∀ {Q : Value → Shared → Prop} {E : Value → Shared → Prop}, Q c { s' with heap := h3 } → wpAny (model X.prog X.w) (X.A.mark (some (.ref a))) (eval (.Name x np) X.env) Q E { s' with heap := h3 } := fun {Q E} q => by
          obtain ⟨hg, hdbg, hm | ⟨hm, hv, hnn⟩⟩ := hc
          · exact ld_glob (X := X.suite a ((a, oe3) :: (X.pn ++ pins))) S3 hg hm q hdbg
          · exact ld_blt (X := X.suite a ((a, oe3) :: (X.pn ++ pins))) S3 hg hm hv q hnn hdbg
        refine test (LM.here ?_)
        cases b with
        | true =>
          refine codeAny_handlers_suite_as ?_
          refine HandSPX.lands_againZ fl3 fun h4 fl4 up4 => ?_
          have J4 : Inv X pins σ' H' { s' with heap := h4 } := J.landed nb fl4.1 ((up.trans up3).trans up4) os ag
          obtain ⟨oe4, vs4, he4, hz4, hd4⟩ := fl4.there
          have S4 := J4.suite he4 hd4 na nL nF
          refine store_ok (X := X.suite a ((a, oe4) :: (X.pn ++ pins))) (v := .ref a) S4 hN hi hloc rfl (fun s5 S5 => ?_) (.inr hln)
          refine wpAny_mono ((hsu a oe4 cls d (X.pn ++ pins) hz4 ⟨_, hd4⟩).run [] s5 _ H' _ S5 (hyes rfl a na)) (fun f s6 hsp => ?_) (fun _ _ z => False.elim z)
          have end_ : ∀ {σ6 : L2.St} {H6 : Hp} {Q : Shared → Prop}, Inv (X.suite a ((a, oe4) :: (X.pn ++ pins))) [] σ6 H6 s6 → (∀ s7, Inv X pins (σ6.set i none) H6 s7 → Q s7) →
              wpAny (model X.prog X.w) X.A (do bindName X.env n .none; unbindBehindTheSuite X.env n pos') (fun _ s7 => Q s7) X.xe s6 := fun {σ6 H6 Q} S6 hq => gone_ok (S6.unsuite ok) hN hi hln hq
          cases f with
          | next =>
            obtain ⟨σ6, H6, S6, q6⟩ := hsp
            exact end_ S6 fun s7 J7 => ⟨_, _, J7, q6⟩
          | brk =>
            obtain ⟨σ6, H6, S6, q6⟩ := hsp
            exact end_ S6 fun s7 J7 => ⟨_, _, J7, q6⟩
          | cont =>
            obtain ⟨σ6, H6, S6, q6⟩ := hsp
            exact end_ S6 fun s7 J7 => ⟨_, _, J7, q6⟩
          | ret u =>
            obtain ⟨v6, σ6, H6, S6, r6, q6⟩ := hsp
            exact end_ S6 fun s7 J7 => ⟨_, _, _, J7, r6, q6⟩
        | false =>
          show wpAny _ X.A (handleBy (.ref a) X.env hds2) _ _ _
          exact ih (hno rfl)
    exact go hh w
  · cases f with
    | next =>
      obtain ⟨σ', H', J', q⟩ := hsp
      exact wpAny_execs_nil ⟨σ', H', J'.ofTry ok, q⟩
    | brk =>
      obtain ⟨σ', H', J', q⟩ := hsp
      exact ⟨σ', H', J'.ofTry ok, q⟩
    | cont =>
      obtain ⟨σ', H', J', q⟩ := hsp
      exact ⟨σ', H', J'.ofTry ok, q⟩
    | ret u =>
      obtain ⟨v, σ', H', J', r, q⟩ := hsp
      exact ⟨v, σ', H', J'.ofTry ok, r, q⟩
end
end K1
namespace K1
open PySem PySem.Spec PyProof.Rows L2
theorem takes_len {X : Cx} {W : WX} (tk : Takes X W) : Takes X (fun cls d σ H => σ.length = X.N.length → W cls d σ H) := by
  intro u s' h
  obtain ⟨a, B, sI, pins', σ', H', cls, d, e, J, nb, up, sky, na, os, ag, w⟩ := h
  exact tk u s' ⟨a, B, sI, pins', σ', H', cls, d, e, J, nb, up, sky, na, os, ag, w J.len⟩
structure Exm (K : PySem.W.Frag) (CB N : Addr) : Prop where
  e00 : PySem.W.exmOne K (.ref CB) (.ref CB) = some true
noncomputable def HE (K : PySem.W.Frag) (CB : Addr) (Q : VK) : XK := fun cls d H => ∃ dd : Addr, d = some dd ∧ cls = .ref CB ∧ ∃ v, H dd = some (.xd [("at", v)]) ∧ ∀ p H', Same H H' → H p = none → H' p = some (.lst [v]) → Q (.ref p) H'
noncomputable def TTh (K : PySem.W.Frag) (CB : Addr) : (XK → Hp → VK → Prop) → Hp → VK → Prop := fun tl H Q => tl (HE K CB Q) H fun v H' => 0 ≤ sizeLine ∧ ∀ p, H' p = none → Q (.ref p) (upd H' p (.lst []))
theorem scHe : FnScope ["_law_work", "error"] ["_law_work"] (defScope sLBadSteps) := ⟨rfl, rfl, rfl, by decide +kernel, rfl, by decide +kernel, by decide +kernel⟩
theorem heard_gives {X : Cx} {CB N i0 g : Addr} {k : Nat} {b0 : List Value} {q0 : Str} {cdg : Value} {q : Str} (B : Bt X.mg) (T0 : LAt.Txt X.K X.mg "BadSteps" q0 b0 CB i0) (ex : Exm X.K CB N) (hgd : X.A.guards = some []) (hr : Room (k + 2) X.A) :
    LamX.GivesTo X ["_law_work", "error"] "_law_bad_steps" (defScope sLBadSteps) g cdg (defBody sLBadSteps) "_law_work" q (TTh X.K CB) := by
  intro f c' s H Q tl act hc h
  have hu := (hr.deeper (envOfC "_law_bad_steps" (defScope sLBadSteps) s.heap.objs.size g cdg)).units
  generalize hZ : (cxOf C8.CX0 X.prog X.w X.K X.mg X.base ["_law_work", "error"] "_law_bad_steps" (defScope sLBadSteps) g cdg X.A X.stack s H C8.E0) = Z at act ⊢
  subst hZ
  refine ⟨_, pss_cons (ps_try_all (n := "error") (i := 1) (tb := fun W D σ H => ∃ Ech : XK, (∀ cls d (σ' : L2.St) H', σ'.length = 2 → Ech cls d H' → W cls d σ' H') ∧ σ[0]? = some (some (.ref f)) ∧ H c' = some (LamX.CodeO c' q) ∧ tl Ech H fun v H1 => D.nx σ H1)
      rfl rfl scHe.nd rfl rfl LamX.takes0 (fun W pn xe tk _ => ?_)
      (.cons (c := .ref CB) ⟨rfl, by decide, .inl T0.gC⟩ (fun a oe cls d pn hz hf => pss_one (ps_ret (pe_lst (pa_cons (pe_by_LAt T0 hz hf (pv 1)) pa_nil))))
      .nil)) (pss_one (ps_ret (pe_lst pa_nil))), ?_⟩
  · refine ⟨fun pins s' σ H' D I h' => ?_⟩
    obtain ⟨Ech, hW, h1, h2, h3⟩ := h'
    have hp := fun p1 p2 => act (fun cls d σ H => σ.length = 2 → W cls d σ H) pn xe Ech p1 p2 (takes_len tk) (fun cls d σ' H' e hl => hW cls d σ' H' hl e)
    exact (pss_one (ps_expr (hp _ _))).run pins s' σ H' D I ⟨h1, h2, h3⟩
  · refine ⟨HE X.K CB Q, fun cls d σ' H' hl he => ?_, rfl, hc, ?_⟩
    rotate_left
    · exact h
    obtain ⟨dd, rfl, rfl, v, hx, k⟩ := he
    obtain ⟨v0, v1, rfl⟩ : ∃ v0 v1, σ' = [v0, v1] := by
      match σ', hl with
      | [v0, v1], _ => exact ⟨v0, v1, rfl⟩
    refine ⟨true, ex.e00, fun _ a na => ?_, fun z => (by cases z)⟩
    exact ⟨_, rfl, rfl, rfl, dd, v, rfl, hx, (by show 1 ≤ sizeLine; decide), fun p hp => k p _ (same_new hp) hp upd_same⟩
structure FunC (K : PySem.W.Frag) (x qual : Str) (st : Stmt) (f : Addr) (fd : FuncData) (cdv : Value) : Prop where
  ex : ∃ (oc : Value) (od : Option Addr) (kV doc pm : Value) (an : Option Addr) (ct : Value) (osl : Array (Option Value)),
    fd = PySem.W.fnOf x qual (defArgs st) (defBody st) (defScope st) .none kV doc pm an cdv ct ∧ K.lookup f = some ⟨oc, od, .func fd, osl⟩ ∧ PySem.W.codeIn K cdv qual = true
  kp : PySem.W.keepIn K (.ref f) = true
section
variable {P : Program} {w : World} {K : PySem.W.Frag} {mg : Str → Option Value} {base : Heap}
theorem FunC.okG {x qual : Str} {st : Stmt} {f : Addr} {fd : FuncData} {cdv : Value} {N ps : List Str} {k : Nat} {sp : Sp} (F : FunC K x qual st f fd cdv) (S : FnScope N ps (defScope st)) (len : ∀ vs H Q E, sp vs H Q E → vs.length = ps.length)
    (hbody : ∀ (A : Around) (outer : List Env) (s : Shared) (H : Hp) (vs : List V) (Q : VK) (E : XK), Room k (A.deeper (envOfC qual (defScope st) s.heap.objs.size f cdv)) → (A.deeper (envOfC qual (defScope st) s.heap.objs.size f cdv)).guards = some [] → sp vs H Q E →
      ∃ t, PSs (cxOf CX0 P w K mg base N qual (defScope st) f cdv A outer s H E).nox (defBody st) t ∧ t { nx := fun _ H' => Q .non H', rt := Q } (start N vs) H) : FnG P w K mg base (k + 1) f fd ps sp := by
  obtain ⟨oc, od, kV, doc, pm, an, ct, osl, rfl, lk, hcd⟩ := F.ex
  refine ⟨len, fun A outer s H args us vs Q E hr hgd e0 hb r hsp => ?_⟩
  refine LamX.run_ofS lk hcd S hr e0 hb r (len _ _ _ _ hsp) fun hr' => ?_
  obtain ⟨t, h, q⟩ := hbody A outer s H vs Q E hr' hgd hsp
  exact ⟨t, h.nox, q⟩
end
structure Hd (K : PySem.W.Frag) (mg : Str → Option Value) (base : Heap) (CB : Addr) : Prop where
  B : Bt mg
  df : ∃ g fd, Df K mg "_law_bad_steps" sLBadSteps ["_law_work"] g fd
  t0 : ∃ q b i, LAt.Txt K mg "BadSteps" q b CB i
  ex : ∃ N, mg "NetError" = some (.ref N) ∧ Exm K CB N
theorem pHeard {X : Cx} {c P CB : Addr} {k : Nat} {qn : Str} {T : List (Addr × Str)} {params : Arguments} {body : Expr} {scope : Scope} {t : XK → TE} {p lpos pos : Pos} (hd : Hd X.K X.mg X.base CB) (TB : LamX.TabB X.base X.mg c P) (hgd : X.A.guards = some []) (hr : Room (k + 2) X.A) (hcode : X.env.code = .ref c)
    (hq : X.env.qual ++ "<lambda>" = qn) (hm : (P, qn) ∈ T) (hun : ∀ p ∈ T, p.1 = P → p.2 = qn) (hg : Gl X "_law_bad_steps") (L : LamX.LamS X.env.scope scope) (hdef : defaultsOf params X.env = ([], []))
    (hbind : ∀ (q : Str) (cl : List (Str × Addr)) (pm cv ctv : Value), bindArgs (PySem.W.kla_fn "<lambda>" q params body scope cl pm cv ctv) ⟨[], []⟩ = pure [])
    (hbody : ∀ (A : Around) (outer : List Env) (s : Shared) (H : Hp) (E : XK) (f c' : Addr), Room k (A.deeper (LamX.lamEnv X scope s.heap.objs.size f c')) → PE (LamX.lamCx X A outer s H E scope f c') body (t E)) :
    PE X (.Call (.Name "_law_bad_steps" p) [.Lambda params body scope lpos] [] pos) (LamX.tLam T (TTh X.K CB) t) := by
  obtain ⟨g, fd, D⟩ := hd.df
  obtain ⟨q0, b0, i0, T0⟩ := hd.t0
  obtain ⟨N, hN, ex⟩ := hd.ex
  have hb := D.b
  obtain ⟨oc, od, kV, doc, pm, an, cdv, ct, osl, rfl, lk, hcd⟩ := D.F.ex
  exact LamX.pe_lamcall (a := "_law_work") hg D.g D.F.kp lk hcd hb scHe rfl (.inl rfl) (heard_gives hd.B T0 ex hgd hr) TB hcode (by rw [hq]; exact hm) (fun p hp e => by rw [hq]; exact hun p hp e) hr L hdef hbind hbody
section
variable {P : Program} {w : World} {K : PySem.W.Frag} {mg : Str → Option Value} {base : Heap}
end
section
variable {X : Cx} {k : Nat} {f : Addr} {fd : FuncData} {ps ks : List Str} {sp : Sp} {x : Str} {st : Stmt} {p pos : Pos} {e : Expr} {es : List Expr} {kws : List Keyword} {t tk : TA}
theorem pe_callW {CX : CXT} {E : XK} {g : List Value → List Value → List Value} {gV : List V → List V → List V} (D : Df X.K X.mg x st ps f fd) (G : FnOk X.prog X.w X.K X.mg X.base CX k f fd ps sp) (hr : Room k X.A) (hb : KBn X.K fd ps 0 ks g gV) (hx : Passes CX X E) (hkw : PK X kws tk) (hg : Gl X x := by rfl)
    (hall : (backToKw pos (keywordEach kws X.env)).all (·.1.isSome) = true := by rfl) (hks : (backToKw pos (keywordEach kws X.env)).filterMap (·.1) = ks := by rfl) (hdb : (x == ("__debug__" : Str)) = false := by decide)
    (hpl : ((backTo pos (starEach [] X.env)).any (·.1) || (backToKw pos (keywordEach kws X.env)).any (·.1.isNone)) = false := by rfl) :
    PE X (.Call (.Name x p) [] kws pos) (fun σ H Q => tk σ H fun zs H1 => zs.length = ks.length ∧ sp (gV [] zs) H1 Q E) := by
  refine ⟨fun pins s σ H Q I h => ?_⟩
  refine wpAny_Call_Name_kw (ld_glob I hg D.g ?_ hdb)
  refine PySem.W.callWith_KW0 (h₀ := X.base) I.ok.mod.kin D.F.kp hall ?_ hpl
  refine thn (hkw.run pos pins s σ H _ I h) fun ws s2 ⟨zs, H2, I2, rz, l2, q2⟩ => ⟨I2.kIn, ?_⟩
  rw [hks]
  exact run_fnN (us := []) (vs := []) G hr hb hx I2 .nil rz rfl l2 q2
end
end K1
namespace K1
open PySem PySem.Spec PyProof.Rows L2
noncomputable def PrsL (H : Hp) (as : List Addr) (ts : Prs) : Prop := as.length = ts.length ∧ ∀ (i : Nat) a t, as[i]? = some a → ts[i]? = some t → H a = some (.lst (pV t))
theorem PrsL.same {H H' : Hp} {as : List Addr} {ts : Prs} (h : PrsL H as ts) (s : Same H H') : PrsL H' as ts := ⟨h.1, fun i a t e1 e2 => s _ _ (h.2 i a t e1 e2)⟩
theorem PrsL.get' {H : Hp} {as : List Addr} {ts : Prs} (h : PrsL H as ts) {i : Nat} {x : V} (e : (as.map V.ref)[i]? = some x) : ∃ a t, x = .ref a ∧ as[i]? = some a ∧ ts[i]? = some t ∧ H a = some (.lst (pV t)) := by
  obtain ⟨a, ha, rfl⟩ := at_map e
  obtain ⟨t, ht⟩ := ex_at (l := ts) (i := i) (by rw [← h.1]; exact lt_at ha)
  exact ⟨a, t, rfl, ha, ht, h.2 i a t ha ht⟩
theorem PrsL.get {H : Hp} {as : List Addr} {ts : Prs} (h : PrsL H as ts) {i : Nat} {t : Nat × Nat} (e : ts[i]? = some t) : ∃ a, as[i]? = some a ∧ H a = some (.lst (pV t)) := by
  obtain ⟨a, ha⟩ := ex_at (l := as) (i := i) (by rw [h.1]; exact lt_at e)
  exact ⟨a, ha, h.2 i a t ha e⟩
noncomputable def spCTiesL : Sp := fun vs H Q _ => ∃ (n : Nat) (p : Addr) (as : List Addr) (ts : Prs), vs = [.int (n : Int), .ref p] ∧ H p = some (.lst (as.map V.ref)) ∧ PrsL H as ts ∧ Wv n ts ∧ ∀ ta H', Same H H' → TiesT H' ta ts → Q (.ref ta) H'
noncomputable def spWInitL (W : Addr) : Sp := fun vs H Q _ => ∃ (w dx : Addr) (n : Nat) (p : Addr) (as : List Addr) (ts : Prs), vs = [.ref w, .int (n : Int), .ref p] ∧ H w = some (.ins W dx []) ∧ H p = some (.lst (as.map V.ref)) ∧ PrsL H as ts ∧ Wv n ts ∧
  ∀ H', (∀ b u, H b = some u → b ≠ w → H' b = some u) → WebAt W H' w n ts → Q .non H'
section
variable {P : Program} {w : World} {K : PySem.W.Frag} {mg : Str → Option Value} {base : Heap}
theorem rw_pL {H : Hp} {a : Addr} {t : Nat × Nat} (h : H a = some (.lst (pV t))) : Rw K H (.ref a) (some (pV t)) := ⟨.lst h, fun ys e => by obtain rfl := Option.some.inj e; exact kinds_pV t⟩
theorem ok_ctiesL {f fW fS fP C cI : Addr} {fd fdW fdS fdP : FuncData} {bm : List Value} {ql : Str} (D : Df K mg "checked_ties" sCTies ["houses", "ties"] f fd) (DW : Df K mg "is_whole" sWhole ["value"] fW fdW) (DS : Df K mg "is_sequence" sSeq ["value", "least", "most"] fS fdS) (DP : Df K mg "is_pair" sPair ["value", "houses"] fP fdP)
    (B : Bt mg) (c : Cw mg) (T : LAt.Txt K mg "BadWeb" ql bm C cI) (GW : FnOk P w K mg base CX0 1 fW fdW ["value"] (spWhole K)) (GS : FnOk P w K mg base CX0 1 fS fdS ["value", "least", "most"] (spSeq K)) (GP : FnOk P w K mg base CX0 4 fP fdP ["value", "houses"] (spPair K)) :
    FnOk P w K mg base (L2.CX P w) 5 f fd ["houses", "ties"] spCTiesL := by
  obtain ⟨t1, hc1⟩ := c.houses
  obtain ⟨t2, hc2⟩ := c.ties
  refine D.F.okX scCT (fun vs H Q E h => ?_) (fun cdv A outer s H vs Q E hr h => ?_)
  · obtain ⟨n, p, as, ts, rfl, _⟩ := h
    rfl
  · obtain ⟨n, p, as, ts, rfl, hS, hA, hW, q⟩ := h
    have hr1 : Room 1 _ := hr.mono (by decide)
    refine ⟨_, pss_cons (ps_if (PW.pt (pw_or (pt_not (pt_val (pc DW GW hr1 pass0 (pa_cons (pv 0) pa_nil)))) (pw_or (pt_not (pt_chain op_le op_le pe_int (pv 0) (pe_glob (v := .int 12) (by rfl) hc1 ⟨_, rfl⟩))) (pw_or1 (pt_not (pt_val (pc DS GS hr1 pass0 (pa_cons (pv 1) (pa_cons pe_int (pa_cons (pe_glob (v := .int 20) (by rfl) hc2 ⟨_, rfl⟩) pa_nil)))))))))) (pss_one (ps_raise_LAt rfl T hr (takes_of rfl rfl rfl rfl) (pa_cons (pe_un un_neg pe_int) pa_nil))) pss_nil)
      (pss_cons (ps_for (passes_of rfl) rfl (pi_enumA (by rfl) B.enumerate (pa_cons (pv 1) pa_nil)) (pg_tup rfl (pgs_cons (pg_name (i := 2) scCT.nd rfl (.inl rfl)) (pgs_cons (pg_name (i := 3) scCT.nd rfl (.inl rfl)) pgs_nil)))
        (pss_one (ps_if (pt_not (pt_val (pc DP GP hr pass0 (pa_cons (pv 3) (pa_cons (pv 0) pa_nil))))) (pss_one (ps_raise_LAt rfl T hr (takes_of rfl rfl rfl rfl) (pa_cons (pv 2) pa_nil))) pss_nil)))
      (pss_one (ps_ret (pe_callTy call_tuple_of (by rfl) B.tuple (by decide +kernel) (pa_cons
        (pe_lc (own := [("pair", 3)]) (g := gName 3) (tt := tYes) rfl scCT.nd (pi_seqA (pv 1)) (blkOk_by (N := ["houses", "ties", "at", "pair"]) (sc := defScope sCTies) (by decide +kernel)) (fun _ _ _ _ _ => pg_name (i := 3) scCT.nd rfl (Or.inl rfl)) (fun _ _ _ _ _ => pts_nil)
          (fun _ _ _ _ _ => pe_callTy (ctup (K := K) rfl) (by rfl) B.tuple PyProof.Rows.boot_tuple (pa_cons (pv 3) pa_nil))) pa_nil))))), ?_⟩
    have n1 := hW.n1
    have n12 := hW.n12
    have t20 := hW.t20
    have la : (as.map V.ref).length = ts.length := by rw [List.length_map, hA.1]
    have lt20 : (as.map V.ref).length ≤ 20 := by omega
    have sq : seqB (some (as.map V.ref)) 0 20 = true := by
      show (decide ((0 : Int) ≤ ((as.map V.ref).length : Int)) && decide (((as.map V.ref).length : Int) ≤ 20)) = true
      rw [decide_eq_true (by omega), decide_eq_true (by omega)]; rfl
    refine ⟨_, rfl, _, none, rfl, .int _, true, rfl, iteF ?_⟩
    refine ⟨_, rfl, _, _, rfl, rfl, _, rfl, iteY (decide_eq_true (by omega)) ⟨_, _, rfl, rfl, true, congrArg V.bl (decide_eq_true (show (n : Int) ≤ 12 by omega)), iteF ?_⟩⟩
    refine ⟨_, rfl, _, some (as.map V.ref), 0, 20, rfl, .lst hS, fun H1 s1 => ⟨_, rfl, ?_⟩⟩
    rw [sq]
    refine iteF (nxP ?_)
    refine ⟨_, rfl, p, rfl, ?_⟩
    refine .inl ⟨_, SqL.of (s1 _ _ hS), for_enumL (K := K) (fun (_ : Nat) (σ : L2.St) (H' : Hp) => ∃ v2 v3 : Option V, σ = [some (.int (n : Int)), some (.ref p), v2, v3] ∧ Same H H') ⟨none, none, rfl, s1⟩ (fun i σ H' _ ⟨_, _, _, sm⟩ => SqL.of (sm _ _ hS)) ?_ ?_⟩
    · rintro i x T σ H' hx hT ⟨v2, v3, rfl, sm⟩
      obtain ⟨a, t, rfl, ha, ht, hat⟩ := hA.get' hx
      have sm2 := sm.trans (same_new (o := HO.tup [.int (i : Nat), .ref a]) hT)
      refine ⟨T, _, rfl, SqT.of upd_same, rfl, _, _, rfl, _, _, rfl, rfl, ?_⟩
      refine ⟨_, rfl, _, rfl, .ref a, some (pV t), (n : Int), rfl, rw_pL (sm2 _ _ hat), fun H3 s3 => ⟨_, rfl, ?_⟩⟩
      rw [pair_ok hW ht]
      exact iteF ⟨_, _, rfl, sm2.trans s3⟩
    · rintro σ H' ⟨v2, v3, rfl, sm⟩
      refine ⟨_, rfl, p, rfl, .inl ⟨_, SqL.of (sm _ _ hS), fun D hD => lc_list (K := K) (a := p) (xs := as.map V.ref) (fun i H2 => ∃ cs : List Addr, cs.length = i ∧ Same H' H2 ∧ H2 D = some (.lst (cs.map V.ref)) ∧ ∀ (j : Nat) b t, cs[j]? = some b → ts[j]? = some t → H2 b = some (.tup (pV t))) ⟨[], rfl, same_new hD, upd_same, fun j b t z => nomatch z⟩ (fun i H2 _ ⟨_, _, s5, _⟩ => SqL.of (s5 _ _ (sm _ _ hS))) ?_ ?_⟩⟩
      · rintro i x H2 hx ⟨cs, hc, s5, hD2, hC⟩
        obtain ⟨a, t, e, ha, ht, hat⟩ := hA.get' hx
        subst e
        have hi := lt_at hx
        refine ⟨rfl, _, rfl, a, pV t, rfl, .inl ⟨SqL.of (s5 _ _ (sm _ _ hat)), fun l hl => ?_⟩⟩
        have s6 := same_new (o := HO.tup (pV t)) hl
        have nl : l ≠ D := fun z => by rw [z, hD2] at hl; cases hl
        refine ⟨_, s6 _ _ hD2, szl (by rw [List.length_map]; omega), cs ++ [l], by rw [List.length_append, hc]; rfl, fun c o e => by rw [upd_ne (ne_of_none e hD)]; exact s6 _ _ (s5 _ _ e), by rw [upd_same, List.map_append]; rfl, fun j b t' hb ht' => ?_⟩
        by_cases hj : j < cs.length
        · rw [List.getElem?_append_left hj] at hb
          have hb2 := hC j b t' hb ht'
          rw [upd_ne (fun z => by rw [z, hD2] at hb2; cases hb2)]
          exact s6 _ _ hb2
        · have hjl := lt_at hb
          rw [List.length_append] at hjl
          have : j = cs.length := by simp only [List.length_cons, List.length_nil] at hjl; omega
          subst this
          rw [List.getElem?_append_right (Nat.le_refl _), Nat.sub_self] at hb
          obtain rfl : l = b := Option.some.inj hb
          rw [hc, ht] at ht'
          obtain rfl := Option.some.inj ht'
          rw [upd_ne nl]; exact upd_same
      · rintro H2 ⟨cs, hc, s5, hD2, hC⟩
        refine ⟨D, _, rfl, .inl ⟨SqL.of hD2, fun ta hta => ?_⟩⟩
        have s6 := same_new (o := HO.tup (cs.map V.ref)) hta
        exact q ta _ ((sm.trans s5).trans s6) ⟨cs, upd_same, by rw [hc, la], fun i a t e1 e2 => s6 _ _ (hC i a t e1 e2)⟩
theorem ok_winitL {f fC W : Addr} {fd fdC : FuncData} (F : Fun K "__init__" "Web.__init__" sWInit f fd) (DC : Df K mg "checked_ties" sCTies ["houses", "ties"] fC fdC) (T : WcT K mg W)
    (GC : FnOk P w K mg base (L2.CX P w) 5 fC fdC ["houses", "ties"] spCTiesL) : FnOk P w K mg base (L2.CX P w) 6 f fd ["self", "houses", "ties"] (spWInitL W) := by
  refine F.okX scWI (fun vs H Q E h => ?_) (fun cdv A outer s H vs Q E hr h => ?_)
  · obtain ⟨w, dx, n, p, as, ts, rfl, _⟩ := h
    rfl
  · obtain ⟨w, dx, n, p, as, ts, rfl, hw, hS, hA, hW, q⟩ := h
    refine ⟨_, pss_cons (ps_fld (pv 0) (pc DC GC hr (pass1 (takes_of rfl rfl rfl rfl)) (pa_cons (pv 1) (pa_cons (pv 2) pa_nil))) rfl) (pss_one (ps_fld (pv 0) (pv 1) rfl)), ?_⟩
    refine ⟨_, rfl, _, rfl, n, p, as, ts, rfl, hS, hA, hW, fun ta H' sm hT => ?_⟩
    have hw1 := sm _ _ hw
    refine ⟨_, rfl, w, W, dx, [], rfl, hw1, T.cl, T.nT, (by show 0 < 1000; decide), ?_⟩
    refine ⟨_, rfl, _, rfl, w, W, dx, _, rfl, upd_same, T.cl, T.nH, (by show 1 < 1000; decide), ?_⟩
    rw [upd_upd]
    obtain ⟨bs, k1, k2⟩ := hT
    have kp : ∀ b u, H' b = some u → b ≠ w → (upd H' w (.ins W dx (wf ta (n : Int)))) b = some u := fun b u e nb => by rw [upd_ne nb]; exact e
    have nw : ∀ {c : Addr} {xs : List V}, H' c = some (.tup xs) → c ≠ w := fun h e => by rw [e, hw1] at h; cases h
    exact q _ (fun b u e nb => kp b u (sm _ _ e) nb) ⟨dx, ta, upd_same, bs, kp _ _ k1 (nw k1), k2.1, fun i a t e1 e2 => kp _ _ (k2.2 i a t e1 e2) (nw (k2.2 i a t e1 e2))⟩
end
end K1
namespace K1
open PySem PySem.Spec PyProof.Rows L2
theorem Dl.free {b l c : Addr} {H H' : Hp} (hb : DealO H b l) (d : Dl b l H H') (e : H' c = none) : H c = none := by
  cases h : H c with
  | none => rfl
  | some o =>
    by_cases z1 : c = b
    · obtain ⟨_, ns, z, _, h1, _⟩ := d.1
      rw [z1, h1] at e; cases e
    · by_cases z2 : c = l
      · obtain ⟨_, ns, z, _, _, h1⟩ := d.1
        rw [z2, h1] at e; cases e
      · rw [d.2 c o h z1 z2] at e; cases e
structure TL (b l tl : Addr) (H : Hp) (as : List Addr) (ts : Prs) : Prop where
  h : H tl = some (.lst (as.map V.ref))
  ps : PrsL H as ts
  nb : tl ≠ b
  nl : tl ≠ l
  na : ∀ a ∈ as, a ≠ l
theorem TL.dl {b l tl : Addr} {H H' : Hp} {as : List Addr} {ts : Prs} (t : TL b l tl H as ts) (hb : DealO H b l) (d : Dl b l H H') : TL b l tl H' as ts := by
  refine ⟨d.2 _ _ t.h t.nb t.nl, ⟨t.ps.1, fun i a p e1 e2 => d.2 _ _ (t.ps.2 i a p e1 e2) (fun z => ?_) (t.na a (List.mem_of_getElem? e1))⟩, t.nb, t.nl, t.na⟩
  have h1 := t.ps.2 i a p e1 e2
  obtain ⟨_, ns, w, _, h2, _⟩ := hb
  rw [z, h2] at h1
  cases h1
theorem TL.same {b l tl : Addr} {H H' : Hp} {as : List Addr} {ts : Prs} (t : TL b l tl H as ts) (s : Same H H') : TL b l tl H' as ts := ⟨s _ _ t.h, t.ps.same s, t.nb, t.nl, t.na⟩
theorem TL.snoc {b l tl a : Addr} {H : Hp} {as : List Addr} {ts : Prs} {p : Nat × Nat} (t : TL b l tl H as ts) (ha : H a = some (.lst (pV p))) (nl : a ≠ l) : TL b l tl (upd H tl (.lst (as.map V.ref ++ [.ref a]))) (as ++ [a]) (ts ++ [p]) := by
  have key : ∀ {c : Addr} {q : Nat × Nat}, H c = some (.lst (pV q)) → c ≠ tl := fun {c q} e z => by
    rw [z, t.h] at e
    have e2 : as.map V.ref = pV q := by
      have := Option.some.inj e
      injection this
    cases as with
    | nil => cases e2
    | cons x r => injection e2 with e2 _; cases e2
  refine ⟨by rw [upd_same, List.map_append]; rfl, ⟨by rw [List.length_append, List.length_append, t.ps.1]; rfl, fun i c q e1 e2 => ?_⟩, t.nb, t.nl, fun c hc => ?_⟩
  · by_cases hi : i < as.length
    · rw [List.getElem?_append_left hi] at e1
      rw [List.getElem?_append_left (by rw [← t.ps.1]; exact hi)] at e2
      have h1 := t.ps.2 i c q e1 e2
      rw [upd_ne (key h1)]; exact h1
    · have hil := lt_at e1
      rw [List.length_append] at hil
      have : i = as.length := by simp only [List.length_cons, List.length_nil] at hil; omega
      subst this
      rw [List.getElem?_append_right (Nat.le_refl _), Nat.sub_self] at e1
      rw [t.ps.1, List.getElem?_append_right (Nat.le_refl _), Nat.sub_self] at e2
      obtain rfl : a = c := Option.some.inj e1
      obtain rfl : p = q := Option.some.inj e2
      rw [upd_ne (key ha)]; exact ha
  · rcases List.mem_append.mp hc with z | z
    · exact t.na c z
    · rw [List.mem_singleton.mp z]; exact nl
theorem cnP {v : V} {t : TA} {σ : L2.St} {H : Hp} {Q : List V → Hp → Prop} (h : t σ H fun vs H2 => Q (v :: vs) H2) : tCons (tC v) t σ H Q := h
theorem ifG {t : TT} {A B : TS} {D : Ends} {σ : L2.St} {H : Hp} (G : Bool → Hp → Prop) (hq : ∀ c H1, G c H1 → if c = true then A D σ H1 else B D σ H1) (ht : (∀ c H1, G c H1 → if c = true then A D σ H1 else B D σ H1) → t σ H fun c H1 => if c = true then A D σ H1 else B D σ H1) : tIfS t A B D σ H := ht hq
noncomputable def spWeb : Sp := fun vs H Q _ => ∃ (b l : Addr) (k : Nat), vs = [.ref b, .int (k : Int)] ∧ DealO H b l ∧ 1 ≤ k ∧ k ≤ 12 ∧ ∀ (q tl : Addr) (as : List Addr) (ts : Prs) (n : Nat) H', Dl b l H H' → H' q = some (.tup [.int (n : Int), .ref tl]) → TL b l tl H' as ts → H tl = none → Wv n ts → n ≤ k → ts.length ≤ 15 → Q (.ref q) H'
structure Wb (b l tl : Addr) (n m : Nat) (H H' : Hp) (as : List Addr) (ts : Prs) : Prop where
  d : Dl b l H H'
  t : TL b l tl H' as ts
  f : H tl = none
  pr : ∀ p ∈ ts, p.1 < n ∧ p.2 < n ∧ p.1 ≠ p.2
  m : ts.length ≤ m
theorem Wb.dl {b l tl : Addr} {n m : Nat} {H H1 H2 : Hp} {as : List Addr} {ts : Prs} (w : Wb b l tl n m H H1 as ts) (d : Dl b l H1 H2) : Wb b l tl n m H H2 as ts := ⟨w.d.trans d, w.t.dl w.d.1 d, w.f, w.pr, w.m⟩
theorem Wb.same {b l tl : Addr} {n m : Nat} {H H1 H2 : Hp} {as : List Addr} {ts : Prs} (w : Wb b l tl n m H H1 as ts) (s : Same H1 H2) : Wb b l tl n m H H2 as ts := ⟨w.d.same s, w.t.same s, w.f, w.pr, w.m⟩
theorem Wb.snoc {b l tl a : Addr} {n m : Nat} {H H1 : Hp} {as : List Addr} {ts : Prs} {p : Nat × Nat} (w : Wb b l tl n m H H1 as ts) (ha : H1 a = some (.lst (pV p))) (nl : a ≠ l) (hp : p.1 < n ∧ p.2 < n ∧ p.1 ≠ p.2) : Wb b l tl n (m + 1) H (upd H1 tl (.lst (as.map V.ref ++ [.ref a]))) (as ++ [a]) (ts ++ [p]) :=
  ⟨w.d.put w.f w.t.nb w.t.nl, w.t.snoc ha nl, w.f, fun q hq => by
    rcases List.mem_append.mp hq with z | z
    · exact w.pr q z
    · rw [List.mem_singleton.mp z]; exact hp, by rw [List.length_append]; have := w.m; simp only [List.length_cons, List.length_nil]; omega⟩
theorem Wb.up {b l tl : Addr} {n m : Nat} {H H1 : Hp} {as : List Addr} {ts : Prs} (w : Wb b l tl n m H H1 as ts) : Wb b l tl n (m + 1) H H1 as ts := ⟨w.d, w.t, w.f, w.pr, Nat.le_succ_of_le w.m⟩
section
variable {P : Program} {w : World} {K : PySem.W.Frag} {mg : Str → Option Value} {base : Heap}
noncomputable abbrev nWb : List Str := ["_law_deal", "_law_most", "_law_many", "_law_ties", "_law_full", "_law_house", "_law_pair", "_law_turn", "_law_here"]
theorem scWb : FnScope nWb ["_law_deal", "_law_most"] (defScope sLWeb) := ⟨rfl, rfl, rfl, by decide +kernel, rfl, by decide +kernel, by decide +kernel⟩
theorem ok_web {f fA fO : Addr} {fd fdA fdO : FuncData} (D : Df K mg "_law_web" sLWeb ["_law_deal", "_law_most"] f fd) (DA : Df K mg "_law_any" sLAny ["_law_deal", "_law_bound"] fA fdA) (DO : Df K mg "_law_of" sLOf ["_law_deal", "_law_some"] fO fdO) (B : Bt mg)
    (GA : FnOk P w K mg base CX0 1 fA fdA ["_law_deal", "_law_bound"] spAny) (GO : FnOk P w K mg base CX0 2 fO fdO ["_law_deal", "_law_some"] spOf) : FnOk P w K mg base CX0 3 f fd ["_law_deal", "_law_most"] spWeb := by
  refine D.F.ok scWb (fun vs H Q E h => ?_) (fun cdv A outer s H vs Q E hr h => ?_)
  · obtain ⟨b, l, k, rfl, _⟩ := h
    rfl
  · obtain ⟨b, l, k, rfl, hb, k1, k12, q⟩ := h
    have r1 := hr.mono (show 1 ≤ 2 by decide)
    refine ⟨_, pss_cons (ps_par (i := 2) (j := 3) rfl scWb.nd rfl rfl (by decide) rfl rfl (pa_cons (pe_op op_add pe_int (pc DA GA r1 pass0 (pa_cons (pv 0) (pa_cons (pv 1) pa_nil)))) (pa_cons (pe_lst pa_nil) pa_nil)) rfl)
      (pss_cons (ps_set (i := 4) scWb.nd rfl (.inl rfl) (pe_cmpR op_gt (pc DA GA r1 pass0 (pa_cons (pv 0) (pa_cons pe_int pa_nil))) pe_int (nomark _)))
      (pss_cons (ps_for PassesOwn.never rfl (pi_range2 (by rfl) B.range (pa_cons pe_int (pa_cons (pv 2) pa_nil))) (pg_name (i := 5) scWb.nd rfl (.inl rfl))
        (pss_one (ps_if (PW.pt (pw_or (pt_val (pv 4)) (pw_or1 (pt_cmpR op_eq (pc DA GA r1 pass0 (pa_cons (pv 0) (pa_cons pe_int pa_nil))) pe_int (nomark _)))))
          (pss_cons (ps_set (i := 6) scWb.nd rfl (.inl rfl) (pe_lst (pa_cons (pc DO GO hr pass0 (pa_cons (pv 0) (pa_cons (pe_lst (pa_cons (pe_op op_sub (pv 5) pe_int) (pa_cons (pc DA GA r1 pass0 (pa_cons (pv 0) (pa_cons (pv 5) pa_nil))) pa_nil))) pa_nil))) (pa_cons (pv 5) pa_nil))))
          (pss_one (ps_expr (pe_bm PySem.F.plainAttrs_list PySem.F.slot_list_append PySem.F.type_list_append mt_append (pv 3) (pa_cons (pe_ifExp (pt_cmpR op_eq (pc DA GA r1 pass0 (pa_cons (pv 0) (pa_cons pe_int pa_nil))) pe_int (nomark _)) (pv 6) (pe_revL (pv 6))) pa_nil))))) pss_nil)))
      (pss_cons (ps_if (pt_cmpR op_gt (pv 2) pe_int (nomark _))
        (pss_one (ps_for PassesOwn.never rfl (pi_range1 (by rfl) B.range (pa_cons (pc DO GO hr pass0 (pa_cons (pv 0) (pa_cons (pe_lst (pa_cons pe_int (pa_cons pe_int (pa_cons pe_int (pa_cons pe_int (pa_cons pe_int (pa_cons pe_int pa_nil))))))) pa_nil))) pa_nil)) (pg_name (i := 7) scWb.nd rfl (.inl rfl))
          (pss_cons (ps_set (i := 8) scWb.nd rfl (.inl rfl) (pc DA GA r1 pass0 (pa_cons (pv 0) (pa_cons (pv 2) pa_nil))))
          (pss_one (ps_expr (pe_bm PySem.F.plainAttrs_list PySem.F.slot_list_append PySem.F.type_list_append mt_append (pv 3) (pa_cons (pe_lst (pa_cons (pv 8) (pa_cons (pe_op op_mod (pe_callTy call_int1 (by rfl) B.int PyProof.Rows.boot_int (pa_cons (pe_op op_add (pe_op op_add (pv 8) pe_int) (pc DA GA r1 pass0 (pa_cons (pv 0) (pa_cons (pe_op op_sub (pv 2) pe_int) pa_nil)))) pa_nil)) (pv 2)) pa_nil))) pa_nil))))))) pss_nil)
      (pss_one (ps_ret (pe_tup (pa_cons (pv 2) (pa_cons (pv 3) pa_nil)))))))), ?_⟩
    refine ⟨_, rfl, _, rfl, b, l, (k : Int), rfl, hb, by omega, by omega, fun r H1 r0 rn d1 => ?_⟩
    refine ⟨_, _, rfl, rfl, (by show 0 ≤ sizeLine; decide), fun tl htl => ?_⟩
    obtain ⟨n, en, hn1, hnk⟩ : ∃ n : Nat, 1 + r = (n : Int) ∧ 1 ≤ n ∧ n ≤ k := ⟨(1 + r).toNat, by omega, by omega, by omega⟩
    have W0 : Wb b l tl n 0 H (upd H1 tl (.lst [])) [] [] := ⟨d1.new htl, ⟨upd_same, ⟨rfl, fun i a t e => by cases e⟩, d1.1.nb htl, d1.1.nl htl, (fun a ha => nomatch ha)⟩, d1.free hb htl, (fun p hp => nomatch hp), Nat.le_refl _⟩
    generalize upd H1 tl (.lst []) = H2 at W0 ⊢
    refine nilP ⟨_, _, rfl, ?_⟩
    dsimp only [List.set]
    rw [en]
    refine ⟨_, rfl, b, l, 3, rfl, W0.d.1, by decide, by decide, fun f H3 f0 f1 d3 => ⟨_, _, rfl, rfl, ?_⟩⟩
    have W3 := W0.dl d3
    dsimp only [List.set]
    generalize decide (0 < f) = fb
    refine ⟨_, rfl, 1, (n : Int), rfl, ⟨by decide, by decide, by omega, by omega⟩, for_range (fun i σ H' => ∃ (as : List Addr) (ts : Prs) (v5 v6 v7 v8 : Option V), σ = [some (.ref b), some (.int (k : Int)), some (.int (n : Int)), some (.ref tl), some (.bl fb), v5, v6, v7, v8] ∧ Wb b l tl n i H H' as ts)
      ⟨[], [], none, none, none, none, rfl, W3⟩ ?_ ?_⟩
    · rintro i σ H4 hi ⟨as, ts, v5, v6, v7, v8, rfl, W4⟩
      refine gn ?_
      dsimp only [List.set]
      have hin : i + 1 < n := by omega
      have ei : (1 : Int) + (i : Int) = ((i + 1 : Nat) : Int) := by omega
      rw [ei]
      refine ifG (fun _ H5 => Dl b l H4 H5) (fun c H5 d5 => ?_) fun go => ⟨_, rfl, fb, rfl, ifD (fun _ => go true _ (.refl W4.d.1)) fun _ => ⟨_, rfl, b, l, 2, rfl, W4.d.1, by decide, by decide, fun r' H5 _ _ d5 => ⟨rfl, _, rfl, go _ _ d5⟩⟩⟩
      have W5 := W4.dl d5
      refine ifD (fun _ => ?_) fun _ => nxP ⟨as, ts, _, _, _, _, rfl, W5.up⟩
      refine ⟨_, rfl, _, rfl, _, _, rfl, rfl, _, rfl, _, rfl, b, l, ((i + 1 : Nat) : Int), rfl, W5.d.1, by omega, by omega, fun g H6 g0 g1 d6 => ?_⟩
      have W6 := W5.dl d6
      refine nilP ⟨(by show 2 ≤ sizeLine; decide), fun p2 hp2 => ?_⟩
      have W7 := W6.same (same_new (o := HO.lst [.int (((i + 1 : Nat) : Int) - 1), .int g]) hp2)
      have h2 : (upd H6 p2 (.lst [.int (((i + 1 : Nat) : Int) - 1), .int g])) p2 = some (.lst [.int (((i + 1 : Nat) : Int) - 1), .int g]) := upd_same
      have n2b := W6.d.1.nb hp2
      have n2l := W6.d.1.nl hp2
      generalize upd H6 p2 (.lst [.int (((i + 1 : Nat) : Int) - 1), .int g]) = H7 at W7 h2 ⊢
      refine nilP ⟨b, l, p2, _, rfl, W7.d.1, h2, n2b, n2l, (by simp), (by simp), fun j v H8 hj d8 => ?_⟩
      have W8 := W7.dl d8
      obtain ⟨rr, rfl, rr1⟩ : ∃ rr : Nat, v = .int (rr : Int) ∧ rr < i + 1 := by
        match j, hj with
        | 0, hj => exact ⟨i, by rw [← Option.some.inj hj]; congr 1; omega, by omega⟩
        | 1, hj => exact ⟨g.toNat, by rw [← Option.some.inj hj]; congr 1; omega, by omega⟩
        | (j + 2), hj => cases hj
      refine ⟨_, rfl, nilP ⟨(by show 2 ≤ sizeLine; decide), fun p6 hp6 => ?_⟩⟩
      have W9 := W8.same (same_new (o := HO.lst (pV (rr, i + 1))) hp6)
      have h6 : (upd H8 p6 (.lst (pV (rr, i + 1)))) p6 = some (.lst (pV (rr, i + 1))) := upd_same
      have n6l := W8.d.1.nl hp6
      have e6 : (HO.lst [V.int (rr : Int), .int ((i + 1 : Nat) : Int)]) = .lst (pV (rr, i + 1)) := rfl
      rw [e6]
      generalize upd H8 p6 (.lst (pV (rr, i + 1))) = H9 at W9 h6 ⊢
      dsimp only [List.set]
      refine ⟨_, rfl, .inl ⟨rfl, _, SqL.of W9.t.h⟩, _, rfl, b, l, 2, rfl, W9.d.1, by decide, by decide, fun y H10 _ _ d10 => ⟨rfl, _, rfl, ?_⟩⟩
      have W10 := W9.dl d10
      have h6' : H10 p6 = some (.lst (pV (rr, i + 1))) := d10.2 _ _ h6 (fun z => by
        obtain ⟨_, ns, w, _, e1, _⟩ := W9.d.1
        rw [z, e1] at h6; cases h6) n6l
      have lt : (as.map V.ref).length < sizeLine := by rw [List.length_map, W10.t.ps.1]; exact szl (by have := W10.m; omega)
      refine ifD (fun _ => ?_) fun _ => ?_
      · exact ⟨_, rfl, tl, _, .ref p6, rfl, rfl, W10.t.h, lt, as ++ [p6], ts ++ [(rr, i + 1)], _, _, _, _, rfl, W10.snoc h6' n6l ⟨by show rr < n; omega, by show i + 1 < n; omega, by show rr ≠ i + 1; omega⟩⟩
      · refine ⟨_, rfl, p6, _, rfl, SqL.of h6', fun p9 hp9 => ?_⟩
        have W11 := W10.same (same_new (o := HO.lst (pV (i + 1, rr))) hp9)
        have h9 : (upd H10 p9 (.lst (pV (i + 1, rr)))) p9 = some (.lst (pV (i + 1, rr))) := upd_same
        exact ⟨tl, _, .ref p9, rfl, rfl, W11.t.h, lt, as ++ [p9], ts ++ [(i + 1, rr)], _, _, _, _, rfl, W11.snoc h9 (W10.d.1.nl hp9) ⟨by show i + 1 < n; omega, by show rr < n; omega, by show i + 1 ≠ rr; omega⟩⟩
    · rintro σ H4 ⟨as, ts, v5, v6, v7, v8, rfl, W4⟩
      have fin : ∀ (as : List Addr) (ts : Prs) (m : Nat) (v5 v6 v7 v8 : Option V) (H5 : Hp), m ≤ 15 → Wb b l tl n m H H5 as ts → (tRet (tTup (tCons (tVar 2) (tCons (tVar 3) tNil)))) { nx := fun _ H' => Q .non H', rt := Q } [some (.ref b), some (.int (k : Int)), some (.int (n : Int)), some (.ref tl), some (.bl fb), v5, v6, v7, v8] H5 := fun as ts m v5 v6 v7 v8 H5 hm W5 => by
        refine ⟨_, rfl, _, rfl, (by show 2 ≤ sizeLine; decide), fun p hp => ?_⟩
        have W6 := W5.same (same_new (o := HO.tup [.int (n : Int), .ref tl]) hp)
        exact q p tl as ts n _ W6.d upd_same W6.t W6.f ⟨by omega, by omega, by have := W6.m; omega, W6.pr⟩ hnk (Nat.le_trans W6.m hm)
      refine ⟨_, rfl, _, _, rfl, rfl, _, rfl, ifD (fun e => ?_) fun e => nxP (fin _ _ _ _ _ _ _ _ (by omega) W4)⟩
      have hn : 1 < (n : Int) := by simpa using e
      refine ⟨_, rfl, (by show 6 ≤ sizeLine; decide), fun p2 hp2 => ?_⟩
      have W5 := W4.same (same_new (o := HO.lst [.int 0, .int 0, .int 1, .int 1, .int 2, .int 3]) hp2)
      have h2 : (upd H4 p2 (.lst [.int 0, .int 0, .int 1, .int 1, .int 2, .int 3])) p2 = some (.lst [.int 0, .int 0, .int 1, .int 1, .int 2, .int 3]) := upd_same
      have n2b := W4.d.1.nb hp2
      have n2l := W4.d.1.nl hp2
      generalize upd H4 p2 (.lst [.int 0, .int 0, .int 1, .int 1, .int 2, .int 3]) = H5 at W5 h2 ⊢
      refine nilP ⟨b, l, p2, _, rfl, W5.d.1, h2, n2b, n2l, (by simp), (by simp), fun j v H6 hj d6 => ?_⟩
      have W6 := W5.dl d6
      obtain ⟨x, rfl, x3⟩ : ∃ x : Nat, v = .int (x : Int) ∧ x ≤ 3 := by
        match j, hj with
        | 0, hj => exact ⟨0, (Option.some.inj hj).symm, by decide⟩
        | 1, hj => exact ⟨0, (Option.some.inj hj).symm, by decide⟩
        | 2, hj => exact ⟨1, (Option.some.inj hj).symm, by decide⟩
        | 3, hj => exact ⟨1, (Option.some.inj hj).symm, by decide⟩
        | 4, hj => exact ⟨2, (Option.some.inj hj).symm, by decide⟩
        | 5, hj => exact ⟨3, (Option.some.inj hj).symm, by decide⟩
        | (j + 6), hj => cases hj
      refine nilP ⟨_, rfl, by omega, by omega, for_range (fun i σ H' => ∃ (as : List Addr) (ts : Prs) (v5 v6 v7 v8 : Option V), σ = [some (.ref b), some (.int (k : Int)), some (.int (n : Int)), some (.ref tl), some (.bl fb), v5, v6, v7, v8] ∧ Wb b l tl n (n + i) H H' as ts)
        ⟨as, ts, _, _, _, _, rfl, W6.d, W6.t, W6.f, W6.pr, by have := W6.m; omega⟩ ?_ ?_⟩
      · rintro i σ H7 hi ⟨as, ts, v5, v6, v7, v8, rfl, W7⟩
        refine gn ?_
        dsimp only [List.set]
        refine ⟨_, rfl, _, rfl, b, l, (n : Int), rfl, W7.d.1, by omega, by omega, fun h H8 h0 h1 d8 => ?_⟩
        have W8 := W7.dl d8
        dsimp only [List.set]
        refine ⟨_, rfl, .inl ⟨rfl, _, SqL.of W8.t.h⟩, _, rfl, _, rfl, _, _, rfl, rfl, _, rfl, _, rfl, _, _, rfl, rfl, b, l, (n : Int) - 1, rfl, W8.d.1, by omega, by omega, fun g H9 g0 g1 d9 => ?_⟩
        have W9 := W8.dl d9
        refine ⟨_, _, rfl, rfl, .inl ⟨_, rfl, _, rfl, _, _, rfl, rfl, by omega, (by show 2 ≤ sizeLine; decide), fun p hp => ?_⟩⟩
        obtain ⟨hh, eh⟩ : ∃ hh : Nat, h = (hh : Int) := ⟨h.toNat, by omega⟩
        obtain ⟨oo, eo, ol, on⟩ : ∃ oo : Nat, (h + 1 + g) % (n : Int) = (oo : Int) ∧ oo < n ∧ oo ≠ hh := by
          have m0 := Int.emod_nonneg (h + 1 + g) (show (n : Int) ≠ 0 by omega)
          have m1 := Int.emod_lt_of_pos (h + 1 + g) (show (0 : Int) < n by omega)
          refine ⟨((h + 1 + g) % (n : Int)).toNat, by omega, by omega, fun z => ?_⟩
          have z' : (h + 1 + g) % (n : Int) = h := by omega
          have : (1 + g) % (n : Int) = 0 := by
            have e1 : (h + 1 + g) = h + (1 + g) := by omega
            rw [e1] at z'
            have e2 : ((h + (1 + g)) - h) % (n : Int) = 0 := by
              rw [Int.sub_emod, z', Int.emod_eq_of_lt h0 h1, Int.sub_self]; rfl
            rwa [show (h + (1 + g)) - h = 1 + g by omega] at e2
          rw [Int.emod_eq_of_lt (by omega) (by omega)] at this
          omega
        have ee : (HO.lst [V.int h, .int ((h + 1 + g) % (n : Int))]) = .lst (pV (hh, oo)) := by rw [eo, eh]; rfl
        show tNil _ (upd H9 p (HO.lst [V.int h, .int ((h + 1 + g) % (n : Int))])) _
        rw [ee]
        have W10 := W9.same (same_new (o := HO.lst (pV (hh, oo))) hp)
        have hpp : (upd H9 p (.lst (pV (hh, oo)))) p = some (.lst (pV (hh, oo))) := upd_same
        have npl := W9.d.1.nl hp
        generalize upd H9 p (.lst (pV (hh, oo))) = H10 at W10 hpp ⊢
        refine nilP ⟨tl, _, .ref p, rfl, rfl, W10.t.h, by rw [List.length_map, W10.t.ps.1]; exact szl (by have := W10.m; omega), as ++ [p], ts ++ [(hh, oo)], _, _, _, _, rfl, W10.snoc hpp npl ⟨by show hh < n; omega, ol, fun z => on z.symm⟩⟩
      · rintro σ H7 ⟨as, ts, v5, v6, v7, v8, rfl, W7⟩
        exact fin _ _ _ _ _ _ _ _ (by omega) W7
end
end K1
namespace K1
open PySem PySem.Spec PyProof.Rows L2
noncomputable def dPr (t : Nat × Nat) : List PyData := [.int (t.1 : Int), .int (t.2 : Int)]
theorem PrsL.dp {K : PySem.W.Frag} {H : Hp} : ∀ {as : List Addr} {ts : Prs}, PrsL H as ts → DpAll K H (as.map V.ref) (ts.map fun t => .list (dPr t))
  | [], [], _ => .nil
  | a :: as, t :: ts, h => .cons (.lst (SqL.of (h.2 0 a t rfl rfl)) (.cons (.int _) (.cons (.int _) .nil))) (PrsL.dp (as := as) (ts := ts) ⟨by have := h.1; simpa using this, fun i a t e1 e2 => h.2 (i + 1) a t e1 e2⟩)
  | [], _ :: _, h => by cases h.1
  | _ :: _, [], h => by cases h.1
theorem layPr : ∀ ts : Prs, PyData.canLayAll0 (ts.map fun t => .list (dPr t)) = true
  | [] => rfl
  | t :: r => by
    show (PyData.canLay0 (.list (dPr t)) && PyData.canLayAll0 (r.map fun t => .list (dPr t))) = true
    rw [layPr r]; rfl
theorem depPr : ∀ ts : Prs, PyData.depthAll (ts.map fun t => .list (dPr t)) ≤ 1
  | [] => Nat.zero_le _
  | t :: r => by
    show max (PyData.depth (.list (dPr t))) (PyData.depthAll (r.map fun t => .list (dPr t))) ≤ 1
    have := depPr r
    have h1 : PyData.depth (.list (dPr t)) = 1 := by
      show max 0 (max 0 0) + 1 = 1
      rfl
    rw [h1]
    omega
theorem shPr (ts : Prs) : SeqAt.shaped (.list (ts.map fun t => .list (dPr t))) = true := by
  unfold SeqAt.shaped
  rw [show PyData.canLay0 (.list (ts.map fun t => .list (dPr t))) = true from layPr ts]
  have : PyData.depth (.list (ts.map fun t => .list (dPr t))) ≤ 64 := by
    show PyData.depthAll (ts.map fun t => .list (dPr t)) + 1 ≤ 64
    have := depPr ts
    omega
  rw [decide_eq_true this]; rfl
theorem eqPr (ts : Prs) : PyData.eqv (.list (ts.map fun t => .list (dPr t))) (.list []) = decide (ts = []) := by
  cases ts with
  | nil => rfl
  | cons t r => rfl
theorem eqNil {K : PySem.W.Frag} {H : Hp} {tl e : Addr} {as : List Addr} {ts : Prs} {Q : VK} (h : H tl = some (.lst (as.map V.ref))) (hp : PrsL H as ts) (he : H e = some (.lst [])) (q : Q (.bl (decide (ts = []))) H) : rEqD K (.ref tl) (.ref e) H Q :=
  ⟨_, .list [], .lst (SqL.of h) hp.dp, .lst (SqL.of he) .nil, shPr ts, rfl, qbl (eqPr ts) q⟩
structure SL (b l p : Addr) (H : Hp) (cs : List Addr) (ss : List Stp) : Prop where
  h : H p = some (.lst (cs.map V.ref))
  ps : StpsA H cs ss
  nb : p ≠ b
  nl : p ≠ l
theorem SL.dl {b l p : Addr} {H H' : Hp} {cs : List Addr} {ss : List Stp} (t : SL b l p H cs ss) (hb : DealO H b l) (d : Dl b l H H') : SL b l p H' cs ss := by
  obtain ⟨_, ns, w, _, h2, h3⟩ := hb
  exact ⟨d.2 _ _ t.h t.nb t.nl, ⟨t.ps.1, fun i a s e1 e2 => d.2 _ _ (t.ps.2 i a s e1 e2) (fun z => by have := t.ps.2 i a s e1 e2; rw [z, h2] at this; cases this) (fun z => by have := t.ps.2 i a s e1 e2; rw [z, h3] at this; cases this)⟩, t.nb, t.nl⟩
theorem SL.same {b l p : Addr} {H H' : Hp} {cs : List Addr} {ss : List Stp} (t : SL b l p H cs ss) (s : Same H H') : SL b l p H' cs ss := ⟨s _ _ t.h, t.ps.same s, t.nb, t.nl⟩
theorem StpsA.snoc {H H' : Hp} {cs : List Addr} {ss : List Stp} {a : Addr} {s : Stp} (t : StpsA H cs ss) (k : ∀ (c : Addr) xs, H c = some (.tup xs) → H' c = some (.tup xs)) (ha : H a = some (.tup (stV s))) : StpsA H' (cs ++ [a]) (ss ++ [s]) := by
  refine ⟨by rw [List.length_append, List.length_append, t.1]; rfl, fun i c q e1 e2 => ?_⟩
  by_cases hi : i < cs.length
  · rw [List.getElem?_append_left hi] at e1
    rw [List.getElem?_append_left (by rw [← t.1]; exact hi)] at e2
    exact k _ _ (t.2 i c q e1 e2)
  · have hil := lt_at e1
    rw [List.length_append] at hil
    have : i = cs.length := by simp only [List.length_cons, List.length_nil] at hil; omega
    subst this
    rw [List.getElem?_append_right (Nat.le_refl _), Nat.sub_self] at e1
    rw [t.1, List.getElem?_append_right (Nat.le_refl _), Nat.sub_self] at e2
    obtain rfl : a = c := Option.some.inj e1
    obtain rfl : s = q := Option.some.inj e2
    exact k _ _ ha
theorem keepT {H : Hp} {p : Addr} {xs ys : List V} (h : H p = some (.lst xs)) (c : Addr) (zs : List V) (e : H c = some (.tup zs)) : (upd H p (.lst ys)) c = some (.tup zs) := by
  rw [upd_ne (fun z => by rw [z, h] at e; cases e)]; exact e
theorem SL.snoc {b l p a : Addr} {H : Hp} {cs : List Addr} {ss : List Stp} {s : Stp} (t : SL b l p H cs ss) (ha : H a = some (.tup (stV s))) : SL b l p (upd H p (.lst (cs.map V.ref ++ [.ref a]))) (cs ++ [a]) (ss ++ [s]) :=
  ⟨by rw [upd_same, List.map_append]; rfl, t.ps.snoc (keepT t.h) ha, t.nb, t.nl⟩
theorem tp1 {v : V} {t : TA} {σ : L2.St} {H : Hp} {Q : List V → Hp → Prop} (h : t σ H fun vs H1 => (v :: vs).length ≤ sizeLine ∧ ∀ p, H1 p = none → tNil σ (upd H1 p (.tup (v :: vs))) fun xs H2 => Q (.ref p :: xs) H2) : tCons (tTup (tCons (tC v) t)) tNil σ H Q := h
noncomputable def spLSteps : Sp := fun vs H Q _ => ∃ (b l tl : Addr) (as : List Addr) (ts : Prs) (n d m : Nat), vs = [.ref b, .int (n : Int), .ref tl, .int (d : Int), .int (m : Int)] ∧ DealO H b l ∧ TL b l tl H as ts ∧ 1 ≤ n ∧ n ≤ 1000 ∧ 1 ≤ d ∧ d ≤ 1000 ∧ m ≤ 1000 ∧
  ∀ p cs ss H', Dl b l H H' → H p = none → SL b l p H' cs ss → (∀ s ∈ ss, okS n ts.length d s) → ss.length ≤ m → Q (.ref p) H'
section
variable {P : Program} {w : World} {K : PySem.W.Frag} {mg : Str → Option Value} {base : Heap}
noncomputable abbrev nLS : List Str := ["_law_deal", "_law_many", "_law_ties", "_law_deeds", "_law_length", "_law_found", "_law_at", "_law_turn"]
theorem scLS : FnScope nLS ["_law_deal", "_law_many", "_law_ties", "_law_deeds", "_law_length"] (defScope sLSteps) := ⟨rfl, rfl, rfl, by decide +kernel, rfl, by decide +kernel, by decide +kernel⟩
theorem ok_lsteps {f fA : Addr} {fd fdA : FuncData} (D : Df K mg "_law_steps" sLSteps ["_law_deal", "_law_many", "_law_ties", "_law_deeds", "_law_length"] f fd) (DA : Df K mg "_law_any" sLAny ["_law_deal", "_law_bound"] fA fdA) (B : Bt mg)
    (GA : FnOk P w K mg base CX0 1 fA fdA ["_law_deal", "_law_bound"] spAny) : FnOk P w K mg base CX0 2 f fd ["_law_deal", "_law_many", "_law_ties", "_law_deeds", "_law_length"] spLSteps := by
  refine D.F.ok scLS (fun vs H Q E h => ?_) (fun cdv A outer s H vs Q E hr h => ?_)
  · obtain ⟨b, l, tl, as, ts, n, d, m, rfl, _⟩ := h
    rfl
  · obtain ⟨b, l, tl, as, ts, n, d, m, rfl, hb, hT, n1, nb, d1, db, hm, q⟩ := h
    have hu := hr.units
    refine ⟨_, pss_cons (ps_par (i := 5) (j := 6) rfl scLS.nd rfl rfl (by decide) rfl rfl (pa_cons (pe_lst pa_nil) (pa_cons (pc DA GA hr pass0 (pa_cons (pv 0) (pa_cons pe_int pa_nil))) pa_nil)) rfl)
      (pss_cons (ps_for PassesOwn.never rfl (pi_range1 (by rfl) B.range (pa_cons (pv 4) pa_nil)) (pg_name (i := 7) scLS.nd rfl (.inl rfl))
        (pss_one (ps_if (PW.pt (pw_or (pt_cmpR (eqD (K := K) rfl hu) (pv 2) (pe_lst pa_nil) (nomark _)) (pw_or1 (pt_cmpR op_eq (pc DA GA hr pass0 (pa_cons (pv 0) (pa_cons pe_int pa_nil))) pe_int (nomark _)))))
          (pss_one (ps_expr (pe_bm PySem.F.plainAttrs_list PySem.F.slot_list_append PySem.F.type_list_append mt_append (pv 5) (pa_cons (pe_tup (pa_cons pe_str (pa_cons (pc DA GA hr pass0 (pa_cons (pv 0) (pa_cons (pv 1) pa_nil))) (pa_cons (pc DA GA hr pass0 (pa_cons (pv 0) (pa_cons (pv 3) pa_nil))) pa_nil)))) pa_nil))))
          (pss_cons (ps_set (i := 6) scLS.nd rfl (.inl rfl) (pe_ifExp (pt_cmpR op_gt (pc DA GA hr pass0 (pa_cons (pv 0) (pa_cons pe_int pa_nil))) pe_int (nomark _)) (pe_op op_add (pv 6) pe_int) (pc DA GA hr pass0 (pa_cons (pv 0) (pa_cons pe_int pa_nil)))))
          (pss_one (ps_expr (pe_bm PySem.F.plainAttrs_list PySem.F.slot_list_append PySem.F.type_list_append mt_append (pv 5) (pa_cons (pe_tup (pa_cons pe_str (pa_cons (pe_op op_mod (pe_callTy call_int1 (by rfl) B.int PyProof.Rows.boot_int (pa_cons (pv 6) pa_nil)) (pe_callB call_len_seq (by rfl) B.len PySem.boot_len (pa_cons (pv 2) pa_nil))) pa_nil))) pa_nil))))))))
      (pss_one (ps_ret (pv 5)))), ?_⟩
    refine ⟨(by show 0 ≤ sizeLine; decide), fun p hp => ?_⟩
    have s1 := same_new (o := HO.lst []) hp
    refine ⟨_, rfl, b, l, 20, rfl, hb.same s1, by decide, by decide, fun a H2 a0 a1 d2 => ⟨_, _, rfl, ?_⟩⟩
    dsimp only [List.set]
    have S0 : Dl b l H H2 ∧ SL b l p H2 [] [] := ⟨Same.dl s1 d2, SL.dl ⟨upd_same, ⟨rfl, fun i a s e => by cases e⟩, hb.nb hp, hb.nl hp⟩ (hb.same s1) d2⟩
    refine ⟨_, rfl, (m : Int), rfl, by omega, by omega, for_range (fun i σ H' => ∃ (cs : List Addr) (ss : List Stp) (at_ : Int) (v7 : Option V), σ = [some (.ref b), some (.int (n : Int)), some (.ref tl), some (.int (d : Int)), some (.int (m : Int)), some (.ref p), some (.int at_), v7] ∧ (Dl b l H H' ∧ SL b l p H' cs ss) ∧ (∀ s ∈ ss, okS n ts.length d s) ∧ ss.length ≤ i)
      ⟨[], [], a, none, rfl, S0, (fun s hs => nomatch hs), Nat.le_refl _⟩ ?_ ?_⟩
    · rintro i σ H3 hi ⟨cs, ss, at_, v7, rfl, ⟨d3, S3⟩, ok3, l3⟩
      refine gn ?_
      dsimp only [List.set]
      have T3 := hT.dl hb d3
      have lt : ∀ {cs : List Addr} {ss : List Stp} {H' : Hp}, SL b l p H' cs ss → ss.length ≤ i → (cs.map V.ref).length < sizeLine := fun {cs ss H'} S h => by rw [List.length_map, S.ps.1]; exact szl (by omega)
      refine ifG (fun c H5 => (c = false → ts ≠ []) ∧ Dl b l H3 H5) (fun c H5 d5 => ?_) fun go => ⟨_, rfl, (by show 0 ≤ sizeLine; decide), fun e he => eqNil (same_new he _ _ T3.h) (T3.ps.same (same_new he)) upd_same ⟨_, rfl, ?_⟩⟩
      · obtain ⟨cn, d5⟩ := d5
        have S5 := S3.dl d3.1 d5
        have D5 := d3.trans d5
        have T5 := T3.dl d3.1 d5
        refine ifD (fun _ => ?_) fun e => ?_
        · refine ⟨_, rfl, .inl ⟨rfl, _, SqL.of S5.h⟩, ?_⟩
          refine tp1 ⟨_, rfl, _, rfl, b, l, (n : Int), rfl, D5.1, by omega, by omega, fun h H6 h0 h1 d6 => ?_⟩
          refine ⟨_, rfl, _, rfl, b, l, (d : Int), rfl, d6.1, by omega, by omega, fun g H7 g0 g1 d7 => ⟨(by show 3 ≤ sizeLine; decide), fun a7 ha7 => ?_⟩⟩
          obtain ⟨h, rfl⟩ : ∃ k : Nat, h = (k : Int) := ⟨h.toNat, by omega⟩
          obtain ⟨g, rfl⟩ : ∃ k : Nat, g = (k : Int) := ⟨g.toNat, by omega⟩
          have D7 := (D5.trans d6).trans d7
          have S7 := (S5.dl D5.1 d6).dl d6.1 d7
          have S8 := S7.same (same_new (o := HO.tup (stV (.dd h g))) ha7)
          have h8 : (upd H7 a7 (.tup (stV (.dd h g)))) a7 = some (.tup (stV (.dd h g))) := upd_same
          have D8 := D7.new (o := HO.tup (stV (.dd h g))) ha7
          change tNil _ (upd H7 a7 (.tup (stV (.dd h g)))) _
          generalize upd H7 a7 (.tup (stV (.dd h g))) = H8 at S8 h8 D8 ⊢
          exact nilP ⟨p, _, .ref a7, rfl, rfl, S8.h, lt S8 l3, cs ++ [a7], ss ++ [.dd h g], at_, _, rfl, ⟨D8.put hp S8.nb S8.nl, S8.snoc h8⟩, fun s hs => (List.mem_append.mp hs).elim (ok3 s) (fun z => by rw [List.mem_singleton.mp z]; exact ⟨by omega, by omega⟩), by rw [List.length_append]; simp only [List.length_cons, List.length_nil]; omega⟩
        · have hne := cn e
          have tl0 : 0 < ts.length := by
            cases ts with
            | nil => exact (hne rfl).elim
            | cons t r => simp
          have fin : ∀ (z : Int) (H6 : Hp), Dl b l H5 H6 → (tDrop (tBM K "list" rAppend (tVar 5) (tCons (tTup (tCons (tC (.str "meet")) (tCons (tOp (rI (fun _ j => 0 < j) fun i j => V.int (i % j)) (tCB (fun xs H Q => (∃ i, xs = [V.int i] ∧ Q (V.int i) H) ∨ ∃ k, xs = [V.bl k] ∧ Q (V.int (if k = true then 1 else 0)) H) (tCons (tVar 6) tNil)) (tCB (rLenK K) (tCons (tVar 2) tNil))) tNil))) tNil)))
              { nx := (fun σ H' => ∃ (cs : List Addr) (ss : List Stp) (at_ : Int) (v7 : Option V), σ = [some (.ref b), some (.int (n : Int)), some (.ref tl), some (.int (d : Int)), some (.int (m : Int)), some (.ref p), some (.int at_), v7] ∧ (Dl b l H H' ∧ SL b l p H' cs ss) ∧ (∀ s ∈ ss, okS n ts.length d s) ∧ ss.length ≤ i + 1), rt := Q }
              [some (.ref b), some (.int (n : Int)), some (.ref tl), some (.int (d : Int)), some (.int (m : Int)), some (.ref p), some (.int z), some (.int (0 + (i : Int)))] H6 := fun z H6 d6 => by
            have S6 := S5.dl D5.1 d6
            have D6 := D5.trans d6
            have T6 := T5.dl D5.1 d6
            refine ⟨_, rfl, .inl ⟨rfl, _, SqL.of S6.h⟩, ?_⟩
            have z0 := Int.emod_nonneg z (show (ts.length : Int) ≠ 0 by omega)
            have z1 := Int.emod_lt_of_pos z (show (0 : Int) < (ts.length : Int) by omega)
            have el : ((as.map V.ref).length : Int) = (ts.length : Int) := by rw [List.length_map, T6.ps.1]
            refine tp1 ⟨_, rfl, .inl ⟨_, rfl, _, rfl, tl, _, rfl, .inl (SqL.of T6.h), _, _, rfl, rfl, by rw [el]; omega, (by show 2 ≤ sizeLine; decide), fun a7 ha7 => ?_⟩⟩
            obtain ⟨k, ek, kl⟩ : ∃ k : Nat, z % (ts.length : Int) = (k : Int) ∧ k < ts.length := ⟨(z % (ts.length : Int)).toNat, by omega, by omega⟩
            have ee : (HO.tup [V.str "meet", .int (z % ((as.map V.ref).length : Int))]) = .tup (stV (.mt k)) := by rw [el, ek]; rfl
            show tNil _ (upd H6 a7 (HO.tup [V.str "meet", .int (z % ((as.map V.ref).length : Int))])) _
            rw [ee]
            have S8 := S6.same (same_new (o := HO.tup (stV (.mt k))) ha7)
            have h8 : (upd H6 a7 (.tup (stV (.mt k)))) a7 = some (.tup (stV (.mt k))) := upd_same
            have D8 := D6.new (o := HO.tup (stV (.mt k))) ha7
            generalize upd H6 a7 (.tup (stV (.mt k))) = H8 at S8 h8 D8 ⊢
            exact nilP ⟨p, _, .ref a7, rfl, rfl, S8.h, lt S8 l3, cs ++ [a7], ss ++ [.mt k], z, _, rfl, ⟨D8.put hp S8.nb S8.nl, S8.snoc h8⟩, fun s hs => (List.mem_append.mp hs).elim (ok3 s) (fun z => by rw [List.mem_singleton.mp z]; exact kl), by rw [List.length_append]; simp only [List.length_cons, List.length_nil]; omega⟩
          refine ⟨_, rfl, b, l, 3, rfl, D5.1, by decide, by decide, fun f H6 _ _ d6 => ⟨_, _, rfl, rfl, _, rfl, ifD (fun _ => ?_) fun _ => ?_⟩⟩
          · refine ⟨_, rfl, _, _, rfl, rfl, ?_⟩
            refine gn ?_
            dsimp only [List.set]
            exact fin _ _ d6
          · refine ⟨_, rfl, b, l, 20, rfl, d6.1, by decide, by decide, fun g H7 _ _ d7 => ?_⟩
            refine gn ?_
            dsimp only [List.set]
            exact fin _ _ (d6.trans d7)
      · have dn : Dl b l H3 (upd H3 e (.lst [])) := (Dl.refl d3.1).new he
        refine ifD (fun _ => go true _ ⟨fun z => (by cases z), dn⟩) fun e2 => ?_
        have hne : ts ≠ [] := by simpa using e2
        exact ⟨_, rfl, b, l, 3, rfl, dn.1, by decide, by decide, fun r' H5 _ _ d5 => ⟨rfl, _, rfl, go _ _ ⟨fun _ => hne, dn.trans d5⟩⟩⟩
    · rintro σ H3 ⟨cs, ss, at_, v7, rfl, ⟨d3, S3⟩, ok3, l3⟩
      exact ⟨_, rfl, q p cs ss H3 d3 hp S3 ok3 (by simpa using l3)⟩
end
end K1
namespace ZM
open PySem PySem.Spec PyProof.Rows L2
noncomputable def Sq (t : Bool) (K : PySem.W.Frag) (H : Hp) (a : Addr) (xs : List V) : Prop := match t with | true => SqT K H a xs | false => SqL K H a xs
noncomputable def itOf (t : Bool) (h : Heap) (i l : Addr) (k : Nat) : Prop := match t with | true => h.IsTupleIter i l k | false => h.IsListIter i l k
noncomputable def seqOf (t : Bool) (h : Heap) (l : Addr) (xs : Array Value) : Prop := match t with | true => h.IsTuple l xs | false => h.IsList l xs
theorem drawsM {prog : Program} {w : World} {A : Around} (t : Bool) (hh : A.handled = none) (it l : Addr) (hne : l ≠ it) (items : Array Value) :
    Draws prog w A it [it, l] items.size (fun i v => items[i]? = some v) (fun i h => itOf t h it l i ∧ seqOf t h l items) := match t with
  | true => Draws.tuple hh it l hne items
  | false => Draws.list hh it l hne items
theorem itOf.obj {t : Bool} {h : Heap} {i l : Addr} {k : Nat} (x : itOf t h i l k) : ∃ o, h.get? i = some o ∧ ∀ v, o.data ≠ .cell v := by
  cases t <;> (obtain ⟨o, e, _, d⟩ := x; exact ⟨o, e, fun v q => by rw [d] at q; cases q⟩)
theorem itOf.at {t : Bool} {h h' : Heap} {i l : Addr} {k : Nat} (x : itOf t h i l k) (m : ∀ o, h.get? i = some o → h'.get? i = some o) : itOf t h' i l k := by
  cases t
  · exact Heap.IsListIter.at x m
  · exact Heap.IsTupleIter.at x m
theorem Sq.real {X : Cx} {pins : List (Addr × Obj)} {σ : L2.St} {H : Hp} {s : Shared} {t : Bool} {a : Addr} {xs : List V} (I : Inv X pins σ H s) (q : Sq t X.K H a xs) : ∃ its, Vals xs its ∧ seqOf t s.heap a its.toArray ∧ a < s.heap.objs.size := by
  cases t
  · obtain ⟨its, rv, p, _⟩ := I.list q
    exact ⟨its, rv, p.isList, p.lt⟩
  · obtain ⟨its, rv, p, _⟩ := I.tuple q
    obtain ⟨o, ho, _⟩ := id p
    exact ⟨its, rv, p, Heap.lt_size ho⟩
theorem Sq.inj {X : Cx} {pins : List (Addr × Obj)} {σ : L2.St} {H : Hp} {s : Shared} {t : Bool} {a : Addr} {xs ys : List V} (I : Inv X pins σ H s) (q : Sq t X.K H a xs) (q2 : Sq t X.K H a ys) : xs = ys := by
  cases t
  · exact I.list_inj q q2
  · exact I.tuple_inj q q2
noncomputable def ItzM (K : PySem.W.Frag) (t1 t2 : Bool) (a b : Addr) : It :=
  ⟨fun i H => ∃ (xs ys : List V) (x y : V), Sq t1 K H a xs ∧ Sq t2 K H b ys ∧ xs[i]? = some x ∧ ys[i]? = some y,
    fun i H v H' => ∃ T x y, v = .ref T ∧ H T = none ∧ H' = upd H T (.tup [x, y]) ∧ (∀ xs, Sq t1 K H a xs → xs[i]? = some x) ∧ ∀ ys, Sq t2 K H b ys → ys[i]? = some y,
    fun i H => ∃ xs ys : List V, Sq t1 K H a xs ∧ Sq t2 K H b ys ∧ i ≤ xs.length ∧ i ≤ ys.length ∧ (i = xs.length ∨ i = ys.length)⟩
theorem zlt {h : Heap} {c : Addr} {o : Obj} (e : h.get? c = some o) : c ≠ h.objs.size := Nat.ne_of_lt (Heap.lt_size e)
structure Sep (z TI TO i1 i2 a b : Addr) : Prop extends ZipSep2 z TI TO i1 i2 [i1, a] [i2, b] where
  na : a ≠ i1
  nb : b ≠ i2
  n1 : i1 ≠ z
  n2 : i2 ≠ z
theorem turnM {P : Program} {w : World} {K : PySem.W.Frag} {elts : List Expr} {kk : Nat} {tpos : Pos} {a b z TI TO i1 i2 : Addr} (t1 t2 : Bool) (S : Sep z TI TO i1 i2 a b) :
    Turn P w K (.Tuple elts kk tpos) (ItzM K t1 t2 a b) [z, TI, TO, i1, i2] z (fun i h => IsZip h z TI TO .none ∧ IsTupOf2 h TI (.ref i1) (.ref i2) ∧ (∃ x y, IsTupOf2 h TO x y) ∧ itOf t1 h i1 a i ∧ itOf t2 h i2 b i) where
  mem := by simp
  obj := fun i h st c hc => by
    obtain ⟨hz, hTI, ⟨x, y, hTO⟩, h1, h2⟩ := st
    simp only [List.mem_cons, List.mem_nil_iff, or_false] at hc
    rcases hc with rfl | rfl | rfl | rfl | rfl
    · exact ⟨_, hz, fun v q => nomatch q⟩
    · exact ⟨_, hTI, fun v q => nomatch q⟩
    · exact ⟨_, hTO, fun v q => nomatch q⟩
    · exact h1.obj
    · exact h2.obj
  keep := fun i h h' st k => by
    obtain ⟨hz, hTI, ⟨x, y, hTO⟩, h1, h2⟩ := st
    exact ⟨k _ (by simp) _ hz, k _ (by simp) _ hTI, ⟨x, y, k _ (by simp) _ hTO⟩, h1.at fun o q => k _ (by simp) o q, h2.at fun o q => k _ (by simp) o q⟩
  item := by
    intro X hP hw hK hc i pins s σ H E I hf st hg
    subst hP hw hK
    obtain ⟨hz, hTI, ⟨x0, y0, hTO⟩, h1, h2⟩ := st
    obtain ⟨xs, ys, x, y, hqx, hqy, hx, hy⟩ := hg
    obtain ⟨its, rv, p, _⟩ := hqx.real I
    obtain ⟨its2, rv2, p2, _⟩ := hqy.real I
    obtain ⟨u, hu, ru⟩ := rv.get hx
    obtain ⟨u2, hu2, ru2⟩ := rv2.get hy
    have l1 : i < its.toArray.size := by simpa using (List.getElem?_eq_some_iff.mp hu).1
    have l2 : i < its2.toArray.size := by simpa using (List.getElem?_eq_some_iff.mp hu2).1
    have d1 := drawsM (prog := X.prog) (w := X.w) (A := X.A.in1) t1 (I.ok.hd hc) i1 a S.na its.toArray
    have d2 := drawsM (prog := X.prog) (w := X.w) (A := X.A.in1) t2 (I.ok.hd hc) i2 b S.nb its2.toArray
    refine wpAny_pyNext_zipD2_item S.toZipSep2 d1 d2 hz hTI hTO ⟨h1, p⟩ ⟨h2, p2⟩ l1 l2 fun v1 v2 h' tk e1 e2 z' TO' s1' s2' hT hsz hk => ?_
    obtain rfl : u = v1 := by
      have q : its[i]? = some v1 := by simpa using e1
      exact Option.some.inj (hu.symm.trans q)
    obtain rfl : u2 = v2 := by
      have q : its2[i]? = some v2 := by simpa using e2
      exact Option.some.inj (hu2.symm.trans q)
    refine ⟨_, rfl, wpAny_letOwnedTupleGo_zip (s := { s with heap := h', toks := tk }) z' fun h'' z'' sb => ?_⟩
    have nz := zlt hz
    have hT2 : h''.get? s.heap.objs.size = some { cls := .type "tuple", data := .seq #[u, u2] } := (sb.2 _ (Ne.symm nz)).trans hT
    have new : ObjOk X.prog X.w (upd H s.heap.objs.size (.tup [x, y])) h'' s.heap.objs.size (.tup [x, y]) :=
      ⟨by show 2 ≤ sizeLine; decide, [u, u2], .cons ru (.cons ru2 .nil), ⟨_, hT2, rfl, _, rfl⟩⟩
    have I1 : Inv X pins σ (upd H s.heap.objs.size (.tup [x, y])) { s with heap := h'', toks := tk } :=
      I.turnedNew (t' := tk) (ch := [z, TI, TO, i1, i2]) (fun c o hb q => (sb.2 c (fun q' => hb (by simp [q']))).trans (hk c o (fun q' => hb (by simp [q'])) (fun q' => hb (by simp [q'])) (fun q' => hb (by simp [q'])) (fun q' => hb (by simp [q'])) q)) hf (Nat.le_refl _) new
    have back : ∀ c o, c ≠ z → h'.get? c = some o → h''.get? c = some o := fun c o k q => (sb.2 c k).trans q
    refine ⟨.ref s.heap.objs.size, _, I1, rfl, ⟨_, x, y, rfl, I.hok.fresh (Nat.le_refl _), rfl, fun l hl => by rw [hl.inj I hqx]; exact hx, fun l hl => by rw [hl.inj I hqy]; exact hy⟩, ⟨z'', back _ _ S.TIz (hk _ _ S.TIz S.TITO S.TIi1 S.TIi2 hTI), ⟨u, u2, back _ _ S.TOz TO'⟩, s1'.1.at fun o q => back _ o S.n1 q, s2'.1.at fun o q => back _ o S.n2 q⟩, fun c hcm => ?_⟩
    have hlt : c ≠ s.heap.objs.size := by
      simp only [List.mem_cons, List.mem_nil_iff, or_false] at hcm
      rcases hcm with rfl | rfl | rfl | rfl | rfl
      · exact nz
      · exact zlt hTI
      · exact zlt hTO
      · obtain ⟨o, e, _⟩ := h1.obj; exact zlt e
      · obtain ⟨o, e, _⟩ := h2.obj; exact zlt e
    rw [upd_ne hlt]
    exact (hf c hcm).1
  done := by
    intro X hP hw hK hc i pins s σ H E I hf st hg
    subst hP hw hK
    obtain ⟨hz, hTI, ⟨x0, y0, hTO⟩, h1, h2⟩ := st
    obtain ⟨xs, ys, hqx, hqy, k1, k2, hend⟩ := hg
    obtain ⟨its, rv, p, _⟩ := hqx.real I
    obtain ⟨its2, rv2, p2, _⟩ := hqy.real I
    have l1 : its.toArray.size = xs.length := by have := rv.length; simp; omega
    have l2 : its2.toArray.size = ys.length := by have := rv2.length; simp; omega
    have d1 := drawsM (prog := X.prog) (w := X.w) (A := X.A.in1) t1 (I.ok.hd hc) i1 a S.na its.toArray
    have d2 := drawsM (prog := X.prog) (w := X.w) (A := X.A.in1) t2 (I.ok.hd hc) i2 b S.nb its2.toArray
    exact wpAny_pyNext_zipD2_end S.toZipSep2 d1 d2 hz hTI hTO ⟨h1, p⟩ ⟨h2, p2⟩ (by rw [l1]; exact k1) (by rw [l2]; exact k2) (by rw [l1, l2]; exact hend) fun h' tk hk =>
      ⟨rfl, I.turnedL (t' := tk) (ch := [z, TI, TO, i1, i2]) (fun c o hb q => hk c o (fun q' => hb (by simp [q'])) (fun q' => hb (by simp [q'])) (fun q' => hb (by simp [q'])) (fun q' => hb (by simp [q'])) q) hf⟩
  self := fun A i s Q E st h => wpAny_pyIter_zip st.1 h
theorem nne (x y : Nat) (h : x < y ∨ y < x) : @Ne Addr x y := fun z => by
  have z' : @Eq Nat x y := z
  omega
theorem nin (x y y2 : Nat) (h : x < y ∨ y < x) (h2 : x < y2 ∨ y2 < x) : @Membership.mem Addr (List Addr) _ [y, y2] x → False := fun m => by
  rcases List.mem_cons.mp m with z | m
  · exact nne _ _ h z
  · exact nne _ _ h2 (List.mem_singleton.mp m)
theorem sep (n a b : Nat) (ha : a < n) (hb : b < n) : Sep (n + 4) (n + 2) (n + 3) n (n + 1) a b :=
  { TIz := nne _ _ (by omega), TOz := nne _ _ (by omega), TITO := nne _ _ (by omega), TIi1 := nne _ _ (by omega), mem1 := List.mem_cons_self, zf1 := nin _ _ _ (by omega) (by omega), Tf1 := nin _ _ _ (by omega) (by omega)
    TIi2 := nne _ _ (by omega), mem2 := List.mem_cons_self, zf2 := nin _ _ _ (by omega) (by omega), Tf2 := nin _ _ _ (by omega) (by omega)
    sep1_2 := nin _ _ _ (by omega) (by omega), sep2_1 := nin _ _ _ (by omega) (by omega)
    na := nne _ _ (by omega), nb := nne _ _ (by omega), n1 := nne _ _ (by omega), n2 := nne _ _ (by omega) }
theorem beginsM (t : Bool) (l : Addr) (items : Array Value) : ∃ o, Begins (.ref l) o (fun h => seqOf t h l items) ∧ ∀ (h : Heap) (i : Addr), h.get? i = some o → itOf t h i l 0 := by
  cases t
  · exact ⟨_, begins_list l items, fun h i e => ⟨_, e, rfl, rfl⟩⟩
  · exact ⟨_, begins_tuple l items, fun h i e => ⟨_, e, rfl, rfl⟩⟩
theorem five (n c : Nat) (h : c ∈ [n + 4, n + 2, n + 3, n, n + 1]) : n ≤ c := by
  simp only [List.mem_cons, List.mem_nil_iff, or_false] at h
  omega
noncomputable def iZipM (K : PySem.W.Frag) (ta : TA) : TI := fun σ H R => ta σ H fun vs H1 => ∃ t1 t2 a b xs ys, vs = [.ref a, .ref b] ∧ Sq t1 K H1 a xs ∧ Sq t2 K H1 b ys ∧ R (ItzM K t1 t2 a b) H1
theorem pi_zipM {X : Cx} {e e2 : Expr} {ta : TA} {p pos tpos : Pos} {elts : List Expr} {kk : Nat} (hg : Gl X "zip") (hm : X.mg "zip" = none) (ha : PA X [e, e2] ta)
    (hs : starEach [e, e2] X.env = (false, eval e X.env) :: starEach [e2] X.env := by rfl) (hpl : (backTo pos (starEach [e2] X.env)).any (·.1) = false := by rfl) :
    PI X (.Tuple elts kk tpos) (.Call (.Name "zip" p) [e, e2] [] pos) (iZipM X.K ta) := by
  refine ⟨fun pins s σ H R I h => ?_⟩
  have run := ha.run pos pins s σ H _ I h
  refine Call_ (ld_blt I hg hm PyProof.Rows.boot_zip ?_)
  refine PyProof.Rows.callWith_type1 (thn run ?_) hs hpl
  rintro us s1 ⟨vs, H1, I1, r1, t1, t2, a, b, xs, ys, rfl, hqx, hqy, q⟩
  cases r1 with
  | cons r rr =>
   cases rr with
   | cons r' rr =>
    cases rr
    cases r
    cases r'
    obtain ⟨its, rv, p1, la⟩ := hqx.real I1
    obtain ⟨its2, rv2, p2, lb⟩ := hqy.real I1
    obtain ⟨o1, B1, i1⟩ := beginsM t1 a its.toArray
    obtain ⟨o2, B2, i2⟩ := beginsM t2 b its2.toArray
    refine zip_begins2 B1 B2 p1 p2 fun h' hz hTI hTO g1 g2 hsz hk => wpAny_pyIter_zip hz ?_
    have I2 : Inv X pins σ H1 { s1 with heap := h' } := I1.kept (t' := s1.toks) hk
    refine ⟨_, [s1.heap.objs.size + 4, s1.heap.objs.size + 2, s1.heap.objs.size + 3, s1.heap.objs.size, s1.heap.objs.size + 1], _, _, H1, rfl, I2, turnM t1 t2 (sep _ _ _ la lb), ⟨hz, hTI, ⟨_, _, hTO⟩, i1 _ _ g1, i2 _ _ g2⟩, fun c hcm => ?_, q⟩
    have hle : s1.heap.objs.size ≤ c := five _ _ hcm
    exact I1.fpOk hle (I1.hok.fresh hle)
theorem for_zipM {K : PySem.W.Frag} {t1 t2 : Bool} {a b : Addr} {xs ys : List V} {g : TG} {tb : TS} {D : Ends} {σ : L2.St} {H : Hp} (hl : xs.length = ys.length) (Pv : Nat → L2.St → Hp → Prop) (h0 : Pv 0 σ H) (hq : ∀ i σ H, Pv i σ H → Sq t1 K H a xs ∧ Sq t2 K H b ys)
    (hs : ∀ (i : Nat) (x y : V) (T : Addr) (σ : L2.St) (H : Hp), xs[i]? = some x → ys[i]? = some y → Pv i σ H → H T = none → g (.ref T) σ (upd H T (.tup [x, y])) fun σ2 H2 => tb { D with nx := Pv (i + 1), ct := Pv (i + 1), bk := D.nx } σ2 H2) (hd : ∀ σ H, Pv xs.length σ H → D.nx σ H) :
    ∃ W : Nat → Nat → L2.St → Hp → Prop, (∃ m, W 0 m σ H) ∧ ∀ i m σ H, W i m σ H →
      ((ItzM K t1 t2 a b).stop i H ∧ D.nx σ H) ∨ ((ItzM K t1 t2 a b).go i H ∧ ∃ N : L2.St → Hp → Prop, (∀ σ' H', N σ' H' → ∃ m', m' < m ∧ W (i + 1) m' σ' H') ∧ ∀ v H', (ItzM K t1 t2 a b).yld i H v H' → g v σ H' fun σ2 H2 => tb { D with nx := N, ct := N, bk := D.nx } σ2 H2) := by
  refine ⟨fun i m σ H => m = xs.length - i ∧ i ≤ xs.length ∧ Pv i σ H, ⟨xs.length, rfl, Nat.zero_le _, h0⟩, ?_⟩
  rintro i m σ H ⟨rfl, hi, p⟩
  obtain ⟨qx, qy⟩ := hq i σ H p
  rcases Nat.lt_or_ge i xs.length with hlt | hge
  · refine .inr ⟨⟨xs, ys, _, _, qx, qy, List.getElem?_eq_getElem hlt, List.getElem?_eq_getElem (hl ▸ hlt)⟩, Pv (i + 1), fun σ' H' p' => ⟨xs.length - (i + 1), by omega, rfl, hlt, p'⟩, ?_⟩
    rintro v H' ⟨T, x', y', rfl, hT, rfl, f1, f2⟩
    exact hs i x' y' T σ H (f1 xs qx) (f2 ys qy) p hT
  · obtain rfl : i = xs.length := Nat.le_antisymm hi hge
    exact .inl ⟨⟨xs, ys, qx, qy, hi, hl ▸ hi, .inl rfl⟩, hd σ H p⟩
end ZM
namespace ZT
open PySem PySem.Spec PyProof.Rows L2
noncomputable def It3 (K : PySem.W.Frag) (t1 t2 t3 : Bool) (a b c : Addr) : It :=
  ⟨fun i H => ∃ (xs ys zs : List V) (x y z : V), ZM.Sq t1 K H a xs ∧ ZM.Sq t2 K H b ys ∧ ZM.Sq t3 K H c zs ∧ xs[i]? = some x ∧ ys[i]? = some y ∧ zs[i]? = some z,
    fun i H v H' => ∃ T x y z, v = .ref T ∧ H T = none ∧ H' = upd H T (.tup [x, y, z]) ∧ (∀ xs, ZM.Sq t1 K H a xs → xs[i]? = some x) ∧ (∀ ys, ZM.Sq t2 K H b ys → ys[i]? = some y) ∧ ∀ zs, ZM.Sq t3 K H c zs → zs[i]? = some z,
    fun i H => ∃ xs ys zs : List V, ZM.Sq t1 K H a xs ∧ ZM.Sq t2 K H b ys ∧ ZM.Sq t3 K H c zs ∧ i ≤ xs.length ∧ i ≤ ys.length ∧ i ≤ zs.length ∧ (i = xs.length ∨ i = ys.length ∨ i = zs.length)⟩
theorem zlt {h : Heap} {c : Addr} {o : Obj} (e : h.get? c = some o) : c ≠ h.objs.size := Nat.ne_of_lt (Heap.lt_size e)
structure Sep (z TI TO i1 i2 i3 a b c : Addr) : Prop extends ZipSep3 z TI TO i1 i2 i3 [i1, a] [i2, b] [i3, c] where
  na : a ≠ i1
  nb : b ≠ i2
  nc : c ≠ i3
  n1 : i1 ≠ z
  n2 : i2 ≠ z
  n3 : i3 ≠ z
theorem turn3 {P : Program} {w : World} {K : PySem.W.Frag} {elts : List Expr} {kk : Nat} {tpos : Pos} {a b c z TI TO i1 i2 i3 : Addr} (t1 t2 t3 : Bool) (S : Sep z TI TO i1 i2 i3 a b c) :
    Turn P w K (.Tuple elts kk tpos) (It3 K t1 t2 t3 a b c) [z, TI, TO, i1, i2, i3] z (fun i h => IsZip h z TI TO .none ∧ IsTupOf3 h TI (.ref i1) (.ref i2) (.ref i3) ∧ (∃ x y z, IsTupOf3 h TO x y z) ∧ ZM.itOf t1 h i1 a i ∧ ZM.itOf t2 h i2 b i ∧ ZM.itOf t3 h i3 c i) where
  mem := by simp
  obj := fun i h st c hc => by
    obtain ⟨hz, hTI, ⟨x, y, w, hTO⟩, h1, h2, h3⟩ := st
    simp only [List.mem_cons, List.mem_nil_iff, or_false] at hc
    rcases hc with rfl | rfl | rfl | rfl | rfl | rfl
    · exact ⟨_, hz, fun v q => nomatch q⟩
    · exact ⟨_, hTI, fun v q => nomatch q⟩
    · exact ⟨_, hTO, fun v q => nomatch q⟩
    · exact h1.obj
    · exact h2.obj
    · exact h3.obj
  keep := fun i h h' st k => by
    obtain ⟨hz, hTI, ⟨x, y, w, hTO⟩, h1, h2, h3⟩ := st
    exact ⟨k _ (by simp) _ hz, k _ (by simp) _ hTI, ⟨x, y, w, k _ (by simp) _ hTO⟩, h1.at fun o q => k _ (by simp) o q, h2.at fun o q => k _ (by simp) o q, h3.at fun o q => k _ (by simp) o q⟩
  item := by
    intro X hP hw hK hc i pins s σ H E I hf st hg
    subst hP hw hK
    obtain ⟨hz, hTI, ⟨x0, y0, w0, hTO⟩, h1, h2, h3⟩ := st
    obtain ⟨xs, ys, zs, x, y, w, hqx, hqy, hqz, hx, hy, hw⟩ := hg
    obtain ⟨its, rv, p, _⟩ := hqx.real I
    obtain ⟨its2, rv2, p2, _⟩ := hqy.real I
    obtain ⟨its3, rv3, p3, _⟩ := hqz.real I
    obtain ⟨u, hu, ru⟩ := rv.get hx
    obtain ⟨u2, hu2, ru2⟩ := rv2.get hy
    obtain ⟨u3, hu3, ru3⟩ := rv3.get hw
    have l1 : i < its.toArray.size := by simpa using (List.getElem?_eq_some_iff.mp hu).1
    have l2 : i < its2.toArray.size := by simpa using (List.getElem?_eq_some_iff.mp hu2).1
    have l3 : i < its3.toArray.size := by simpa using (List.getElem?_eq_some_iff.mp hu3).1
    have d1 := ZM.drawsM (prog := X.prog) (w := X.w) (A := X.A.in1) t1 (I.ok.hd hc) i1 a S.na its.toArray
    have d2 := ZM.drawsM (prog := X.prog) (w := X.w) (A := X.A.in1) t2 (I.ok.hd hc) i2 b S.nb its2.toArray
    have d3 := ZM.drawsM (prog := X.prog) (w := X.w) (A := X.A.in1) t3 (I.ok.hd hc) i3 c S.nc its3.toArray
    refine wpAny_pyNext_zipD3_item S.toZipSep3 d1 d2 d3 hz hTI hTO ⟨h1, p⟩ ⟨h2, p2⟩ ⟨h3, p3⟩ l1 l2 l3 fun v1 v2 v3 h' tk e1 e2 e3 z' TO' s1' s2' s3' hT hsz hk => ?_
    obtain rfl : u = v1 := by
      have q : its[i]? = some v1 := by simpa using e1
      exact Option.some.inj (hu.symm.trans q)
    obtain rfl : u2 = v2 := by
      have q : its2[i]? = some v2 := by simpa using e2
      exact Option.some.inj (hu2.symm.trans q)
    obtain rfl : u3 = v3 := by
      have q : its3[i]? = some v3 := by simpa using e3
      exact Option.some.inj (hu3.symm.trans q)
    refine ⟨_, rfl, wpAny_letOwnedTupleGo_zip (s := { s with heap := h', toks := tk }) z' fun h'' z'' sb => ?_⟩
    have nz := zlt hz
    have hT2 : h''.get? s.heap.objs.size = some { cls := .type "tuple", data := .seq #[u, u2, u3] } := (sb.2 _ (Ne.symm nz)).trans hT
    have new : ObjOk X.prog X.w (upd H s.heap.objs.size (.tup [x, y, w])) h'' s.heap.objs.size (.tup [x, y, w]) :=
      ⟨by show 3 ≤ sizeLine; decide, [u, u2, u3], .cons ru (.cons ru2 (.cons ru3 .nil)), ⟨_, hT2, rfl, _, rfl⟩⟩
    have I1 : Inv X pins σ (upd H s.heap.objs.size (.tup [x, y, w])) { s with heap := h'', toks := tk } :=
      I.turnedNew (t' := tk) (ch := [z, TI, TO, i1, i2, i3]) (fun c o hb q => (sb.2 c (fun q' => hb (by simp [q']))).trans (hk c o (fun q' => hb (by simp [q'])) (fun q' => hb (by simp [q'])) (fun q' => hb (by simp [q'])) (fun q' => hb (by simp [q'])) (fun q' => hb (by simp [q'])) q)) hf (Nat.le_refl _) new
    have back : ∀ c o, c ≠ z → h'.get? c = some o → h''.get? c = some o := fun c o k q => (sb.2 c k).trans q
    refine ⟨.ref s.heap.objs.size, _, I1, rfl, ⟨_, x, y, w, rfl, I.hok.fresh (Nat.le_refl _), rfl, fun l hl => by rw [hl.inj I hqx]; exact hx, fun l hl => by rw [hl.inj I hqy]; exact hy, fun l hl => by rw [hl.inj I hqz]; exact hw⟩, ⟨z'', back _ _ S.TIz (hk _ _ S.TIz S.TITO S.TIi1 S.TIi2 S.TIi3 hTI), ⟨u, u2, u3, back _ _ S.TOz TO'⟩, s1'.1.at fun o q => back _ o S.n1 q, s2'.1.at fun o q => back _ o S.n2 q, s3'.1.at fun o q => back _ o S.n3 q⟩, fun c hcm => ?_⟩
    have hlt : c ≠ s.heap.objs.size := by
      simp only [List.mem_cons, List.mem_nil_iff, or_false] at hcm
      rcases hcm with rfl | rfl | rfl | rfl | rfl | rfl
      · exact nz
      · exact zlt hTI
      · exact zlt hTO
      · obtain ⟨o, e, _⟩ := h1.obj; exact zlt e
      · obtain ⟨o, e, _⟩ := h2.obj; exact zlt e
      · obtain ⟨o, e, _⟩ := h3.obj; exact zlt e
    rw [upd_ne hlt]
    exact (hf c hcm).1
  done := by
    intro X hP hw hK hc i pins s σ H E I hf st hg
    subst hP hw hK
    obtain ⟨hz, hTI, ⟨x0, y0, w0, hTO⟩, h1, h2, h3⟩ := st
    obtain ⟨xs, ys, zs, hqx, hqy, hqz, k1, k2, k3, hend⟩ := hg
    obtain ⟨its, rv, p, _⟩ := hqx.real I
    obtain ⟨its2, rv2, p2, _⟩ := hqy.real I
    obtain ⟨its3, rv3, p3, _⟩ := hqz.real I
    have l1 : its.toArray.size = xs.length := by have := rv.length; simp; omega
    have l2 : its2.toArray.size = ys.length := by have := rv2.length; simp; omega
    have l3 : its3.toArray.size = zs.length := by have := rv3.length; simp; omega
    have d1 := ZM.drawsM (prog := X.prog) (w := X.w) (A := X.A.in1) t1 (I.ok.hd hc) i1 a S.na its.toArray
    have d2 := ZM.drawsM (prog := X.prog) (w := X.w) (A := X.A.in1) t2 (I.ok.hd hc) i2 b S.nb its2.toArray
    have d3 := ZM.drawsM (prog := X.prog) (w := X.w) (A := X.A.in1) t3 (I.ok.hd hc) i3 c S.nc its3.toArray
    exact wpAny_pyNext_zipD3_end S.toZipSep3 d1 d2 d3 hz hTI hTO ⟨h1, p⟩ ⟨h2, p2⟩ ⟨h3, p3⟩ (by rw [l1]; exact k1) (by rw [l2]; exact k2) (by rw [l3]; exact k3) (by rw [l1, l2, l3]; exact hend) fun h' tk hk =>
      ⟨rfl, I.turnedL (t' := tk) (ch := [z, TI, TO, i1, i2, i3]) (fun c o hb q => hk c o (fun q' => hb (by simp [q'])) (fun q' => hb (by simp [q'])) (fun q' => hb (by simp [q'])) (fun q' => hb (by simp [q'])) (fun q' => hb (by simp [q'])) q) hf⟩
  self := fun A i s Q E st h => wpAny_pyIter_zip st.1 h
theorem nne (x y : Nat) (h : x < y ∨ y < x) : @Ne Addr x y := fun z => by
  have z' : @Eq Nat x y := z
  omega
theorem nin (x y y2 : Nat) (h : x < y ∨ y < x) (h2 : x < y2 ∨ y2 < x) : @Membership.mem Addr (List Addr) _ [y, y2] x → False := fun m => by
  rcases List.mem_cons.mp m with z | m
  · exact nne _ _ h z
  · exact nne _ _ h2 (List.mem_singleton.mp m)
theorem sep (n a b c : Nat) (ha : a < n) (hb : b < n) (hc : c < n) : Sep (n + 5) (n + 3) (n + 4) n (n + 1) (n + 2) a b c :=
  { TIz := nne _ _ (by omega), TOz := nne _ _ (by omega), TITO := nne _ _ (by omega)
    TIi1 := nne _ _ (by omega), mem1 := List.mem_cons_self, zf1 := nin _ _ _ (by omega) (by omega), Tf1 := nin _ _ _ (by omega) (by omega)
    TIi2 := nne _ _ (by omega), mem2 := List.mem_cons_self, zf2 := nin _ _ _ (by omega) (by omega), Tf2 := nin _ _ _ (by omega) (by omega)
    TIi3 := nne _ _ (by omega), mem3 := List.mem_cons_self, zf3 := nin _ _ _ (by omega) (by omega), Tf3 := nin _ _ _ (by omega) (by omega)
    sep1_2 := nin _ _ _ (by omega) (by omega), sep1_3 := nin _ _ _ (by omega) (by omega), sep2_1 := nin _ _ _ (by omega) (by omega)
    sep2_3 := nin _ _ _ (by omega) (by omega), sep3_1 := nin _ _ _ (by omega) (by omega), sep3_2 := nin _ _ _ (by omega) (by omega)
    na := nne _ _ (by omega), nb := nne _ _ (by omega), nc := nne _ _ (by omega), n1 := nne _ _ (by omega), n2 := nne _ _ (by omega), n3 := nne _ _ (by omega) }
theorem six (n c : Nat) (h : c ∈ [n + 5, n + 3, n + 4, n, n + 1, n + 2]) : n ≤ c := by
  simp only [List.mem_cons, List.mem_nil_iff, or_false] at h
  omega
noncomputable def iZip3 (K : PySem.W.Frag) (ta : TA) : TI := fun σ H R => ta σ H fun vs H1 => ∃ t1 t2 t3 a b c xs ys zs, vs = [.ref a, .ref b, .ref c] ∧ ZM.Sq t1 K H1 a xs ∧ ZM.Sq t2 K H1 b ys ∧ ZM.Sq t3 K H1 c zs ∧ R (It3 K t1 t2 t3 a b c) H1
theorem pi_zip3 {X : Cx} {e e2 e3 : Expr} {ta : TA} {p pos tpos : Pos} {elts : List Expr} {kk : Nat} (hg : Gl X "zip") (hm : X.mg "zip" = none) (ha : PA X [e, e2, e3] ta)
    (hs : starEach [e, e2, e3] X.env = (false, eval e X.env) :: starEach [e2, e3] X.env := by rfl) (hpl : (backTo pos (starEach [e2, e3] X.env)).any (·.1) = false := by rfl) :
    PI X (.Tuple elts kk tpos) (.Call (.Name "zip" p) [e, e2, e3] [] pos) (iZip3 X.K ta) := by
  refine ⟨fun pins s σ H R I h => ?_⟩
  have run := ha.run pos pins s σ H _ I h
  refine Call_ (ld_blt I hg hm PyProof.Rows.boot_zip ?_)
  refine PyProof.Rows.callWith_type1 (thn run ?_) hs hpl
  rintro us s1 ⟨vs, H1, I1, r1, t1, t2, t3, a, b, c, xs, ys, zs, rfl, hqx, hqy, hqz, q⟩
  cases r1 with
  | cons r rr =>
   cases rr with
   | cons r' rr =>
    cases rr with
    | cons r'' rr =>
     cases rr
     cases r
     cases r'
     cases r''
     obtain ⟨its, rv, p1, la⟩ := hqx.real I1
     obtain ⟨its2, rv2, p2, lb⟩ := hqy.real I1
     obtain ⟨its3, rv3, p3, lc⟩ := hqz.real I1
     obtain ⟨o1, B1, i1⟩ := ZM.beginsM t1 a its.toArray
     obtain ⟨o2, B2, i2⟩ := ZM.beginsM t2 b its2.toArray
     obtain ⟨o3, B3, i3⟩ := ZM.beginsM t3 c its3.toArray
     refine zip_begins3 B1 B2 B3 p1 p2 p3 fun h' hz hTI hTO g1 g2 g3 hsz hk => wpAny_pyIter_zip hz ?_
     have I2 : Inv X pins σ H1 { s1 with heap := h' } := I1.kept (t' := s1.toks) hk
     refine ⟨_, [s1.heap.objs.size + 5, s1.heap.objs.size + 3, s1.heap.objs.size + 4, s1.heap.objs.size, s1.heap.objs.size + 1, s1.heap.objs.size + 2], _, _, H1, rfl, I2, turn3 t1 t2 t3 (sep _ _ _ _ la lb lc), ⟨hz, hTI, ⟨_, _, _, hTO⟩, i1 _ _ g1, i2 _ _ g2, i3 _ _ g3⟩, fun c hcm => ?_, q⟩
     have hle : s1.heap.objs.size ≤ c := six _ _ hcm
     exact I1.fpOk hle (I1.hok.fresh hle)
theorem lc_zip3 {K : PySem.W.Frag} {t1 t2 t3 : Bool} {a b c : Addr} {xs ys zs : List V} {g : TG} {tt : TT} {te : TE} {vs : List Nat} {σ : L2.St} {H1 : Hp} {D : Addr} {Qd : Hp → Prop} (hl1 : xs.length = ys.length) (hl2 : xs.length = zs.length) (Pv : Nat → Hp → Prop) (h0 : Pv 0 (upd H1 D (.lst []))) (hq : ∀ i H, i ≤ xs.length → Pv i H → ZM.Sq t1 K H a xs ∧ ZM.Sq t2 K H b ys ∧ ZM.Sq t3 K H c zs)
    (hs : ∀ i x y z T H, xs[i]? = some x → ys[i]? = some y → zs[i]? = some z → H T = none → Pv i H → g (.ref T) (wipe σ vs) (upd H T (.tup [x, y, z])) fun σ2 H2 => wipe σ2 vs = wipe σ vs ∧ tt σ2 H2 fun b H3 =>
      if b = true then te σ2 H3 fun y H4 => ∃ acc, H4 D = some (.lst acc) ∧ acc.length < sizeLine ∧ Pv (i + 1) (upd H4 D (.lst (acc ++ [y]))) else Pv (i + 1) H3) (hd : ∀ H, Pv xs.length H → Qd H) :
    ∃ W : Nat → Nat → Hp → Prop, (∃ m, W 0 m (upd H1 D (.lst []))) ∧ ∀ i m H, W i m H →
      ((It3 K t1 t2 t3 a b c).stop i H ∧ Qd H) ∨ ((It3 K t1 t2 t3 a b c).go i H ∧ ∃ Nx : Hp → Prop, (∀ H', Nx H' → ∃ m', m' < m ∧ W (i + 1) m' H') ∧ ∀ x H', (It3 K t1 t2 t3 a b c).yld i H x H' → g x (wipe σ vs) H' fun σ2 H2 => wipe σ2 vs = wipe σ vs ∧ tt σ2 H2 fun b H3 =>
        if b = true then te σ2 H3 fun y H4 => ∃ acc, H4 D = some (.lst acc) ∧ acc.length < sizeLine ∧ Nx (upd H4 D (.lst (acc ++ [y]))) else Nx H3) := by
  refine ⟨fun i m H => m = xs.length - i ∧ i ≤ xs.length ∧ Pv i H, ⟨xs.length, by simp, Nat.zero_le _, h0⟩, ?_⟩
  rintro i m H ⟨rfl, hi, p⟩
  obtain ⟨q1, q2, q3⟩ := hq i H hi p
  by_cases hlt : i < xs.length
  · have hlt2 : i < ys.length := by omega
    have hlt3 : i < zs.length := by omega
    refine .inr ⟨⟨xs, ys, zs, _, _, _, q1, q2, q3, List.getElem?_eq_getElem hlt, List.getElem?_eq_getElem hlt2, List.getElem?_eq_getElem hlt3⟩, Pv (i + 1), fun H' p' => ⟨xs.length - (i + 1), by omega, rfl, hlt, p'⟩, fun x H' y => ?_⟩
    obtain ⟨T, x', y', z', e1, e2, e3, e4, e5, e6⟩ := y
    subst e1 e3
    exact hs i x' y' z' T H (e4 xs q1) (e5 ys q2) (e6 zs q3) e2 p
  · have e : i = xs.length := by omega
    subst e
    exact .inl ⟨⟨xs, ys, zs, q1, q2, q3, Nat.le_refl _, by omega, by omega, .inl rfl⟩, hd H p⟩
end ZT
namespace K1
open PySem PySem.Spec PyProof.Rows L2
theorem ix_seq {X : Cx} {K : PySem.W.Frag} (hK : X.K = K) : IxR X (fun x y H Q => rIxL K x y H Q ∨ rIxT K x y H Q) := by
  subst hK
  intro value slice pins s σ H x y v u Q I rx ry h hs
  exact h.elim (fun h => ix_list value slice pins s σ H x y v u Q I rx ry h hs) (fun h => ix_tup value slice pins s σ H x y v u Q I rx ry h hs)
theorem pg_or {X : Cx} {e : Expr} {t u : TG} (a : PG X e t) (b : PG X e u) : PG X e (fun v σ H Q => t v σ H Q ∨ u v σ H Q) := ⟨fun pins s σ H v w Q I r h => h.elim (a.run pins s σ H v w Q I r) (b.run pins s σ H v w Q I r)⟩
theorem piA {X : Cx} {K : PySem.W.Frag} {tg l : Expr} {tl : TE} (h : X.K = K) (hl : PE X l tl) : PI X tg l (iSeqA K tl) := by subst h; exact pi_seqA hl
theorem LLq.keep {H : Hp} {D x : Addr} {o : HO} {as : List Addr} {rs : Rwz} (l : LLq H D as rs) (n : x ≠ D) (na : x ∉ as) : LLq (upd H x o) D as rs :=
  ⟨by rw [upd_ne (Ne.symm n)]; exact l.1, l.2.1, fun i c q e1 e2 => by rw [upd_ne (fun z => na (by rw [← z]; exact List.mem_of_getElem? e1))]; exact l.2.2 i c q e1 e2⟩
theorem LLq.set {H : Hp} {D x : Addr} {as : List Addr} {rs : Rwz} {h : Nat} {r : List Int} (l : LLq H D as rs) (n : ∀ a ∈ as, a ≠ D) (hx : H x = some (.lst (vrow r))) (nx : x ≠ D) : LLq (upd H D (.lst ((as.map V.ref).set h (.ref x)))) D (as.set h x) (rs.set h r) := by
  refine ⟨by rw [upd_same, List.map_set], by rw [List.length_set, List.length_set]; exact l.2.1, fun i c q e1 e2 => ?_⟩
  by_cases z : i = h
  · subst z
    have hi : i < as.length := by have := lt_at e1; rwa [List.length_set] at this
    rw [List.getElem?_set_self hi] at e1
    rw [List.getElem?_set_self (by rw [← l.2.1]; exact hi)] at e2
    obtain rfl := Option.some.inj e1
    obtain rfl := Option.some.inj e2
    rw [upd_ne nx]; exact hx
  · rw [List.getElem?_set_ne (Ne.symm z)] at e1 e2
    rw [upd_ne (n c (List.mem_of_getElem? e1))]
    exact l.2.2 i c q e1 e2
noncomputable def TieB (b : Bool) (H : Hp) (tl : Addr) (ps : Prs) : Prop := match b with
  | true => TiesT H tl ps
  | false => ∃ as : List Addr, H tl = some (.lst (as.map V.ref)) ∧ PrsL H as ps
theorem TieB.same {b : Bool} {H H' : Hp} {tl : Addr} {ps : Prs} (h : TieB b H tl ps) (s : Same H H') : TieB b H' tl ps := by
  cases b with
  | true => exact TiesT.same h s
  | false => obtain ⟨as, h1, h2⟩ := h; exact ⟨as, s _ _ h1, h2.same s⟩
structure Cl (H0 H : Hp) (hl al : Addr) (hs as : List Addr) (u : Cu) : Prop where
  s : Same H0 H
  h : LLq H hl hs u.hs
  a : LLq H al as u.ts
  h0 : H0 hl = none
  a0 : H0 al = none
  ne : hl ≠ al
  nh : ∀ x ∈ hs, x ≠ hl ∧ x ≠ al
  na : ∀ x ∈ as, x ≠ hl ∧ x ≠ al
  f : ∀ x ∈ hs, H0 x = none
theorem Cl.same {H0 H H' : Hp} {hl al : Addr} {hs as : List Addr} {u : Cu} (c : Cl H0 H hl al hs as u) (s : Same H H') : Cl H0 H' hl al hs as u := ⟨c.s.trans s, c.h.same s, c.a.same s, c.h0, c.a0, c.ne, c.nh, c.na, c.f⟩
theorem mem_set {α : Type} {l : List α} {i : Nat} {x y : α} (h : y ∈ l.set i x) : y ∈ l ∨ y = x := by
  rcases List.mem_or_eq_of_mem_set h with h | h
  · exact .inl h
  · exact .inr h
theorem Cl.setH {H0 H : Hp} {hl al : Addr} {hs as : List Addr} {u : Cu} (c : Cl H0 H hl al hs as u) {x : Addr} {h : Nat} {r : List Int} (hx : H x = some (.lst (vrow r))) (nx : x ≠ hl) (nx2 : x ≠ al) (nx0 : H0 x = none) : Cl H0 (upd H hl (.lst ((hs.map V.ref).set h (.ref x)))) hl al (hs.set h x) as ⟨u.hs.set h r, u.ts, u.ds⟩ :=
  ⟨fun d o e => by rw [upd_ne (ne_of_none e c.h0)]; exact c.s _ _ e, c.h.set (fun a ha => (c.nh a ha).1) hx nx, c.a.keep c.ne (fun z => (c.na hl z).1 rfl), c.h0, c.a0, c.ne, fun y hy => (mem_set hy).elim (c.nh y) (fun e => by rw [e]; exact ⟨nx, nx2⟩), c.na, fun y hy => (mem_set hy).elim (c.f y) (fun e => by rw [e]; exact nx0)⟩
theorem Cl.setA {H0 H : Hp} {hl al : Addr} {hs as : List Addr} {u : Cu} (c : Cl H0 H hl al hs as u) {x : Addr} {h : Nat} {r : List Int} (hx : H x = some (.lst (vrow r))) (nx : x ≠ hl) (nx2 : x ≠ al) : Cl H0 (upd H al (.lst ((as.map V.ref).set h (.ref x)))) hl al hs (as.set h x) ⟨u.hs, u.ts.set h r, u.ds⟩ :=
  ⟨fun d o e => by rw [upd_ne (ne_of_none e c.a0)]; exact c.s _ _ e, c.h.keep c.ne.symm (fun z => (c.nh al z).2 rfl), c.a.set (fun a ha => (c.na a ha).2) hx nx2, c.h0, c.a0, c.ne, c.nh, fun y hy => (mem_set hy).elim (c.na y) (fun e => by rw [e]; exact ⟨nx, nx2⟩), c.f⟩
theorem LLq.snoc {H : Hp} {D l : Addr} {as : List Addr} {rs : Rwz} {r : List Int} (t : LLq H D as rs) (hl : H l = some (.lst (vrow r))) (n : ∀ a ∈ as, a ≠ D) (nl : l ≠ D) : LLq (upd H D (.lst ((as ++ [l]).map V.ref))) D (as ++ [l]) (rs ++ [r]) := by
  refine ⟨upd_same, by rw [List.length_append, List.length_append, t.2.1]; rfl, fun i c q e1 e2 => ?_⟩
  by_cases hi : i < as.length
  · rw [List.getElem?_append_left hi] at e1
    rw [List.getElem?_append_left (by rw [← t.2.1]; exact hi)] at e2
    rw [upd_ne (n c (List.mem_of_getElem? e1))]
    exact t.2.2 i c q e1 e2
  · have h1 := lt_at e1
    rw [List.length_append] at h1
    obtain rfl : i = as.length := by simp only [List.length_cons, List.length_nil] at h1; omega
    rw [List.getElem?_append_right (Nat.le_refl _), Nat.sub_self] at e1
    rw [List.getElem?_append_right (by rw [t.2.1]; exact Nat.le_refl _), t.2.1, Nat.sub_self] at e2
    obtain rfl : l = c := Option.some.inj e1
    obtain rfl : r = q := Option.some.inj e2
    rw [upd_ne nl]; exact hl
theorem LLq.push {H : Hp} {D l : Addr} {as : List Addr} {z : Nat} {x : List Int} (t : LLq H D as (List.replicate z x)) (hl : H l = some (.lst (vrow x))) (n : ∀ a ∈ as, a ≠ D) (nl : l ≠ D) : LLq (upd H D (.lst (as.map V.ref ++ [.ref l]))) D (as ++ [l]) (List.replicate (z + 1) x) := by
  have := t.snoc hl n nl
  rw [List.map_append] at this
  rw [List.replicate_succ']; exact this
structure Nt (H0 H : Hp) (D : Addr) (k z : Nat) (as : List Addr) : Prop where
  s : Same H0 H
  l : LLq H D as (List.replicate z (List.replicate k 0))
  f : ∀ x ∈ as, H0 x = none ∧ x ≠ D
  d : H0 D = none
theorem Nt.init {H0 : Hp} {D : Addr} {k : Nat} (h : H0 D = none) : Nt H0 (upd H0 D (.lst [])) D k 0 [] := ⟨same_new h, ⟨upd_same, rfl, fun i a t z => by cases z⟩, (fun x hx => nomatch hx), h⟩
theorem Nt.step {H0 H H2 : Hp} {D l : Addr} {k z : Nat} {as : List Addr} (I : Nt H0 H D k z as) (hz : z ≤ 1000) (s : Same H H2) (hl : H2 l = some (.lst (vrow (List.replicate k 0)))) (fl : H l = none) : ∃ acc, H2 D = some (.lst acc) ∧ acc.length < sizeLine ∧ ∃ as', Nt H0 (upd H2 D (.lst (acc ++ [.ref l]))) D k (z + 1) as' := by
  have l2 := I.l.same s
  have nl : l ≠ D := fun e => by rw [e, I.l.1] at fl; cases fl
  refine ⟨as.map V.ref, l2.1, szl (by rw [List.length_map, l2.2.1, List.length_replicate]; omega), as ++ [l], fun c o e => by rw [upd_ne (ne_of_none e I.d)]; exact s _ _ (I.s _ _ e), l2.push hl (fun a ha => (I.f a ha).2) nl, fun x hx => ?_, I.d⟩
  rcases List.mem_append.mp hx with h | h
  · exact I.f x h
  · rw [List.mem_singleton.mp h]
    refine ⟨?_, nl⟩
    cases e : H0 l with
    | none => rfl
    | some o => rw [I.s _ _ e] at fl; cases fl
noncomputable def spLCts : Sp := fun vs H Q _ => ∃ (tl p : Addr) (b : Bool) (n d0 : Nat) (ps : Prs) (cs : List Addr) (ss : List Stp), vs = [.int (n : Int), .ref tl, .ref p] ∧ TieB b H tl ps ∧ Wv n ps ∧ H p = some (.lst (cs.map V.ref)) ∧ StpsA H cs ss ∧ (∀ s ∈ ss, okS n ps.length d0 s) ∧ ss.length ≤ 400 ∧
  ∀ q hl al hs as H', Same H H' → H hl = none → (∀ x ∈ hs, H x = none) → H' q = some (.lst [.ref hl, .ref al]) → LLq H' hl hs (cnt n ps ss).hs → LLq H' al as (cnt n ps ss).ts → Q (.ref q) H'
section
variable {P : Program} {w : World} {K : PySem.W.Frag} {mg : Str → Option Value} {base : Heap}
noncomputable abbrev nLc : List Str := ["_law_many", "_law_ties", "_law_steps_here", "_law_step", "_law_acts", "_law_houses", "_law_archives", "_law_act", "_law_row", "_law_here", "_law_there", "_law_joined", "_law_house", "_law_tie", "_law_one", "_law_other", "_law_both"]
theorem scLc : FnScope nLc ["_law_many", "_law_ties", "_law_steps_here"] (defScope sLCounts) := ⟨rfl, rfl, rfl, by decide +kernel, rfl, by decide +kernel, by decide +kernel⟩
theorem ok_lcts {f : Addr} {fd : FuncData} (D : Df K mg "_law_counts" sLCounts ["_law_many", "_law_ties", "_law_steps_here"] f fd) (B : Bt mg) : FnOk P w K mg base CX0 1 f fd ["_law_many", "_law_ties", "_law_steps_here"] spLCts := by
  refine D.F.ok scLc (fun vs H Q E h => ?_) (fun cdv A outer s H vs Q E hr h => ?_)
  · obtain ⟨tl, p, b, n, d0, ps, cs, ss, rfl, _⟩ := h
    rfl
  · obtain ⟨tl, p, b, n, d0, ps, cs, ss, rfl, hT, hW, hp, hA, hok, hl4, q⟩ := h
    have hu := hr.units
    refine ⟨_, (pss_cons (ps_set (i := 4) scLc.nd rfl (.inr rfl) (pe_callB call_len_seq (by rfl) B.len PySem.boot_len (pa_cons (pe_lc (own := [("_law_step", 3)]) (g := gName 3) rfl scLc.nd (pi_list (pv 2)) (blkOk_by (N := nLc) (sc := defScope sLCounts) (by decide +kernel)) (fun _ _ _ _ _ => (pg_name (i := 3) scLc.nd rfl (Or.inl rfl))) (fun _ _ _ _ _ => pts_one (pt_cmpR op_eq (pe_ix (ixTK (K := K) rfl) (pv 3) pe_int (fun _ _ => rfl)) pe_str (nomark _))) (fun _ _ _ _ _ => (pv 3))) pa_nil)))
    (pss_cons (ps_par3 (i := 5) (j := 6) (l := 7) rfl scLc.nd rfl rfl rfl (by decide) (by decide) (by decide) rfl rfl rfl (pa_cons (pe_lc (own := [("_law_house", 12)]) (g := gName 12) (tt := tYes) rfl scLc.nd (pi_range1 (by rfl) B.range (pa_cons (pv 0) pa_nil)) (blkOk_by (N := nLc) (sc := defScope sLCounts) (by decide +kernel)) (fun _ _ _ _ _ => (pg_name (i := 12) scLc.nd rfl (Or.inl rfl))) (fun _ _ _ _ _ => pts_nil) (fun _ _ _ _ _ => (pe_op op_rep (pe_lst (pa_cons pe_int pa_nil)) (pv 4)))) (pa_cons (pe_lc (own := [("_law_tie", 13)]) (g := gName 13) (tt := tYes) rfl scLc.nd (piA (K := K) rfl (pv 1)) (blkOk_by (N := nLc) (sc := defScope sLCounts) (by decide +kernel)) (fun _ _ _ _ _ => (pg_name (i := 13) scLc.nd rfl (Or.inl rfl))) (fun _ _ _ _ _ => pts_nil) (fun _ _ _ _ _ => (pe_op op_rep (pe_lst (pa_cons pe_int pa_nil)) (pv 4)))) (pa_cons pe_int pa_nil))) rfl)
    (pss_cons (ps_for PassesOwn.never rfl (pi_list (pv 2)) (pg_name (i := 3) scLc.nd rfl (.inl rfl))
      (pss_one (ps_if (pt_cmpR op_eq (pe_ix ix_tup (pv 3) pe_int (fun _ _ => rfl)) pe_str (nomark _))
        (pss_cons (ps_set (i := 8) scLc.nd rfl (.inl rfl) (pe_callTy call_list_of (by rfl) B.list PyProof.Rows.boot_list (pa_cons (pe_ix ix_list (pv 5) (pe_ix ix_tup (pv 3) pe_int (fun _ _ => rfl)) (fun _ _ => rfl)) pa_nil)))
        (pss_cons (ps_asg pe_int (pg_sub (pv 8) (pv 7) set_list))
        (pss_cons (ps_asg (pv 8) (pg_sub (pv 5) (pe_ix ix_tup (pv 3) pe_int (fun _ _ => rfl)) set_list))
        (pss_one (ps_set (i := 7) scLc.nd rfl (.inl rfl) (pe_op op_add (pv 7) pe_int))))))
        (pss_cons (ps_asg (pe_ix (ix_seq (K := K) rfl) (pv 1) (pe_ix ix_tup (pv 3) pe_int (fun _ _ => rfl)) (fun _ _ => rfl)) (pg_or (pg_lst rfl (pgs_cons (pg_name (i := 9) scLc.nd rfl (.inl rfl)) (pgs_cons (pg_name (i := 10) scLc.nd rfl (.inl rfl)) pgs_nil))) (pg_tup rfl (pgs_cons (pg_name (i := 9) scLc.nd rfl (.inl rfl)) (pgs_cons (pg_name (i := 10) scLc.nd rfl (.inl rfl)) pgs_nil)))))
        (pss_cons (ps_setLc (i := 11) (own := [("_law_one", 14), ("_law_other", 15), ("_law_both", 16)]) (g := gTup K 3 (gCons (gName 14) (gCons (gName 15) (gCons (gName 16) gNil)))) (tt := tYes) rfl scLc.nd rfl rfl (sw_true rfl rfl rfl (by decide +kernel)) (ZT.pi_zip3 (by rfl) B.zip (pa_cons (pe_ix ix_list (pv 5) (pv 9) (fun _ _ => rfl)) (pa_cons (pe_ix ix_list (pv 5) (pv 10) (fun _ _ => rfl)) (pa_cons (pe_ix ix_list (pv 6) (pe_ix ix_tup (pv 3) pe_int (fun _ _ => rfl)) (fun _ _ => rfl)) pa_nil)))) (blkOk_by (N := nLc) (sc := defScope sLCounts) (by decide +kernel)) (fun _ _ _ _ _ => (pg_tup rfl (pgs_cons (pg_name (i := 14) scLc.nd rfl (Or.inl rfl)) (pgs_cons (pg_name (i := 15) scLc.nd rfl (Or.inl rfl)) (pgs_cons (pg_name (i := 16) scLc.nd rfl (Or.inl rfl)) pgs_nil))))) (fun _ _ _ _ _ => pts_nil) (fun _ _ _ _ _ => (pe_op op_sub (pe_op op_add (pv 14) (pv 15)) (pv 16))))
        (pss_one (ps_asg (pe_tup (pa_cons (pv 11) (pa_cons (pv 11) (pa_cons (pv 11) pa_nil)))) (pg_tup rfl (pgs_cons (pg_sub (pv 5) (pv 9) set_list) (pgs_cons (pg_sub (pv 5) (pv 10) set_list) (pgs_cons (pg_sub (pv 6) (pe_ix ix_tup (pv 3) pe_int (fun _ _ => rfl)) set_list) pgs_nil)))))))))))
    (pss_one (ps_ret (pe_lst (pa_cons (pv 5) (pa_cons (pv 6) pa_nil)))))))), ?_⟩
    have n12 := hW.n12
    have t20 := hW.t20
    generalize hk : (actD ss).length = k
    have k4 : k ≤ 400 := by rw [← hk]; exact Nat.le_trans (actD_len ss) hl4
    -- how many acts
    refine ⟨_, rfl, p, rfl, ⟨_, SqL.of hp⟩, fun D1 hD1 => lc_list (K := K) (a := p) (xs := cs.map V.ref) (fun i H' => ∃ xs : List V, Same H H' ∧ H' D1 = some (.lst xs) ∧ xs.length = (actD (ss.take i)).length) ⟨[], same_new hD1, upd_same, rfl⟩ (fun i H' _ ⟨_, s6, _⟩ => SqL.of (s6 _ _ hp)) ?_ ?_⟩
    · rintro i x H6 hx ⟨xs, s6, hD1', lx⟩
      obtain ⟨a, st, rfl, ha', hst, hat⟩ := hA.get' hx
      have hat6 := s6 _ _ hat
      have ea := take_succ hst
      have l4 : (actD (ss.take i)).length ≤ 400 := Nat.le_trans (actD_len _) (by rw [List.length_take]; omega)
      refine ⟨rfl, ?_⟩
      cases st with
      | dd h d =>
        have rd : ∀ (j : Nat) v, (stV (.dd h d))[j]? = some v → atI (stV (.dd h d)) (j : Int) = some v := fun j v hv => at_i hv
        refine ⟨_, rfl, a, _, (0 : Int), .str "do", rfl, rfl, SqT.of hat6, rd 0 _ rfl, ⟨rfl, true, congrArg V.bl (decide_eq_true rfl), iteT ?_⟩⟩
        refine ⟨_, rfl, _, hD1', szl (by omega), xs ++ [.ref a], fun c o e => by rw [upd_ne (ne_of_none e hD1)]; exact s6 _ _ e, upd_same, ?_⟩
        rw [ea, actD_app, List.length_append, List.length_append, lx]; rfl
      | mt t =>
        have rd : ∀ (j : Nat) v, (stV (.mt t))[j]? = some v → atI (stV (.mt t)) (j : Int) = some v := fun j v hv => at_i hv
        refine ⟨_, rfl, a, _, (0 : Int), .str "meet", rfl, rfl, SqT.of hat6, rd 0 _ rfl, ⟨rfl, false, congrArg V.bl (decide_eq_false (by decide +kernel)), iteF ?_⟩⟩
        refine ⟨xs, s6, hD1', ?_⟩
        rw [ea, actD_app, show actD [Stp.mt t] = [] from rfl, List.append_nil, lx]
    rintro H6 ⟨xs, s6, hD1', lx⟩
    rw [List.take_of_length_le (by rw [List.length_map, hA.1]; exact Nat.le_refl _), hk] at lx
    refine ⟨D1, _, rfl, .inl (SqL.of hD1'), ?_⟩
    rw [lx]
    dsimp only [List.set]
    -- rows of noughts
    refine seqG (fun σ H' => ∃ (hl al : Addr) (hs as : List Addr), σ = [some (.int (n : Int)), some (.ref tl), some (.ref p), none, some (.int (k : Int)), some (.ref hl), some (.ref al), some (.int 0), none, none, none, none, none, none, none, none, none] ∧ Cl H H' hl al hs as (cu0 n ps.length k)) ?_ fun go => ?_
    · rintro σ H7 ⟨hl, al, hs, as, rfl, cl7⟩
      refine ⟨_, rfl, p, rfl, ⟨_, SqL.of (cl7.s _ _ hp)⟩, for_list (K := K) (a := p) (xs := cs.map V.ref) (fun i σ H' => ∃ (v3 v8 v9 v10 v11 : Option V) (hs as : List Addr), σ = [some (.int (n : Int)), some (.ref tl), some (.ref p), v3, some (.int (k : Int)), some (.ref hl), some (.ref al), some (.int ((actD (ss.take i)).length : Int)), v8, v9, v10, v11, none, none, none, none, none] ∧ Cl H H' hl al hs as (cur ps (cu0 n ps.length k) (ss.take i)))
        ⟨none, none, none, none, none, hs, as, rfl, cl7⟩ (fun i σ H' _ ⟨_, _, _, _, _, _, _, _, c⟩ => SqL.of (c.s _ _ hp)) ?_ ?_⟩
      · rintro i x σ H8 hx ⟨v3, v8, v9, v10, v11, hs, as, rfl, cl⟩
        obtain ⟨a, st, rfl, ha', hst, hat⟩ := hA.get' hx
        have hat8 := cl.s _ _ hat
        have ea := take_succ hst
        have hoks := hok st (List.mem_of_getElem? hst)
        have C := cur_all hW k (ss.take i) (fun y hy => hok y (List.mem_of_mem_take hy)) (by
          rw [← hk, ← List.take_append_drop i ss, actD_app, List.length_append, List.take_append_drop]; omega)
        have kk : (actD (ss.take (i + 1))).length ≤ k := by
          rw [← hk]
          conv => rhs; rw [← List.take_append_drop (i + 1) ss, actD_app, List.length_append]
          omega
        have lds := C.ds
        have ec : cur ps (cu0 n ps.length k) (ss.take (i + 1)) = (cur ps (cu0 n ps.length k) (ss.take i)).st ps st := by rw [ea, cur_snoc]
        generalize cur ps (cu0 n ps.length k) (ss.take i) = u at cl C lds ec
        have ok := C.ok
        refine gn ?_
        dsimp only [List.set]
        have na : a ≠ hl ∧ a ≠ al := ⟨fun z => (by rw [z, cl.h0] at hat; cases hat), fun z => (by rw [z, cl.a0] at hat; cases hat)⟩
        cases st with
        | dd h d =>
          have rd : ∀ (j : Nat) v, (stV (.dd h d))[j]? = some v → atI (stV (.dd h d)) (j : Int) = some v := fun j v hv => at_i hv
          have hn : h < n := hoks.1
          have kk' : (actD (ss.take i)).length < k := by
            rw [ea, actD_app, List.length_append] at kk
            have : (actD [Stp.dd h d]).length = 1 := rfl
            omega
          obtain ⟨x, hx1⟩ := ex_at (l := hs) (i := h) (by rw [cl.h.2.1, ok.lh]; exact hn)
          have hxr := cl.h.2.2 h x _ hx1 (getL (by rw [ok.lh]; exact hn))
          have rl := ok.row hn
          refine ⟨_, rfl, a, _, (0 : Int), .str "do", rfl, rfl, SqT.of hat8, rd 0 _ rfl, ⟨rfl, true, congrArg V.bl (decide_eq_true rfl), iteT ?_⟩⟩
          refine ⟨_, rfl, _, rfl, a, _, (1 : Int), .int (h : Int), rfl, rfl, SqT.of hat8, rd 1 _ rfl, hl, _, (h : Int), .ref x, rfl, rfl, SqL.of cl.h.1, at_i (map_at hx1), x, _, rfl, .inl (SqL.of hxr), fun l1 hl1 => ?_⟩
          have s9 := same_new (o := HO.lst (vrow (u.hs.getD h []))) hl1
          have cl9 := cl.same s9
          have hl19 : (upd H8 l1 (HO.lst (vrow (u.hs.getD h [])))) l1 = some (.lst (vrow (u.hs.getD h []))) := upd_same
          have nl1 : l1 ≠ hl := fun z => by rw [z, cl.h.1] at hl1; cases hl1
          have nl2 : l1 ≠ al := fun z => by rw [z, cl.a.1] at hl1; cases hl1
          have nl3 : l1 ∉ hs := fun z => by
            obtain ⟨j, hj⟩ := List.getElem?_of_mem z
            obtain ⟨r, hr'⟩ := ex_at (l := u.hs) (i := j) (by rw [← cl.h.2.1]; exact lt_at hj)
            have := cl.h.2.2 j l1 r hj hr'
            rw [hl1] at this; cases this
          have nl4 : l1 ∉ as := fun z => by
            obtain ⟨j, hj⟩ := List.getElem?_of_mem z
            obtain ⟨r, hr'⟩ := ex_at (l := u.ts) (i := j) (by rw [← cl.a.2.1]; exact lt_at hj)
            have := cl.a.2.2 j l1 r hj hr'
            rw [hl1] at this; cases this
          have hl0 : H l1 = none := cl.s.free hl1
          generalize upd H8 l1 (HO.lst (vrow (u.hs.getD h []))) = H9 at cl9 hl19 ⊢
          refine ⟨_, rfl, _, rfl, l1, _, _, (actD (ss.take i)).length, rfl, rfl, hl19, ixN_of (by rw [vrow_len, rl]; exact kk'), ?_⟩
          rw [← vrow_set]
          have cl10 : Cl H (upd H9 l1 (HO.lst (vrow ((u.hs.getD h []).set (actD (ss.take i)).length 1)))) hl al hs as u := ⟨fun c o e => by rw [upd_ne (ne_of_none e hl0)]; exact cl9.s _ _ e, cl9.h.keep nl1 nl3, cl9.a.keep nl2 nl4, cl9.h0, cl9.a0, cl9.ne, cl9.nh, cl9.na, cl9.f⟩
          have hl110 : (upd H9 l1 (HO.lst (vrow ((u.hs.getD h []).set (actD (ss.take i)).length 1)))) l1 = some (.lst (vrow ((u.hs.getD h []).set (actD (ss.take i)).length 1))) := upd_same
          generalize upd H9 l1 (HO.lst (vrow ((u.hs.getD h []).set (actD (ss.take i)).length 1))) = H10 at cl10 hl110 ⊢
          refine ⟨_, rfl, _, rfl, _, rfl, a, _, (1 : Int), .int (h : Int), rfl, rfl, SqT.of (cl10.s _ _ hat), rd 1 _ rfl, hl, _, _, h, rfl, rfl, cl10.h.1, ixN_of (by rw [List.length_map, cl10.h.2.1, ok.lh]; exact hn), ?_⟩
          have cl11 := cl10.setH (h := h) hl110 nl1 nl2 hl0
          refine ⟨_, rfl, _, _, rfl, rfl, ?_⟩
          dsimp only [List.set]
          refine ⟨some (.ref a), some (.ref l1), v9, v10, v11, hs.set h l1, as, ?_, ?_⟩
          · rw [ea, actD_app, List.length_append]; rfl
          · rw [ec]
            show Cl H _ hl al _ as ⟨u.hs.set h ((u.hs.getD h []).set u.ds.length 1), u.ts, _⟩
            rw [lds]
            exact ⟨cl11.s, cl11.h, cl11.a, cl11.h0, cl11.a0, cl11.ne, cl11.nh, cl11.na, cl11.f⟩
        | mt t =>
          have rd : ∀ (j : Nat) v, (stV (.mt t))[j]? = some v → atI (stV (.mt t)) (j : Int) = some v := fun j v hv => at_i hv
          obtain ⟨pr, hpr⟩ := ex_at (show t < ps.length from hoks)
          obtain ⟨p1, p2, p3⟩ := hW.at_ hpr
          have tn := lt_at hpr
          refine ⟨_, rfl, a, _, (0 : Int), .str "meet", rfl, rfl, SqT.of hat8, rd 0 _ rfl, ⟨rfl, false, congrArg V.bl (decide_eq_false (by decide +kernel)), iteF ?_⟩⟩
          refine seqG (fun σ H' => σ = [some (.int (n : Int)), some (.ref tl), some (.ref p), some (.ref a), some (.int (k : Int)), some (.ref hl), some (.ref al), some (.int ((actD (ss.take i)).length : Int)), v8, some (.int (pr.1 : Int)), some (.int (pr.2 : Int)), v11, none, none, none, none, none] ∧ H' = H8) ?_ fun go2 => ?_
          rotate_left
          · have hT8 := hT.same cl.s
            cases b with
            | false =>
              obtain ⟨tas, t1, t2⟩ := hT8
              obtain ⟨pa, hpa, hpl⟩ := t2.get hpr
              have hpl : H8 pa = some (.lst [.int (pr.1 : Int), .int (pr.2 : Int)]) := hpl
              exact ⟨_, rfl, _, rfl, a, _, (1 : Int), .int (t : Int), rfl, rfl, SqT.of hat8, rd 1 _ rfl, .inl ⟨tl, _, (t : Int), .ref pa, rfl, rfl, SqL.of t1, at_i (map_at hpa), .inl ⟨pa, _, rfl, SqL.of hpl, rfl, _, _, rfl, _, _, rfl, rfl, go2 _ _ ⟨rfl, rfl⟩⟩⟩⟩
            | true =>
              obtain ⟨tas, t1, t2⟩ := hT8
              obtain ⟨pa, hpa, hpl⟩ := t2.get hpr
              have hpl : H8 pa = some (.tup [.int (pr.1 : Int), .int (pr.2 : Int)]) := hpl
              exact ⟨_, rfl, _, rfl, a, _, (1 : Int), .int (t : Int), rfl, rfl, SqT.of hat8, rd 1 _ rfl, .inr ⟨tl, _, (t : Int), .ref pa, rfl, rfl, SqT.of t1, at_i (map_at hpa), .inr ⟨pa, _, rfl, SqT.of hpl, rfl, _, _, rfl, _, _, rfl, rfl, go2 _ _ ⟨rfl, rfl⟩⟩⟩⟩
          rintro σ H' ⟨rfl, rfl⟩
          obtain ⟨x1, ex1⟩ := ex_at (l := hs) (i := pr.1) (by rw [cl.h.2.1, ok.lh]; exact p1)
          obtain ⟨x2, ex2⟩ := ex_at (l := hs) (i := pr.2) (by rw [cl.h.2.1, ok.lh]; exact p2)
          obtain ⟨x3, ex3⟩ := ex_at (l := as) (i := t) (by rw [cl.a.2.1, ok.lt]; exact tn)
          have g1 := cl.h.2.2 pr.1 x1 _ ex1 (getL (by rw [ok.lh]; exact p1))
          have g2 := cl.h.2.2 pr.2 x2 _ ex2 (getL (by rw [ok.lh]; exact p2))
          have g3 := cl.a.2.2 t x3 _ ex3 (getL (by rw [ok.lt]; exact tn))
          have r1 := ok.row p1
          have r2 := ok.row p2
          have r3 := ok.rowT tn
          have ll := ltie_len r1 r2 r3
          refine ⟨_, rfl, _, rfl, hl, _, (pr.1 : Int), .ref x1, rfl, rfl, SqL.of cl.h.1, at_i (map_at ex1), _, rfl, _, rfl, hl, _, (pr.2 : Int), .ref x2, rfl, rfl, SqL.of cl.h.1, at_i (map_at ex2), _, rfl, _, rfl, a, _, (1 : Int), .int (t : Int), rfl, rfl, SqT.of hat8, rd 1 _ rfl, al, _, (t : Int), .ref x3, rfl, rfl, SqL.of cl.a.1, at_i (map_at ex3), ?_⟩
          refine ⟨false, false, false, x1, x2, x3, _, _, _, rfl, SqL.of g1, SqL.of g2, SqL.of g3, fun J hJ => ZT.lc_zip3 (K := K) (t1 := false) (t2 := false) (t3 := false) (by rw [vrow_len, vrow_len, r1, r2]) (by rw [vrow_len, vrow_len, r1, r3]) (fun i H3 => Same H' H3 ∧ H3 J = some (.lst (vrow ((u.jn pr t).take i)))) ⟨same_new hJ, by rw [upd_same]; rfl⟩ (fun i H' _ ⟨s3, _⟩ => ⟨SqL.of (s3 _ _ g1), SqL.of (s3 _ _ g2), SqL.of (s3 _ _ g3)⟩) ?_ ?_⟩
          · rintro i x y z T H3 hx hy hz hT' ⟨s3, hJ3⟩
            obtain ⟨x', hx', rfl⟩ := vrow_at hx
            obtain ⟨y', hy', rfl⟩ := vrow_at hy
            obtain ⟨z', hz', rfl⟩ := vrow_at hz
            have sT := same_new (o := HO.tup [V.int x', .int y', .int z']) hT'
            refine ⟨T, _, rfl, SqT.of upd_same, rfl, _, _, rfl, _, _, rfl, _, _, rfl, rfl, rfl, ?_⟩
            have hi := lt_at hx'
            refine ⟨_, rfl, _, rfl, _, _, rfl, rfl, _, rfl, _, _, rfl, rfl, _, sT _ _ hJ3, szl (by rw [vrow_len, List.length_take]; omega), fun c' o e => ?_, ?_⟩
            · rw [upd_ne (ne_of_none e hJ)]
              exact sT _ _ (s3 _ _ e)
            · have e : (u.jn pr t)[i]? = some (x' + y' - z') := by
                unfold Cu.jn ltie
                rw [List.getElem?_zipWith, List.getElem?_zipWith, hx', hy', hz']
              rw [upd_same, take_succ e, vrow, vrow, List.map_append]; rfl
          rintro H3 ⟨s3, hJ3⟩
          rw [List.take_of_length_le (by rw [vrow_len, r1]; show (ltie _ _ _).length ≤ k; rw [ll]; exact Nat.le_refl _)] at hJ3
          refine gn ?_
          dsimp only [List.set]
          refine ⟨_, rfl, _, rfl, _, rfl, (by show 3 ≤ sizeLine; decide), fun tp htp => ?_⟩
          have s4 := s3.trans (same_new (o := HO.tup [V.ref J, .ref J, .ref J]) htp)
          have kJ := (same_new (o := HO.tup [V.ref J, .ref J, .ref J]) htp) _ _ hJ3
          have ktp : (upd H3 tp (HO.tup [V.ref J, .ref J, .ref J])) tp = some (.tup [V.ref J, .ref J, .ref J]) := upd_same
          have cl4 := cl.same s4
          have nJ1 : J ≠ hl := fun z => by rw [z, cl.h.1] at hJ; cases hJ
          have nJ2 : J ≠ al := fun z => by rw [z, cl.a.1] at hJ; cases hJ
          have nJ0 : H J = none := cl.s.free hJ
          generalize upd H3 tp (HO.tup [V.ref J, .ref J, .ref J]) = H4 at kJ ktp cl4 ⊢
          refine ⟨tp, _, rfl, SqT.of ktp, rfl, ?_⟩
          refine ⟨_, _, rfl, _, rfl, _, rfl, hl, _, (pr.1 : Int), pr.1, rfl, rfl, cl4.h.1, ixN_of (by rw [List.length_map, cl4.h.2.1, ok.lh]; exact p1), ?_⟩
          have cl5 := cl4.setH (h := pr.1) kJ nJ1 nJ2 nJ0
          have kJ5 : (upd H4 hl (.lst ((hs.map V.ref).set pr.1 (.ref J)))) J = some (.lst (vrow (u.jn pr t))) := by rw [upd_ne nJ1]; exact kJ
          generalize upd H4 hl (.lst ((hs.map V.ref).set pr.1 (.ref J))) = H5 at cl5 kJ5 ⊢
          refine ⟨_, _, rfl, _, rfl, _, rfl, hl, _, (pr.2 : Int), pr.2, rfl, rfl, cl5.h.1, ixN_of (by rw [List.length_map, cl5.h.2.1, List.length_set, ok.lh]; exact p2), ?_⟩
          have cl6 := cl5.setH (h := pr.2) kJ5 nJ1 nJ2 nJ0
          have kJ6 : (upd H5 hl (.lst (((hs.set pr.1 J).map V.ref).set pr.2 (.ref J)))) J = some (.lst (vrow (u.jn pr t))) := by rw [upd_ne nJ1]; exact kJ5
          generalize upd H5 hl (.lst (((hs.set pr.1 J).map V.ref).set pr.2 (.ref J))) = H6' at cl6 kJ6 ⊢
          refine ⟨_, _, rfl, _, rfl, _, rfl, a, _, (1 : Int), .int (t : Int), rfl, rfl, SqT.of (cl6.s _ _ hat), rd 1 _ rfl, al, _, (t : Int), t, rfl, rfl, cl6.a.1, ixN_of (by rw [List.length_map, cl6.a.2.1, ok.lt]; exact tn), ?_⟩
          have cl7' := cl6.setA (h := t) kJ6 nJ1 nJ2
          refine ⟨rfl, some (.ref a), v8, some (.int (pr.1 : Int)), some (.int (pr.2 : Int)), some (.ref J), (hs.set pr.1 J).set pr.2 J, as.set t J, ?_, ?_⟩
          · rw [ea, actD_app, show actD [Stp.mt t] = [] from rfl, List.append_nil]
          · rw [ec]
            show Cl H _ hl al _ _ (u.met (ps.getD t (0, 0)) t)
            rw [show ps.getD t (0, 0) = pr by rw [List.getD_eq_getElem?_getD, hpr]; rfl]
            exact ⟨cl7'.s, cl7'.h, cl7'.a, cl7'.h0, cl7'.a0, cl7'.ne, cl7'.nh, cl7'.na, cl7'.f⟩
      · rintro σ H8 ⟨v3, v8, v9, v10, v11, hs, as, rfl, cl⟩
        rw [List.take_of_length_le (by rw [List.length_map, hA.1]; exact Nat.le_refl _)] at cl
        have ec : cnt n ps ss = cur ps (cu0 n ps.length k) ss := by unfold cnt; rw [hk]
        refine ⟨_, rfl, _, rfl, (by show 2 ≤ sizeLine; decide), fun q0 hq0 => ?_⟩
        have s9 := same_new (o := HO.lst [V.ref hl, .ref al]) hq0
        refine q q0 hl al hs as _ (cl.s.trans s9) cl.h0 cl.f upd_same ?_ ?_
        · rw [ec]; exact cl.h.same s9
        · rw [ec]; exact cl.a.same s9
    · have rowk : ∀ {H3 : Hp} {l : Addr}, (upd H3 l (.lst (List.replicate k (V.int 0)))) l = some (.lst (vrow (List.replicate k 0))) := fun {H3 l} => by rw [upd_same, vrow, List.map_replicate]
      refine ⟨_, rfl, (n : Int), rfl, by omega, by omega, fun D2 hD2 => lc_range (fun i H' => ∃ hs, Nt H6 H' D2 k i hs) ⟨[], Nt.init hD2⟩ ?_ ?_⟩
      · rintro i H7 hi ⟨hs, I⟩
        refine ⟨rfl, (by show 1 ≤ sizeLine; decide), fun l1 hl1 => ⟨_, rfl, rep_by k upd_same (by omega) fun l2 hl2 => ?_⟩⟩
        have s1 := same_new (o := HO.lst [V.int 0]) hl1
        exact I.step (by omega) (s1.trans (same_new hl2)) rowk (s1.free hl2)
      rintro H7 ⟨hs, I⟩
      have I := I
      rw [Int.toNat_natCast] at I
      refine ⟨_, rfl, tl, rfl, ?_⟩
      have s07 := s6.trans I.s
      have fin : ∀ (D3 : Addr) (H8 : Hp) (as : List Addr), Nt H7 H8 D3 k ps.length as → Cl H H8 D2 D3 hs as (cu0 n ps.length k) := fun D3 H8 as J =>
        ⟨s07.trans J.s, I.l.same J.s, J.l, s6.free I.d, s07.free J.d, fun z => (by have := J.d; rw [← z, I.l.1] at this; cases this), fun x hx => ⟨(I.f x hx).2, fun z => (by
          obtain ⟨i, hi⟩ := List.getElem?_of_mem hx
          obtain ⟨r, hr'⟩ := ex_at (l := List.replicate n (List.replicate k (0 : Int))) (i := i) (by rw [← I.l.2.1]; exact lt_at hi)
          have := I.l.2.2 i x r hi hr'
          rw [z, J.d] at this; cases this)⟩, fun x hx => ⟨fun z => (by have := (J.f x hx).1; rw [z, I.l.1] at this; cases this), (J.f x hx).2⟩, fun x hx => s6.free (I.f x hx).1⟩
      have hT7 := hT.same s07
      cases b with
      | false =>
        obtain ⟨tas, t1, t2⟩ := hT7
        refine .inl ⟨_, SqL.of t1, fun D3 hD3 => lc_list (K := K) (a := tl) (xs := tas.map V.ref) (fun i H' => ∃ as, Nt H7 H' D3 k i as) ⟨[], Nt.init hD3⟩ (fun i H' _ ⟨_, J⟩ => SqL.of (J.s _ _ t1)) ?_ ?_⟩
        · rintro i x H8 hx ⟨as, J⟩
          have hi := lt_at hx
          rw [List.length_map, t2.1] at hi
          refine ⟨rfl, (by show 1 ≤ sizeLine; decide), fun l1 hl1 => ⟨_, rfl, rep_by k upd_same (by omega) fun l2 hl2 => ?_⟩⟩
          have s1 := same_new (o := HO.lst [V.int 0]) hl1
          exact J.step (by omega) (s1.trans (same_new hl2)) rowk (s1.free hl2)
        rintro H8 ⟨as, J⟩
        rw [List.length_map, t2.1] at J
        exact ⟨_, _, _, rfl, go _ _ ⟨D2, D3, hs, as, rfl, fin _ _ _ J⟩⟩
      | true =>
        obtain ⟨tas, t1, t2⟩ := hT7
        refine .inr ⟨_, SqT.of t1, fun D3 hD3 => lc_tup (K := K) (a := tl) (xs := tas.map V.ref) (fun i H' => ∃ as, Nt H7 H' D3 k i as) ⟨[], Nt.init hD3⟩ (fun i H' _ ⟨_, J⟩ => SqT.of (J.s _ _ t1)) ?_ ?_⟩
        · rintro i x H8 hx ⟨as, J⟩
          have hi := lt_at hx
          rw [List.length_map, t2.1] at hi
          refine ⟨rfl, (by show 1 ≤ sizeLine; decide), fun l1 hl1 => ⟨_, rfl, rep_by k upd_same (by omega) fun l2 hl2 => ?_⟩⟩
          have s1 := same_new (o := HO.lst [V.int 0]) hl1
          exact J.step (by omega) (s1.trans (same_new hl2)) rowk (s1.free hl2)
        rintro H8 ⟨as, J⟩
        rw [List.length_map, t2.1] at J
        exact ⟨_, _, _, rfl, go _ _ ⟨D2, D3, hs, as, rfl, fin _ _ _ J⟩⟩
end
end K1
namespace K1
open PySem PySem.Spec PyProof.Rows L2
theorem rc_take {ds cs : List Int} {i : Nat} {d : Int} (hd : ds[i]? = some d) (hl : ds.length ≤ cs.length) : rc (ds.take (i + 1)) cs = rc (ds.take i) cs ++ List.replicate (cs.getD i 0).toNat d := by
  have := lt_at hd
  rw [take_succ hd, rc_snoc _ _ _ (by rw [List.length_take]; omega), List.length_take, Nat.min_eq_left (by omega)]
theorem flat_vrow (l : List Int) : (vrow l).all flatV = true := by
  rw [List.all_eq_true]
  intro x hx
  obtain ⟨y, _, rfl⟩ := List.mem_map.mp hx
  rfl
theorem eqV_int (a b : Int) : eqV (.int a) (.int b) = decide (a = b) := by
  show (a == b) = _
  by_cases z : a = b
  · rw [decide_eq_true z, z]; simp
  · rw [decide_eq_false z]; simp [z]
theorem inV_vrow (a : Int) (l : List Int) : inV (.int a) (vrow l) = decide (a ∈ l) := by
  unfold inV vrow
  rw [List.any_map]
  induction l with
  | nil => rfl
  | cons b r ih =>
    rw [List.any_cons, ih]
    have e : eqV (V.int b) (V.int a) = decide (a = b) := by
      rw [eqV_int]
      by_cases z : a = b
      · rw [z]
      · rw [decide_eq_false z, decide_eq_false (fun w => z w.symm)]
    show (eqV (V.int b) (V.int a) || decide (a ∈ r)) = decide (a ∈ b :: r)
    rw [e]
    by_cases z : a = b
    · rw [decide_eq_true z, Bool.true_or, decide_eq_true (by rw [z]; exact List.mem_cons_self)]
    · by_cases m : a ∈ r
      · rw [decide_eq_true m, Bool.or_true, decide_eq_true (List.mem_cons_of_mem _ m)]
      · rw [decide_eq_false z, decide_eq_false m, decide_eq_false (fun w => (List.mem_cons.mp w).elim z m)]; rfl
theorem per {g : Nat → Int} {f : Int → Int} (hg : ∀ k, g (k + 1) = f (g k)) {b l : Nat} (hb : b < l) (e : g b = g l) : ∀ c, b ≤ c → g c = g (b + (c - b) % (l - b)) := by
  have h1 : ∀ m, g (b + m + (l - b)) = g (b + m) := by
    intro m
    induction m with
    | zero => rw [Nat.add_zero, show b + (l - b) = l by omega]; exact e.symm
    | succ m ih =>
      rw [show b + (m + 1) + (l - b) = (b + m + (l - b)) + 1 by omega, hg, ih, ← hg]; rfl
  have h2 : ∀ q r, g (b + (q * (l - b) + r)) = g (b + r) := by
    intro q
    induction q with
    | zero => intro r; rw [Nat.zero_mul, Nat.zero_add]
    | succ q ih =>
      intro r
      rw [show b + ((q + 1) * (l - b) + r) = b + (q * (l - b) + r) + (l - b) by rw [Nat.add_mul]; omega, h1, ih]
  intro c hc
  have h3 := Nat.div_add_mod (c - b) (l - b)
  rw [Nat.mul_comm] at h3
  have h4 := h2 ((c - b) / (l - b)) ((c - b) % (l - b))
  rw [h3, show b + (c - b) = c by omega] at h4
  exact h4
noncomputable def spLLb : Sp := fun vs H Q _ => ∃ (p sl ca : Addr) (fi : Int) (tas : List Addr) (tb : Ts) (n t : Nat) (cs : List Addr) (ss : List Stp) (cr : List Int), vs = [.ref p, .int fi, .ref sl, .ref ca] ∧ LLq H p tas tb ∧ Wf tb ∧ (0 ≤ fi ∧ fi < (nS tb : Int)) ∧ H sl = some (.lst (cs.map V.ref)) ∧ StpsA H cs ss ∧ (∀ s ∈ ss, okS n t tb.length s) ∧ ss.length ≤ 400 ∧
  H ca = some (.lst (vrow cr)) ∧ cr.length = (actD ss).length ∧ (∀ i, 0 ≤ cr.getD i 0) ∧ ∀ H', Same H H' → Q (.int (run tb fi (rc (actD ss) cr))) H'
section
variable {P : Program} {w : World} {K : PySem.W.Frag} {mg : Str → Option Value} {base : Heap}
noncomputable abbrev nLb : List Str := ["_law_tables", "_law_first", "_law_steps_here", "_law_counts_here", "_law_state", "_law_acts", "_law_deed", "_law_count", "_law_met", "_law_turn", "_law_after", "_law_back", "_law_step"]
theorem scLb : FnScope nLb ["_law_tables", "_law_first", "_law_steps_here", "_law_counts_here"] (defScope sLLedBy) := ⟨rfl, rfl, rfl, by decide +kernel, rfl, by decide +kernel, by decide +kernel⟩
theorem ok_llb {f : Addr} {fd : FuncData} (D : Df K mg "_law_led_by" sLLedBy ["_law_tables", "_law_first", "_law_steps_here", "_law_counts_here"] f fd) (B : Bt mg) : FnOk P w K mg base CX0 1 f fd ["_law_tables", "_law_first", "_law_steps_here", "_law_counts_here"] spLLb := by
  refine D.F.ok scLb (fun vs H Q E h => ?_) (fun cdv A outer s H vs Q E hr h => ?_)
  · obtain ⟨p, sl, ca, fi, tas, tb, n, t, cs, ss, cr, rfl, _⟩ := h
    rfl
  · obtain ⟨p, sl, ca, fi, tas, tb, n, t, cs, ss, cr, rfl, hT, hW, hfi, hp, hA, hok, hl4, hc, lc, c0, q⟩ := h
    have hu := hr.units
    refine ⟨_, (pss_cons (ps_par (i := 4) (j := 5) rfl scLb.nd rfl rfl (by decide) rfl rfl (pa_cons (pv 1) (pa_cons (pe_lc (own := [("_law_step", 12)]) (g := gName 12) rfl scLb.nd (pi_list (pv 2)) (blkOk_by (N := nLb) (sc := defScope sLLedBy) (by decide +kernel)) (fun _ _ _ _ _ => (pg_name (i := 12) scLb.nd rfl (Or.inl rfl))) (fun _ _ _ _ _ => pts_one (pt_cmpR op_eq (pe_ix (ixTK (K := K) rfl) (pv 12) pe_int (fun _ _ => rfl)) pe_str (nomark _))) (fun _ _ _ _ _ => (pe_ix (ixTK (K := K) rfl) (pv 12) pe_int (fun _ _ => rfl)))) pa_nil)) rfl)
    (pss_cons (ps_for PassesOwn.never rfl (ZM.pi_zipM (by rfl) B.zip (pa_cons (pv 5) (pa_cons (pv 3) pa_nil))) (pg_tup rfl (pgs_cons (pg_name (i := 6) scLb.nd rfl (.inl rfl)) (pgs_cons (pg_name (i := 7) scLb.nd rfl (.inl rfl)) pgs_nil)))
      (pss_cons (ps_set (i := 8) scLb.nd rfl (.inl rfl) (pe_lst (pa_cons (pv 4) pa_nil)))
      (pss_one (ps_for PassesOwn.never rfl (pi_range1 (by rfl) B.range (pa_cons (pe_op op_add (pe_callB call_len_seq (by rfl) B.len PySem.boot_len (pa_cons (pe_ix ix_list (pv 0) pe_int (fun _ _ => rfl)) pa_nil)) pe_int) pa_nil)) (pg_name (i := 9) scLb.nd rfl (.inl rfl))
        (pss_cons (ps_set (i := 10) scLb.nd rfl (.inl rfl) (pe_ix ix_list (pe_ix ix_list (pv 0) (pv 6) (fun _ _ => rfl)) (pe_ix ix_list (pv 8) (pe_un un_neg pe_int) (fun _ _ => rfl)) (fun _ _ => rfl)))
        (pss_cons (ps_if (pt_cmpR (opInK (K := K) rfl) (pv 10) (pv 8) rfl)
          (pss_cons (ps_set (i := 11) scLb.nd rfl (.inl rfl) (pe_bm PySem.F.plainAttrs_list PySem.F.slot_list_index PySem.F.type_list_index mt_index (pv 8) (pa_cons (pv 10) pa_nil)))
          (pss_cons (ps_set (i := 4) scLb.nd rfl (.inl rfl) (pe_ifExp (pt_cmpR op_lt (pv 7) (pe_callB call_len_seq (by rfl) B.len PySem.boot_len (pa_cons (pv 8) pa_nil)) (nomark _)) (pe_ix ix_list (pv 8) (pv 7) (fun _ _ => rfl)) (pe_ix ix_list (pv 8) (pe_op op_add (pv 11) (pe_op op_mod (pe_callTy call_int1 (by rfl) B.int PyProof.Rows.boot_int (pa_cons (pe_op op_sub (pv 7) (pv 11)) pa_nil)) (pe_op op_sub (pe_callB call_len_seq (by rfl) B.len PySem.boot_len (pa_cons (pv 8) pa_nil)) (pv 11)))) (fun _ _ => rfl))))
          (pss_one (ps_break))))
          pss_nil)
        (pss_one (ps_expr (pe_bm PySem.F.plainAttrs_list PySem.F.slot_list_append PySem.F.type_list_append mt_append (pv 8) (pa_cons (pv 10) pa_nil))))))))))
    (pss_one (ps_ret (pv 4))))), ?_⟩
    generalize hds : actD ss = ds at lc q
    have din : ∀ d ∈ ds, 0 ≤ d ∧ d < (tb.length : Int) := fun d hd => by rw [← hds] at hd; exact actD_mem hok d hd
    have ds4 : ds.length ≤ 400 := by rw [← hds]; exact Nat.le_trans (actD_len ss) hl4
    have t1 := hW.t1
    have s12 := hW.s12
    -- the acts
    refine ⟨_, rfl, _, rfl, sl, rfl, ⟨_, SqL.of hp⟩, fun D1 hD1 => lc_list (K := K) (a := sl) (xs := cs.map V.ref) (fun i H' => Same H H' ∧ H' D1 = some (.lst (vrow (actD (ss.take i))))) ⟨same_new hD1, upd_same⟩ (fun i H' _ ⟨s6, _⟩ => SqL.of (s6 _ _ hp)) ?_ ?_⟩
    · rintro i x H6 hx ⟨s6, hD6⟩
      obtain ⟨a, st, rfl, ha', hst, hat⟩ := hA.get' hx
      have hat6 := s6 _ _ hat
      have ea := take_succ hst
      have l4 : (actD (ss.take i)).length ≤ 400 := Nat.le_trans (actD_len _) (by rw [List.length_take]; omega)
      refine ⟨rfl, ?_⟩
      cases st with
      | dd h d =>
        have rd : ∀ (j : Nat) v, (stV (.dd h d))[j]? = some v → atI (stV (.dd h d)) (j : Int) = some v := fun j v hv => at_i hv
        refine ⟨_, rfl, a, _, (0 : Int), .str "do", rfl, rfl, SqT.of hat6, rd 0 _ rfl, ⟨rfl, true, congrArg V.bl (decide_eq_true rfl), iteT ?_⟩⟩
        refine ⟨_, rfl, a, _, (2 : Int), .int (d : Int), rfl, rfl, SqT.of hat6, rd 2 _ rfl, _, hD6, szl (by rw [vrow_len]; omega), fun c o e => by rw [upd_ne (ne_of_none e hD1)]; exact s6 _ _ e, ?_⟩
        rw [upd_same, ea, actD_app, vrow, vrow, List.map_append]; rfl
      | mt t =>
        have rd : ∀ (j : Nat) v, (stV (.mt t))[j]? = some v → atI (stV (.mt t)) (j : Int) = some v := fun j v hv => at_i hv
        refine ⟨_, rfl, a, _, (0 : Int), .str "meet", rfl, rfl, SqT.of hat6, rd 0 _ rfl, ⟨rfl, false, congrArg V.bl (decide_eq_false (by decide +kernel)), iteF ?_⟩⟩
        refine ⟨s6, ?_⟩
        rw [ea, actD_app, show actD [Stp.mt t] = [] from rfl, List.append_nil]; exact hD6
    rintro H6 ⟨s6, hD6⟩
    rw [List.take_of_length_le (by rw [List.length_map, hA.1]; exact Nat.le_refl _), hds] at hD6
    refine ⟨_, _, rfl, ?_⟩
    dsimp only [List.set]
    have hT6 := hT.same s6
    have hc6 := s6 _ _ hc
    -- act by act
    refine ⟨_, rfl, _, rfl, false, false, D1, ca, vrow ds, vrow cr, rfl, SqL.of hD6, SqL.of hc6, ZM.for_zipM (K := K) (by rw [vrow_len, vrow_len, lc]) (fun i σ H' => ∃ v6 v7 v8 v9 v10 v11 : Option V, σ = [some (.ref p), some (.int fi), some (.ref sl), some (.ref ca), some (.int (run tb fi (rc (ds.take i) cr))), some (.ref D1), v6, v7, v8, v9, v10, v11, none] ∧ Same H6 H')
      ⟨none, none, none, none, none, none, rfl, fun _ _ e => e⟩ (fun i σ H' ⟨_, _, _, _, _, _, _, s1⟩ => ⟨SqL.of (s1 _ _ hD6), SqL.of (s1 _ _ hc6)⟩) ?_ ?_⟩
    · rintro i x y T σ H7 hx hy ⟨v6, v7, v8, v9, v10, v11, rfl, s7⟩ hT7
      obtain ⟨d, hdx, rfl⟩ := vrow_at hx
      obtain ⟨c, hcx, rfl⟩ := vrow_at hy
      have sT := same_new (o := HO.tup [V.int d, .int c]) hT7
      have s8 := s7.trans sT
      have hc0 := c0 i
      have ecr : cr.getD i 0 = c := by rw [List.getD_eq_getElem?_getD, hcx]; rfl
      rw [ecr] at hc0
      have hdi := din d (List.mem_of_getElem? hdx)
      have hr0 := hW.run (rc (ds.take i) cr) fi (fun z hz => din z (List.mem_of_mem_take (mem_rc hz))) hfi
      have erc := rc_take (cs := cr) hdx (by rw [lc]; exact Nat.le_refl _)
      rw [ecr] at erc
      generalize hs0 : run tb fi (rc (ds.take i) cr) = s0 at hr0
      have hnew : run tb fi (rc (ds.take (i + 1)) cr) = run tb s0 (List.replicate c.toNat d) := by rw [erc, run_app, hs0]
      generalize hgd : (fun j : Nat => run tb s0 (List.replicate j d)) = g
      have g0 : g 0 = s0 := by rw [← hgd]; rfl
      have hg : ∀ j, g (j + 1) = stp tb (g j) d := fun j => by rw [← hgd]; show run tb s0 (List.replicate (j + 1) d) = stp tb (run tb s0 (List.replicate j d)) d; rw [List.replicate_succ', run_snoc]
      have hgc : run tb s0 (List.replicate c.toNat d) = g c.toNat := by rw [← hgd]
      have gr : ∀ j, 0 ≤ g j ∧ g j < (nS tb : Int) := fun j => by rw [← hgd]; exact hW.run _ _ (fun z hz => by rw [List.eq_of_mem_replicate hz]; exact hdi) hr0
      clear hgd
      refine ⟨T, _, rfl, SqT.of upd_same, rfl, _, _, rfl, _, _, rfl, rfl, ?_⟩
      dsimp only [List.set]
      generalize upd H7 T (HO.tup [V.int d, .int c]) = H8 at s8 ⊢
      refine ⟨_, rfl, (by show 1 ≤ sizeLine; decide), fun M hM => ?_⟩
      dsimp only [List.set]
      have sM := same_new (o := HO.lst [V.int s0]) hM
      have hM9 : (upd H8 M (HO.lst [V.int s0])) M = some (.lst (vrow ((List.range (0 + 1)).map g))) := by rw [upd_same, show (List.range (0 + 1)).map g = [g 0] from rfl, g0]; rfl
      have M6 : H6 M = none := s8.free hM
      have hT8 := hT6.same s8
      obtain ⟨a0, ha0⟩ := ex_at (l := tas) (i := 0) (by rw [hT8.2.1]; omega)
      obtain ⟨t0, ht0⟩ := ex_at (l := tb) (i := 0) (by omega)
      have h0r := sM _ _ (hT8.2.2 0 a0 t0 ha0 ht0)
      have lt0 := (hW.row t0 (List.mem_of_getElem? ht0)).1
      refine ⟨_, rfl, p, _, (0 : Int), .ref a0, rfl, rfl, SqL.of (sM _ _ hT8.1), at_i (i := 0) (map_at ha0), a0, _, rfl, .inl (SqL.of h0r), _, _, rfl, rfl, ((nS tb + 1 : Nat) : Int), ?_, by omega, by omega, for_range (fun j σ H' => ∃ v9 v10 v11 : Option V, σ = [some (.ref p), some (.int fi), some (.ref sl), some (.ref ca), some (.int s0), some (.ref D1), some (.int d), some (.int c), some (.ref M), v9, v10, v11, none] ∧ Same H6 H' ∧ H' M = some (.lst (vrow ((List.range (j + 1)).map g))) ∧ ∀ x y, x < y → y ≤ j → g x ≠ g y)
        ⟨v9, v10, v11, rfl, s8.trans sM, hM9, fun x y h1 h2 => by omega⟩ ?_ ?_⟩
      · rw [vrow_len, lt0]; rfl
      · rintro j σ H9 hj ⟨v9, v10, v11, rfl, s9, hM9, dis⟩
        have ndj : ((List.range (j + 1)).map g).Nodup := List.pairwise_map.mpr (List.pairwise_iff_getElem.mpr fun x y hx hy hxy => by
          rw [List.getElem_range, List.getElem_range]
          rw [List.length_range] at hy
          exact dis x y hxy (by omega))
        have lej := nodup_le (nS tb) _ ndj (fun z hz => by obtain ⟨k, _, rfl⟩ := List.mem_map.mp hz; exact gr k)
        rw [List.length_map, List.length_range] at lej
        have hT9 := hT6.same s9
        obtain ⟨tt, k1, k2, k3⟩ := hW.at_ hdi (gr j)
        obtain ⟨ad, had⟩ := ex_at (l := tas) (i := d.toNat) (by rw [hT9.2.1]; exact lt_at k1)
        have hadr := hT9.2.2 _ ad tt had k1
        have elast : vrow ((List.range (j + 1)).map g) = vrow ((List.range j).map g) ++ [V.int (g j)] := by rw [List.range_succ, List.map_append, vrow, vrow, List.map_append]; rfl
        refine gn ?_
        dsimp only [List.set]
        refine ⟨_, rfl, _, rfl, p, _, d, .ref ad, rfl, rfl, SqL.of hT9.1, at_of (j := d.toNat) (by have := hdi.1; omega) (map_at had), _, rfl, _, rfl, M, _, (-1 : Int), .int (g j), rfl, rfl, SqL.of hM9, by rw [elast]; exact atI_last _ _, ad, _, g j, .int (g (j + 1)), rfl, rfl, SqL.of hadr, at_of (j := (g j).toNat) (by have := (gr j).1; omega) (by rw [vrow, List.getElem?_map, k2, hg]; rfl), ?_⟩
        dsimp only [List.set]
        refine ⟨_, rfl, _, rfl, M, _, rfl, .inl (SqL.of hM9), rfl, flat_vrow _, _, rfl, ?_⟩
        simp only [Bool.false_eq_true, if_false]
        rw [inV_vrow]
        refine ifD (fun ez => ?_) fun ez => ?_
        · have hm : g (j + 1) ∈ (List.range (j + 1)).map g := by simpa using ez
          obtain ⟨b, hb, eb⟩ := List.mem_map.mp hm
          have hb := List.mem_range.mp hb
          have hbz : (vrow ((List.range (j + 1)).map g))[b]? = some (.int (g b)) := by rw [vrow, List.getElem?_map, List.getElem?_map, List.getElem?_range hb]; rfl
          have pr := per (f := fun x => stp tb x d) hg hb eb
          refine ⟨_, rfl, .inl ⟨rfl, _, SqL.of hM9⟩, _, rfl, M, _, _, b, .int (g b), rfl, rfl, SqL.of hM9, rfl, flat_vrow _, hbz, by rw [eqV_int, decide_eq_true eb], fun m z' hm' hz' => ?_, ?_⟩
          · rw [vrow, List.getElem?_map, List.getElem?_map, List.getElem?_range (by omega)] at hz'
            obtain rfl : V.int (g m) = z' := Option.some.inj hz'
            rw [eqV_int, ← eb, decide_eq_false (dis m b hm' (by omega))]
          · dsimp only [List.set]
            have lM : ((vrow ((List.range (j + 1)).map g)).length : Int) = ((j + 1 : Nat) : Int) := by rw [vrow_len, List.length_map, List.length_range]
            refine ⟨_, rfl, _, rfl, M, _, rfl, .inl (SqL.of hM9), ?_⟩
            rw [lM]
            refine ⟨_, _, rfl, rfl, _, rfl, ?_⟩
            refine ifD (fun ec => ?_) fun ec => ?_
            · have hcj : c < ((j + 1 : Nat) : Int) := of_decide_eq_true ec
              refine ⟨_, rfl, _, rfl, M, _, c, .int (g c.toNat), rfl, rfl, SqL.of hM9, at_of (j := c.toNat) (by omega) (by rw [vrow, List.getElem?_map, List.getElem?_map, List.getElem?_range (by omega)]; rfl), ?_⟩
              refine ⟨some (.int d), some (.int c), some (.ref M), some (.int (0 + (j : Int))), some (.int (g (j + 1))), some (.int (b : Int)), ?_, s9⟩
              rw [hnew, hgc]; rfl
            · have hcj : ¬ (c < ((j + 1 : Nat) : Int)) := of_decide_eq_false ec
              have e1 := pr c.toNat (by omega)
              have hmod : (c.toNat - b) % (j + 1 - b) < j + 1 - b := Nat.mod_lt _ (by omega)
              have emod : (b : Int) + (c - (b : Int)) % (((j + 1 : Nat) : Int) - (b : Int)) = ((b + (c.toNat - b) % (j + 1 - b) : Nat) : Int) := by
                rw [show c - (b : Int) = ((c.toNat - b : Nat) : Int) by omega, show ((j + 1 : Nat) : Int) - (b : Int) = ((j + 1 - b : Nat) : Int) by omega, ← Int.natCast_emod]
                omega
              refine ⟨_, rfl, _, rfl, _, rfl, _, rfl, _, _, rfl, rfl, .inl ⟨_, rfl, _, rfl, M, _, rfl, .inl (SqL.of hM9), ?_⟩⟩
              rw [lM]
              refine ⟨_, rfl, _, _, rfl, rfl, _, _, rfl, rfl, by omega, _, _, rfl, rfl, M, _, _, .int (g c.toNat), rfl, rfl, SqL.of hM9, ?_, ?_⟩
              · show atI _ ((b : Int) + (c - (b : Int)) % (((j + 1 : Nat) : Int) - (b : Int))) = _
                rw [emod, e1]
                exact at_i (by rw [vrow, List.getElem?_map, List.getElem?_map, List.getElem?_range (by omega)]; rfl)
              · refine ⟨some (.int d), some (.int c), some (.ref M), some (.int (0 + (j : Int))), some (.int (g (j + 1))), some (.int (b : Int)), ?_, s9⟩
                rw [hnew, hgc]; rfl
        · have hm : g (j + 1) ∉ (List.range (j + 1)).map g := by simpa using ez
          refine nxP ?_
          refine ⟨_, rfl, .inl ⟨rfl, _, SqL.of hM9⟩, _, rfl, M, _, _, rfl, rfl, hM9, szl (by rw [vrow_len, List.length_map, List.length_range]; omega), _, _, _, rfl, fun c o e => by rw [upd_ne (ne_of_none e M6)]; exact s9 _ _ e, ?_, fun x y h1 h2 => ?_⟩
          · rw [upd_same, List.range_succ (n := j + 1), List.map_append, vrow, vrow, List.map_append]; rfl
          · by_cases hy : y ≤ j
            · exact dis x y h1 hy
            · obtain rfl : y = j + 1 := by omega
              exact fun z => hm (List.mem_map.mpr ⟨x, List.mem_range.mpr h1, z⟩)
      · rintro σ H9 ⟨v9, v10, v11, rfl, s9, hM9, dis⟩
        exfalso
        have ndj : ((List.range (nS tb + 1 + 1)).map g).Nodup := List.pairwise_map.mpr (List.pairwise_iff_getElem.mpr fun x y hx hy hxy => by
          rw [List.getElem_range, List.getElem_range]
          rw [List.length_range] at hy
          exact dis x y hxy (by omega))
        have lej := nodup_le (nS tb) _ ndj (fun z hz => by obtain ⟨k, _, rfl⟩ := List.mem_map.mp hz; exact gr k)
        rw [List.length_map, List.length_range] at lej
        omega
    · rintro σ H7 ⟨v6, v7, v8, v9, v10, v11, rfl, s7⟩
      rw [vrow_len, List.take_length]
      exact ⟨_, rfl, q _ (s6.trans s7)⟩
end
end K1
namespace K1
open PySem PySem.Spec PyProof.Rows L2
noncomputable def ctR (m : Nat) (b : Bool) (j : Nat) : List Int := (List.range j).map fun s : Nat => (((s + if b then 1 else 0) % m : Nat) : Int)
noncomputable def ctT (m d : Nat) (j : Nat) : Ts := (List.range j).map fun i => ctR m (decide (i = d)) m
structure Bl (H0 H : Hp) (D : Addr) (as : List Addr) (rs : Rwz) : Prop where
  s : Same H0 H
  l : LLq H D as rs
  f : ∀ x ∈ as, H0 x = none ∧ x ≠ D
  d : H0 D = none
theorem Bl.init {H0 : Hp} {D : Addr} (h : H0 D = none) : Bl H0 (upd H0 D (.lst [])) D [] [] := ⟨same_new h, ⟨upd_same, rfl, fun i a t z => by cases z⟩, (fun x hx => nomatch hx), h⟩
theorem Bl.step {H0 H H2 : Hp} {D l : Addr} {as : List Addr} {rs : Rwz} {r : List Int} (I : Bl H0 H D as rs) (hz : rs.length ≤ 1000) (s : Same H H2) (hl : H2 l = some (.lst (vrow r))) (fl : H l = none) : ∃ acc, H2 D = some (.lst acc) ∧ acc.length < sizeLine ∧ ∃ as', Bl H0 (upd H2 D (.lst (acc ++ [.ref l]))) D as' (rs ++ [r]) := by
  have l2 := I.l.same s
  have nl : l ≠ D := fun e => by rw [e, I.l.1] at fl; cases fl
  refine ⟨as.map V.ref, l2.1, szl (by rw [List.length_map, l2.2.1]; omega), as ++ [l], fun c o e => by rw [upd_ne (ne_of_none e I.d)]; exact s _ _ (I.s _ _ e), ?_, fun x hx => ?_, I.d⟩
  · have := l2.snoc hl (fun a ha => (I.f a ha).2) nl
    rwa [List.map_append] at this
  rcases List.mem_append.mp hx with h | h
  · exact I.f x h
  · rw [List.mem_singleton.mp h]
    refine ⟨?_, nl⟩
    cases e : H0 l with
    | none => rfl
    | some o => rw [I.s _ _ e] at fl; cases fl
theorem ctR_succ (m : Nat) (b : Bool) (j : Nat) : ctR m b (j + 1) = ctR m b j ++ [(((j + if b then 1 else 0) % m : Nat) : Int)] := by unfold ctR; rw [List.range_succ, List.map_append]; rfl
theorem ctT_succ (m d j : Nat) : ctT m d (j + 1) = ctT m d j ++ [ctR m (decide (j = d)) m] := by unfold ctT; rw [List.range_succ, List.map_append]; rfl
theorem ctR_len (m : Nat) (b : Bool) (j : Nat) : (ctR m b j).length = j := by unfold ctR; rw [List.length_map, List.length_range]
theorem ctT_len (m d j : Nat) : (ctT m d j).length = j := by unfold ctT; rw [List.length_map, List.length_range]
theorem ctT_nS {m d nd : Nat} (h : 1 ≤ nd) : nS (ctT m d nd) = m := by
  obtain ⟨k, rfl⟩ : ∃ k, nd = k + 1 := ⟨nd - 1, by omega⟩
  unfold ctT
  rw [List.range_succ_eq_map]
  show (ctR m _ m).length = m
  exact ctR_len _ _ _
theorem ct_wf {m d nd : Nat} (h1 : 1 ≤ nd) (h8 : nd ≤ 8) (m1 : 1 ≤ m) (m12 : m ≤ 12) : Wf (ctT m d nd) := by
  refine ⟨by rw [ctT_len]; exact h1, by rw [ctT_len]; exact h8, by rw [ctT_nS h1]; exact m1, by rw [ctT_nS h1]; exact m12, fun t ht => ?_⟩
  obtain ⟨i, _, rfl⟩ := List.mem_map.mp ht
  rw [ctT_nS h1]
  refine ⟨ctR_len _ _ _, fun x hx => ?_⟩
  obtain ⟨s, _, rfl⟩ := List.mem_map.mp hx
  have := Nat.mod_lt (s + if decide (i = d) = true then 1 else 0) (show m > 0 by omega)
  omega
theorem ct_stp {m d nd : Nat} {x : Nat} {e : Nat} (hx : x < m) (he : e < nd) : stp (ctT m d nd) (x : Int) (e : Int) = (((x + if e = d then 1 else 0) % m : Nat) : Int) := by
  unfold stp ctT ctR
  rw [Int.toNat_natCast, Int.toNat_natCast, List.getElem?_map, List.getElem?_range he]
  show (((List.range m).map _)[x]?).getD 0 = _
  rw [List.getElem?_map, List.getElem?_range hx]
  by_cases z : e = d
  · rw [if_pos z]
    show (((x + if decide (e = d) = true then 1 else 0) % m : Nat) : Int) = _
    rw [decide_eq_true z]; rfl
  · rw [if_neg z]
    show (((x + if decide (e = d) = true then 1 else 0) % m : Nat) : Int) = _
    rw [decide_eq_false z]; rfl
noncomputable def cntD (d : Nat) (row : List Int) : Nat := (row.filter fun x => decide (x = (d : Int))).length
theorem ct_run {m d nd : Nat} (m1 : 1 ≤ m) : ∀ (row : List Int) (x : Nat), x < m → (∀ e ∈ row, 0 ≤ e ∧ e < (nd : Int)) → run (ctT m d nd) (x : Int) row = (((x + cntD d row) % m : Nat) : Int)
  | [], x, hx, _ => by show (x : Int) = _; unfold cntD; rw [List.filter_nil, List.length_nil, Nat.add_zero, Nat.mod_eq_of_lt hx]
  | e :: row, x, hx, h => by
    obtain ⟨h1, h2⟩ := h e List.mem_cons_self
    obtain ⟨k, rfl⟩ : ∃ k : Nat, e = (k : Int) := ⟨e.toNat, by omega⟩
    show run (ctT m d nd) (stp (ctT m d nd) (x : Int) (k : Int)) row = _
    rw [ct_stp hx (by omega), ct_run m1 row _ (Nat.mod_lt _ (by omega)) (fun e he => h e (List.mem_cons_of_mem _ he)), Nat.mod_add_mod]
    congr 2
    unfold cntD
    rw [List.filter_cons]
    by_cases z : k = d
    · rw [if_pos z, if_pos (by rw [decide_eq_true (by omega)]), List.length_cons]; omega
    · rw [if_neg z, if_neg (by rw [decide_eq_false (by omega)]; decide)]; omega
section
variable {P : Program} {w : World} {K : PySem.W.Frag} {mg : Str → Option Value} {base : Heap}
end
end K1
namespace K1
open PySem PySem.Spec PyProof.Rows L2
noncomputable def Kp (H H' : Hp) : Prop := ∀ a o, H a = some o → (∀ ps, o ≠ .tbl ps) → (∀ xs, o ≠ .lst xs) → H' a = some o
section
variable {H H1 H2 : Hp}
theorem Kp.ext (e : LamX.ExtN H H1) : Kp H H1 := fun c o h n _ => e c o h n
theorem Kp.dl {b l : Addr} (hb : DealO H b l) (d : Dl b l H H1) : Kp H H1 := fun c u e _ n => d.2 c u e (fun z => by
    obtain ⟨_, ns, w, _, h2, _⟩ := hb
    rw [z, h2] at e; exact n _ (Option.some.inj e).symm) (fun z => by
    obtain ⟨_, ns, w, _, _, h3⟩ := hb
    rw [z, h3] at e; exact n _ (Option.some.inj e).symm)
theorem Kp.tup {c : Addr} {xs : List V} (k : Kp H H1) (h : H c = some (.tup xs)) : H1 c = some (.tup xs) := k _ _ h (fun ps z => by cases z) (fun ps z => by cases z)
theorem Kp.ins {c C dx : Addr} {fs : List (Str × V)} (k : Kp H H1) (h : H c = some (.ins C dx fs)) : H1 c = some (.ins C dx fs) := k _ _ h (fun ps z => by cases z) (fun ps z => by cases z)
theorem MachAt.kp {M m ta : Addr} {ts : List (List V)} (h : MachAt M H m ta ts) (k : Kp H H1) : MachAt M H1 m ta ts := by
  obtain ⟨⟨dx, t0, h0, h1⟩, as, h2, h3, h4⟩ := h
  exact ⟨⟨dx, t0, h0, k.ins h1⟩, as, k.tup h2, h3, fun i a t e1 e2 => k.tup (h4 i a t e1 e2)⟩
theorem WebAt.kp {W w : Addr} {n : Nat} {ts : Prs} (h : WebAt W H w n ts) (k : Kp H H1) : WebAt W H1 w n ts := by
  obtain ⟨dx, ta, h1, as, h2, h3⟩ := h
  exact ⟨dx, ta, k.ins h1, as, k.tup h2, h3.1, fun i a t e1 e2 => k.tup (h3.2 i a t e1 e2)⟩
theorem StpsA.kp {cs : List Addr} {ss : List Stp} (h : StpsA H cs ss) (k : Kp H H1) : StpsA H1 cs ss := ⟨h.1, fun i a s e1 e2 => k.tup (h.2 i a s e1 e2)⟩
end
theorem sv_st {K : PySem.W.Frag} {H : Hp} {a : Addr} {s : Stp} (h : H a = some (.tup (stV s))) : Sv K H (.ref a) (some (stV s)) := by
  refine ⟨⟨.tup h, fun ys e y hy => ?_⟩, fun y r e => ?_⟩
  · obtain rfl := Option.some.inj e
    cases s with
    | dd x y =>
      simp only [stV, List.mem_cons, List.mem_nil_iff, or_false] at hy
      rcases hy with rfl | rfl | rfl
      · exact ⟨_, .str _⟩
      · exact ⟨_, .int _⟩
      · exact ⟨_, .int _⟩
    | mt x =>
      simp only [stV, List.mem_cons, List.mem_nil_iff, or_false] at hy
      rcases hy with rfl | rfl
      · exact ⟨_, .str _⟩
      · exact ⟨_, .int _⟩
  · cases s with
    | dd x y => injection e with e; injection e with e1 _; rw [← e1]; exact .inl ⟨_, rfl, by decide +kernel⟩
    | mt x => injection e with e; injection e with e1 _; rw [← e1]; exact .inl ⟨_, rfl, by decide +kernel⟩
theorem svs_right {K : PySem.W.Frag} {H : Hp} {v : V} {cs : List Addr} {ss : List Stp} (h : KV K H v (some (cs.map V.ref))) (hA : StpsA H cs ss) : Svs K H v (some (ss.map fun s => some (stV s))) := by
  refine .yes h (by rw [List.length_map, List.length_map, hA.1]) fun i x r e1 e2 => ?_
  obtain ⟨a, s, rfl, ha, hs, hat⟩ := hA.get' e1
  rw [List.getElem?_map, hs] at e2
  obtain rfl := Option.some.inj e2
  exact sv_st hat
theorem sf_right {n t d : Nat} {ss : List Stp} (h : ∀ s ∈ ss, okS n t d s) (hl : ss.length ≤ 400) : sfV n t d (some (ss.map fun s => some (stV s))) = .non :=
  sf_non (by rw [List.length_map]; exact hl) fun j y _ hy => by
    rw [List.getElem?_map] at hy
    cases e : ss[j]? with
    | none => rw [e] at hy; cases hy
    | some s =>
      rw [e] at hy
      obtain rfl := Option.some.inj hy
      exact stB_ok (h s (List.mem_of_getElem? e))
theorem svs_bent {K : PySem.W.Frag} {H : Hp} {p : Addr} {as bs : List Addr} {sa sb : List Stp} {v : V} {r : Option (List V)} (h : H p = some (.lst (as.map V.ref ++ [v] ++ bs.map V.ref))) (hA : StpsA H as sa) (hB : StpsA H bs sb) (hv : Sv K H v r) : Svs K H (.ref p) (some ((sa.map fun s => some (stV s)) ++ [r] ++ (sb.map fun s => some (stV s)))) := by
  refine .yes (.lst h) (by simp only [List.length_append, List.length_map, hA.1, hB.1, List.length_cons, List.length_nil]) fun i x q e1 e2 => ?_
  by_cases h1 : i < as.length
  · rw [List.append_assoc, List.getElem?_append_left (by rw [List.length_map]; exact h1)] at e1
    rw [List.append_assoc, List.getElem?_append_left (by rw [List.length_map, ← hA.1]; exact h1)] at e2
    obtain ⟨a, s, rfl, ha, hs, hat⟩ := hA.get' e1
    rw [List.getElem?_map, hs] at e2
    obtain rfl := Option.some.inj e2
    exact sv_st hat
  · by_cases h2 : i = as.length
    · subst h2
      rw [List.append_assoc, List.getElem?_append_right (by rw [List.length_map]; exact Nat.le_refl _), List.length_map, Nat.sub_self] at e1
      rw [hA.1, List.append_assoc, List.getElem?_append_right (by rw [List.length_map]; exact Nat.le_refl _), List.length_map, Nat.sub_self] at e2
      obtain rfl := Option.some.inj e1
      obtain rfl := Option.some.inj e2
      exact hv
    · rw [List.getElem?_append_right (by simp only [List.length_append, List.length_map, List.length_cons, List.length_nil]; omega)] at e1
      rw [List.getElem?_append_right (by simp only [List.length_append, List.length_map, List.length_cons, List.length_nil, ← hA.1]; omega)] at e2
      have el : (as.map V.ref ++ [v]).length = ((sa.map fun s => some (stV s)) ++ [r]).length := by simp only [List.length_append, List.length_map, hA.1, List.length_cons, List.length_nil]
      rw [el] at e1
      obtain ⟨a, s, rfl, ha, hs, hat⟩ := hB.get' e1
      rw [List.getElem?_map, hs] at e2
      obtain rfl := Option.some.inj e2
      exact sv_st hat
theorem sf_bent {n t d : Nat} {sa sb : List Stp} {r : Option (List V)} (ha : ∀ s ∈ sa, okS n t d s) (hr : stB n t d r = false) (hl : sa.length + 1 + sb.length ≤ 400) : sfV n t d (some ((sa.map fun s => some (stV s)) ++ [r] ++ (sb.map fun s => some (stV s)))) = .int (sa.length : Nat) := by
  refine sf_at (by simp only [List.length_append, List.length_map, List.length_cons, List.length_nil]; exact hl) (r := r) ?_ hr fun j y hj hy => ?_
  · rw [List.append_assoc, List.getElem?_append_right (by rw [List.length_map]; exact Nat.le_refl _), List.length_map, Nat.sub_self]; rfl
  · rw [List.append_assoc, List.getElem?_append_left (by rw [List.length_map]; exact hj), List.getElem?_map] at hy
    cases e : sa[j]? with
    | none => rw [e] at hy; cases hy
    | some s =>
      rw [e] at hy
      obtain rfl := Option.some.inj hy
      exact stB_ok (ha s (List.mem_of_getElem? e))
end K1
namespace K1
open PySem PySem.Spec PyProof.Rows L2
theorem passF' {X : Cx} : Passes (L2.CX X.prog X.w) X (fun _ _ _ => False) := passes_call LamX.takes0 fun _ _ _ _ h => h
theorem belowOk {i : Int} {n : Nat} (h : 0 ≤ i ∧ i < (n : Int)) : belowB (.int i) (n : Int) = true := by
  show (decide (0 ≤ i) && decide (i < (n : Int))) = true
  rw [decide_eq_true h.1, decide_eq_true h.2]; rfl
theorem stV_inj : ∀ a b : List Stp, a.map (fun s => some (stV s)) = b.map (fun s => some (stV s)) → a = b := by
  intro a
  induction a with
  | nil => intro b hb; cases b with | nil => rfl | cons _ _ => cases hb
  | cons x a ih =>
    intro b hb
    cases b with
    | nil => cases hb
    | cons y b =>
      injection hb with h6 h7
      rw [ih b h7]
      congr 1
      have h6 := Option.some.inj h6
      cases x <;> cases y <;> (unfold stV at h6; first | (injection h6 with _ h6; injection h6 with h8 h6; injection h8 with h8; first | (injection h6 with h9 _; injection h9 with h9; congr 1 <;> omega) | (congr 1; omega)) | (injection h6 with h9 _; cases h9; done) | (cases h6; done))
theorem vts_inj {tb : Ts} {ts : List (List V)} (h : some ((vts tb).map some) = some (ts.map some)) : ts = vts tb := by
  have := Option.some.inj h
  exact ((List.map_inj_right (fun x y h => Option.some.inj h)).mp this).symm
theorem isTab_row {t : List Int} {n : Nat} (hl : t.length = n) (h : ∀ i ∈ t, 0 ≤ i ∧ i < (n : Int)) : isTab (some (vrow t)) (n : Int) = true := by
  show (seqB (some (vrow t)) (n : Int) (n : Int) && decide (fnb (vrow t) (n : Int) = V.non)) = true
  have e1 : seqB (some (vrow t)) (n : Int) (n : Int) = true := by
    show (decide ((n : Int) ≤ ((vrow t).length : Int)) && decide (((vrow t).length : Int) ≤ (n : Int))) = true
    rw [vrow, List.length_map, hl]
    simp
  rw [e1, fnb_all fun x hx => ?_]; rfl
  obtain ⟨i, hi, rfl⟩ := List.mem_map.mp hx
  obtain ⟨h1, h2⟩ := h i hi
  show (decide (0 ≤ i) && decide (i < (n : Int))) = true
  rw [decide_eq_true h1, decide_eq_true h2]; rfl
theorem chk_wf {ts : Ts} (w : Wf ts) : chkAt (some ((vts ts).map some)) = none := by
  have h1 := w.t1; have h8 := w.t8; have s1 := w.s1; have s12 := w.s12
  have e0 : ((vts ts).map some)[0]? = some (some (vrow ts[0])) := by
    rw [vts, List.map_map, List.getElem?_map, List.getElem?_eq_getElem (by omega)]; rfl
  have el : (vrow ts[0]).length = nS ts := by
    rw [vrow, List.length_map]
    exact (w.row _ (List.getElem_mem _)).1
  show (if ((vts ts).map some).length < 1 ∨ 8 < ((vts ts).map some).length then some (-1) else _) = _
  rw [if_neg (by simp only [vts, List.length_map]; omega), e0]
  show (if (vrow ts[0]).length < 1 ∨ 12 < (vrow ts[0]).length then some 0 else _) = _
  rw [if_neg (by omega), find_none fun j y _ hy => ?_]; rfl
  rw [vts, List.map_map, List.getElem?_map] at hy
  cases e : ts[j]? with
  | none => rw [e] at hy; cases hy
  | some t =>
    rw [e] at hy
    obtain rfl : some (vrow t) = y := Option.some.inj hy
    obtain ⟨r1, r2⟩ := w.row t (List.mem_of_getElem? e)
    rw [el, isTab_row r1 r2]; rfl
theorem LLq.mv {K : PySem.W.Frag} {H : Hp} {p : Addr} {tas : List Addr} {tb : Ts} (h : LLq H p tas tb) : Mv K H (.ref p) (some ((vts tb).map some)) := by
  refine .yes (.lst h.1) ⟨by rw [List.length_map, List.length_map, vts, List.length_map, h.2.1], fun i x r e1 e2 => ?_⟩
  obtain ⟨a, ha, rfl⟩ := at_map e1
  rw [vts, List.getElem?_map, List.getElem?_map] at e2
  cases ht : tb[i]? with
  | none => rw [ht] at e2; cases e2
  | some t =>
    rw [ht] at e2
    obtain rfl := Option.some.inj e2
    exact ⟨.lst (h.2.2 i a t ha ht), fun ys e y hy => by
      obtain rfl := Option.some.inj e
      obtain ⟨z, _, rfl⟩ := List.mem_map.mp hy
      exact ⟨none, .int z⟩⟩
theorem led_dd {e : Ev} {l : List Stp} {s : Sn} (hW : Wv e.n e.ts) {d0 : Nat} (hok : ∀ x ∈ l, okS e.n e.ts.length d0 x) (I : LedI e (cnt e.n e.ts l) s) {h d : Nat} (hh : h < e.n) : LedI e (cnt e.n e.ts (l ++ [.dd h d])) (s.doo e h d) := by
  rw [cnt_dd hW hok]
  have C := cnt_cur hW hok
  have C1 := cur_all hW ((actD l).length + 1) l hok (Nat.le_succ _)
  rw [cur_pad hW _ l hok (Nat.le_refl _)] at C1
  have ds : (cnt e.n e.ts l).ds.length = (actD l).length := by rw [C.ds]
  refine (I.pad C.ok (by rw [ds]; exact Nat.le_refl _)).dd C1 hh ?_
  show (cnt e.n e.ts l).ds.length < _
  rw [ds]; exact Nat.lt_succ_self _
theorem led_mt {e : Ev} {l : List Stp} {s : Sn} (hc : Cmm e.tb e.fi) (hW : Wv e.n e.ts) (hok : ∀ x ∈ l, okS e.n e.ts.length e.tb.length x) (I : LedI e (cnt e.n e.ts l) s) {t : Nat} {p : Nat × Nat} (hp : e.ts[t]? = some p) :
    ∃ x, JR e.tb (s.ar.getD t 0) (s.ss.getD p.1 0) (s.ss.getD p.2 0) (some x) ∧ LedI e (cnt e.n e.ts (l ++ [.mt t])) (s.met p t x) := by
  rw [cnt_mt hp]
  have C := cnt_cur hW hok
  exact I.mt hc hW (fun d hd => actD_mem hok d (by rw [← C.ds]; exact hd)) C hp
theorem svs_more {K : PySem.W.Frag} {H : Hp} {p : Addr} {as : List Addr} {sa : List Stp} {v : V} {r : Option (List V)} (h : H p = some (.lst (as.map V.ref ++ [v]))) (hA : StpsA H as sa) (hv : Sv K H v r) : Svs K H (.ref p) (some ((sa.map fun s => some (stV s)) ++ [r])) := by
  have := svs_bent (bs := []) (sb := []) (by rw [List.map_nil, List.append_nil]; exact h) hA ⟨rfl, fun i a s e => by cases e⟩ hv
  rwa [List.map_nil, List.append_nil] at this
theorem sf_more {n t d : Nat} {sa : List Stp} {r : Option (List V)} (ha : ∀ s ∈ sa, okS n t d s) (hr : stB n t d r = false) (hl : sa.length + 1 ≤ 400) : sfV n t d (some ((sa.map fun s => some (stV s)) ++ [r])) = .int (sa.length : Nat) := by
  have := sf_bent (sb := []) ha hr (by simpa using hl)
  rwa [List.map_nil, List.append_nil] at this
theorem led_run {e : Ev} (hc : Cmm e.tb e.fi) (hW : Wv e.n e.ts) : ∀ l : List Stp, (∀ x ∈ l, okS e.n e.ts.length e.tb.length x) → ∃ s, Run e (sn0 e) l s ∧ LedI e (cnt e.n e.ts l) s := by
  refine snocI (fun _ => ⟨sn0 e, .nil _, led_init e 0⟩) fun l st ih hok => ?_
  have okl : ∀ x ∈ l, okS e.n e.ts.length e.tb.length x := fun x hx => hok x (List.mem_append_left _ hx)
  obtain ⟨s, r, L⟩ := ih okl
  have hst := hok st (List.mem_append_right _ (List.mem_singleton.mpr rfl))
  cases st with
  | dd h d => exact ⟨_, r.snoc rfl, led_dd hW okl L hst.1⟩
  | mt t =>
    obtain ⟨p, hp⟩ := ex_at (show t < e.ts.length from hst)
    obtain ⟨x, hx, L'⟩ := led_mt hc hW okl L hp
    exact ⟨_, r.snoc ⟨p, some x, hp, hx, rfl⟩, L'⟩
noncomputable def dS (d : Int) : List Int → List Int → Int
  | c :: row, x :: acts => (if x = d then c else 0) + dS d row acts
  | _, _ => 0
noncomputable def dM (d : Int) : List Int → List Int → Int
  | c :: row, x :: acts => (if x = d ∧ 0 < c then c - 1 else 0) + dM d row acts
  | _, _ => 0
theorem cntD_app (d : Nat) (a b : List Int) : cntD d (a ++ b) = cntD d a + cntD d b := by unfold cntD; rw [List.filter_append, List.length_append]
theorem cntD_rep (d : Nat) (x : Int) : ∀ k, cntD d (List.replicate k x) = if x = (d : Int) then k else 0
  | 0 => by unfold cntD; split <;> rfl
  | k + 1 => by
    rw [List.replicate_succ', cntD_app, cntD_rep d x k]
    unfold cntD
    by_cases z : x = (d : Int)
    · rw [if_pos z, if_pos z, List.filter_cons, if_pos (by rw [decide_eq_true z])]; rfl
    · rw [if_neg z, if_neg z, List.filter_cons, if_neg (by rw [decide_eq_false z]; decide)]; rfl
theorem cntD_rc (d : Nat) : ∀ (acts row : List Int), (∀ c ∈ row, 0 ≤ c) → ((cntD d (rc acts row) : Nat) : Int) = dS d row acts
  | [], row, _ => by cases row <;> rfl
  | x :: acts, [], _ => rfl
  | x :: acts, c :: row, h => by
    show ((cntD d (List.replicate c.toNat x ++ rc acts row) : Nat) : Int) = (if x = (d : Int) then c else 0) + dS d row acts
    have hc := h c List.mem_cons_self
    rw [cntD_app, cntD_rep, ← cntD_rc d acts row fun y hy => h y (List.mem_cons_of_mem _ hy)]
    split <;> omega
theorem dS_mn (d : Int) : ∀ (row acts : List Int), (∀ c ∈ row, 0 ≤ c) → dS d row acts = dS d (row.map mn1) acts + dM d row acts
  | [], acts, _ => by cases acts <;> rfl
  | c :: row, [], _ => rfl
  | c :: row, x :: acts, h => by
    show (if x = d then c else 0) + dS d row acts = ((if x = d then mn1 c else 0) + dS d (row.map mn1) acts) + ((if x = d ∧ 0 < c then c - 1 else 0) + dM d row acts)
    have hc := h c List.mem_cons_self
    rw [dS_mn d row acts fun y hy => h y (List.mem_cons_of_mem _ hy)]
    unfold mn1
    by_cases z : x = d
    · by_cases w : 0 < c
      · have e1 : (if x = d then c else (0 : Int)) = c := if_pos z
        have e2 : (if x = d then (if c < 1 then c else 1) else (0 : Int)) = (if c < 1 then c else 1) := if_pos z
        have e3 : (if x = d ∧ 0 < c then c - 1 else (0 : Int)) = c - 1 := if_pos ⟨z, w⟩
        rw [e1, e2, e3]; split <;> omega
      · have e1 : (if x = d then c else (0 : Int)) = c := if_pos z
        have e2 : (if x = d then (if c < 1 then c else 1) else (0 : Int)) = (if c < 1 then c else 1) := if_pos z
        have e3 : (if x = d ∧ 0 < c then c - 1 else (0 : Int)) = 0 := if_neg (fun y => w y.2)
        rw [e1, e2, e3]; split <;> omega
    · have e1 : (if x = d then c else (0 : Int)) = 0 := if_neg z
      have e2 : (if x = d then (if c < 1 then c else 1) else (0 : Int)) = 0 := if_neg z
      have e3 : (if x = d ∧ 0 < c then c - 1 else (0 : Int)) = 0 := if_neg (fun y => z y.1)
      rw [e1, e2, e3]; omega
theorem dM_snoc (d : Int) : ∀ (row acts : List Int) (c x : Int), row.length = acts.length → dM d (row ++ [c]) (acts ++ [x]) = dM d row acts + if x = d ∧ 0 < c then c - 1 else 0
  | [], [], c, x, _ => by show (if x = d ∧ 0 < c then c - 1 else 0) + 0 = 0 + _; omega
  | c0 :: row, x0 :: acts, c, x, h => by
    show _ + dM d (row ++ [c]) (acts ++ [x]) = (_ + dM d row acts) + _
    rw [dM_snoc d row acts c x (Nat.succ.inj h)]; omega
theorem dM_nn (d : Int) : ∀ (row acts : List Int), 0 ≤ dM d row acts
  | [], acts => by cases acts <;> exact Int.le_refl _
  | c :: row, [] => Int.le_refl _
  | c :: row, x :: acts => by
    show 0 ≤ (if x = d ∧ 0 < c then c - 1 else 0) + dM d row acts
    have := dM_nn d row acts
    split <;> omega
theorem dM_pos (d : Int) : ∀ (row acts : List Int) (i : Nat) (c : Int), row[i]? = some c → acts[i]? = some d → 2 ≤ c → 1 ≤ dM d row acts
  | [], acts, i, c, h, _, _ => by cases h
  | c0 :: row, [], i, c, _, h, _ => by cases h
  | c0 :: row, x :: acts, 0, c, h1, h2, hc => by
    obtain rfl : c0 = c := Option.some.inj h1
    obtain rfl : x = d := Option.some.inj h2
    show 1 ≤ (if x = x ∧ 0 < c0 then c0 - 1 else 0) + dM x row acts
    have := dM_nn x row acts
    rw [if_pos ⟨rfl, by omega⟩]; omega
  | c0 :: row, x :: acts, i + 1, c, h1, h2, hc => by
    show 1 ≤ (if x = d ∧ 0 < c0 then c0 - 1 else 0) + dM d row acts
    have := dM_pos d row acts i c h1 h2 hc
    split <;> omega
theorem ct_cmm {m d nd : Nat} (h1 : 1 ≤ nd) (h8 : nd ≤ 8) (m1 : 1 ≤ m) (m12 : m ≤ 12) (fi : Int) (hf : 0 ≤ fi ∧ fi < (m : Int)) : Cmm (ctT m d nd) fi := by
  have hw := ct_wf (d := d) h1 h8 m1 m12
  intro x hx a b ha hb
  have hr : 0 ≤ x ∧ x < (m : Int) := by
    have := hx.rng hw (by rw [ctT_nS h1]; exact hf)
    rwa [ctT_nS h1] at this
  obtain ⟨k, rfl⟩ : ∃ k : Nat, x = (k : Int) := ⟨x.toNat, by omega⟩
  unfold In8 at ha hb
  rw [ctT_len] at ha hb
  obtain ⟨i, rfl⟩ : ∃ i : Nat, a = (i : Int) := ⟨a.toNat, by omega⟩
  obtain ⟨j, rfl⟩ : ∃ j : Nat, b = (j : Int) := ⟨b.toNat, by omega⟩
  unfold Bad
  have hk : k < m := by omega
  have mm : ∀ z, z % m < m := fun z => Nat.mod_lt _ (by omega)
  rw [ct_stp hk (by omega), ct_stp (mm _) (by omega), ct_stp hk (by omega), ct_stp (mm _) (by omega), Nat.mod_add_mod, Nat.mod_add_mod, Nat.add_assoc, Nat.add_assoc, Nat.add_comm (if (i : Nat) = d then 1 else 0)]
  exact fun z => z rfl
end K1
namespace K1
open PySem PySem.Spec PyProof.Rows L2
theorem tabs_dl {b l : Addr} {T : List (Addr × Str)} {H1 H2 : Hp} (t : LamX.Tabs T H1) (hb : DealO H1 b l) (x : Dl b l H1 H2) : LamX.Tabs T H2 := fun p hp => by
  obtain ⟨_, ns, w, _, g2, g3⟩ := hb
  obtain ⟨ps, h1, h2, h3⟩ := t p hp
  refine ⟨ps, x.2 _ _ h1 (fun z => by rw [z, g2] at h1; cases h1) (fun z => by rw [z, g3] at h1; cases h1), h2, fun pos cv hc => ?_⟩
  obtain ⟨c, e1, e2⟩ := h3 pos cv hc
  exact ⟨c, e1, x.2 _ _ e2 (fun z => by rw [z, g2] at e2; unfold LamX.CodeO at e2; cases e2) (fun z => by rw [z, g3] at e2; unfold LamX.CodeO at e2; cases e2)⟩
theorem DealO.ext {b l : Addr} {H H1 : Hp} (h : DealO H b l) (e : LamX.ExtN H H1) : DealO H1 b l := let ⟨n, ns, z, w, h2, h3⟩ := h; ⟨n, ns, z, w, e _ _ h2 (fun ps z => by cases z), e _ _ h3 (fun ps z => by cases z)⟩
section
variable {N M W b l p tl pp c pl : Addr} {T : List (Addr × Str)} {e : Ev} {tas as scs : List Addr} {sts : List Stp} {H H1 : Hp}
end
theorem okS8 {n t d : Nat} (h : d ≤ 8) {s : Stp} (o : okS n t d s) : okS n t 8 s := by
  cases s with
  | dd a b => exact ⟨o.1, Nat.lt_of_lt_of_le o.2 h⟩
  | mt a => exact o
end K1
namespace K1
open PySem PySem.Spec PyProof.Rows L2
theorem Fst.mem {α : Type} {act : α → Int → α} {n : Nat} {s : α} {F : List (α × List Int)} (h : Fst act n s F) {e : α × List Int} (he : e ∈ F) : e.1 = path act s e.2 ∧ (∀ x ∈ e.2, 0 ≤ x ∧ x < (n : Int)) ∧ e.2.length < F.length := by
  obtain ⟨j, hj⟩ := List.getElem?_of_mem he
  obtain ⟨h1, h2, h3⟩ := h.pth j e.1 e.2 hj
  have := (List.getElem?_eq_some_iff.mp hj).1
  exact ⟨h1, h2, by omega⟩
noncomputable def Rch (ts : Ts) (s x : Int) : Prop := ∃ r : List Int, (∀ d ∈ r, 0 ≤ d ∧ d < (ts.length : Int)) ∧ run ts s r = x
theorem Rch.rng {ts : Ts} (w : Wf ts) {s x : Int} (h : Rch ts s x) (hs : 0 ≤ s ∧ s < (nS ts : Int)) : 0 ≤ x ∧ x < (nS ts : Int) := by
  obtain ⟨r, hr, rfl⟩ := h
  exact w.run r s hr hs
theorem one_0 {ts : Ts} {s : Int} {r : List Int} : (path (actL ts) [s] r) = [run ts s r] := by rw [path_run]; rfl
theorem one_few {ts : Ts} (w : Wf ts) {s : Int} (hs : 0 ≤ s ∧ s < (nS ts : Int)) : FewK ts [s] := fun F nd hF => by
  have form : ∀ e ∈ F, ∃ x : Int, e.1 = [x] ∧ 0 ≤ x ∧ x < 12 := fun e he => by
    obtain ⟨r, hr, e1⟩ := hF e he
    have h1 := w.run r s hr hs
    have := w.s12
    rw [one_0] at e1
    exact ⟨run ts s r, e1, by omega, by omega⟩
  have nd2 : (F.map fun e => e.1.getD 0 0).Nodup := by
    refine List.pairwise_map.mpr (List.Pairwise.imp_of_mem (fun {e e'} he he' ne z => ?_) (nodup_of nd))
    obtain ⟨x, e1, _⟩ := form e he
    obtain ⟨x', e2, _⟩ := form e' he'
    rw [e1, e2] at z
    have z' : x = x' := z
    subst z'
    exact ne (e1.trans e2.symm)
  have := nodup_le 12 _ nd2 fun z hz => by
    obtain ⟨e, he, rfl⟩ := List.mem_map.mp hz
    obtain ⟨x, e1, _⟩ := form e he
    rw [e1]
    show 0 ≤ x ∧ x < ((12 : Nat) : Int)
    omega
  rw [List.length_map] at this
  omega
noncomputable def heads (F : List KR) : List Int := F.map fun e => e.1.getD 0 0
theorem heads_rch {ts : Ts} {s : Int} {F : List KR} (hF : Fst (actL ts) ts.length [s] F) (x : Int) : x ∈ heads F ↔ Rch ts s x := by
  constructor
  · intro hx
    obtain ⟨e, he, rfl⟩ := List.mem_map.mp hx
    obtain ⟨h1, h2, _⟩ := hF.mem he
    exact ⟨e.2, h2, by rw [h1, one_0]; rfl⟩
  · rintro ⟨r, hr, rfl⟩
    obtain ⟨j, r', hj, _⟩ := hF.all r hr
    exact List.mem_map.mpr ⟨_, List.mem_of_getElem? hj, by show (path (actL ts) [s] r).getD 0 0 = _; rw [one_0]; rfl⟩
theorem heads_nodup {ts : Ts} {s : Int} {F : List KR} (hF : Fst (actL ts) ts.length [s] F) : (heads F).Nodup := by
  refine List.pairwise_map.mpr (List.Pairwise.imp_of_mem (fun {e e'} he he' ne z => ?_) (nodup_of hF.nd))
  obtain ⟨h1, _, _⟩ := hF.mem he
  obtain ⟨h2, _, _⟩ := hF.mem he'
  rw [one_0] at h1 h2
  rw [h1, h2] at z
  have z' : run ts s e.2 = run ts s e'.2 := z
  exact ne (by rw [h1, h2, z'])
theorem lt_of_le_nodup {l : List Int} (h : l.Pairwise (· ≤ ·)) (n : l.Nodup) : l.Pairwise (· < ·) := by
  have h2 : l.Pairwise (· ≠ ·) := n
  exact (h.and h2).imp fun {a b} ⟨h1, h2⟩ => by omega
noncomputable def spOrbit (M CS : Addr) : Sp := fun vs H Q E => ∃ m ta ts v, vs = [.ref m, v] ∧ MachAt M H m ta (vts ts) ∧ Wf ts ∧ (∃ (K : PySem.W.Frag) (o : Option (List V)), KV K H v o) ∧ (belowB v (nS ts : Int) = false → Rz CS "state" v H E) ∧
  (∀ s, v = .int s → (0 ≤ s ∧ s < (nS ts : Int)) → ∀ (ns : List Int) p H', Same H H' → ns.Pairwise (· < ·) → (∀ x, x ∈ ns ↔ Rch ts s x) → H' p = some (.tup (vrow ns)) → Q (.ref p) H')
section
variable {P : Program} {w : World} {K : PySem.W.Frag} {mg : Str → Option Value} {base : Heap}
noncomputable abbrev nOr : List Str := ["machine", "state", "ends"]
theorem scOr : FnScope nOr ["machine", "state"] (defScope sOrbit) := ⟨rfl, rfl, rfl, by decide +kernel, rfl, by decide +kernel, by decide +kernel⟩
theorem ok_orbit {f fN fF CS M : Addr} {fd fdN fdF : FuncData} (D : Df K mg "orbit" sOrbit ["machine", "state"] f fd) (DN : Df K mg "need_state" sNeedS ["machine", "state"] fN fdN) (DF : DfF K mg fF fdF) (B : Bt mg)
    (GN : FnOk P w K mg base (L2.CX P w) 3 fN fdN ["machine", "state"] (spNeed M CS "state" nS)) (GF : FnOk P w K mg base CX0 1 fF fdF ["machine", "states", "out", "most"] (spFirst M)) : FnOk P w K mg base (L2.CX P w) 4 f fd ["machine", "state"] (spOrbit M CS) := by
  refine D.F.okX scOr (fun vs H Q E h => ?_) (fun cdv A outer s H vs Q E hr h => ?_)
  · obtain ⟨m, ta, ts, v, rfl, _⟩ := h
    rfl
  · obtain ⟨m, ta, ts, v, rfl, hM, hW, kv, q1, q2⟩ := h
    obtain ⟨ds, vd, bd⟩ := DF.b
    refine ⟨_, pss_cons (ps_expr (pc DN GN hr (pass1 (takes_of rfl rfl rfl rfl)) (pa_cons (pv 0) (pa_cons (pv 1) pa_nil))))
      (pss_one (ps_ret (pe_callTy call_tuple_of (by rfl) B.tuple PyProof.Rows.boot_tuple (pa_cons (pe_callB cr_sortedI (by rfl) B.sorted PyProof.Rows.boot_sorted (pa_cons
        (pe_lc (own := [("ends", 2)]) (g := gName 2) (tt := tYes) rfl scOr.nd (pi_keysF (pcF DF GF (hr.mono (by decide)) pass0 (pa_cons (pv 0) (pa_cons (pe_tup (pa_cons (pv 1) pa_nil)) pa_nil)) vd bd)) (blkOk_by (N := nOr) (sc := defScope sOrbit) (by decide +kernel)) (fun _ _ _ _ _ => pg_name (i := 2) scOr.nd rfl (Or.inl rfl)) (fun _ _ _ _ _ => pts_nil)
          (fun _ _ _ _ _ => pe_ix (ixTK (K := K) rfl) (pv 2) pe_int (fun _ _ => rfl))) pa_nil)) pa_nil)))), ?_⟩
    refine ⟨_, rfl, _, rfl, m, ta, ts, v, rfl, hM, kv, fun e => ?_, fun e => q1 e⟩
    obtain ⟨s0, rfl, hs⟩ := belowB_int e
    have q := q2 s0 rfl hs
    refine ⟨_, rfl, _, rfl, (by show 1 ≤ sizeLine; decide), fun p hp => ?_⟩
    have s1 := same_new (o := HO.tup [V.int s0]) hp
    refine ⟨m, ta, ts, [s0], p, rfl, hM.same s1, hW, fun x hx => by rw [List.mem_singleton.mp hx]; exact hs, (by decide : 1 ≤ 12), upd_same, one_few hW hs, fun d F H2 s2 hd ⟨kvs, hd2, ky, vl⟩ hF hf => ?_⟩
    have s12 := s1.trans s2
    have hd0 : H d = none := s1.free hd
    have lk : kvs.length = F.length := by simpa using congrArg List.length ky
    refine ⟨d, kvs, rfl, hd2, fun od D0 hD0 => ?_⟩
    have ndD : d ≠ D0 := fun z => by rw [← z, upd_same] at hD0; cases hD0
    have hD2 : H2 D0 = none := by rw [upd_ne ndD.symm] at hD0; exact hD0
    generalize hH3 : upd H2 d (.frz od (.dT kvs)) = H3
    have hd3 : H3 d = some (.frz od (.dT kvs)) := by rw [← hH3, upd_same]
    have s3 : Same H H3 := fun c o e => by
      rw [← hH3, upd_ne (ne_of_none e hd0)]
      exact s12 _ _ e
    have hD3 : H3 D0 = none := by rw [← hH3, upd_ne ndD.symm]; exact hD2
    refine lc_keysF (fun i H' => Same H3 H' ∧ H' D0 = some (.lst (((heads F).take i).map V.int))) ⟨same_new hD3, upd_same⟩ (fun i H' _ ⟨s4, _⟩ => s4 _ _ hd3) ?_ ?_
    · rintro i k v qk H' hk hqk ⟨s4, hD4⟩
      obtain ⟨e, he, rfl⟩ : ∃ e, F[i]? = some e ∧ k = kK e.1 := by
        have z : (kvs.map (·.1))[i]? = some k := by rw [List.getElem?_map, hk]; rfl
        rw [ky, List.getElem?_map] at z
        cases e : F[i]? with
        | none => rw [e] at z; cases z
        | some x => rw [e] at z; exact ⟨x, rfl, (Option.some.inj z).symm⟩
      obtain ⟨pe, _, _⟩ := hF.mem (List.mem_of_getElem? he)
      rw [one_0] at pe
      have hx : (heads F)[i]? = some (run ts s0 e.2) := by rw [heads, List.getElem?_map, he, Option.map_some, pe]; rfl
      rw [kK_v, pe] at hqk
      refine ⟨rfl, _, rfl, qk, _, 0, .int (run ts s0 e.2), rfl, rfl, SqT.of hqk, atI_nat (j := 0) rfl, _, hD4, ?_, ?_, ?_⟩
      · rw [List.length_map, List.length_take, heads, List.length_map, sizeLine_eq]; omega
      · intro c o e
        rw [upd_ne (ne_of_none e hD3)]
        exact s4 _ _ e
      · rw [upd_same, take_succ hx, List.map_append]; rfl
    · rintro H4 ⟨s4, hD4⟩
      have eL : (heads F).take kvs.length = heads F := by rw [lk, heads, List.take_of_length_le]; rw [List.length_map]; exact Nat.le_refl _
      rw [eL] at hD4
      refine ⟨D0, heads F, rfl, SqL.of hD4, fun ns' p2 hperm hpw hp2 => ?_⟩
      refine ⟨p2, _, rfl, .inl ⟨SqL.of upd_same, fun p3 hp3 => ?_⟩⟩
      refine q ns' p3 _ ((s3.trans s4).trans ((same_new hp2).trans (same_new hp3))) (lt_of_le_nodup hpw (hperm.nodup_iff.mpr (heads_nodup hF))) (fun x => ?_) upd_same
      rw [hperm.mem_iff]
      exact heads_rch hF x
end
end K1
namespace K1
open PySem PySem.Spec PyProof.Rows L2
noncomputable def PaperIs (ts : Ts) (ns : List Int) : Option (Int × Int × Int) → Prop
  | none => ∀ x ∈ ns, ∀ a b, In8 ts a → In8 ts b → ¬ Bad ts x a b
  | some (x, a, b) => ∃ i : Nat, ns[i]? = some x ∧ In8 ts a ∧ In8 ts b ∧ Bad ts x a b ∧ (∀ (j : Nat) y, j < i → ns[j]? = some y → ∀ c d, In8 ts c → In8 ts d → ¬ Bad ts y c d) ∧ (∀ c d, In8 ts c → In8 ts d → c < a → ¬ Bad ts x c d) ∧ ∀ d, In8 ts d → d < b → ¬ Bad ts x a d
noncomputable def PapV (H : Hp) (v : V) : Option (Int × Int × Int) → Prop
  | none => v = .non
  | some (x, a, b) => ∃ p, v = .ref p ∧ H p = some (.tup [.int x, .int a, .int b])
noncomputable def spCPaper (K : PySem.W.Frag) (M CS : Addr) : Sp := fun vs H Q E => ∃ m ta ts v, vs = [.ref m, v] ∧ MachAt M H m ta (vts ts) ∧ Wf ts ∧ (∃ o, KV K H v o) ∧ (belowB v (nS ts : Int) = false → Rz CS "state" v H E) ∧
  (belowB v (nS ts : Int) = true → ∃ s, v = .int s ∧ ∀ (ns : List Int) r u H', Same H H' → ns.Pairwise (· < ·) → (∀ x, x ∈ ns ↔ Rch ts s x) → PaperIs ts ns r → PapV H' u r → Q u H')
section
variable {P : Program} {w : World} {K : PySem.W.Frag} {mg : Str → Option Value} {base : Heap}
noncomputable abbrev nCP : List Str := ["machine", "state", "at", "one", "other"]
theorem scCP : FnScope nCP ["machine", "state"] (defScope sCPaper) := ⟨rfl, rfl, rfl, by decide +kernel, rfl, by decide +kernel, by decide +kernel⟩
theorem ok_cpaper {f fO fM CS M : Addr} {fd fdO fdM : FuncData} (D : Df K mg "commuting_paper" sCPaper ["machine", "state"] f fd) (DO : Df K mg "orbit" sOrbit ["machine", "state"] fO fdO) (DM : Df K mg "moved" sMoved ["machine", "state", "row"] fM fdM) (B : Bt mg) (T : McT K mg M)
    (GO : FnOk P w K mg base (L2.CX P w) 4 fO fdO ["machine", "state"] (spOrbit M CS)) (GM : FnOk P w K mg base CX0 1 fM fdM ["machine", "state", "row"] (spMoved M)) : FnOk P w K mg base (L2.CX P w) 5 f fd ["machine", "state"] (spCPaper K M CS) := by
  refine D.F.okX scCP (fun vs H Q E h => ?_) (fun cdv A outer s H vs Q E hr h => ?_)
  · obtain ⟨m, ta, ts, v, rfl, _⟩ := h
    rfl
  · obtain ⟨m, ta, ts, v, rfl, hM, hW, ⟨o, kv⟩, q1, q2⟩ := h
    have r1 := hr.mono (show 1 ≤ 4 by decide)
    refine ⟨_, pss_cons (ps_for (passes_of rfl) rfl (pi_tup (pc DO GO hr (pass1 (takes_of rfl rfl rfl rfl)) (pa_cons (pv 0) (pa_cons (pv 1) pa_nil)))) (pg_name (i := 2) scCP.nd rfl (.inl rfl))
        (pss_one (ps_for (passes_of rfl) rfl (pi_range1 (by rfl) B.range (pa_cons (pe_fld (pv 0) rfl) pa_nil)) (pg_name (i := 3) scCP.nd rfl (.inl rfl))
          (pss_one (ps_for (passes_of rfl) rfl (pi_range1 (by rfl) B.range (pa_cons (pe_fld (pv 0) rfl) pa_nil)) (pg_name (i := 4) scCP.nd rfl (.inl rfl))
            (pss_one (ps_if (pt_cmpR op_ne (pc DM GM r1 pass0 (pa_cons (pv 0) (pa_cons (pv 2) (pa_cons (pe_tup (pa_cons (pv 3) (pa_cons (pv 4) pa_nil))) pa_nil)))) (pc DM GM r1 pass0 (pa_cons (pv 0) (pa_cons (pv 2) (pa_cons (pe_tup (pa_cons (pv 4) (pa_cons (pv 3) pa_nil))) pa_nil)))) (nomark _))
              (pss_one (ps_ret (pe_tup (pa_cons (pv 2) (pa_cons (pv 3) (pa_cons (pv 4) pa_nil)))))) pss_nil)))))))
      (pss_one (ps_ret pe_non)), ?_⟩
    refine ⟨_, rfl, _, rfl, m, ta, ts, v, rfl, hM, hW, ⟨K, o, kv⟩, q1, fun st e2 hst ns p H1 s1 asc mem hp => ?_⟩
    subst e2
    obtain ⟨st', ee, q⟩ := q2 (belowI hst)
    injection ee with ee
    subst ee
    have Q' := fun r u H' s h1 h2 => q ns r u H' s asc mem h1 h2
    refine ⟨p, rfl, ⟨_, SqT.of hp⟩, for_tup (K := K) (a := p) (xs := vrow ns) (fun i σ H' => ∃ v2 v3 v4, σ = [some (.ref m), some (.int st), v2, v3, v4] ∧ Same H1 H' ∧ ∀ (j : Nat) y, j < i → ns[j]? = some y → ∀ a b, In8 ts a → In8 ts b → ¬ Bad ts y a b) ⟨none, none, none, rfl, fun _ _ e => e, fun j y hj => absurd hj (Nat.not_lt_zero _)⟩ (fun i σ H' _ ⟨_, _, _, _, s, _⟩ => SqT.of (s _ _ hp)) ?_ ?_⟩
    · rintro i x σ H2 hx ⟨v2, v3, v4, rfl, s2, no⟩
      obtain ⟨z, hz, rfl⟩ : ∃ z, ns[i]? = some z ∧ x = V.int z := by
        rw [vrow, List.getElem?_map] at hx
        cases e : ns[i]? with
        | none => rw [e] at hx; cases hx
        | some z => rw [e] at hx; exact ⟨z, rfl, (Option.some.inj hx).symm⟩
      have hzr := ((mem z).mp (List.mem_of_getElem? hz)).rng hW hst
      obtain ⟨dx, hf⟩ := (hM.same (s1.trans s2)).fs
      refine ⟨_, rfl, m, M, dx, _, _, rfl, hf, T.cl, T.nD, mf_d _ _ _, (ts.length : Int), rfl, by have := hW.t8; omega, by have := hW.t8; omega, for_range (fun k σ H' => ∃ v3 v4, σ = [some (.ref m), some (.int st), some (.int z), v3, v4] ∧ Same H1 H' ∧ ∀ a b, In8 ts a → In8 ts b → a < (k : Int) → ¬ Bad ts z a b) ⟨_, _, rfl, s2, fun a b ha _ hk => by have := ha.1; omega⟩ ?_ ?_⟩
      · rintro k σ H3 hk ⟨v3, v4, rfl, s3, no2⟩
        have hk8 : In8 ts (0 + (k : Int)) := ⟨by omega, by omega⟩
        obtain ⟨dx, hf⟩ := (hM.same (s1.trans s3)).fs
        refine ⟨_, rfl, m, M, dx, _, _, rfl, hf, T.cl, T.nD, mf_d _ _ _, (ts.length : Int), rfl, by have := hW.t8; omega, by have := hW.t8; omega, for_range (fun l σ H' => ∃ v4, σ = [some (.ref m), some (.int st), some (.int z), some (.int (0 + (k : Int))), v4] ∧ Same H1 H' ∧ ∀ b, In8 ts b → b < (l : Int) → ¬ Bad ts z (0 + (k : Int)) b) ⟨_, rfl, s3, fun b hb hl => by have := hb.1; omega⟩ ?_ ?_⟩
        · rintro l σ H4 hl ⟨v4, rfl, s4, no3⟩
          have hl8 : In8 ts (0 + (l : Int)) := ⟨by omega, by omega⟩
          have hM4 := hM.same (s1.trans s4)
          have rows : ∀ a b : Int, In8 ts a → In8 ts b → ∀ d ∈ [a, b], 0 ≤ d ∧ d < (ts.length : Int) := fun a b ha hb d hd => by
            simp only [List.mem_cons, List.mem_nil_iff, or_false] at hd
            rcases hd with rfl | rfl
            · exact ha
            · exact hb
          refine ⟨_, rfl, _, rfl, _, rfl, _, rfl, (by show 2 ≤ sizeLine; decide), fun p1 hp1 => ⟨m, ta, ts, z, p1, [0 + (k : Int), 0 + (l : Int)], rfl, hM4.same (same_new hp1), hW, hzr, upd_same, rows _ _ hk8 hl8, ?_⟩⟩
          have s5 := s4.trans (same_new (o := HO.tup [.int (0 + (k : Int)), .int (0 + (l : Int))]) hp1)
          refine ⟨_, rfl, _, rfl, _, rfl, _, rfl, (by show 2 ≤ sizeLine; decide), fun p2 hp2 => ⟨m, ta, ts, z, p2, [0 + (l : Int), 0 + (k : Int)], rfl, (hM.same (s1.trans s5)).same (same_new hp2), hW, hzr, upd_same, rows _ _ hl8 hk8, rfl, _, rfl, ifD (fun e => ?_) fun e => ?_⟩⟩
          · have hb : Bad ts z (0 + (k : Int)) (0 + (l : Int)) := fun w => by
              rw [Bool.not_eq_true', decide_eq_false_iff_not] at e
              exact e (congrArg V.int w)
            refine ⟨_, rfl, _, rfl, _, rfl, (by show 3 ≤ sizeLine; decide), fun p3 hp3 => ?_⟩
            have s6 := s1.trans ((s5.trans (same_new (o := HO.tup [.int (0 + (l : Int)), .int (0 + (k : Int))]) hp2)).trans (same_new (o := HO.tup [.int z, .int (0 + (k : Int)), .int (0 + (l : Int))]) hp3))
            exact Q' (some (z, 0 + (k : Int), 0 + (l : Int))) _ _ s6 ⟨i, hz, hk8, hl8, hb, no, fun c d hc hd hlt => no2 c d hc hd (by omega), fun d hd hlt => no3 d hd (by omega)⟩ ⟨p3, rfl, upd_same⟩
          · have hb : ¬ Bad ts z (0 + (k : Int)) (0 + (l : Int)) := fun w => by
              rw [Bool.not_eq_false', decide_eq_true_iff] at e
              injection e with e
              exact w e
            refine ⟨_, rfl, s5.trans (same_new hp2), fun b hb8 hlt => ?_⟩
            by_cases z2 : b = 0 + (l : Int)
            · rw [z2]; exact hb
            · exact no3 b hb8 (by omega)
        · rintro σ H4 ⟨v4, rfl, s4, no3⟩
          refine ⟨_, _, rfl, s4, fun a b ha hb hlt => ?_⟩
          by_cases z2 : a = 0 + (k : Int)
          · rw [z2]; exact no3 b hb (by have := hb.2; simp only [Int.toNat_natCast]; exact this)
          · exact no2 a b ha hb (by omega)
      · rintro σ H3 ⟨v3, v4, rfl, s3, no2⟩
        refine ⟨_, _, _, rfl, s3, fun j y hj hy a b ha hb => ?_⟩
        by_cases z2 : j = i
        · subst z2
          obtain rfl : z = y := Option.some.inj (hz.symm.trans hy)
          exact no2 a b ha hb (by have := ha.2; simp only [Int.toNat_natCast]; exact this)
        · exact no j y (by omega) hy a b ha hb
    · rintro σ H2 ⟨v2, v3, v4, rfl, s2, no⟩
      refine Q' none _ _ (s1.trans s2) (fun x hx a b ha hb => ?_) rfl
      obtain ⟨j, hj, ej⟩ := List.mem_iff_getElem.mp hx
      exact no j x (by rw [vrow, List.length_map]; exact hj) (by rw [← ej]; exact List.getElem?_eq_getElem hj) a b ha hb
end
end K1
namespace K1
open PySem PySem.Spec PyProof.Rows L2
noncomputable abbrev uFc (x y z : V) : List (Str × V) := [("other", z), ("one", y), ("state", x)]
noncomputable def spUInitC (K : PySem.W.Frag) (C : Addr) : Sp := fun vs H Q _ => ∃ a x y z, vs = [.ref a, x, y, z] ∧ OexC K C ∧ H a = some (exo a C none) ∧
  ∀ d H', (∀ c o, H c = some o → c ≠ a → H' c = some o) → H d = none → d ≠ a → H' a = some (exo a C (some d)) → H' d = some (exd d (uFc x y z)) → Q .non H'
section
variable {P : Program} {w : World} {K : PySem.W.Frag} {mg : Str → Option Value} {base : Heap}
theorem scUIc : FnScope ["self", "state", "one", "other"] ["self", "state", "one", "other"] (defScope sUCInit) := ⟨rfl, rfl, rfl, by decide +kernel, rfl, by decide +kernel, by decide +kernel⟩
structure UnCc (K : PySem.W.Frag) (mg : Str → Option Value) (C : Addr) : Prop where
  x : OexC K C
  n1 : PySem.W.findIn K (.ref C) "state" = some none
  n2 : PySem.W.findIn K (.ref C) "one" = some none
  n3 : PySem.W.findIn K (.ref C) "other" = some none
  f : XfC K C
  g : mg "Uncommuting" = some (.ref C)
theorem ok_uinitC {f C : Addr} {fd : FuncData} (F : Fun K "__init__" "Uncommuting.__init__" sUCInit f fd) (U : UnCc K mg C) : FnOk P w K mg base CX0 1 f fd ["self", "state", "one", "other"] (spUInitC K C) := by
  refine F.ok scUIc (fun vs H Q E h => ?_) (fun cdv A outer s H vs Q E hr h => ?_)
  · obtain ⟨a, x, y, z, rfl, _⟩ := h
    rfl
  · obtain ⟨a, x, y, z, rfl, hx, ha, q⟩ := h
    refine ⟨_, pss_cons (ps_ost (pv 0) (pv 1)) (pss_cons (ps_ost (pv 0) (pv 2)) (pss_one (ps_ost (pv 0) (pv 3)))), ?_⟩
    refine ⟨_, rfl, _, rfl, a, C, rfl, hx, U.n1, .inl ⟨ha, fun d hd ne => ?_⟩⟩
    refine ⟨_, rfl, _, rfl, a, C, rfl, hx, U.n2, .inr ⟨d, _, upd_same, by rw [upd_ne ne, upd_same], by show 1 ≤ 900; decide, ?_⟩⟩
    refine ⟨_, rfl, _, rfl, a, C, rfl, hx, U.n3, .inr ⟨d, _, by rw [upd_ne ne.symm, upd_same], upd_same, by show 2 ≤ 900; decide, ?_⟩⟩
    refine q d _ (fun c o e n => ?_) hd ne (by rw [upd_ne ne.symm, upd_ne ne.symm, upd_same]) upd_same
    have ncd := ne_of_none e hd
    rw [upd_ne ncd, upd_ne ncd, upd_ne n, upd_ne ncd]
    exact e
noncomputable def RzUc (CU : Addr) (x a b : Int) (H : Hp) (E : XK) : Prop := ∀ d H', Same H H' → H d = none → H' d = some (.xd (uFc (.int x) (.int a) (.int b))) → E (.ref CU) (some d) H'
noncomputable def spNeedC (K : PySem.W.Frag) (M CS CU : Addr) : Sp := fun vs H Q E => ∃ m ta ts v, vs = [.ref m, v] ∧ MachAt M H m ta (vts ts) ∧ Wf ts ∧ (∃ o, KV K H v o) ∧ (belowB v (nS ts : Int) = false → Rz CS "state" v H E) ∧
  (belowB v (nS ts : Int) = true → ∃ s, v = .int s ∧ ∀ (ns : List Int) r H', Same H H' → ns.Pairwise (· < ·) → (∀ x, x ∈ ns ↔ Rch ts s x) → PaperIs ts ns r → (r = none → Q (.ref m) H') ∧ ∀ x a b, r = some (x, a, b) → RzUc CU x a b H' E)
noncomputable abbrev nNC : List Str := ["machine", "state", "paper", "at", "one", "other"]
theorem scNC : FnScope nNC ["machine", "state"] (defScope sNeedC) := ⟨rfl, rfl, rfl, by decide +kernel, rfl, by decide +kernel, by decide +kernel⟩
theorem ok_needC {f fC fI CS CU M : Addr} {fd fdC fdI : FuncData} (D : Df K mg "need_commuting" sNeedC ["machine", "state"] f fd) (DC : Df K mg "commuting_paper" sCPaper ["machine", "state"] fC fdC) (U : UnCc K mg CU)
    (iC : PySem.W.findIn K (.ref CU) "__init__" = some (some (.ref fI))) (tI : PySem.W.typeIn K (.ref fI) = some (.type "function")) (bI : Binds K fdI ["self", "state", "one", "other"] [])
    (GI : FnOk P w K mg base CX0 1 fI fdI ["self", "state", "one", "other"] (spUInitC K CU)) (GC : FnOk P w K mg base (L2.CX P w) 5 fC fdC ["machine", "state"] (spCPaper K M CS)) : FnOk P w K mg base (L2.CX P w) 6 f fd ["machine", "state"] (spNeedC K M CS CU) := by
  refine D.F.okX scNC (fun vs H Q E h => ?_) (fun cdv A outer s H vs Q E hr h => ?_)
  · obtain ⟨m, ta, ts, v, rfl, _⟩ := h
    rfl
  · obtain ⟨m, ta, ts, v, rfl, hM, hW, ⟨o, kv⟩, q1, q2⟩ := h
    refine ⟨_, pss_cons (ps_set (i := 2) scNC.nd rfl (.inl rfl) (pc DC GC hr (pass1 (takes_of rfl rfl rfl rfl)) (pa_cons (pv 0) (pa_cons (pv 1) pa_nil))))
      (pss_cons (ps_if (pt_cmpR op_notN (pv 2) pe_non (nomark _)) (pss_cons (ps_asg (pv 2) (pg_tup rfl (pgs_cons (pg_name (i := 3) scNC.nd rfl (.inl rfl)) (pgs_cons (pg_name (i := 4) scNC.nd rfl (.inl rfl)) (pgs_cons (pg_name (i := 5) scNC.nd rfl (.inl rfl)) pgs_nil)))))
          (pss_one (ps_raise rfl (takes_of rfl rfl rfl rfl) (pmk_oex (CX := CX0) U.x iC tI GI (hr.mono (show 2 ≤ 5 by decide)) bI .nil (fun _ _ _ _ _ _ _ h => h.elim) (by rfl) U.g (pa_cons (pv 3) (pa_cons (pv 4) (pa_cons (pv 5) pa_nil))))))) pss_nil)
      (pss_one (ps_ret (pv 0)))), ?_⟩
    refine ⟨_, rfl, _, rfl, m, ta, ts, v, rfl, hM, hW, ⟨o, kv⟩, q1, fun e => ?_⟩
    obtain ⟨st, rfl, q⟩ := q2 e
    refine ⟨st, rfl, fun ns r u H1 s1 asc mem pap pv => ?_⟩
    obtain ⟨qn, qs⟩ := q ns r H1 s1 asc mem pap
    cases r with
    | none =>
      obtain rfl : u = .non := pv
      refine ⟨_, rfl, rfl, _, rfl, iteF ⟨_, rfl, qn rfl⟩⟩
    | some t =>
      obtain ⟨x, a, b⟩ := t
      obtain ⟨p, rfl, hp⟩ := pv
      refine ⟨_, rfl, rfl, _, rfl, iteT ⟨_, rfl, p, _, rfl, SqT.of hp, rfl, _, _, rfl, _, _, rfl, _, _, rfl, rfl, ?_⟩⟩
      refine ⟨_, rfl, _, rfl, _, rfl, by show 3 ≤ 1000; decide, fun ea hea => ⟨ea, .int x, .int a, .int b, rfl, U.x, upd_same, fun d H2 k2 hd ne hea2 hd2 => ⟨rfl, d, _, hea2, hd2, ?_, ?_⟩⟩⟩
      · rw [upd_ne ne] at hd; exact hd
      · refine qs x a b rfl d _ (fun c o e => ?_) (by rw [upd_ne ne] at hd; exact hd) upd_same
        have nce := ne_of_none e hea
        have ncd : c ≠ d := fun z => by rw [z] at e; rw [upd_ne ne, e] at hd; cases hd
        rw [upd_ne ncd]
        unfold L2.del
        rw [if_neg nce]
        exact k2 c o (by rw [upd_ne nce]; exact e) nce
end
end K1
namespace K1
open PySem PySem.Spec PyProof.Rows L2
section
variable {κ : Type} [DecidableEq κ]
theorem valV_mem {k : κ} {v : V} : ∀ {kvs : List (κ × V)}, (kvs.map (·.1)).Nodup → (k, v) ∈ kvs → valV kvs k = some v
  | [], _, h => by cases h
  | (k', v') :: r, nd, h => by
    obtain ⟨n1, n2⟩ := List.nodup_cons.mp nd
    unfold valV
    rcases List.mem_cons.mp h with e | e
    · cases e
      rw [List.find?_cons_of_pos (by simp)]; rfl
    · have ne : k' ≠ k := fun z => n1 (by rw [z]; exact List.mem_map.mpr ⟨(k, v), e, rfl⟩)
      rw [List.find?_cons_of_neg (by simpa using ne)]
      exact valV_mem n2 e
theorem valV_no {k : κ} {kvs : List (κ × V)} (h : ∀ p ∈ kvs, p.1 ≠ k) : valV kvs k = none := by
  unfold valV
  rw [List.find?_eq_none.mpr fun p hp => by simpa using h p hp]; rfl
theorem putK_no {k : κ} {v : V} {kvs : List (κ × V)} (h : ∀ p ∈ kvs, p.1 ≠ k) : putK kvs k v = kvs ++ [(k, v)] := by
  unfold putK
  rw [if_neg]
  intro z
  obtain ⟨p, hp, e⟩ := List.any_eq_true.mp z
  exact h p hp (of_decide_eq_true e)
end
noncomputable def trail (ts : Ts) (row : List Int) (s : Int) : Nat → Int
  | 0 => s
  | j + 1 => run ts (trail ts row s j) row
theorem trail_rng {ts : Ts} {row : List Int} {s : Int} (w : Wf ts) (hd : ∀ d ∈ row, 0 ≤ d ∧ d < (ts.length : Int)) (hs : 0 ≤ s ∧ s < (nS ts : Int)) : ∀ j, 0 ≤ trail ts row s j ∧ trail ts row s j < (nS ts : Int)
  | 0 => hs
  | j + 1 => w.run row _ hd (trail_rng w hd hs j)
noncomputable def Fresh (T : Nat → Int) (n : Nat) : Prop := ∀ a b, a < b → b < n → T a ≠ T b
noncomputable def PowIs (T : Nat → Int) (i p : Nat) : Prop := 0 < p ∧ T (i + p) = T i ∧ Fresh T (i + p)
noncomputable def kvT (T : Nat → Int) (j : Nat) : List (Key × V) := (List.range j).map fun i => (Sum.inl (T i), V.int ((i : Nat) : Int))
theorem kvT_keys (T : Nat → Int) (j : Nat) : (kvT T j).map (·.1) = (List.range j).map fun i => (Sum.inl (T i) : Key) := by
  unfold kvT
  rw [List.map_map]; rfl
theorem kvT_nodup {T : Nat → Int} {j : Nat} (h : Fresh T j) : ((kvT T j).map (·.1)).Nodup := by
  rw [kvT_keys]
  have hp : (List.range j).Pairwise (fun a b => a < b ∧ b < j) := by
    rw [List.pairwise_iff_getElem]
    intro a b ha hb hab
    rw [List.getElem_range, List.getElem_range]
    rw [List.length_range] at hb
    exact ⟨hab, hb⟩
  refine List.pairwise_map.mpr (hp.imp fun {a b} ⟨h1, h2⟩ e => ?_)
  injection e with e
  exact h a b h1 h2 e
theorem kvT_at {T : Nat → Int} {j i : Nat} (h : Fresh T j) (hi : i < j) : valV (kvT T j) (Sum.inl (T i)) = some (.int ((i : Nat) : Int)) :=
  valV_mem (kvT_nodup h) (List.mem_map.mpr ⟨i, List.mem_range.mpr hi, rfl⟩)
theorem kvT_no {T : Nat → Int} {j : Nat} {x : Int} (h : ∀ i, i < j → T i ≠ x) : ∀ p ∈ kvT T j, p.1 ≠ (Sum.inl x : Key) := fun p hp e => by
  obtain ⟨i, hi, rfl⟩ := List.mem_map.mp hp
  injection e with e
  exact h i (List.mem_range.mp hi) e
theorem kvT_succ {T : Nat → Int} {j : Nat} (h : ∀ i, i < j → T i ≠ T j) : putK (kvT T j) (Sum.inl (T j)) (.int ((j : Nat) : Int)) = kvT T (j + 1) := by
  rw [putK_no (kvT_no h)]
  unfold kvT
  rw [List.range_succ, List.map_append]; rfl
theorem fresh_few {T : Nat → Int} {n m : Nat} (h : Fresh T n) (hr : ∀ i, 0 ≤ T i ∧ T i < (m : Int)) : n ≤ m := by
  have nd : ((List.range n).map T).Nodup := by
    have hp : (List.range n).Pairwise (fun a b => a < b ∧ b < n) := by
      rw [List.pairwise_iff_getElem]
      intro a b ha hb hab
      rw [List.getElem_range, List.getElem_range]
      rw [List.length_range] at hb
      exact ⟨hab, hb⟩
    exact List.pairwise_map.mpr (hp.imp fun {a b} ⟨h1, h2⟩ e => h a b h1 h2 e)
  have := nodup_le m _ nd fun x hx => by
    obtain ⟨i, _, rfl⟩ := List.mem_map.mp hx
    exact hr i
  rwa [List.length_map, List.length_range] at this
theorem kvT_len (T : Nat → Int) (j : Nat) : (kvT T j).length = j := by
  unfold kvT
  rw [List.length_map, List.length_range]
noncomputable def meas (n : Nat) (d : Addr) : L2.St → Hp → Nat := fun _ H => match H d with | some (.dK kvs) => n + 1 - kvs.length | _ => 0
theorem meas_at {n : Nat} {d : Addr} {σ : L2.St} {H : Hp} {kvs : List (Key × V)} (h : H d = some (.dK kvs)) : meas n d σ H = n + 1 - kvs.length := by
  unfold meas
  rw [h]
noncomputable def spPower (K : PySem.W.Frag) (M CS CR : Addr) : Sp := fun vs H Q E => ∃ m ta ts v rv, vs = [.ref m, v, rv] ∧ MachAt M H m ta (vts ts) ∧ Wf ts ∧ (∃ o, KV K H v o) ∧ (belowB v (nS ts : Int) = false → Rz CS "state" v H E) ∧
  (belowB v (nS ts : Int) = true → ∃ s r, v = .int s ∧ Rw K H rv r ∧ (rowF r (ts.length : Int) ≠ .non → Rz CR "at" (rowF r (ts.length : Int)) H E) ∧ (rowF r (ts.length : Int) = .non → ∃ row, r = some (vrow row) ∧ (∀ d ∈ row, 0 ≤ d ∧ d < (ts.length : Int)) ∧
    ∀ (i p : Nat) a H', Same H H' → PowIs (trail ts row s) i p → H' a = some (.tup [.int (i : Int), .int (p : Int)]) → Q (.ref a) H'))
section
variable {P : Program} {w : World} {K : PySem.W.Frag} {mg : Str → Option Value} {base : Heap}
noncomputable abbrev nPw : List Str := ["machine", "state", "row", "deeds", "times"]
theorem scPw : FnScope nPw ["machine", "state", "row"] (defScope sPower) := ⟨rfl, rfl, rfl, by decide +kernel, rfl, by decide +kernel, by decide +kernel⟩
theorem ok_power {f fN fR fM CS CR M : Addr} {fd fdN fdR fdM : FuncData} (D : Df K mg "power_of" sPower ["machine", "state", "row"] f fd) (DN : Df K mg "need_state" sNeedS ["machine", "state"] fN fdN) (DR : Df K mg "check_row" sRow ["machine", "value"] fR fdR) (DM : Df K mg "moved" sMoved ["machine", "state", "row"] fM fdM) (B : Bt mg)
    (GN : FnOk P w K mg base (L2.CX P w) 3 fN fdN ["machine", "state"] (spNeed M CS "state" nS)) (GR : FnOk P w K mg base (L2.CX P w) 5 fR fdR ["machine", "value"] (spRow K M CR)) (GM : FnOk P w K mg base CX0 1 fM fdM ["machine", "state", "row"] (spMoved M)) :
    FnOk P w K mg base (L2.CX P w) 6 f fd ["machine", "state", "row"] (spPower K M CS CR) := by
  refine D.F.okX scPw (fun vs H Q E h => ?_) (fun cdv A outer s H vs Q E hr h => ?_)
  · obtain ⟨m, ta, ts, v, rv, rfl, _⟩ := h
    rfl
  · obtain ⟨m, ta, ts, v, rv, rfl, hM, hW, ⟨o, kv⟩, q1, q2⟩ := h
    have hu := hu_of hr
    refine ⟨_, pss_cons (ps_expr (pc DN GN (hr.mono (by decide)) (pass1 (takes_of rfl rfl rfl rfl)) (pa_cons (pv 0) (pa_cons (pv 1) pa_nil))))
      (pss_cons (ps_set (i := 3) scPw.nd rfl (.inl rfl) (pc DR GR hr (pass1 (takes_of rfl rfl rfl rfl)) (pa_cons (pv 0) (pa_cons (pv 2) pa_nil))))
      (pss_cons (ps_set (i := 4) scPw.nd rfl (.inl rfl) pe_dnewK)
      (pss_cons (ps_while (passes_of rfl) (pt_cmp (pc_dnotin hu (pv 1) (pv 4)))
        (pss_cons (ps_dput hu (pv 4) (pv 1) (pe_callB call_lenD (by rfl) B.len PySem.boot_len (pa_cons (pv 4) pa_nil)) rfl)
        (pss_one (ps_set (i := 1) scPw.nd rfl (.inl rfl) (pc DM GM (hr.mono (by decide)) pass0 (pa_cons (pv 0) (pa_cons (pv 1) (pa_cons (pv 3) pa_nil))))))))
      (pss_one (ps_ret (pe_tup (pa_cons (pe_dget hu (pv 4) (pv 1) (fun _ _ => rfl)) (pa_cons (pe_op op_sub (pe_callB call_lenD (by rfl) B.len PySem.boot_len (pa_cons (pv 4) pa_nil)) (pe_dget hu (pv 4) (pv 1) (fun _ _ => rfl))) pa_nil)))))))), ?_⟩
    refine ⟨_, rfl, _, rfl, m, ta, ts, v, rfl, hM, ⟨K, o, kv⟩, fun e => ?_, fun e => q1 e⟩
    obtain ⟨st, r, rfl, hrw, qr, q⟩ := q2 e
    have hst : 0 ≤ st ∧ st < (nS ts : Int) := by
      have z : (decide (0 ≤ st) && decide (st < (nS ts : Int))) = true := e
      simpa using z
    refine ⟨_, rfl, _, rfl, m, ta, ts, rv, r, rfl, hM, hrw, fun hne => qr hne, fun hn xs ex p H1 s1 hp => ?_⟩
    obtain ⟨row, rfl, hrow, q⟩ := q hn
    obtain rfl := Option.some.inj ex
    intro d hd
    have s2 : Same H (upd H1 d (.dK [])) := s1.trans (same_new hd)
    have nd : H d = none := s1.free hd
    refine while_by (fun σ H' => ∃ j : Nat, σ = [some (.ref m), some (.int (trail ts row st j)), some rv, some (.ref p), some (.ref d)] ∧ Same H H' ∧ H' p = some (.tup (vrow row)) ∧ H' d = some (.dK (kvT (trail ts row st) j)) ∧ Fresh (trail ts row st) j)
      (meas (nS ts) d) ⟨0, rfl, s2, (same_new hd) _ _ hp, upd_same, fun a b _ hb => absurd hb (Nat.not_lt_zero _)⟩ ?_
      (fun σ H Q Q' hQ ⟨v, h1, v2, h2, a, o, h3, h4, k, h5, h6⟩ => ⟨v, h1, v2, h2, a, o, h3, h4, k, h5, hQ _ _ h6⟩)
    rintro σ H2 ⟨j, rfl, s3, hp3, hd3, fr⟩
    refine ⟨_, rfl, _, rfl, d, _, rfl, DGet.k (k := Sum.inl (trail ts row st j)) hd3, _, rfl, ?_⟩
    have hjm : j ≤ nS ts := fresh_few fr (trail_rng hW hrow hst)
    have hm12 := hW.s12
    cases ev : valV (kvT (trail ts row st) j) (Sum.inl (trail ts row st j)) with
    | none =>
      refine iteT ?_
      have hno : ∀ i, i < j → trail ts row st i ≠ trail ts row st j := fun i hi z => by
        have := kvT_at fr hi
        rw [z, ev] at this
        cases this
      refine ⟨_, rfl, d, _, rfl, hd3, _, rfl, _, rfl, d, _, rfl, DPut.k (k := Sum.inl (trail ts row st j)) hd3 (by rw [kvT_len, sizeLine_eq]; omega), ?_⟩
      have npd : p ≠ d := ne_of hp3 hd3 (by intro z; cases z)
      refine ⟨_, rfl, _, rfl, _, rfl, m, ta, ts, trail ts row st j, p, row, rfl, ?_, hW, trail_rng hW hrow hst j, by rw [upd_ne npd]; exact hp3, hrow, ?_⟩
      · refine hM.same fun c o e => ?_
        rw [upd_ne (ne_of_none e nd)]
        exact s3 _ _ e
      · have hfr : Fresh (trail ts row st) (j + 1) := fun a b hab hb => by
          by_cases z : b = j
          · rw [z]; exact hno a (by omega)
          · exact fr a b hab (by omega)
        refine ⟨⟨j + 1, rfl, fun c o e => ?_, by rw [upd_ne npd]; exact hp3, ?_, hfr⟩, ?_⟩
        · rw [upd_ne (ne_of_none e nd)]
          exact s3 _ _ e
        · rw [upd_same, kvT_len, kvT_succ hno]
        · have e1 : (upd H2 d (.dK (putK (kvT (trail ts row st) j) (Sum.inl (trail ts row st j)) (.int ((kvT (trail ts row st) j).length : Nat))))) d = some (.dK (kvT (trail ts row st) (j + 1))) := by
            rw [upd_same, kvT_len, kvT_succ hno]
          have hj1 : j + 1 ≤ nS ts := fresh_few hfr (trail_rng hW hrow hst)
          rw [meas_at e1, meas_at hd3, kvT_len, kvT_len]
          omega
    | some u =>
      refine iteF ?_
      obtain ⟨i, hi, ei⟩ : ∃ i, i < j ∧ trail ts row st i = trail ts row st j := by
        refine Classical.byContradiction fun z => ?_
        have := valV_no (kvT_no (T := trail ts row st) (j := j) (x := trail ts row st j) fun i hi e => z ⟨i, hi, e⟩)
        rw [ev] at this
        cases this
      have eg : valV (kvT (trail ts row st) j) (Sum.inl (trail ts row st j)) = some (.int ((i : Nat) : Int)) := by
        rw [← ei]; exact kvT_at fr hi
      have g : DGet H2 d (.int (trail ts row st j)) (some (.int ((i : Nat) : Int))) := by
        have z := DGet.k (k := Sum.inl (trail ts row st j)) hd3
        rw [eg] at z
        exact z
      refine ⟨_, rfl, _, rfl, d, _, rfl, g, _, rfl, d, _, rfl, hd3, _, rfl, _, rfl, d, _, rfl, g, _, _, rfl, rfl, (by show 2 ≤ sizeLine; decide), fun a ha => ?_⟩
      rw [kvT_len]
      have ep : ((j : Nat) : Int) - ((i : Nat) : Int) = ((j - i : Nat) : Int) := by omega
      refine q i (j - i) a _ (s3.trans (same_new ha)) ⟨by omega, ?_, ?_⟩ (by rw [upd_same]; show some (HO.tup [V.int ((i : Nat) : Int), V.int (((j : Nat) : Int) - ((i : Nat) : Int))]) = _; rw [ep])
      · rw [show i + (j - i) = j by omega, ei]
      · rw [show i + (j - i) = j by omega]; exact fr
end
end K1
namespace K1
open PySem PySem.Spec PyProof.Rows L2
structure Gc (mg : Str → Option Value) : Prop where
  g : mg "gcd" = some (.builtin "math.gcd")
structure Lc (mg : Str → Option Value) : Prop where
  l : mg "lcm" = some (.builtin "math.lcm")
noncomputable def rLcm : List V → Hp → VK → Prop := fun vs H Q => ∃ a b : Nat, vs = [.int (a : Int), .int (b : Int)] ∧ a < 2 ^ 32 ∧ b < 2 ^ 32 ∧ Q (.int ((Nat.lcm a b : Nat) : Int)) H
theorem cr_lcm {X : Cx} : CallR X (.builtin "math.lcm") rLcm := by
  intro pins s σ H vs us Q I r h
  obtain ⟨a, b, rfl, ha, hb, q⟩ := h
  obtain ⟨t, u, rfl⟩ := Vals.int2 r
  have e : (Nat.lcm 1 (a : Int).natAbs).lcm (b : Int).natAbs = Nat.lcm a b := by rw [Nat.lcm_one_left]; rfl
  have hl : Nat.lcm a b ≤ 2 ^ 64 := by
    have h1 : Nat.lcm a b ≤ a * b := Nat.div_le_self _ _
    have h2 : a * b ≤ 2 ^ 32 * 2 ^ 32 := Nat.mul_le_mul (Nat.le_of_lt ha) (Nat.le_of_lt hb)
    exact Nat.le_trans h1 (Nat.le_trans h2 (by decide))
  refine PySem.W.mg_lcm_v (c := ((Nat.lcm a b : Nat) : Int)) (by show a < 2 ^ 64; omega) (by show b < 2 ^ 64; omega) (by rw [e]) ?_ ⟨.int _, H, I.tok _, ⟨_, rfl⟩, q⟩
  show (Nat.lcm a b).log2 < bitsLine
  have := PySem.W.mg_log (n := Nat.lcm a b) (k := 64) (by omega)
  exact Nat.lt_of_le_of_lt this (by decide)
theorem rowF_ok {row : List Int} {n : Nat} (hl : row.length ≤ 10000) (h : ∀ d ∈ row, 0 ≤ d ∧ d < (n : Int)) : rowF (some (vrow row)) (n : Int) = .non := by
  unfold rowF
  rw [if_pos (by
    show (decide ((0 : Int) ≤ ((vrow row).length : Int)) && decide (((vrow row).length : Int) ≤ 10000)) = true
    rw [vrow, List.length_map, decide_eq_true (by omega), decide_eq_true (by omega)]; rfl)]
  refine fnb_all fun x hx => ?_
  obtain ⟨i, hi, rfl⟩ := List.mem_map.mp hx
  obtain ⟨h1, h2⟩ := h i hi
  show (decide (0 ≤ i) && decide (i < (n : Int))) = true
  rw [decide_eq_true h1, decide_eq_true h2]; rfl
theorem kindsR {K : PySem.W.Frag} {H : Hp} {row : List Int} : ∀ ys, some (vrow row) = some ys → Kinds K H ys := fun ys e y hy => by
  obtain rfl := Option.some.inj e
  obtain ⟨j, _, rfl⟩ := List.mem_map.mp hy
  exact ⟨_, .int j⟩
end K1
namespace K1
open PySem PySem.Spec PyProof.Rows L2
noncomputable def red (i p n : Nat) : Nat := if n < i then n else i + (n - i) % p
theorem trail_add (ts : Ts) (row : List Int) (s : Int) {a b : Nat} (h : trail ts row s a = trail ts row s b) : ∀ k, trail ts row s (a + k) = trail ts row s (b + k)
  | 0 => h
  | k + 1 => by show run ts (trail ts row s (a + k)) row = run ts (trail ts row s (b + k)) row; rw [trail_add ts row s h k]
theorem pow_round {ts : Ts} {row : List Int} {s : Int} {i p : Nat} (h : PowIs (trail ts row s) i p) : ∀ r k, trail ts row s (i + k + p * r) = trail ts row s (i + k)
  | 0, k => by rw [Nat.mul_zero, Nat.add_zero]
  | r + 1, k => by
    have e : i + k + p * (r + 1) = (i + p) + (k + p * r) := by rw [Nat.mul_succ]; omega
    rw [e, trail_add ts row s h.2.1 (k + p * r), show i + (k + p * r) = i + k + p * r by omega]
    exact pow_round h r k
theorem pow_red {ts : Ts} {row : List Int} {s : Int} {i p : Nat} (h : PowIs (trail ts row s) i p) (n : Nat) : trail ts row s n = trail ts row s (red i p n) := by
  unfold red
  by_cases z : n < i
  · rw [if_pos z]
  · rw [if_neg z]
    have e : n = i + (n - i) % p + p * ((n - i) / p) := by have := Nat.mod_add_div (n - i) p; omega
    rw [e]
    have := pow_round h ((n - i) / p) ((n - i) % p)
    rw [this]
    have e2 : i + (n - i) % p + p * ((n - i) / p) - i = (n - i) % p + p * ((n - i) / p) := by omega
    rw [e2, Nat.add_mul_mod_self_left, Nat.mod_mod]
theorem red_lt {i p : Nat} (hp : 0 < p) (n : Nat) : red i p n < i + p := by
  unfold red
  by_cases z : n < i
  · rw [if_pos z]; omega
  · rw [if_neg z]
    have := Nat.mod_lt (n - i) hp
    omega
theorem pow_eq {ts : Ts} {row : List Int} {s : Int} {i p : Nat} (h : PowIs (trail ts row s) i p) (n m : Nat) : trail ts row s n = trail ts row s m ↔ red i p n = red i p m := by
  refine ⟨fun e => ?_, fun e => by rw [pow_red h n, pow_red h m, e]⟩
  rw [pow_red h n, pow_red h m] at e
  rcases Nat.lt_trichotomy (red i p n) (red i p m) with z | z | z
  · exact absurd e (h.2.2 _ _ z (red_lt h.1 m))
  · exact z
  · exact absurd e.symm (h.2.2 _ _ z (red_lt h.1 n))
theorem pow_low {ts : Ts} {row : List Int} {s : Int} {i p : Nat} (h : PowIs (trail ts row s) i p) (hi : i ≤ 1) (c : Nat) : trail ts row s (c + 1) = trail ts row s 1 ↔ p ∣ c := by
  have hp := h.1
  rw [pow_eq h]
  unfold red
  rw [if_neg (by omega), if_neg (by omega)]
  rcases (by omega : i = 0 ∨ i = 1) with rfl | rfl
  · rw [Nat.zero_add, Nat.zero_add, Nat.sub_zero, Nat.sub_zero]
    refine ⟨fun e => ?_, fun ⟨q, e⟩ => by rw [e, Nat.add_comm, Nat.add_mul_mod_self_left]⟩
    have e2 : ((c + 1) - 1) % p = 0 := Nat.sub_mod_eq_zero_of_mod_eq e
    exact Nat.dvd_of_mod_eq_zero (by simpa using e2)
  · rw [Nat.add_sub_cancel, Nat.sub_self, Nat.zero_mod]
    exact ⟨fun e => Nat.dvd_of_mod_eq_zero (by omega), fun d => by rw [Nat.mod_eq_zero_of_dvd d]⟩
theorem pow_high {ts : Ts} {row : List Int} {s : Int} {i p : Nat} (h : PowIs (trail ts row s) i p) (hi : 1 < i) (c : Nat) : trail ts row s (c + 1) = trail ts row s 1 ↔ c = 0 := by
  rw [pow_eq h]
  unfold red
  rw [if_pos hi]
  by_cases z : c + 1 < i
  · rw [if_pos z]; omega
  · rw [if_neg z]
    have := Nat.mod_lt (c + 1 - i) h.1
    omega
noncomputable def HarmIs (ts : Ts) (s : Int) (h : Nat) : Prop := ∀ c : Nat, (∀ d, In8 ts d → trail ts [d] s (c + 1) = trail ts [d] s 1) ↔ c = 0 ∨ (0 < h ∧ h ∣ c)
noncomputable def HarmTo (ts : Ts) (s : Int) (k a : Nat) : Prop := 0 < a ∧ a ≤ 12 ^ k ∧ ∀ c : Nat, (∀ d : Int, 0 ≤ d ∧ d < (k : Int) → trail ts [d] s (c + 1) = trail ts [d] s 1) ↔ a ∣ c
theorem harm_zero (ts : Ts) (s : Int) : HarmTo ts s 0 1 := ⟨by decide, by decide, fun c => ⟨fun _ => Nat.one_dvd c, fun _ d hd => by omega⟩⟩
theorem harm_succ {ts : Ts} {s : Int} {k a i p : Nat} (h : HarmTo ts s k a) (hp : PowIs (trail ts [(k : Int)] s) i p) (hi : i ≤ 1) (p12 : p ≤ 12) : HarmTo ts s (k + 1) (Nat.lcm a p) := by
  obtain ⟨h1, h2, h3⟩ := h
  refine ⟨Nat.lcm_pos h1 hp.1, ?_, fun c => ?_⟩
  · have e1 : Nat.lcm a p ≤ a * p := Nat.div_le_self _ _
    have e2 : a * p ≤ 12 ^ k * 12 := Nat.mul_le_mul h2 p12
    rw [Nat.pow_succ]
    omega
  · constructor
    · intro e
      exact Nat.lcm_dvd ((h3 c).mp fun d hd => e d ⟨hd.1, by omega⟩) ((pow_low hp hi c).mp (e k ⟨by omega, by omega⟩))
    · intro e d hd
      by_cases z : d = (k : Int)
      · subst z
        exact (pow_low hp hi c).mpr (Nat.dvd_trans (Nat.dvd_lcm_right a p) e)
      · exact (h3 c).mpr (Nat.dvd_trans (Nat.dvd_lcm_left a p) e) d ⟨hd.1, by omega⟩
theorem harm_done {ts : Ts} {s : Int} {a : Nat} (h : HarmTo ts s ts.length a) : HarmIs ts s a := fun c => by
  obtain ⟨h1, _, h3⟩ := h
  constructor
  · intro e
    exact .inr ⟨h1, (h3 c).mp fun d hd => e d hd⟩
  · rintro (rfl | ⟨_, e⟩) d hd
    · rfl
    · exact (h3 c).mpr e d hd
theorem harm_none {ts : Ts} {s : Int} {d : Int} {i p : Nat} (hd : In8 ts d) (hp : PowIs (trail ts [d] s) i p) (hi : 1 < i) : HarmIs ts s 0 := fun c => by
  constructor
  · intro e
    exact .inl ((pow_high hp hi c).mp (e d hd))
  · rintro (rfl | ⟨e, _⟩) d hd
    · rfl
    · exact absurd e (Nat.lt_irrefl 0)
end K1
namespace K1
open PySem PySem.Spec PyProof.Rows L2
noncomputable def spHarm (K : PySem.W.Frag) (M CS CU : Addr) : Sp := fun vs H Q E => ∃ m ta ts v, vs = [.ref m, v] ∧ MachAt M H m ta (vts ts) ∧ Wf ts ∧ (∃ o, KV K H v o) ∧ (belowB v (nS ts : Int) = false → Rz CS "state" v H E) ∧
  (belowB v (nS ts : Int) = true → ∃ s, v = .int s ∧ ∀ (ns : List Int) r H', Same H H' → ns.Pairwise (· < ·) → (∀ x, x ∈ ns ↔ Rch ts s x) → PaperIs ts ns r → (r = none → ∀ (h : Nat) H'', Same H H'' → HarmIs ts s h → Q (.int (h : Int)) H'') ∧ ∀ x a b, r = some (x, a, b) → RzUc CU x a b H' E)
section
variable {P : Program} {w : World} {K : PySem.W.Frag} {mg : Str → Option Value} {base : Heap}
noncomputable abbrev nHa : List Str := ["machine", "first", "apart", "deed", "index", "period"]
theorem scHa : FnScope nHa ["machine", "first"] (defScope sHarm) := ⟨rfl, rfl, rfl, by decide +kernel, rfl, by decide +kernel, by decide +kernel⟩
theorem ok_harm {f fC fP CS CR CU M : Addr} {fd fdC fdP : FuncData} (D : Df K mg "harmless_period" sHarm ["machine", "first"] f fd) (DC : Df K mg "need_commuting" sNeedC ["machine", "state"] fC fdC) (DP : Df K mg "power_of" sPower ["machine", "state", "row"] fP fdP) (B : Bt mg) (lc : Lc mg) (T : McT K mg M)
    (GC : FnOk P w K mg base (L2.CX P w) 6 fC fdC ["machine", "state"] (spNeedC K M CS CU)) (GP : FnOk P w K mg base (L2.CX P w) 6 fP fdP ["machine", "state", "row"] (spPower K M CS CR)) :
    FnOk P w K mg base (L2.CX P w) 7 f fd ["machine", "first"] (spHarm K M CS CU) := by
  refine D.F.okX scHa (fun vs H Q E h => ?_) (fun cdv A outer s H vs Q E hr h => ?_)
  · obtain ⟨m, ta, ts, v, rfl, _⟩ := h
    rfl
  · obtain ⟨m, ta, ts, v, rfl, hM, hW, ⟨o, kv⟩, q1, q2⟩ := h
    refine ⟨_, pss_cons (ps_expr (pc DC GC hr (pass1 (takes_of rfl rfl rfl rfl)) (pa_cons (pv 0) (pa_cons (pv 1) pa_nil))))
      (pss_cons (ps_set (i := 2) scHa.nd rfl (.inl rfl) pe_int)
      (pss_cons (ps_for (passes_of rfl) rfl (pi_range1 (by rfl) B.range (pa_cons (pe_fld (pv 0) rfl) pa_nil)) (pg_name (i := 3) scHa.nd rfl (.inl rfl))
        (pss_cons (ps_asg (pc DP GP hr (pass1 (takes_of rfl rfl rfl rfl)) (pa_cons (pv 0) (pa_cons (pv 1) (pa_cons (pe_tup (pa_cons (pv 3) pa_nil)) pa_nil)))) (pg_tup rfl (pgs_cons (pg_name (i := 4) scHa.nd rfl (.inl rfl)) (pgs_cons (pg_name (i := 5) scHa.nd rfl (.inl rfl)) pgs_nil))))
        (pss_cons (ps_if (pt_cmpR op_gt (pv 4) pe_int (nomark _)) (pss_one (ps_ret pe_int)) pss_nil)
        (pss_one (ps_set (i := 2) scHa.nd rfl (.inl rfl) (pe_callBfun cr_lcm (by rfl) lc.l (pa_cons (pv 2) (pa_cons (pv 5) pa_nil))))))))
      (pss_one (ps_ret (pv 2))))), ?_⟩
    refine ⟨_, rfl, _, rfl, m, ta, ts, v, rfl, hM, hW, ⟨o, kv⟩, q1, fun e => ?_⟩
    obtain ⟨st, rfl, q⟩ := q2 e
    have hst : 0 ≤ st ∧ st < (nS ts : Int) := by
      have z : (decide (0 ≤ st) && decide (st < (nS ts : Int))) = true := e
      simpa using z
    refine ⟨st, rfl, fun ns r H1 s1 asc mem pap => ?_⟩
    obtain ⟨qn, qs⟩ := q ns r H1 s1 asc mem pap
    refine ⟨fun er => ?_, qs⟩
    have qt := qn er
    obtain ⟨dx, hf⟩ := (hM.same s1).fs
    have h8 := hW.t8
    refine ⟨_, rfl, m, M, dx, _, _, rfl, hf, T.cl, T.nD, mf_d _ _ _, (ts.length : Int), rfl, by omega, by omega, for_range (fun k σ H' => ∃ (a : Nat) (v3 v4 v5 : Option V), σ = [some (.ref m), some (.int st), some (.int (a : Int)), v3, v4, v5] ∧ Same H H' ∧ HarmTo ts st k a) ⟨1, none, none, none, rfl, s1, harm_zero ts st⟩ ?_ ?_⟩
    · rintro k σ H2 hk ⟨a, v3, v4, v5, rfl, s2, ha⟩
      have hk8 : In8 ts (k : Int) := ⟨by omega, by omega⟩
      have hd1 : ∀ e ∈ [(k : Int)], 0 ≤ e ∧ e < (ts.length : Int) := fun e he => by rw [List.mem_singleton.mp he]; exact hk8
      refine ⟨_, rfl, _, rfl, _, rfl, (by show 1 ≤ sizeLine; decide), fun T2 hT2 => ?_⟩
      have s3 := s2.trans (same_new (o := HO.tup [V.int (0 + (k : Int))]) hT2)
      have e0 : (0 : Int) + (k : Int) = (k : Int) := Int.zero_add _
      refine ⟨m, ta, ts, _, _, rfl, hM.same s3, hW, ⟨none, .int _⟩, fun e => (by rw [belowI hst] at e; cases e), fun _ => ⟨_, _, rfl, ⟨.tup (by rw [upd_same, e0]; rfl), kindsR (row := [(k : Int)])⟩, fun hne => absurd (rowF_ok (show [(k : Int)].length ≤ 10000 by show 1 ≤ 10000; decide) hd1) hne, fun _ => ⟨[(k : Int)], rfl, hd1, fun i p pa H3 s4 hp hpa => ?_⟩⟩⟩
      refine ⟨pa, _, rfl, SqT.of hpa, rfl, _, _, rfl, _, _, rfl, rfl, ?_⟩
      have few : i + p ≤ nS ts := fresh_few hp.2.2 (trail_rng hW hd1 hst)
      have h12 := hW.s12
      refine ⟨_, rfl, _, _, rfl, rfl, _, rfl, ifD (fun e1 => ?_) fun e1 => ?_⟩
      · have hi : 1 < i := by have := of_decide_eq_true e1; omega
        exact qt 0 _ (s3.trans s4) (harm_none hk8 hp hi)
      · have hi : i ≤ 1 := by have := of_decide_eq_false e1; omega
        have hb : a < 2 ^ 32 := by
          have h1 := ha.2.1
          have h2 : 12 ^ k ≤ 12 ^ 8 := Nat.pow_le_pow_right (by decide) (by omega)
          have h3 : 12 ^ 8 < 2 ^ 32 := by decide
          omega
        exact ⟨_, rfl, _, rfl, a, p, rfl, hb, by omega, _, _, _, _, rfl, s3.trans s4, harm_succ ha hp hi (by omega)⟩
    · rintro σ H2 ⟨a, v3, v4, v5, rfl, s2, ha⟩
      exact ⟨_, rfl, qt a _ s2 (harm_done (by simpa using ha))⟩
end
end K1
namespace K1
open PySem PySem.Spec PyProof.Rows L2
noncomputable def hdD (acts row : List Int) (g : Nat) : Nat → Nat
  | 0 => g
  | k + 1 => Nat.gcd (hdD acts row g k) (dM (k : Int) row acts).natAbs
noncomputable def hdR (acts : List Int) : Rwz → Nat → Nat
  | [], g => g
  | r :: rs, g => hdR acts rs (hdD acts r g 8)
theorem hdR_snoc (acts : List Int) (r : List Int) : ∀ (rs : Rwz) (g : Nat), hdR acts (rs ++ [r]) g = hdD acts r (hdR acts rs g) 8
  | [], g => rfl
  | q :: rs, g => hdR_snoc acts r rs _
theorem dvd_hdD {acts row : List Int} {x g : Nat} : ∀ k, x ∣ hdD acts row g k ↔ x ∣ g ∧ ∀ d : Nat, d < k → x ∣ (dM (d : Int) row acts).natAbs
  | 0 => ⟨fun h => ⟨h, fun d hd => absurd hd (Nat.not_lt_zero _)⟩, fun h => h.1⟩
  | k + 1 => by
    show x ∣ Nat.gcd (hdD acts row g k) _ ↔ _
    rw [Nat.dvd_gcd_iff, dvd_hdD k]
    constructor
    · rintro ⟨⟨h1, h2⟩, h3⟩
      refine ⟨h1, fun d hd => ?_⟩
      by_cases z : d = k
      · rw [z]; exact h3
      · exact h2 d (by omega)
    · rintro ⟨h1, h2⟩
      exact ⟨⟨h1, fun d hd => h2 d (by omega)⟩, h2 k (by omega)⟩
theorem dvd_hdR {acts : List Int} {x : Nat} : ∀ {rs : Rwz} {g : Nat}, x ∣ hdR acts rs g ↔ x ∣ g ∧ ∀ r ∈ rs, ∀ d : Nat, d < 8 → x ∣ (dM (d : Int) r acts).natAbs
  | [], g => ⟨fun h => ⟨h, fun r hr => nomatch hr⟩, fun h => h.1⟩
  | q :: rs, g => by
    show x ∣ hdR acts rs (hdD acts q g 8) ↔ _
    rw [dvd_hdR (rs := rs), dvd_hdD]
    constructor
    · rintro ⟨⟨h1, h2⟩, h3⟩
      refine ⟨h1, fun r hr => ?_⟩
      rcases List.mem_cons.mp hr with rfl | hr
      · exact h2
      · exact h3 r hr
    · rintro ⟨h1, h2⟩
      exact ⟨⟨h1, h2 q List.mem_cons_self⟩, fun r hr => h2 r (List.mem_cons_of_mem _ hr)⟩
theorem dM_none {d : Int} : ∀ {row acts : List Int}, (∀ x ∈ acts, x ≠ d) → dM d row acts = 0
  | [], acts, _ => by cases acts <;> rfl
  | c :: row, [], _ => rfl
  | c :: row, x :: acts, h => by
    show (if x = d ∧ 0 < c then c - 1 else 0) + dM d row acts = 0
    rw [dM_none fun y hy => h y (List.mem_cons_of_mem _ hy), if_neg (fun z => h x List.mem_cons_self z.1)]; rfl
theorem dM_bd (d b : Int) (hb : 0 ≤ b) : ∀ (row acts : List Int), (∀ c ∈ row, c ≤ b) → dM d row acts ≤ row.length * b
  | [], acts, _ => by cases acts <;> (show (0 : Int) ≤ _; simp)
  | c :: row, [], _ => by show (0 : Int) ≤ _; exact Int.mul_nonneg (by omega) hb
  | c :: row, x :: acts, h => by
    show (if x = d ∧ 0 < c then c - 1 else 0) + dM d row acts ≤ ((row.length + 1 : Nat) : Int) * b
    have h1 := dM_bd d b hb row acts fun y hy => h y (List.mem_cons_of_mem _ hy)
    have h2 := h c List.mem_cons_self
    rw [show ((row.length + 1 : Nat) : Int) = (row.length : Int) + 1 by omega, Int.add_mul]
    split <;> omega
noncomputable abbrev Sm := Nat × Nat × Int
noncomputable def sumsR (acts row : List Int) (h nd : Nat) : List Sm := (List.range nd).map fun d => (h, d, dM (d : Int) row acts)
noncomputable def sumsL (acts : List Int) (rs : Rwz) (nd : Nat) : Nat → List Sm
  | 0 => []
  | k + 1 => sumsL acts rs nd k ++ sumsR acts (rs.getD k []) k nd
theorem sumsR_succ (acts row : List Int) (h d : Nat) : sumsR acts row h (d + 1) = sumsR acts row h d ++ [(h, d, dM (d : Int) row acts)] := by unfold sumsR; rw [List.range_succ, List.map_append]; rfl
theorem mem_sumsL {acts : List Int} {rs : Rwz} {nd : Nat} {t : Sm} : ∀ {k : Nat}, t ∈ sumsL acts rs nd k ↔ ∃ h d, h < k ∧ d < nd ∧ t = (h, d, dM (d : Int) (rs.getD h []) acts)
  | 0 => ⟨fun h => (nomatch h), fun ⟨h, d, z, _⟩ => absurd z (Nat.not_lt_zero _)⟩
  | k + 1 => by
    show t ∈ sumsL acts rs nd k ++ _ ↔ _
    rw [List.mem_append, mem_sumsL (k := k)]
    unfold sumsR
    rw [List.mem_map]
    constructor
    · rintro (⟨h, d, h1, h2, h3⟩ | ⟨d, hd, rfl⟩)
      · exact ⟨h, d, by omega, h2, h3⟩
      · exact ⟨k, d, by omega, List.mem_range.mp hd, rfl⟩
    · rintro ⟨h, d, h1, h2, rfl⟩
      by_cases z : h = k
      · subst z; exact .inr ⟨d, List.mem_range.mpr h2, rfl⟩
      · exact .inl ⟨h, d, by omega, h2, rfl⟩
theorem sumsL_len (acts : List Int) (rs : Rwz) (nd : Nat) : ∀ k, (sumsL acts rs nd k).length = k * nd
  | 0 => by rw [Nat.zero_mul]; rfl
  | k + 1 => by show (sumsL acts rs nd k ++ sumsR _ _ _ _).length = _; rw [List.length_append, sumsL_len acts rs nd k, sumsR, List.length_map, List.length_range, Nat.succ_mul]
noncomputable def GrtIs (m : Nat) (xs : List Int) : Prop := ∀ x : Nat, x ∣ m ↔ ∀ y ∈ xs, x ∣ y.natAbs
theorem hdR_grt {acts : List Int} {rs : Rwz} {nd n : Nat} (hn : rs.length = n) (h8 : nd ≤ 8) (ha : ∀ a ∈ acts, a < (nd : Int)) : GrtIs (hdR acts rs 0) ((sumsL acts rs nd n).map fun t => t.2.2) := fun x => by
  rw [dvd_hdR]
  constructor
  · rintro ⟨_, h⟩ y hy
    obtain ⟨t, ht, rfl⟩ := List.mem_map.mp hy
    obtain ⟨i, d, hi, hd, rfl⟩ := mem_sumsL.mp ht
    exact h _ (List.mem_of_getElem? (getL (l := rs) (i := i) (by omega))) d (by omega)
  · intro h
    refine ⟨Nat.dvd_zero x, fun r hr d hd => ?_⟩
    obtain ⟨i, hi⟩ := List.getElem?_of_mem hr
    by_cases z : d < nd
    · have e : rs.getD i [] = r := by rw [List.getD_eq_getElem?_getD, hi]; rfl
      have := h (dM (d : Int) r acts) (List.mem_map.mpr ⟨_, mem_sumsL.mpr ⟨i, d, by have := lt_at hi; omega, z, rfl⟩, by rw [e]⟩)
      exact this
    · rw [dM_none (row := r) (d := (d : Int)) (acts := acts) fun a h1 h2 => by have := ha a h1; omega]
      exact Nat.dvd_zero x
theorem dM_zero {d : Int} : ∀ {row acts : List Int}, (∀ c ∈ row, c ≤ 1) → dM d row acts = 0
  | [], acts, _ => by cases acts <;> rfl
  | c :: row, [], _ => rfl
  | c :: row, x :: acts, h => by
    show (if x = d ∧ 0 < c then c - 1 else 0) + dM d row acts = 0
    have := h c List.mem_cons_self
    rw [dM_zero fun y hy => h y (List.mem_cons_of_mem _ hy)]
    split <;> omega
theorem euc_step {r o t P : Nat} (ho : 0 < o) (hlt : t = 0 ∨ (o < r ∧ r * o * 2 ^ (t - 1) ≤ P)) (h0 : t = 0 → r * o ≤ P) : r % o < o ∧ o * (r % o) * 2 ^ (t + 1 - 1) ≤ P := by
  refine ⟨Nat.mod_lt _ ho, ?_⟩
  rw [Nat.add_sub_cancel]
  rcases Nat.eq_zero_or_pos t with rfl | ht
  · rw [Nat.pow_zero, Nat.mul_one]
    have h1 := h0 rfl
    have h2 : o * (r % o) ≤ o * r := Nat.mul_le_mul_left _ (Nat.mod_le _ _)
    rw [Nat.mul_comm o r] at h2
    omega
  · obtain ⟨h1, h2⟩ := hlt.resolve_left (by omega)
    have h3 : 2 * (r % o) ≤ r := by
      have e := Nat.div_add_mod r o
      have h4 : 1 ≤ r / o := (Nat.one_le_div_iff ho).mpr (Nat.le_of_lt h1)
      have h5 : o * 1 ≤ o * (r / o) := Nat.mul_le_mul_left _ h4
      have := Nat.mod_lt r ho
      omega
    obtain ⟨k, rfl⟩ : ∃ k, t = k + 1 := ⟨t - 1, by omega⟩
    rw [Nat.add_sub_cancel] at h2
    have e : o * (r % o) * 2 ^ (k + 1) = o * (2 * (r % o)) * 2 ^ k := by rw [Nat.pow_succ, Nat.mul_comm (2 ^ k) 2, ← Nat.mul_assoc, Nat.mul_assoc o, Nat.mul_comm (r % o) 2]
    rw [e]
    have h6 : o * (2 * (r % o)) ≤ r * o := by rw [Nat.mul_comm r o]; exact Nat.mul_le_mul_left _ h3
    exact Nat.le_trans (Nat.mul_le_mul_right _ h6) h2
theorem euc_end {r o P : Nat} (h : o < r ∧ r * o * 2 ^ 199 ≤ P) (hP : P < 2 ^ 199) : o = 0 := by
  by_cases z : o = 0
  · exact z
  · have : 1 ≤ r * o := Nat.mul_pos (by omega) (by omega)
    have h2 : 1 * 2 ^ 199 ≤ r * o * 2 ^ 199 := Nat.mul_le_mul_right _ this
    omega
end K1
namespace K1
open PySem PySem.Spec PyProof.Rows L2
noncomputable def pos (N lead pe t : Nat) : Nat := if t < N then t else lead + (t - lead) % pe
theorem pos_lt {N lead pe t : Nat} (hN : N = pe + lead) (hp : 1 ≤ pe) : pos N lead pe t < N := by
  unfold pos
  split
  · assumption
  · have := Nat.mod_lt (t - lead) (show pe > 0 by omega)
    omega
theorem pos_ge {N lead pe t : Nat} (hN : N = pe + lead) (h : lead ≤ t) : pos N lead pe t = lead + (t - lead) % pe := by
  unfold pos
  split
  · rw [Nat.mod_eq_of_lt (by omega)]; omega
  · rfl
theorem nx_pos {N lead pe t : Nat} (hN : N = pe + lead) (hp : 1 ≤ pe) : nx N lead (pos N lead pe t) = pos N lead pe (t + 1) := by
  by_cases h : t + 1 < N
  · have e1 : pos N lead pe t = t := if_pos (by omega)
    have e2 : pos N lead pe (t + 1) = t + 1 := if_pos h
    rw [e1, e2]
    exact if_pos h
  · rw [pos_ge hN (t := t) (by omega), pos_ge hN (t := t + 1) (by omega)]
    have e : (t + 1 - lead) % pe = ((t - lead) % pe + 1) % pe := by rw [show t + 1 - lead = (t - lead) + 1 by omega, Nat.mod_add_mod]
    rw [e]
    have hr := Nat.mod_lt (t - lead) (show pe > 0 by omega)
    generalize (t - lead) % pe = r at hr
    unfold nx
    by_cases z : r + 1 < pe
    · rw [if_pos (by omega), Nat.mod_eq_of_lt z]; omega
    · have : r + 1 = pe := by omega
      rw [if_neg (by omega), this, Nat.mod_self]; omega
theorem it_pos {N lead pe : Nat} (hN : N = pe + lead) (hp : 1 ≤ pe) : ∀ (k t : Nat), it N lead k (pos N lead pe t) = pos N lead pe (t + k)
  | 0, t => rfl
  | k + 1, t => by
    show nx N lead (it N lead k (pos N lead pe t)) = _
    rw [it_pos hN hp k t, nx_pos hN hp]; rfl
theorem pos_self {N lead pe t : Nat} (h : t < N) : pos N lead pe t = t := if_pos h
theorem pos_cong {N lead pe a q : Nat} (hN : N = pe + lead) (ha : lead ≤ a) : pos N lead pe (a + pe * q) = pos N lead pe a := by
  rw [pos_ge hN ha, pos_ge hN (show lead ≤ a + pe * q by omega), show a + pe * q - lead = (a - lead) + pe * q by omega, Nat.add_mul_mod_self_left]
noncomputable def lnT (pe lead : Nat) (ms : List Nat) : Ts := ms.map fun m => (List.range (pe + lead)).map fun s => ((it (pe + lead) lead m s : Nat) : Int)
section
variable {pe lead : Nat} {ms : List Nat}
theorem lnT_len : (lnT pe lead ms).length = ms.length := List.length_map _
theorem lnT_nS (h : 1 ≤ ms.length) : nS (lnT pe lead ms) = pe + lead := by
  cases ms with
  | nil => exact absurd h (by decide)
  | cons m ms => show ((List.range (pe + lead)).map _).length = _; rw [List.length_map, List.length_range]
theorem ln_wf (h1 : 1 ≤ ms.length) (h8 : ms.length ≤ 8) (p1 : 1 ≤ pe) (p12 : pe + lead ≤ 12) : Wf (lnT pe lead ms) := by
  refine ⟨by rw [lnT_len]; exact h1, by rw [lnT_len]; exact h8, by rw [lnT_nS h1]; omega, by rw [lnT_nS h1]; exact p12, fun t ht => ?_⟩
  obtain ⟨m, _, rfl⟩ := List.mem_map.mp ht
  rw [lnT_nS h1]
  refine ⟨by rw [List.length_map, List.length_range], fun x hx => ?_⟩
  obtain ⟨s, hs, rfl⟩ := List.mem_map.mp hx
  have := it_lt (m := pe + lead) (b := lead) (by omega) m s (List.mem_range.mp hs)
  omega
theorem ln_stp {x d : Nat} (hx : x < pe + lead) (hd : d < ms.length) : stp (lnT pe lead ms) (x : Int) (d : Int) = ((it (pe + lead) lead (ms.getD d 0) x : Nat) : Int) := by
  unfold stp lnT
  rw [Int.toNat_natCast, Int.toNat_natCast, List.getElem?_map, show ms[d]? = some (ms.getD d 0) by rw [List.getD_eq_getElem?_getD, List.getElem?_eq_getElem hd]; rfl]
  show (((List.range (pe + lead)).map _)[x]?).getD 0 = _
  rw [List.getElem?_map, List.getElem?_range hx]; rfl
noncomputable def advD (ms : List Nat) (row : List Int) : Nat → Nat
  | 0 => 0
  | k + 1 => advD ms row k + ms.getD k 0 * cntD k row
theorem cntD_cons (d : Nat) (x : Int) (row : List Int) : cntD d (x :: row) = (if x = (d : Int) then 1 else 0) + cntD d row := by
  unfold cntD
  rw [List.filter_cons]
  by_cases z : x = (d : Int)
  · rw [if_pos (by rw [decide_eq_true z]), if_pos z, List.length_cons]; omega
  · rw [if_neg (by rw [decide_eq_false z]; decide), if_neg z]; omega
theorem advD_cons (x : Nat) (row : List Int) : ∀ k, advD ms ((x : Int) :: row) k = (if x < k then ms.getD x 0 else 0) + advD ms row k
  | 0 => by rw [if_neg (Nat.not_lt_zero _)]; rfl
  | k + 1 => by
    show advD ms ((x : Int) :: row) k + ms.getD k 0 * cntD k ((x : Int) :: row) = _ + (advD ms row k + ms.getD k 0 * cntD k row)
    rw [advD_cons x row k, cntD_cons, Nat.mul_add]
    by_cases z : x = k
    · subst z
      have e1 : (if x < x then ms.getD x 0 else 0) = 0 := if_neg (Nat.lt_irrefl _)
      have e2 : (if x < x + 1 then ms.getD x 0 else 0) = ms.getD x 0 := if_pos (Nat.lt_succ_self _)
      have e3 : (if (x : Int) = (x : Int) then 1 else 0) = 1 := if_pos rfl
      rw [e1, e2, e3]; omega
    · have e3 : (if (x : Int) = (k : Int) then 1 else 0) = 0 := if_neg (fun w => z (by omega))
      rw [e3]
      by_cases w : x < k
      · rw [if_pos w, if_pos (by omega)]; omega
      · rw [if_neg w, if_neg (by omega)]; omega
theorem advD_nil : ∀ k, advD ms [] k = 0
  | 0 => rfl
  | k + 1 => by show advD ms [] k + ms.getD k 0 * 0 = 0; rw [advD_nil k]; rfl
theorem ln_run (p1 : 1 ≤ pe) : ∀ (row : List Int) (t : Nat), (∀ e ∈ row, 0 ≤ e ∧ e < (ms.length : Int)) → run (lnT pe lead ms) ((pos (pe + lead) lead pe t : Nat) : Int) row = ((pos (pe + lead) lead pe (t + advD ms row ms.length) : Nat) : Int)
  | [], t, _ => by rw [advD_nil]; rfl
  | x :: row, t, h => by
    have hx := h x List.mem_cons_self
    obtain ⟨d, rfl⟩ : ∃ d : Nat, x = (d : Int) := ⟨x.toNat, by omega⟩
    have hd : d < ms.length := by omega
    show run (lnT pe lead ms) (stp (lnT pe lead ms) _ (d : Int)) row = _
    rw [ln_stp (pos_lt rfl p1) hd, it_pos rfl p1, ln_run p1 row _ fun e he => h e (List.mem_cons_of_mem _ he), advD_cons, if_pos hd, Nat.add_assoc]
theorem ln_cmm (h1 : 1 ≤ ms.length) (h8 : ms.length ≤ 8) (p1 : 1 ≤ pe) (p12 : pe + lead ≤ 12) : Cmm (lnT pe lead ms) 0 := by
  have hw := ln_wf h1 h8 p1 p12
  intro x hx a b ha hb
  have hr : 0 ≤ x ∧ x < ((pe + lead : Nat) : Int) := by
    have := hx.rng hw (by rw [lnT_nS h1]; omega)
    rwa [lnT_nS h1] at this
  obtain ⟨k, rfl⟩ : ∃ k : Nat, x = (k : Int) := ⟨x.toNat, by omega⟩
  unfold In8 at ha hb
  rw [lnT_len] at ha hb
  obtain ⟨i, rfl⟩ : ∃ i : Nat, a = (i : Int) := ⟨a.toNat, by omega⟩
  obtain ⟨j, rfl⟩ : ∃ j : Nat, b = (j : Int) := ⟨b.toNat, by omega⟩
  have hk : k < pe + lead := by omega
  have lt : ∀ m, it (pe + lead) lead m k < pe + lead := fun m => it_lt (by omega) m k hk
  unfold Bad
  rw [ln_stp hk (by omega), ln_stp (lt _) (by omega), ln_stp hk (by omega), ln_stp (lt _) (by omega), it_comm]
  exact fun z => z rfl
theorem ln_trail (p1 : 1 ≤ pe) {d : Nat} (hd : d < ms.length) : ∀ k, trail (lnT pe lead ms) [(d : Int)] 0 k = ((pos (pe + lead) lead pe (ms.getD d 0 * k) : Nat) : Int)
  | 0 => by rw [Nat.mul_zero, pos_self (by omega)]; rfl
  | k + 1 => by
    show stp (lnT pe lead ms) (trail (lnT pe lead ms) [(d : Int)] 0 k) (d : Int) = _
    rw [ln_trail p1 hd k, ln_stp (pos_lt rfl p1) hd, it_pos rfl p1, Nat.mul_succ]
theorem ln_harm (p1 : 1 ≤ pe) (l1 : lead ≤ 1) {h : Nat} (hh : HarmIs (lnT pe lead ms) 0 h) : 0 < h ∧ h ∣ pe := by
  refine ((hh pe).mp fun d hd => ?_).resolve_left (by omega)
  unfold In8 at hd
  rw [lnT_len] at hd
  obtain ⟨i, rfl⟩ : ∃ i : Nat, d = (i : Int) := ⟨d.toNat, by omega⟩
  rw [ln_trail p1 (by omega), ln_trail p1 (by omega), Nat.mul_one]
  congr 1
  rcases Nat.eq_zero_or_pos (ms.getD i 0) with z | z
  · rw [z, Nat.zero_mul]
  · have e : ms.getD i 0 * (pe + 1) = ms.getD i 0 + pe * ms.getD i 0 := by rw [Nat.mul_succ, Nat.mul_comm]; omega
    rw [e]
    exact pos_cong rfl (by omega)
theorem adv_cong {R R' : List Int} : ∀ k, (∀ d, d < k → ∃ q, cntD d R = cntD d R' + pe * q) → ∃ q, advD ms R k = advD ms R' k + pe * q
  | 0, _ => ⟨0, rfl⟩
  | k + 1, h => by
    obtain ⟨q, hq⟩ := adv_cong k fun d hd => h d (by omega)
    obtain ⟨q', hq'⟩ := h k (Nat.lt_succ_self _)
    refine ⟨q + ms.getD k 0 * q', ?_⟩
    show advD ms R k + ms.getD k 0 * cntD k R = (advD ms R' k + ms.getD k 0 * cntD k R') + _
    rw [hq, hq', Nat.mul_add, Nat.mul_add, Nat.mul_left_comm]; omega
theorem adv_zero {R R' : List Int} : ∀ k, (∀ d, d < k → cntD d R' = 0 → cntD d R = 0) → advD ms R' k = 0 → advD ms R k = 0
  | 0, _, _ => rfl
  | k + 1, h, e => by
    have e : advD ms R' k + ms.getD k 0 * cntD k R' = 0 := e
    show advD ms R k + ms.getD k 0 * cntD k R = 0
    rw [adv_zero k (fun d hd => h d (by omega)) (by omega), Nat.zero_add]
    rcases Nat.mul_eq_zero.mp (show ms.getD k 0 * cntD k R' = 0 by omega) with z | z
    · rw [z, Nat.zero_mul]
    · rw [h k (Nat.lt_succ_self _) z, Nat.mul_zero]
theorem dS_none (d : Int) : ∀ (row acts : List Int), (∀ c ∈ row, 0 ≤ c) → dS d (row.map mn1) acts = 0 → dS d row acts = 0
  | [], acts, _, _ => by cases acts <;> rfl
  | c :: row, [], _, _ => rfl
  | c :: row, x :: acts, h, e => by
    have e : (if x = d then mn1 c else 0) + dS d (row.map mn1) acts = 0 := e
    show (if x = d then c else 0) + dS d row acts = 0
    have hc := h c List.mem_cons_self
    have h2 : ∀ y ∈ row, 0 ≤ y := fun y hy => h y (List.mem_cons_of_mem _ hy)
    have nn : 0 ≤ dS d (row.map mn1) acts := by
      have : ∀ (r a : List Int), (∀ c ∈ r, 0 ≤ c) → 0 ≤ dS d r a := by
        intro r
        induction r with
        | nil => intro a _; cases a <;> exact Int.le_refl _
        | cons y r ih =>
          intro a hr
          cases a with
          | nil => exact Int.le_refl _
          | cons z a =>
            show 0 ≤ (if z = d then y else 0) + dS d r a
            have := ih a fun w hw => hr w (List.mem_cons_of_mem _ hw)
            have := hr y List.mem_cons_self
            split <;> omega
      refine this _ _ fun y hy => ?_
      obtain ⟨z, hz, rfl⟩ := List.mem_map.mp hy
      have := h2 z hz
      unfold mn1; split <;> omega
    have e : (if x = d then (if c < 1 then c else 1) else 0) + dS d (row.map mn1) acts = 0 := e
    by_cases z : x = d
    · rw [if_pos z] at e ⊢
      by_cases w : c < 1
      · rw [if_pos w] at e
        have := dS_none d row acts h2 (by omega)
        omega
      · rw [if_neg w] at e; omega
    · rw [if_neg z] at e ⊢
      have := dS_none d row acts h2 (by omega)
      omega
theorem ln_same (p1 : 1 ≤ pe) (l1 : lead ≤ 1) {acts row : List Int} (hr : ∀ c ∈ row, 0 ≤ c) (ha : ∀ a ∈ acts, 0 ≤ a ∧ a < (ms.length : Int)) (hd : ∀ d : Nat, d < ms.length → pe ∣ (dM (d : Int) row acts).natAbs) :
    run (lnT pe lead ms) 0 (rc acts row) = run (lnT pe lead ms) 0 (rc acts (row.map mn1)) := by
  have mnn : ∀ c ∈ row.map mn1, 0 ≤ c := fun c hc => by
    obtain ⟨y, hy, rfl⟩ := List.mem_map.mp hc
    have := hr y hy
    unfold mn1; split <;> omega
  have key : ∀ d : Nat, ((cntD d (rc acts row) : Nat) : Int) = ((cntD d (rc acts (row.map mn1)) : Nat) : Int) + dM (d : Int) row acts := fun d => by
    rw [cntD_rc d acts row hr, cntD_rc d acts (row.map mn1) mnn]; exact dS_mn (d : Int) row acts hr
  obtain ⟨q, hq⟩ := adv_cong (pe := pe) (ms := ms) (R := rc acts row) (R' := rc acts (row.map mn1)) ms.length fun d hdl => by
    obtain ⟨k, hk⟩ := hd d hdl
    have := key d
    have nn := dM_nn (d : Int) row acts
    exact ⟨k, by omega⟩
  have h0 : ((pos (pe + lead) lead pe 0 : Nat) : Int) = 0 := by rw [pos_self (by omega)]; rfl
  have r1 := ln_run (ms := ms) (lead := lead) p1 (rc acts row) 0 fun e he => ha e (mem_rc he)
  have r2 := ln_run (ms := ms) (lead := lead) p1 (rc acts (row.map mn1)) 0 fun e he => ha e (mem_rc he)
  rw [h0, Nat.zero_add] at r1 r2
  rw [r1, r2]
  congr 1
  rcases Nat.eq_zero_or_pos (advD ms (rc acts (row.map mn1)) ms.length) with z | z
  · rw [z, adv_zero ms.length (fun d _ e => ?_) z]
    have c1 := cntD_rc d acts (row.map mn1) mnn
    rw [e] at c1
    have c2 := cntD_rc d acts row hr
    rw [dS_none (d : Int) row acts hr c1.symm] at c2
    omega
  · rw [hq]
    exact pos_cong rfl (by omega)
end
theorem ct_trail {m d nd : Nat} (m1 : 1 ≤ m) {e : Nat} (he : e < nd) : ∀ k, trail (ctT m d nd) [(e : Int)] 0 k = ((((if e = d then 1 else 0) * k) % m : Nat) : Int)
  | 0 => by rw [Nat.mul_zero, Nat.zero_mod]; rfl
  | k + 1 => by
    show stp (ctT m d nd) (trail (ctT m d nd) [(e : Int)] 0 k) (e : Int) = _
    rw [ct_trail m1 he k, ct_stp (Nat.mod_lt _ (by omega)) he, Nat.mod_add_mod, Nat.mul_succ]
theorem ct_harm {m d nd h : Nat} (m1 : 1 ≤ m) (hd : d < nd) (hh : HarmIs (ctT m d nd) 0 h) : h = m := by
  have key : ∀ c : Nat, m ∣ c → c = 0 ∨ (0 < h ∧ h ∣ c) := fun c hc => (hh c).mp fun e he => by
    unfold In8 at he
    rw [ctT_len] at he
    obtain ⟨i, rfl⟩ : ∃ i : Nat, e = (i : Int) := ⟨e.toNat, by omega⟩
    rw [ct_trail m1 (by omega), ct_trail m1 (by omega)]
    congr 1
    obtain ⟨q, rfl⟩ := hc
    by_cases z : i = d
    · rw [if_pos z, Nat.one_mul, Nat.one_mul, Nat.add_comm, Nat.add_mul_mod_self_left]
    · rw [if_neg z, Nat.zero_mul, Nat.zero_mul]
  obtain ⟨h0, h1⟩ := (key m (Nat.dvd_refl m)).resolve_left (by omega)
  refine Nat.dvd_antisymm h1 ?_
  have := (hh h).mpr (.inr ⟨h0, Nat.dvd_refl h⟩) (d : Int) ⟨by omega, by rw [ctT_len]; omega⟩
  rw [ct_trail m1 hd, ct_trail m1 hd, if_pos rfl, Nat.one_mul, Nat.one_mul] at this
  have e : (h + 1) % m = 1 % m := by omega
  have e2 : ((h + 1) - 1) % m = 0 := Nat.sub_mod_eq_zero_of_mod_eq e
  exact Nat.dvd_of_mod_eq_zero (by simpa using e2)
end K1
namespace K1
open PySem PySem.Spec PyProof.Rows L2
noncomputable def spRH (K : PySem.W.Frag) (W C : Addr) : Sp := fun vs H Q E => ∃ (w : Addr) (v : V) (o : Option (List (Option (List V)))) (n : Nat) (ps : Prs), vs = [.ref w, v] ∧ WebAt W H w n ps ∧ Wv n ps ∧ Svs K H v o ∧ (∀ z, sfV n ps.length 8 o = .int z → Rz C "at" (.int z) H E) ∧
  ∀ ss : List Stp, o = some (ss.map fun s => some (stV s)) → (∀ s ∈ ss, okS n ps.length 8 s) → ss.length ≤ 400 → ∀ H', Same H H' → Q (.int ((hdR (actD ss) (cnt n ps ss).hs 0 : Nat) : Int)) H'
noncomputable def dF (r acts : List Int) (d : Nat) (l : List Nat) : List Nat := l.filter fun i => decide (acts.getD i 0 = (d : Int))
theorem dF_snoc (r acts : List Int) (d : Nat) (l : List Nat) (i : Nat) : dF r acts d (l ++ [i]) = dF r acts d l ++ if acts.getD i 0 = (d : Int) then [i] else [] := by
  unfold dF
  rw [List.filter_append]
  congr 1
  by_cases z : acts.getD i 0 = (d : Int)
  · rw [if_pos z, List.filter_cons, if_pos (decide_eq_true z)]; rfl
  · rw [if_neg z, List.filter_cons, if_neg (by rw [decide_eq_false z]; decide)]; rfl
theorem dM_sum (d : Nat) (r acts : List Int) (hl : r.length = acts.length) : ((dF r acts d (hrd r)).map fun i => r.getD i 0 - 1).sum = dM (d : Int) r acts := by
  have key : ∀ k, k ≤ r.length → ((dF r acts d (hrdK r k)).map fun i => r.getD i 0 - 1).sum = dM (d : Int) (r.take k) (acts.take k) := by
    intro k
    induction k with
    | zero => intro _; rfl
    | succ k ih =>
      intro hk
      have h1 : r[k]? = some (r.getD k 0) := getD_at (by omega)
      have h2 : acts[k]? = some (acts.getD k 0) := getD_at (by omega)
      rw [take_succ h1, take_succ h2, dM_snoc _ _ _ _ _ (by rw [List.length_take, List.length_take, hl]), ← ih (by omega), hrdK_succ]
      by_cases z : 0 < r.getD k 0
      · rw [if_pos z, dF_snoc]
        by_cases y : acts.getD k 0 = (d : Int)
        · rw [if_pos y, if_pos ⟨y, z⟩, List.map_append, List.sum_append]
          show _ + (r.getD k 0 - 1 + 0) = _
          omega
        · rw [if_neg y, if_neg (fun w => y w.1), List.append_nil]; omega
      · rw [if_neg z, if_neg (fun w => z w.2), List.append_nil]; omega
  have := key r.length (Nat.le_refl _)
  rw [List.take_length, hl, List.take_length, ← hl] at this
  exact this
section
variable {P : Program} {w : World} {K : PySem.W.Frag} {mg : Str → Option Value} {base : Heap}
noncomputable abbrev nRh : List Str := ["web", "steps", "counts", "harm", "row", "deed", "acts", "act"]
theorem scRh : FnScope nRh ["web", "steps"] (defScope sRunHarm) := ⟨rfl, rfl, rfl, by decide +kernel, rfl, by decide +kernel, by decide +kernel⟩
theorem ok_rh {f fA fC fN W C Cc : Addr} {fd fdA fdC fdN : FuncData} (D : Df K mg "run_harm" sRunHarm ["web", "steps"] f fd) (DA : Df K mg "any_steps" sAnySteps ["web", "value"] fA fdA) (DC : Df K mg "counted" sCounted ["web", "steps"] fC fdC) (DN : Df K mg "counted_acts" sCountedActs ["counts"] fN fdN) (B : Bt mg) (gc : Gc mg) (ct : Ct mg) (CT : CcT K mg Cc)
    (GA : FnOk P w K mg base (L2.CX P w) 6 fA fdA ["web", "value"] (spAnyS K W C)) (GC : FnOk P w K mg base CX0 4 fC fdC ["web", "steps"] (spCounted Cc W)) (GN : FnOk P w K mg base CX0 1 fN fdN ["counts"] spCActs) :
    FnOk P w K mg base (L2.CX P w) 7 f fd ["web", "steps"] (spRH K W C) := by
  refine D.F.okX scRh (fun vs H Q E h => ?_) (fun cdv A outer s H vs Q E hr h => ?_)
  · obtain ⟨w, v, o, n, ps, rfl, _⟩ := h
    rfl
  · obtain ⟨w, v, o, n, ps, rfl, hw, hW, hv, qE, q⟩ := h
    have r1 := hr.mono (show 1 ≤ 6 by decide)
    have r4 := hr.mono (show 4 ≤ 6 by decide)
    obtain ⟨t8, hct⟩ := ct.tabs
    refine ⟨_, (pss_cons (ps_set (i := 2) scRh.nd rfl (.inr rfl) (pc DC GC r4 pass0 (pa_cons (pv 0) (pa_cons (pc DA GA hr (pass1 (takes_of rfl rfl rfl rfl)) (pa_cons (pv 0) (pa_cons (pv 1) pa_nil))) pa_nil))))
    (pss_cons (ps_set (i := 3) scRh.nd rfl (.inl rfl) pe_int)
    (pss_cons (ps_for (passes_of rfl) rfl (pi_tup (pe_fld (pv 2) rfl)) (pg_name (i := 4) scRh.nd rfl (.inr rfl))
      (pss_one (ps_for (passes_of rfl) rfl (pi_range1 (by rfl) B.range (pa_cons (pe_glob (v := .int 8) (by rfl) hct ⟨_, rfl⟩) pa_nil)) (pg_name (i := 5) scRh.nd rfl (.inr rfl))
        (pss_cons (ps_setLc (i := 6) (own := [("act", 7)]) (g := gName 7) rfl scRh.nd rfl rfl (sw_true rfl rfl rfl (by decide +kernel)) (pi_tup (pc DN GN r1 pass0 (pa_cons (pv 4) pa_nil))) (blkOk_by (N := nRh) (sc := defScope sRunHarm) (by decide +kernel)) (fun _ _ _ _ _ => (pg_name (i := 7) scRh.nd rfl (Or.inl rfl))) (fun _ _ _ _ _ => pts_one (pt_cmpR op_eq (pe_ix (ixTK (K := K) rfl) (pe_fldK (K := K) rfl (pv 2) rfl) (pv 7) (fun _ _ => rfl)) (pv 5) (nomark _))) (fun _ _ _ _ _ => (pv 7)))
        (pss_one (ps_set (i := 3) scRh.nd rfl (.inl rfl) (pe_callBfun cr_gcd (by rfl) gc.g (pa_cons (pv 3) (pa_cons (pe_callB (cr_sum rfl) (by rfl) B.sum (by decide +kernel) (pa_cons (pe_lc (own := [("act", 7)]) (g := gName 7) (tt := tYes) rfl scRh.nd (pi_list (pv 6)) (blkOk_by (N := nRh) (sc := defScope sRunHarm) (by decide +kernel)) (fun _ _ _ _ _ => (pg_name (i := 7) scRh.nd rfl (Or.inl rfl))) (fun _ _ _ _ _ => pts_nil) (fun _ _ _ _ _ => (pe_op op_sub (pe_ix (ixTK (K := K) rfl) (pv 4) (pv 7) (fun _ _ => rfl)) pe_int))) pa_nil)) pa_nil)))))))))
    (pss_one (ps_ret (pv 3)))))), ?_⟩
    refine ⟨_, rfl, _, rfl, _, rfl, w, v, o, n, ps, rfl, hw, hv, qE, fun ss eo hok hl p H1 s1 hS => ?_⟩
    refine nilP ⟨w, p, n, 8, ps, ss, rfl, hw.same s1, hW, hS, hok, hl, fun c H2 s2 hc0 hC => ?_⟩
    dsimp only [List.set]
    have s12 := s1.trans s2
    have q := q ss eo hok hl
    obtain ⟨dx, dd, ha, ta', g1, g2, ⟨as, g3, g4⟩, _⟩ := hC.ob
    have C0 := cnt_cur hW hok
    have eds := C0.ds
    have lk := hC.lk
    have ok := hC.ok
    generalize cnt n ps ss = u at C0 eds ok g2 g4 q
    rw [eds] at g2
    generalize hacts : actD ss = acts at lk g2 q ok
    have hn12 := hW.n12
    refine ⟨_, rfl, c, Cc, dx, _, _, rfl, g1, CT.cl, CT.nH, cf_h _ _ _ _, ha, rfl, ⟨_, SqT.of g3⟩, for_tup (K := K) (a := ha) (xs := as.map V.ref) (fun i σ H' => ∃ v4 v5 v6 : Option V, σ = [some (.ref w), some v, some (.ref c), some (.int ((hdR acts (u.hs.take i) 0 : Nat) : Int)), v4, v5, v6, none] ∧ Same H2 H') ⟨none, none, none, rfl, fun _ _ e => e⟩ (fun i σ H' _ ⟨_, _, _, _, s3⟩ => SqT.of (s3 _ _ g3)) ?_ ?_⟩
    · rintro i x σ H3 hx ⟨v4, v5, v6, rfl, s3⟩
      obtain ⟨a, r, rfl, ha', hr', hat⟩ := g4.get' hx
      have lr : r.length = acts.length := ok.rh r (List.mem_of_getElem? hr')
      have etk := take_succ hr'
      refine gn ?_
      dsimp only [List.set]
      generalize hG : hdR acts (u.hs.take i) 0 = G
      refine ⟨(8 : Int), rfl, by omega, by omega, for_range (fun k σ H' => ∃ v5 v6 : Option V, σ = [some (.ref w), some v, some (.ref c), some (.int ((hdD acts r G k : Nat) : Int)), some (.ref a), v5, v6, none] ∧ Same H2 H') ⟨v5, v6, rfl, s3⟩ ?_ ?_⟩
      · rintro d σ H4 hd ⟨v5, v6, rfl, s4⟩
        refine gn ?_
        dsimp only [List.set]
        rw [Int.zero_add]
        have g1' := s4 _ _ g1
        have g2' := s4 _ _ g2
        have hat4 := s4 _ _ hat
        refine ⟨_, rfl, nilP ⟨a, r, rfl, hat4, by omega, fun p5 H5 s5 hp5 => ?_⟩⟩
        have s25 := s4.trans s5
        refine ⟨p5, rfl, ⟨_, SqT.of hp5⟩, fun D6 hD6 => lc_tup (K := K) (a := p5) (xs := vrow (hrdI r)) (fun j H' => Same H5 H' ∧ H' D6 = some (.lst (vn (dF r acts d ((hrd r).take j))))) ⟨same_new hD6, by rw [upd_same]; rfl⟩ (fun j H' _ ⟨s6, _⟩ => SqT.of (s6 _ _ hp5)) ?_ ?_⟩
        · rintro j y H6 hy ⟨s6, hD66⟩
          obtain ⟨z, hz, rfl⟩ := vrow_at hy
          obtain ⟨i', hi', rfl⟩ := at_map hz
          have i2 : i' < r.length := hrdK_lt (List.mem_of_getElem? hi')
          have ez := take_succ hi'
          have sn := dF_snoc r acts d ((hrd r).take j) i'
          rw [← ez] at sn
          have ll : (dF r acts d ((hrd r).take j)).length ≤ 400 := Nat.le_trans (List.length_filter_le _ _) (by
            have := hrdK_len r r.length
            have h2 : (hrd r).length ≤ r.length := this
            rw [List.length_take]; omega)
          have h1 : acts[i']? = some (acts.getD i' 0) := getD_at (by omega)
          refine ⟨rfl, _, rfl, c, Cc, dx, _, _, rfl, s6 _ _ (s5 _ _ g1'), CT.cl, CT.nD, cf_d _ _ _ _, _, rfl, dd, _, (i' : Int), .int (acts.getD i' 0), rfl, rfl, SqT.of (s6 _ _ (s5 _ _ g2')), at_i (by rw [vrow, List.getElem?_map, h1]; rfl), _, rfl, rfl, _, rfl, ?_⟩
          refine ifD (fun e1 => ?_) fun e1 => ?_
          · have e1' : acts.getD i' 0 = (d : Int) := by have := of_decide_eq_true e1; injection this
            rw [if_pos e1'] at sn
            refine ⟨_, rfl, _, hD66, szl (by rw [vn_len]; omega), fun c' o e => by rw [upd_ne (ne_of_none e hD6)]; exact s6 _ _ e, ?_⟩
            rw [upd_same, sn, vn, vn, List.map_append]; rfl
          · have e1' : ¬ acts.getD i' 0 = (d : Int) := fun z => (of_decide_eq_false e1) (by rw [z])
            rw [if_neg e1', List.append_nil] at sn
            exact ⟨s6, by rw [sn]; exact hD66⟩
        rintro H6 ⟨s6, hD66⟩
        rw [vrow_len, show (hrdI r).length = (hrd r).length from List.length_map _, List.take_length] at hD66
        refine gn ?_
        dsimp only [List.set]
        have hm : ∀ i ∈ dF r acts d (hrd r), i < r.length := fun i hi => hrdK_lt (List.mem_filter.mp hi).1
        have ll : (dF r acts d (hrd r)).length ≤ 400 := Nat.le_trans (List.length_filter_le _ _) (by
            have h2 : (hrd r).length ≤ r.length := hrdK_len r r.length
            omega)
        have es := dM_sum d r acts lr
        generalize dF r acts d (hrd r) = F at hD66 hm ll es
        have s26 := s25.trans s6
        refine ⟨_, rfl, _, rfl, D6, rfl, ⟨_, SqL.of hD66⟩, fun D7 hD7 => lc_list (K := K) (a := D6) (xs := vn F) (fun j H' => Same H6 H' ∧ H' D7 = some (.lst (vrow ((F.take j).map fun i => r.getD i 0 - 1)))) ⟨same_new hD7, by rw [upd_same]; rfl⟩ (fun j H' _ ⟨s7, _⟩ => SqL.of (s7 _ _ hD66)) ?_ ?_⟩
        · rintro j y H7 hy ⟨s7, hD77⟩
          obtain ⟨i', hi', rfl⟩ := at_map hy
          have i2 := hm i' (List.mem_of_getElem? hi')
          have h1 : r[i']? = some (r.getD i' 0) := getD_at i2
          have jl := lt_at hi'
          refine ⟨rfl, _, rfl, _, rfl, a, _, (i' : Int), .int (r.getD i' 0), rfl, rfl, SqT.of (s7 _ _ (s26 _ _ hat)), at_i (by rw [vrow, List.getElem?_map, h1]; rfl), _, _, rfl, rfl, _, hD77, szl (by rw [vrow_len, List.length_map, List.length_take]; omega), fun c' o e => by rw [upd_ne (ne_of_none e hD7)]; exact s7 _ _ e, ?_⟩
          rw [upd_same, take_succ hi', List.map_append, vrow, vrow, List.map_append]; rfl
        rintro H7 ⟨s7, hD77⟩
        rw [vn_len, List.take_length] at hD77
        refine ⟨D7, _, rfl, SqL.of hD77, ?_⟩
        rw [es]
        refine ⟨_, _, rfl, ?_⟩
        rw [Int.natAbs_natCast]
        exact ⟨_, _, rfl, s26.trans s7⟩
      · rintro σ H4 ⟨v5, v6, rfl, s4⟩
        have e8 : hdR acts (u.hs.take (i + 1)) 0 = hdD acts r G 8 := by rw [etk, hdR_snoc, hG]
        rw [e8]
        exact ⟨_, _, _, rfl, s4⟩
    · rintro σ H3 ⟨v4, v5, v6, rfl, s3⟩
      rw [List.length_map, g4.1, List.take_length]
      exact ⟨_, rfl, q _ (s12.trans s3)⟩
end
end K1
namespace ZL
open PySem PySem.Spec PyProof.Rows
structure Itr (h : Heap) (b : Nat) (ls : List Addr) (rows : List (List Value)) (p : Nat → Nat) : Prop where
  it : ∀ (j : Nat) l, ls[j]? = some l → h.IsListIter (b + j) l (p j)
  tu : ∀ (j : Nat) l r, ls[j]? = some l → rows[j]? = some r → h.IsList l r.toArray
noncomputable def col (rows : List (List Value)) (i : Nat) : List Value := rows.map fun r => r.getD i .none
theorem Itr.over {h h' : Heap} {b : Nat} {ls : List Addr} {rows : List (List Value)} {p : Nat → Nat} (I : Itr h b ls rows p) {x : Addr} (hx : Heap.ExtBut x h h') (h1 : b + ls.length ≤ x) (hb : ∀ l ∈ ls, l < b) : Itr h' b ls rows p := by
  refine ⟨fun j l e => (I.it j l e).extBut hx fun z => ?_, fun j l r e1 e2 => (I.tu j l r e1 e2).extBut hx fun z => ?_⟩
  · have := (List.getElem?_eq_some_iff.mp e).1
    subst z
    exact absurd h1 (by show ¬ (b + ls.length ≤ b + j); omega)
  · have := hb l (List.mem_of_getElem? e1)
    subst z
    exact absurd (Nat.lt_of_lt_of_le this (Nat.le_trans (Nat.le_add_right _ _) h1)) (Nat.lt_irrefl _)
theorem Itr.ext {h h' : Heap} {b : Nat} {ls : List Addr} {rows : List (List Value)} {p : Nat → Nat} (I : Itr h b ls rows p) (hx : ∀ c o, c < b + ls.length → h.get? c = some o → h'.get? c = some o) (hb : ∀ l ∈ ls, l < b) : Itr h' b ls rows p := by
  refine ⟨fun j l e => ?_, fun j l r e1 e2 => ?_⟩
  · have := (List.getElem?_eq_some_iff.mp e).1
    obtain ⟨o, ho, z⟩ := I.it j l e
    exact ⟨o, hx _ _ (by omega) ho, z⟩
  · have := hb l (List.mem_of_getElem? e1)
    obtain ⟨o, ho, z⟩ := I.tu j l r e1 e2
    exact ⟨o, hx _ _ (Nat.lt_of_lt_of_le this (Nat.le_add_right _ _)) ho, z⟩
theorem Itr.congr {h : Heap} {b : Nat} {ls : List Addr} {rows : List (List Value)} {p q : Nat → Nat} (I : Itr h b ls rows p) (e : ∀ j, j < ls.length → p j = q j) : Itr h b ls rows q :=
  ⟨fun j l hl => by rw [← e j (List.getElem?_eq_some_iff.mp hl).1]; exact I.it j l hl, I.tu⟩
section
variable {prog : Program} {w : World} {A : Around} {E : Value → Shared → Prop} {s : Shared} {b : Nat} {ls : List Addr} {rows : List (List Value)} {p : Nat → Nat}
theorem draw_item {j : Nat} {l : Addr} {r : List Value} {x : Value} {Q : Value → Shared → Prop} (I : Itr s.heap b ls rows p) (hb : ∀ l ∈ ls, l < b) (hl : ls[j]? = some l) (hr : rows[j]? = some r) (hx : r[p j]? = some x)
    (hQ : ∀ h', Itr h' b ls rows (fun q => if q = j then p j + 1 else p q) → Heap.SameBut (b + j) s.heap h' → Q x { s with heap := h' }) : wpAny (model prog w) A (Builtin.SmallTypes.nextOf (.ref (b + j : Nat))) Q E s := by
  refine wpAny_nextOf_list_item (I.it j l hl) (I.tu j l r hl hr) (x := x) (by simpa using hx) fun h' hi hs => hQ h' ⟨fun q l' e => ?_, fun q l' r' e1 e2 => (I.tu q l' r' e1 e2).extBut hs.extBut fun z => ?_⟩ hs
  · by_cases hq : q = j
    · subst hq
      rw [hl] at e
      cases e
      rw [if_pos rfl]
      exact hi
    · rw [if_neg hq]
      exact (I.it q l' e).extBut hs.extBut fun z => hq (Nat.add_left_cancel z)
  · have := hb l' (List.mem_of_getElem? e1)
    subst z
    exact absurd this (by show ¬ (b + j < b); omega)
theorem draw_end {j : Nat} {l : Addr} {r : List Value} {Q : Value → Shared → Prop} (hh : A.handled = none) (I : Itr s.heap b ls rows p) (hl : ls[j]? = some l) (hr : rows[j]? = some r) (hx : r[p j]? = none)
    (hE : ∀ h' e, Heap.ExtBut (b + j : Nat) s.heap h' → (∃ o, h'.get? e = some o ∧ o.cls = .type "StopIteration") → E (.ref e) { s with heap := h' }) : wpAny (model prog w) A (Builtin.SmallTypes.nextOf (.ref (b + j : Nat))) Q E s :=
  wpAny_nextOf_list_end hh (I.it j l hl) (I.tu j l r hl hr) (by simpa using hx) hE
noncomputable abbrev itv (b n : Nat) : List Value := (List.range n).map fun j => Value.ref (b + j : Nat)
theorem itv_cons {b n k : Nat} {x : Value} {rest : List Value} (h : x :: rest = (itv b n).drop k) : k < n ∧ x = .ref (b + k : Nat) ∧ rest = (itv b n).drop (k + 1) := by
  have hk : k < (itv b n).length := by
    rcases Nat.lt_or_ge k (itv b n).length with z | z
    · exact z
    · rw [List.drop_of_length_le z] at h
      cases h
  rw [List.drop_eq_getElem_cons hk] at h
  injection h with h1 h2
  refine ⟨by simpa [itv] using hk, ?_, h2⟩
  rw [h1]
  simp [itv]
theorem itv_nil {b n k : Nat} (h : [] = (itv b n).drop k) : n ≤ k := by
  have := congrArg List.length h
  simp [itv] at this
  omega
theorem zi_cons {b n k q : Nat} {x : Value} {rest : List (Value × Nat)} (h : (x, q) :: rest = ((itv b n).zipIdx).drop k) : k < n ∧ x = .ref (b + k : Nat) ∧ q = k ∧ rest = ((itv b n).zipIdx).drop (k + 1) := by
  have hk : k < ((itv b n).zipIdx).length := by
    rcases Nat.lt_or_ge k ((itv b n).zipIdx).length with z | z
    · exact z
    · rw [List.drop_of_length_le z] at h
      cases h
  rw [List.drop_eq_getElem_cons hk] at h
  injection h with h1 h2
  simp [itv] at h1
  exact ⟨by simpa [itv] using hk, h1.1, h1.2, h2⟩
theorem zi_nil {b n k : Nat} (h : [] = ((itv b n).zipIdx).drop k) : n ≤ k := by
  have := congrArg List.length h
  simp [itv] at this
  omega
theorem col_take {rows : List (List Value)} {i k : Nat} {r : List Value} (h : rows[k]? = some r) : (col rows i).take (k + 1) = (col rows i).take k ++ [r.getD i .none] := by
  have : (col rows i)[k]? = some (r.getD i .none) := by simp [col, h]
  rw [List.take_add_one, this]
  rfl
theorem next_later {n i T : Nat} {f : Bool} {oT : Obj} {Q : Value → Shared → Prop} (hn : ls.length = n) (hm : rows.length = n) (hb : ∀ l ∈ ls, l < b) (hz : IsZipHeld s.heap (b + n + 2 : Nat) (b + n : Nat) (b + n + 1 : Nat) T f) (hT : s.heap.get? T = some oT)
    (hTI : s.heap.get? (b + n : Nat) = some { cls := .type "tuple", data := .seq (itv b n).toArray }) (I : Itr s.heap b ls rows fun _ => i) (hi : ∀ r ∈ rows, i < r.length) (h64 : n ≤ sizeLine) (h0 : 0 < n)
    (hQ : ∀ h', IsZipHeld h' (b + n + 2 : Nat) (b + n : Nat) (b + n + 1 : Nat) T true → Itr h' b ls rows (fun _ => i + 1) → h'.get? s.heap.objs.size = some { cls := .type "tuple", data := .seq (col rows i).toArray } → h'.objs.size = s.heap.objs.size + 1 →
      (∀ c o, (c < b ∨ c = (b + n : Nat) ∨ b + n + 2 < c) → s.heap.get? c = some o → h'.get? c = some o) → Q (.ref s.heap.objs.size) { s with heap := h' }) :
    wpAny (model prog w) A (Builtin.«zip.__next__» ⟨[.ref (b + n + 2 : Nat)], []⟩) (fun fin s' => ∃ v, fin = .done (.ret v) ∧ Q v s') E s := by
  obtain ⟨hp, g, d, tk, os⟩ := s
  show wpAny _ _ (field (.ref (b + n + 2 : Nat)) 2 >>= _) _ _ _
  refine wpAny_bind (wpAny_field hz rfl (x := .bool false) rfl ?_)
  show wpAny _ _ (field (.ref (b + n + 2 : Nat)) 3 >>= _) _ _ _
  refine wpAny_bind (wpAny_field hz rfl (x := .ref (b + n : Nat)) rfl ?_)
  refine wpAny_bind (wpAny_seqItems hTI rfl ?_)
  have hne : (itv b n).toArray.isEmpty = false := by
    cases n with
    | zero => exact absurd h0 (Nat.lt_irrefl _)
    | succ n => simp [itv, List.range_succ]
  simp only [hne, Bool.false_eq_true, if_false]
  refine wpAny_bind (wpAny_tupleHeld_zip hz hT fun h₁ hz₁ hs₁ => ?_)
  simp only [Bool.false_eq_true, if_false]
  refine wpAny_bind ?_
  rw [← Array.forIn_toList]
  have I₁ : Itr h₁ b ls rows fun _ => i := I.over hs₁.extBut (by rw [hn]; omega) hb
  refine wpAny_forIn_list _ (fun rest x s' => ∃ k h', k ≤ n ∧ rest = (itv b n).drop k ∧ x = (none, ((col rows i).take k).toArray) ∧ s' = ⟨h', g, d, tk, os⟩ ∧ Itr h' b ls rows (fun q => if q < k then i + 1 else i) ∧ h'.objs.size = h₁.objs.size ∧ ∀ c o, (c < b ∨ b + n ≤ c) → h₁.get? c = some o → h'.get? c = some o) _ ?_ ?_ _ _ ⟨0, h₁, Nat.zero_le _, ?_, rfl, rfl, I₁.congr fun j _ => rfl, rfl, fun c o _ e => e⟩
  · rintro x rest ⟨x1, x2⟩ s' ⟨k, h', hk, hr, he, rfl, I', hs', hkp⟩
    obtain ⟨hkn, rfl, rfl⟩ := itv_cons hr
    obtain ⟨rfl, rfl⟩ := Prod.mk.inj he
    have hl : ls[k]? = some ls[k] := List.getElem?_eq_getElem (by omega)
    have hrk : rows[k]? = some rows[k] := List.getElem?_eq_getElem (by omega)
    have hx : rows[k][i]? = some (rows[k].getD i .none) := by
      have := hi rows[k] (List.getElem_mem _)
      rw [List.getD_eq_getElem?_getD, List.getElem?_eq_getElem this]
      rfl
    refine wpAny_bind (wpAny_holding ?_)
    show wpAny _ _ (Builtin.SmallTypes.nextOf (.ref (b + k : Nat)) >>= _) _ _ _
    refine wpAny_bind (draw_item (s := ⟨h', g, d, tk, os⟩) I' hb hl hrk (x := rows[k].getD i .none) (by rw [if_neg (Nat.lt_irrefl k)]; exact hx) fun h'' I'' hs'' => wpAny_pure (wpAny_pure ?_))
    refine ⟨k + 1, h'', hkn, rfl, ?_, rfl, I''.congr fun j hj => ?_, hs''.1.trans hs', fun c o hc e => hs''.extBut c o ?_ (hkp c o hc e)⟩
    · show (none, ((col rows i).take k).toArray.push _) = _
      rw [col_take hrk]
      simp
    · by_cases hj : j = k
      · subst hj
        simp
      · rw [if_neg hj]
        by_cases h2 : j < k
        · rw [if_pos h2, if_pos (Nat.lt_succ_of_lt h2)]
        · rw [if_neg h2, if_neg (by omega)]
    · intro z
      subst z
      rcases hc with z | z
      · exact absurd z (by show ¬ (b + k < b); omega)
      · exact absurd z (by show ¬ (b + n ≤ b + k); omega)
  · rintro ⟨x1, x2⟩ s' ⟨k, h', hk, hr, he, rfl, I', hs', hkp⟩
    have hkn : k = n := Nat.le_antisymm hk (itv_nil hr)
    subst hkn
    obtain ⟨rfl, rfl⟩ := Prod.mk.inj he
    have ht : (col rows i).take k = col rows i := List.take_of_length_le (by simp [col, hm])
    rw [ht]
    show wpAny _ _ (newTuple (col rows i) >>= _) _ _ _
    have hsz : h'.objs.size = hp.objs.size := hs'.trans hs₁.1
    have hlc : (col rows i).length ≤ sizeLine := by simp [col, hm, h64]
    refine wpAny_bind (wpAny_newTuple (wpAny_pure ⟨_, rfl, ?_⟩) hlc)
    show Q (.ref h'.objs.size) _
    rw [hsz]
    refine hQ _ (Heap.get?_push_of_some _ (hkp _ _ (.inr (by omega)) hz₁)) ?_ ?_ ?_ fun c o hc e => Heap.get?_push_of_some _ (hkp c o (by omega) (hs₁.extBut c o (fun z => by have z' : (c : Nat) = b + k + 2 := z; omega) e))
    · exact (I'.congr (q := fun _ => i + 1) fun j hj => if_pos (hn ▸ hj)).ext (fun c o _ e => Heap.get?_push_of_some _ e) hb
    · have := Heap.get?_push_size h' (o := { cls := .type "tuple", data := .seq (col rows i).toArray }) rfl
      rw [hsz] at this
      exact this
    · show (h'.push _).objs.size = hp.objs.size + 1
      rw [Heap.size_push, hsz]
  · simp
theorem next_end {n i T : Nat} {f : Bool} {oT : Obj} {Q : Fin → Shared → Prop} (hh : A.handled = none) (hn : ls.length = n) (hm : rows.length = n) (hb : ∀ l ∈ ls, l < b) (hz : IsZipHeld s.heap (b + n + 2 : Nat) (b + n : Nat) (b + n + 1 : Nat) T f) (hT : s.heap.get? T = some oT)
    (hTI : s.heap.get? (b + n : Nat) = some { cls := .type "tuple", data := .seq (itv b n).toArray }) (I : Itr s.heap b ls rows fun _ => i) (hi : ∀ r ∈ rows, r.length ≤ i) (h0 : 0 < n)
    (hE : ∀ h' e, (∀ c o, (c < b ∨ b + n + 2 < c) → s.heap.get? c = some o → h'.get? c = some o) → (∃ o, h'.get? e = some o ∧ o.cls = .type "StopIteration") → E (.ref e) { s with heap := h' }) :
    wpAny (model prog w) A (Builtin.«zip.__next__» ⟨[.ref (b + n + 2 : Nat)], []⟩) Q E s := by
  obtain ⟨hp, g, d, tk, os⟩ := s
  show wpAny _ _ (field (.ref (b + n + 2 : Nat)) 2 >>= _) _ _ _
  refine wpAny_bind (wpAny_field hz rfl (x := .bool false) rfl ?_)
  show wpAny _ _ (field (.ref (b + n + 2 : Nat)) 3 >>= _) _ _ _
  refine wpAny_bind (wpAny_field hz rfl (x := .ref (b + n : Nat)) rfl ?_)
  refine wpAny_bind (wpAny_seqItems hTI rfl ?_)
  have hne : (itv b n).toArray.isEmpty = false := by
    cases n with
    | zero => exact absurd h0 (Nat.lt_irrefl _)
    | succ n => simp [itv, List.range_succ]
  simp only [hne, Bool.false_eq_true, if_false]
  refine wpAny_bind (wpAny_tupleHeld_zip hz hT fun h₁ hz₁ hs₁ => ?_)
  simp only [Bool.false_eq_true, if_false]
  refine wpAny_bind ?_
  rw [← Array.forIn_toList]
  have I₁ : Itr h₁ b ls rows fun _ => i := I.over hs₁.extBut (by rw [hn]; omega) hb
  have e1 : (itv b n).toArray.toList = .ref (b + 0 : Nat) :: (itv b n).drop 1 := by
    cases n with
    | zero => exact absurd h0 (Nat.lt_irrefl _)
    | succ n =>
      rw [List.toList_toArray]
      have : (itv b (n + 1))[0]? = some (.ref (b + 0 : Nat)) := by simp [itv]
      cases hc : itv b (n + 1) with
      | nil => rw [hc] at this; cases this
      | cons y ys =>
        rw [hc] at this
        cases this
        rfl
  rw [e1, List.forIn_cons]
  have hl : ls[0]? = some ls[0] := List.getElem?_eq_getElem (by omega)
  have hrk : rows[0]? = some rows[0] := List.getElem?_eq_getElem (by omega)
  refine wpAny_bind (wpAny_bind (wpAny_holding ?_))
  show wpAny _ _ (Builtin.SmallTypes.nextOf (.ref (b + 0 : Nat)) >>= _) _ _ _
  refine wpAny_bind (draw_end (s := ⟨h₁, g, d, tk, os⟩) hh I₁ hl hrk (List.getElem?_eq_none (hi _ (List.getElem_mem _))) fun h₂ e hs₂ he => ?_)
  refine hE h₂ e (fun c o hc x => hs₂ c o (fun z => ?_) (hs₁.extBut c o (fun z => ?_) x)) he
  · have z' : (c : Nat) = b + 0 := z
    omega
  · have z' : (c : Nat) = b + n + 2 := z
    omega
theorem next_first {n : Nat} {vs : List Value} {Q : Value → Shared → Prop} (hn : ls.length = n) (hm : rows.length = n) (hb : ∀ l ∈ ls, l < b) (hz : IsZip s.heap (b + n + 2 : Nat) (b + n : Nat) (b + n + 1 : Nat) .none) 
    (hTI : s.heap.get? (b + n : Nat) = some { cls := .type "tuple", data := .seq (itv b n).toArray }) (hv : vs.length = n) (hTO : s.heap.get? (b + n + 1 : Nat) = some { cls := .type "tuple", data := .seq vs.toArray }) (I : Itr s.heap b ls rows fun _ => 0) (hi : ∀ r ∈ rows, 0 < r.length) (h64 : n ≤ sizeLine) (h0 : 0 < n)
    (hQ : ∀ h', IsZipHeld h' (b + n + 2 : Nat) (b + n : Nat) (b + n + 1 : Nat) s.heap.objs.size false → Itr h' b ls rows (fun _ => 1) → h'.get? s.heap.objs.size = some { cls := .type "tuple", data := .seq (col rows 0).toArray } → h'.objs.size = s.heap.objs.size + 1 →
      (∀ c o, (c < b ∨ c = (b + n : Nat) ∨ b + n + 2 < c) → s.heap.get? c = some o → h'.get? c = some o) → Q (.ref s.heap.objs.size) { s with heap := h' }) :
    wpAny (model prog w) A (Builtin.«zip.__next__» ⟨[.ref (b + n + 2 : Nat)], []⟩) (fun fin s' => ∃ v, fin = .done (.ret v) ∧ Q v s') E s := by
  obtain ⟨hp, g, d, tk, os⟩ := s
  show wpAny _ _ (field (.ref (b + n + 2 : Nat)) 2 >>= _) _ _ _
  refine wpAny_bind (wpAny_field hz rfl (x := .bool false) rfl ?_)
  show wpAny _ _ (field (.ref (b + n + 2 : Nat)) 3 >>= _) _ _ _
  refine wpAny_bind (wpAny_field hz rfl (x := .ref (b + n : Nat)) rfl ?_)
  refine wpAny_bind (wpAny_seqItems hTI rfl ?_)
  have hne : (itv b n).toArray.isEmpty = false := by
    cases n with
    | zero => exact absurd h0 (Nat.lt_irrefl _)
    | succ n => simp [itv, List.range_succ]
  simp only [hne, Bool.false_eq_true, if_false]
  refine wpAny_bind ?_
  unfold Builtin.SmallTypes.ownedTupleIsFree
  refine wpAny_bind (wpAny_field hz rfl (x := .none) rfl (wpAny_pure ?_))
  simp only [if_true]
  refine wpAny_bind (wpAny_rule ?_)
  refine wpAny_bind (wpAny_field hz rfl (x := .ref (b + n + 1 : Nat)) rfl ?_)
  refine wpAny_bind (wpAny_setField_rec hz (by simp) fun h₁ hz₁ hs₁ => ?_)
  replace hz₁ : IsZip h₁ (b + n + 2 : Nat) (b + n : Nat) (b + n + 1 : Nat) .ellipsis := hz₁
  refine wpAny_bind ?_
  have I₁ : Itr h₁ b ls rows fun _ => 0 := I.over hs₁.extBut (by rw [hn]; omega) hb
  refine wpAny_forIn_list _ (fun rest x s' => ∃ k h' ws, k ≤ n ∧ rest = ((itv b n).zipIdx).drop k ∧ x = (none, ()) ∧ s' = ⟨h', g, d, tk, os⟩ ∧ Itr h' b ls rows (fun q => if q < k then 1 else 0) ∧ h'.objs.size = h₁.objs.size ∧
    h'.get? (b + n + 1 : Nat) = some { cls := .type "tuple", data := .seq ((col rows 0).take k ++ ws).toArray } ∧ k + ws.length = n ∧ ∀ c o, (c < b ∨ c = (b + n : Nat) ∨ b + n + 2 ≤ c) → h₁.get? c = some o → h'.get? c = some o) _ ?_ ?_ _ _ ⟨0, h₁, vs, Nat.zero_le _, ?_, rfl, rfl, I₁.congr fun j _ => rfl, rfl, ?_, ?_, fun c o _ e => e⟩
  · rintro ⟨x, k⟩ rest ⟨x1, x2⟩ s' ⟨k0, h', ws, hk, hr, he, rfl, I', hs', hTO', hws, hkp⟩
    obtain ⟨hkn, rfl, rfl, rfl⟩ := zi_cons hr
    cases ws with
    | nil => exact absurd hws (by simp; omega)
    | cons w0 ws =>
    have hl : ls[k]? = some ls[k] := List.getElem?_eq_getElem (by omega)
    have hrk : rows[k]? = some rows[k] := List.getElem?_eq_getElem (by omega)
    have hx : rows[k][0]? = some (rows[k].getD 0 .none) := by
      have := hi rows[k] (List.getElem_mem _)
      rw [List.getD_eq_getElem?_getD, List.getElem?_eq_getElem this]
      rfl
    refine wpAny_bind (wpAny_onRaise ?_)
    show wpAny _ _ (Builtin.SmallTypes.nextOf (.ref (b + k : Nat)) >>= _) _ _ _
    refine wpAny_bind (draw_item (s := ⟨h', g, d, tk, os⟩) I' hb hl hrk (x := rows[k].getD 0 .none) (by rw [if_neg (Nat.lt_irrefl k)]; exact hx) fun h'' I'' hs'' => wpAny_pure ?_)
    have hTO'' := hs''.extBut _ _ (fun z => by have z' : (b + n + 1 : Nat) = b + k := z; omega) hTO'
    refine wpAny_bind (wpAny_seqItems hTO'' rfl ?_)
    have hlen : ((col rows 0).take k).length = k := by
      rw [List.length_take]
      simp [col, hm]
      omega
    have hzz : ((col rows 0).take k ++ w0 :: ws).toArray.size ≤ sizeLine := by
      simp only [List.size_toArray, List.length_append, hlen, List.length_cons] at hws ⊢
      omega
    refine wpAny_bind (wpAny_updateSeq hTO'' rfl ?_ hzz (by rw [Array.size_setIfInBounds]; exact Nat.le_succ_of_le hzz))
    refine wpAny_bind (wpAny_letGo (wpAny_pure ?_))
    have su : Heap.SameBut (b + n + 1 : Nat) h'' (h''.update (b + n + 1 : Nat) (Obj.mapSeq fun x => x.setIfInBounds k (rows[k].getD 0 .none))) := Heap.SameBut.update ..
    refine ⟨k + 1, _, ws, hkn, rfl, rfl, rfl, (I''.congr fun j hj => ?_).over su.extBut (by rw [hn]; omega) hb, su.1.trans (hs''.1.trans hs'), ?_, by simp at hws; omega, fun c o hc e => su.extBut c o ?_ (hs''.extBut c o ?_ (hkp c o hc e))⟩
    · by_cases hj : j = k
      · subst hj
        simp
      · rw [if_neg hj]
        by_cases h2 : j < k
        · rw [if_pos h2, if_pos (Nat.lt_succ_of_lt h2)]
        · rw [if_neg h2, if_neg (by omega)]
    · rw [Heap.get?_update_self _ hTO'' rfl, col_take hrk]
      dsimp only [Obj.mapSeq]
      rw [if_pos (show ((((col rows 0).take k ++ w0 :: ws).toArray.setIfInBounds k (rows[k].getD 0 .none)).size == ((col rows 0).take k ++ w0 :: ws).toArray.size) = true by rw [Array.size_setIfInBounds]; exact beq_self_eq_true _), List.append_assoc]
      have e3 : ((col rows 0).take k ++ w0 :: ws).toArray.setIfInBounds k (rows[k].getD 0 .none) = ((col rows 0).take k ++ ([rows[k].getD 0 .none] ++ ws)).toArray := by
        rw [List.setIfInBounds_toArray]
        congr 1
        rw [List.set_append_right _ _ (by omega), hlen, Nat.sub_self]
        rfl
      rw [e3]
    · intro z
      have z' : (c : Nat) = b + n + 1 := z
      omega
    · intro z
      have z' : (c : Nat) = b + k := z
      omega
  · rintro ⟨x1, x2⟩ s' ⟨k, h', ws, hk, hr, he, rfl, I', hs', hTO', hws, hkp⟩
    have hkn : k = n := Nat.le_antisymm hk (zi_nil hr)
    subst hkn
    obtain ⟨rfl, _⟩ := Prod.mk.inj he
    cases ws with
    | cons w0 ws => exact absurd hws (by simp)
    | nil =>
    have ht : (col rows 0).take k ++ [] = col rows 0 := by rw [List.append_nil]; exact List.take_of_length_le (by simp [col, hm])
    rw [ht] at hTO'
    have hlc : (col rows 0).length ≤ sizeLine := by simp [col, hm, h64]
    refine wpAny_bind (wpAny_seqItems hTO' rfl ?_)
    show wpAny _ _ (newTuple (col rows 0) >>= _) _ _ _
    have hsz : h'.objs.size = hp.objs.size := hs'.trans hs₁.1
    refine wpAny_bind (wpAny_newTuple ?_ hlc)
    show wpAny _ _ (Builtin.SmallTypes.ownedTupleHandOut (.ref (b + k + 2 : Nat)) (.ref h'.objs.size) >>= _) _ _ _
    refine wpAny_bind ?_
    unfold Builtin.SmallTypes.ownedTupleHandOut
    have hz₅ : IsZip h' (b + k + 2 : Nat) (b + k : Nat) (b + k + 1 : Nat) .ellipsis := hkp _ _ (.inr (.inr (Nat.le_refl _))) hz₁
    have hz₆ : IsZip (h'.push { cls := .type "tuple", data := .seq (col rows 0).toArray }) (b + k + 2 : Nat) (b + k : Nat) (b + k + 1 : Nat) .ellipsis := Heap.get?_push_of_some _ hz₅
    refine wpAny_bind (wpAny_setField_rec hz₆ (by simp) fun h₇ hz₇ hs₇ => ?_)
    replace hz₇ : IsZip h₇ (b + k + 2 : Nat) (b + k : Nat) (b + k + 1 : Nat) (rawInt h'.objs.size) := hz₇
    refine wpAny_setField_rec hz₇ (by simp) fun h₈ hz₈ hs₈ => ?_
    replace hz₈ : IsZip h₈ (b + k + 2 : Nat) (b + k : Nat) (b + k + 1 : Nat) (rawInt h'.objs.size) := hz₈
    have hzlt : (b + k + 2 : Nat) < h'.objs.size := Heap.lt_size hz₅
    have up : ∀ c o, c ≠ (b + k + 2 : Nat) → h'.get? c = some o → h₈.get? c = some o := fun c o c1 e => hs₈.extBut _ _ c1 (hs₇.extBut _ _ c1 (Heap.get?_push_of_some _ e))
    have hT₈ : h₈.get? h'.objs.size = some { cls := .type "tuple", data := .seq (col rows 0).toArray } := hs₈.extBut _ _ (Nat.ne_of_gt hzlt) (hs₇.extBut _ _ (Nat.ne_of_gt hzlt) (Heap.get?_push_size _ rfl))
    have hz8 : h₈.objs.size = h'.objs.size + 1 := by rw [hs₈.1, hs₇.1, Heap.size_push]
    rw [hsz] at hz₈ hT₈ hz8
    refine wpAny_pure ⟨_, rfl, ?_⟩
    show Q (.ref h'.objs.size) _
    rw [hsz]
    refine hQ h₈ hz₈ ?_ hT₈ hz8 fun c o hc e => up c o (fun z => ?_) (hkp c o (by omega) (hs₁.extBut c o (fun z => ?_) e))
    · refine (I'.congr (q := fun _ => 1) fun j hj => if_pos (hn ▸ hj)).ext (fun c o hc e => up c o (fun z => ?_) e) hb
      have z' : (c : Nat) = b + k + 2 := z
      omega
    · have z' : (c : Nat) = b + k + 2 := z
      omega
    · have z' : (c : Nat) = b + k + 2 := z
      omega
  · rfl
  · exact hs₁.extBut _ _ (fun z => by have z' : (b + n + 1 : Nat) = b + n + 2 := z; omega) hTO
  · simpa using hv
end
end ZL
namespace ZL
open PySem PySem.Spec PyProof.Rows
structure ZSt (h : Heap) (b n : Nat) (ls : List Addr) (rows : List (List Value)) (i : Nat) : Prop where
  ti : h.get? (b + n : Nat) = some { cls := .type "tuple", data := .seq (itv b n).toArray }
  itr : Itr h b ls rows fun _ => i
  st : (i = 0 ∧ IsZip h (b + n + 2 : Nat) (b + n : Nat) (b + n + 1 : Nat) .none ∧ ∃ vs : List Value, vs.length = n ∧ h.get? (b + n + 1 : Nat) = some { cls := .type "tuple", data := .seq vs.toArray }) ∨
    (0 < i ∧ ∃ (T : Nat) (f : Bool) (oT : Obj), IsZipHeld h (b + n + 2 : Nat) (b + n : Nat) (b + n + 1 : Nat) T f ∧ h.get? T = some oT ∧ b + n + 2 < T)
theorem ZSt.zip {h : Heap} {b n i : Nat} {ls : List Addr} {rows : List (List Value)} (Z : ZSt h b n ls rows i) : ∃ o, h.get? (b + n + 2 : Nat) = some o ∧ o.cls = .type "zip" := by
  rcases Z.st with ⟨_, z, _⟩ | ⟨_, T, f, oT, z, _⟩
  · exact ⟨_, z, rfl⟩
  · exact ⟨_, z, rfl⟩
theorem ZSt.ext {h h' : Heap} {b n i : Nat} {ls : List Addr} {rows : List (List Value)} (Z : ZSt h b n ls rows i) (hn : ls.length = n) (hb : ∀ l ∈ ls, l < b) {S : Nat} (hS : b + n + 2 < S) (hx : ∀ c o, c ≠ S → h.get? c = some o → h'.get? c = some o)
    (hT : ∀ (T : Nat) o, h.get? T = some o → b + n + 2 < T → T = S → ∃ o', h'.get? T = some o') : ZSt h' b n ls rows i := by
  have lo : ∀ c : Nat, c ≤ b + n + 2 → c ≠ S := fun c hc e => by omega
  refine ⟨hx _ _ (lo _ (by omega)) Z.ti, Z.itr.ext (fun c o hc e => hx c o (lo c (by rw [hn] at hc; omega)) e) hb, ?_⟩
  rcases Z.st with ⟨e, z, vs, h1, h2⟩ | ⟨e, T, f, oT, z, h1, h2⟩
  · exact .inl ⟨e, hx _ _ (lo _ (by omega)) z, vs, h1, hx _ _ (lo _ (by omega)) h2⟩
  · by_cases hTS : T = S
    · obtain ⟨o', ho'⟩ := hT T oT h1 h2 hTS
      exact .inr ⟨e, T, f, o', hx _ _ (lo _ (by omega)) z, ho', h2⟩
    · exact .inr ⟨e, T, f, oT, hx _ _ (lo _ (by omega)) z, hx _ _ hTS h1, h2⟩
section
variable {prog : Program} {w : World} {A : Around} {E : Value → Shared → Prop} {s : Shared} {b n m i : Nat} {ls : List Addr} {rows : List (List Value)}
theorem pn_item {Q : Option Value → Shared → Prop} (hn : ls.length = n) (hm : rows.length = n) (hb : ∀ l ∈ ls, l < b) (Z : ZSt s.heap b n ls rows i) (hi : ∀ r ∈ rows, i < r.length) (h64 : n ≤ sizeLine) (h0 : 0 < n)
    (hQ : ∀ h', ZSt h' b n ls rows (i + 1) → h'.get? s.heap.objs.size = some { cls := .type "tuple", data := .seq (col rows i).toArray } → h'.objs.size = s.heap.objs.size + 1 →
      (∀ c o, (c < b ∨ b + n + 2 < c) → s.heap.get? c = some o → h'.get? c = some o) → Q (some (.ref s.heap.objs.size)) { s with heap := h' }) :
    wpAny (model prog w) A (pyNext (.ref (b + n + 2 : Nat))) Q E s := by
  obtain ⟨oz, hoz, hcz⟩ := Z.zip
  have hT : s.TypeIs (.ref (b + n + 2 : Nat)) "zip" := ⟨oz, hoz, hcz⟩
  have hlt : (b + n + 2 : Nat) < s.heap.objs.size := Heap.lt_size hoz
  unfold pyNext
  rcases Z.st with ⟨e, z, vs, h1, h2⟩ | ⟨e, T, f, oT, z, h1, h2⟩
  · subst e
    exact wpAny_bind (wpAny_attempt (wpAny_callSpecial?_slot (name := Str.ofString "__next__") hT F.slot_zip_next
      (wpAny_call_entry F.slot_zip_next hT F.entry_zip_next
        (next_first hn hm hb z Z.ti h1 h2 Z.itr hi h64 h0 fun h' a1 a2 a3 a4 a5 => wpAny_pure (hQ h' ⟨a5 _ _ (.inr (.inl rfl)) Z.ti, a2, .inr ⟨Nat.lt_succ_self _, _, false, _, a1, a3, hlt⟩⟩ a3 a4 fun c o hc e => a5 c o (by omega) e)) (F.args_zip_next_1 _))))
  · exact wpAny_bind (wpAny_attempt (wpAny_callSpecial?_slot (name := Str.ofString "__next__") hT F.slot_zip_next
      (wpAny_call_entry F.slot_zip_next hT F.entry_zip_next
        (next_later hn hm hb z h1 Z.ti Z.itr hi h64 h0 fun h' a1 a2 a3 a4 a5 => wpAny_pure (hQ h' ⟨a5 _ _ (.inr (.inl rfl)) Z.ti, a2, .inr ⟨Nat.succ_pos _, T, true, oT, a1, a5 _ _ (.inr (.inr h2)) h1, h2⟩⟩ a3 a4 fun c o hc e => a5 c o (by omega) e)) (F.args_zip_next_1 _))))
theorem pn_end {Q : Option Value → Shared → Prop} (hh : A.handled = none) (hn : ls.length = n) (hm : rows.length = n) (hb : ∀ l ∈ ls, l < b) (Z : ZSt s.heap b n ls rows i) (hi : ∀ r ∈ rows, r.length ≤ i) (h1 : 0 < i) (h0 : 0 < n)
    (hQ : ∀ h', (∀ c o, (c < b ∨ b + n + 2 < c) → s.heap.get? c = some o → h'.get? c = some o) → Q none { s with heap := h' }) :
    wpAny (model prog w) A (pyNext (.ref (b + n + 2 : Nat))) Q E s := by
  obtain ⟨oz, hoz, hcz⟩ := Z.zip
  have hT : s.TypeIs (.ref (b + n + 2 : Nat)) "zip" := ⟨oz, hoz, hcz⟩
  unfold pyNext
  rcases Z.st with ⟨e, z, vs, h1', h2⟩ | ⟨e, T, f, oT, z, h1', h2⟩
  · omega
  · have hh' : A.in1.handled = none := hh
    refine wpAny_bind (wpAny_attempt (wpAny_callSpecial?_slot (name := Str.ofString "__next__") hT F.slot_zip_next
      (wpAny_call_entry F.slot_zip_next hT F.entry_zip_next (next_end hh' hn hm hb z h1' Z.ti Z.itr hi h0 fun h' e hk he => ?_) (F.args_zip_next_1 _))))
    obtain ⟨o, ho, hc⟩ := he
    refine wpAny_bind (wpAny_isInstance (T := "StopIteration") (b := true) ⟨o, ho, hc⟩ isSubtype_stop ?_)
    exact wpAny_pure (hQ _ hk)
noncomputable def Cols (h : Heap) (lo S : Nat) (rows : List (List Value)) (i : Nat) (acc : Array Value) : Prop := acc.size = i ∧ ∀ (j : Nat) v, acc[j]? = some v → ∃ a : Nat, v = .ref a ∧ lo < a ∧ a ≠ S ∧ h.get? a = some { cls := .type "tuple", data := .seq (col rows j).toArray }
theorem Cols.ext {h h' : Heap} {lo S : Nat} {rows : List (List Value)} {acc : Array Value} (C : Cols h lo S rows i acc) (hx : ∀ c o, lo < c → c ≠ S → h.get? c = some o → h'.get? c = some o) : Cols h' lo S rows i acc :=
  ⟨C.1, fun j v e => let ⟨a, e1, e2, e3, e4⟩ := C.2 j v e; ⟨a, e1, e2, e3, hx _ _ e2 e3 e4⟩⟩
noncomputable def End0 (prog : Program) (w : World) (b n : Nat) (ls : List Addr) (rows : List (List Value)) : Prop := ∀ (A : Around) (s : Shared) (Q : Option Value → Shared → Prop) (E : Value → Shared → Prop), A.handled = none → ZSt s.heap b n ls rows 0 → (∀ h' tk, (∀ c o, (c < b ∨ b + n + 2 < c) → s.heap.get? c = some o → h'.get? c = some o) → Q none { s with heap := h', toks := tk }) → wpAny (model prog w) A (pyNext (.ref (b + n + 2 : Nat))) Q E s
theorem zip_loop {R : Result → Shared → Prop} (hh : A.handled = none) (hn : ls.length = n) (hm : rows.length = n) (hb : ∀ l ∈ ls, l < b) (hr : ∀ r ∈ rows, r.length = m) (hm0 : m = 0 → End0 prog w b n ls rows) (h64 : n ≤ sizeLine) (hm64 : m ≤ sizeLine) (h0 : 0 < n) {S : Nat} (hS : b + n + 2 < S) (res : Value) :
    ∀ (k i : Nat) (s : Shared) (acc : Array Value) (c : Nat), m - i = k → i ≤ m → ZSt s.heap b n ls rows i → s.heap.get? S = some { cls := .type "list", dict := none, data := .seq acc c, slots := #[] } → Cols s.heap (b + n + 2) S rows i acc →
    (∀ h' tk acc' c', (∀ c o, (c < b ∨ b + n + 2 < c) → c ≠ S → s.heap.get? c = some o → h'.get? c = some o) → h'.get? S = some { cls := .type "list", dict := none, data := .seq acc' c', slots := #[] } → Cols h' (b + n + 2) S rows m acc' → R (.ok (.ret res)) { s with heap := h', toks := tk }) →
    codeAny (model prog w) A (.builtin "list.extend.loop" ⟨[.ref S, .ref (b + n + 2 : Nat), res], []⟩) R s := by
  intro k
  induction k with
  | zero =>
    intro i s acc c hk hi hZ hSS hC hR
    have him : i = m := by omega
    subst him
    refine codeAny_builtin F.entry_extend_loop ?_
    rw [Around.under_plainId F.plain_extend_loop _]
    show wpAny _ A.in1 (pyNext (.ref (b + n + 2 : Nat)) >>= _) _ _ s
    have hh' : A.in1.handled = none := hh
    rcases Nat.eq_zero_or_pos i with z | hm1
    · have e0 := hm0 z
      refine wpAny_bind (e0 _ _ _ _ hh' (by rw [← z]; exact hZ) fun h' tk hk => ?_)
      exact wpAny_pure (hR h' tk acc c (fun c o hc _ e => hk c o hc e) (hk _ _ (.inr hS) hSS) (hC.ext fun c o hc _ e => hk c o (.inr hc) e))
    · refine wpAny_bind (pn_end hh' hn hm hb hZ (fun r q => Nat.le_of_eq (hr r q)) hm1 h0 fun h' hk => ?_)
      exact wpAny_pure (hR h' s.toks acc c (fun c o hc _ e => hk c o hc e) (hk _ _ (.inr hS) hSS) (hC.ext fun c o hc _ e => hk c o (.inr hc) e))
  | succ k ih =>
    intro i s acc c hk hi hZ hSS hC hR
    have hlt : i < m := by omega
    refine codeAny_builtin F.entry_extend_loop ?_
    rw [Around.under_plainId F.plain_extend_loop _]
    show wpAny _ A.in1 (pyNext (.ref (b + n + 2 : Nat)) >>= _) _ _ s
    have hlS : S < s.heap.objs.size := Heap.lt_size hSS
    refine wpAny_bind (pn_item hn hm hb hZ (fun r q => by rw [hr r q]; exact hlt) h64 h0 fun h' Z' hT' hsz hk => ?_)
    have hS' := hk _ _ (.inr hS) hSS
    show wpAny _ A.in1 (updateSeq S (·.push (.ref s.heap.objs.size)) >>= _) _ _ _
    refine wpAny_bind ?_
    have kp : ∀ c o, c ≠ S → h'.get? c = some o → (h'.update S (Obj.mapSeq (·.push (.ref s.heap.objs.size)))).get? c = some o := fun c o hc e => (Heap.get?_update_other _ _ (fun z : S = c => hc z.symm)).trans e
    refine wpAny_updateSeq hS' rfl (wpAny_pure ⟨plainId_quiet F.plain_extend_loop _, ih (i + 1) _ (acc.push (.ref s.heap.objs.size)) _ (by omega) hlt (Z'.ext hn hb hS kp fun T o e _ z => by subst z; exact ⟨_, Heap.get?_update_self _ hS' rfl⟩) (Heap.get?_update_self _ hS' rfl) ?_ fun h'' tk acc' c' hx'' hS'' hC'' => ?_⟩)
      (by rw [hC.1]; omega) (by show (acc.push _).size ≤ sizeLine + 1; rw [Array.size_push, hC.1]; omega)
    · refine ⟨by rw [Array.size_push, hC.1], fun j v e => ?_⟩
      rw [Array.getElem?_push] at e
      split at e
      · rename_i z
        cases e
        rw [hC.1] at z
        subst z
        exact ⟨_, rfl, Nat.lt_trans hS hlS, Nat.ne_of_gt hlS, kp _ _ (Nat.ne_of_gt hlS) hT'⟩
      · obtain ⟨a, e1, e2, e3, e4⟩ := hC.2 j v e
        exact ⟨a, e1, e2, e3, kp _ _ e3 (hk _ _ (.inr e2) e4)⟩
    · exact hR h'' tk acc' c' (fun c o hc hcS e => hx'' c o hc hcS (kp _ _ hcS (hk c o hc e))) hS'' hC''
theorem nolen_zip : typeLookup (.type "zip") "__len__" = pure none := by rw [typeLookup_type, builtinLookup_eq_fast]; kernel_rfl
theorem nohint_zip : typeLookup (.type "zip") "__length_hint__" = pure none := by rw [typeLookup_type, builtinLookup_eq_fast]; kernel_rfl
theorem zip_pyIter {z : Addr} {o : Obj} {Q : Value → Shared → Prop} (hz : s.heap.get? z = some o) (hc : o.cls = .type "zip") (h : Q (.ref z) s) : wpAny (model prog w) A (pyIter (.ref z)) Q E s := by
  have hT : s.TypeIs (.ref z) "zip" := ⟨_, hz, hc⟩
  refine wpAny_pyIter_slot hT F.slot_zip_iter (wpAny_call_entry F.slot_zip_iter hT F.entry_zip_iter ?_ (F.args_zip_iter_1 _))
  show wpAny _ _ (ret (.ref z)) _ _ s
  exact wpAny_pure ⟨_, rfl, "zip", _, hT, F.slot_zip_next.lookup, h⟩
theorem call_list_zip {Q : Value → Shared → Prop} (hh : A.handled = none) (hn : ls.length = n) (hm : rows.length = n) (hb : ∀ l ∈ ls, l < b) (hr : ∀ r ∈ rows, r.length = m) (hm0 : m = 0 → End0 prog w b n ls rows) (h64 : n ≤ sizeLine) (hm64 : m ≤ sizeLine) (h0 : 0 < n) (hZ : ZSt s.heap b n ls rows 0)
    (hQ : ∀ h' tk acc c, (∀ c o, (c < b ∨ b + n + 2 < c) → s.heap.get? c = some o → h'.get? c = some o) → h'.get? s.heap.objs.size = some { cls := .type "list", dict := none, data := .seq acc c, slots := #[] } → Cols h' (b + n + 2) s.heap.objs.size rows m acc → Q (.ref s.heap.objs.size) { s with heap := h', toks := tk }) :
    wpAny (model prog w) A (call (.type "list") [.ref (b + n + 2 : Nat)]) Q E s := by
  obtain ⟨oz, hoz, hcz⟩ := hZ.zip
  have hlt : (b + n + 2 : Nat) < s.heap.objs.size := Heap.lt_size hoz
  refine callType_codes (Q₁ := fun obj s₁ => obj = .ref s.heap.objs.size ∧ s₁ = { s with heap := s.heap.push { cls := .type "list", data := .seq #[] } }) F.called_list (F.typeCall_list_1 _) F.entry_list_init
    (code_list_new _ ⟨rfl, rfl⟩) fun obj s₁ h₁ => ?_
  obtain ⟨rfl, rfl⟩ := h₁
  have hS : (s.heap.push { cls := .type "list", data := .seq #[] }).get? s.heap.objs.size = some { cls := .type "list", data := .seq #[] } := Heap.get?_push_size _ rfl
  refine ⟨⟨_, hS, rfl⟩, F.args_list_init_2 _ _, ?_⟩
  have Z₁ : ZSt (s.heap.push { cls := .type "list", data := .seq #[] }) b n ls rows 0 := hZ.ext hn hb hlt (fun c o _ e => Heap.get?_push_of_some _ e) fun T o e _ _ => ⟨_, Heap.get?_push_of_some _ e⟩
  show wpAny _ A.in1.in1 (do let old ← Builtin.List.listItems (.ref s.heap.objs.size); Builtin.List.listUpdate (.ref s.heap.objs.size) (fun _ => #[]); letGo old.toList.reverse; Builtin.List.listExtendWith (.ref s.heap.objs.size) (.ref (b + n + 2 : Nat)) .none) _ _ _
  refine wpAny_bind ?_
  unfold Builtin.List.listItems
  refine wpAny_bind (wpAny_seqItems hS rfl (wpAny_pure ?_))
  show wpAny _ A.in1.in1 (updateSeq s.heap.objs.size (fun _ => #[]) >>= fun _ => letGo (#[] : Array Value).toList.reverse >>= fun _ => Builtin.List.listExtendWith (.ref s.heap.objs.size) (.ref (b + n + 2 : Nat)) .none) _ _ _
  refine wpAny_bind (wpAny_updateSeq hS rfl ?_)
  have hS₂ := Heap.get?_update_self (Obj.mapSeq (fun _ => (#[] : Array Value))) hS rfl
  have oth2 : ∀ c o, c ≠ s.heap.objs.size → (s.heap.push { cls := .type "list", data := .seq #[] }).get? c = some o → ((s.heap.push { cls := .type "list", data := .seq #[] }).update s.heap.objs.size (Obj.mapSeq (fun _ => (#[] : Array Value)))).get? c = some o :=
    fun c o hc e => (Heap.get?_update_other _ _ (Ne.symm hc)).trans e
  refine wpAny_bind (wpAny_letGo ?_)
  have Z₂ := Z₁.ext hn hb hlt oth2 fun T o e _ z => by subst z; exact ⟨_, hS₂⟩
  obtain ⟨oz1, hoz1, hcz1⟩ := Z₂.zip
  generalize hH : (s.heap.push { cls := .type "list", data := .seq #[] }).update s.heap.objs.size (Obj.mapSeq (fun _ => (#[] : Array Value))) = h₂ at Z₂ hoz1 hS₂ oth2 ⊢
  have hT1 : (⟨h₂, s.gens, s.drawn, s.toks, s.os⟩ : Shared).TypeIs (.ref (b + n + 2 : Nat)) "zip" := ⟨oz1, hoz1, hcz1⟩
  show wpAny _ A.in1.in1 (Builtin.List.listExtendWith (.ref s.heap.objs.size) (.ref (b + n + 2 : Nat)) .none) _ _ ⟨h₂, s.gens, s.drawn, s.toks, s.os⟩
  unfold Builtin.List.listExtendWith
  refine wpAny_bind (wpAny_typeOf hT1 ?_)
  have h1 : Builtin.List.listSameRef (.ref s.heap.objs.size) (.ref (b + n + 2 : Nat)) = false := by
    have : s.heap.objs.size ≠ b + n + 2 := Nat.ne_of_gt hlt
    simp [Builtin.List.listSameRef, this]
  have h2 : (Value.type "zip" == Value.type "list") = false := by decide
  have h3 : (Value.type "zip" == Value.type "tuple") = false := by decide
  simp only [h1, h2, h3, Bool.or_false, Bool.false_eq_true, if_false]
  refine wpAny_bind (zip_pyIter hoz1 hcz1 ?_)
  refine wpAny_bind (wpAny_holding ?_)
  unfold Builtin.List.listLengthHint
  refine wpAny_bind (wpAny_specialOf hT1 nolen_zip ?_)
  show wpAny _ A.in1.in1 (specialOf (Value.ref (b + n + 2 : Nat)) (Str.ofString "__length_hint__") >>= _) _ _ _
  refine wpAny_bind (wpAny_specialOf hT1 nohint_zip ?_)
  refine wpAny_pure ?_
  show wpAny _ A.in1.in1 (rule "list.extend.makes-room" >>= fun _ => Builtin.List.listTouch (.ref s.heap.objs.size) >>= fun _ =>
    again (.builtin "list.extend.loop" ⟨[.ref s.heap.objs.size, .ref (b + n + 2 : Nat), .none], []⟩)) _ _ _
  refine wpAny_bind (wpAny_rule ?_)
  refine wpAny_bind ?_
  show wpAny _ A.in1.in1 (updateSeq s.heap.objs.size (·.push .none) >>= fun _ => updateSeq s.heap.objs.size (·.pop)) _ _ _
  refine wpAny_bind (wpAny_updateSeq hS₂ rfl ?_)
  have hS₃ := Heap.get?_update_self (Obj.mapSeq (·.push Value.none)) hS₂ rfl
  refine wpAny_updateSeq (hz := by seq_fits) hS₃ rfl ?_
  have hS₄ := Heap.get?_update_self (Obj.mapSeq (·.pop)) hS₃ rfl
  have oth : ∀ c o, c ≠ s.heap.objs.size → h₂.get? c = some o → ((h₂.update s.heap.objs.size (Obj.mapSeq (·.push Value.none))).update s.heap.objs.size (Obj.mapSeq (·.pop))).get? c = some o :=
    fun c o hc e => (Heap.get?_update_other _ _ (Ne.symm hc)).trans ((Heap.get?_update_other _ _ (Ne.symm hc)).trans e)
  have hh' : A.in1.in1.handled = none := hh
  have hh0 : A.in1.handled = none := hh
  have Z₃ := Z₂.ext hn hb hlt oth fun T o e _ z => by subst z; exact ⟨_, hS₄⟩
  refine wpAny_pure ⟨plainId_quiet F.plain_extend_loop _, zip_loop hh0 hn hm hb hr hm0 h64 hm64 h0 hlt _ m 0 _ _ _ rfl (Nat.zero_le _) Z₃ hS₄ ⟨rfl, fun j v e => by have e' : (#[] : Array Value)[j]? = some v := e; simp at e'⟩ fun h' tk acc' c' hx hS' hC => ?_⟩
  refine ⟨rfl, hQ h' tk acc' c' (fun c o hc e => ?_) hS' hC⟩
  have hcS : c ≠ s.heap.objs.size := Nat.ne_of_lt (Heap.lt_size e)
  exact hx c o hc hcS (oth c o hcS (oth2 c o hcS (Heap.get?_push_of_some _ e)))
end
end ZL
namespace ZL
open PySem PySem.Spec PyProof.Rows L2
noncomputable def colV (rows : List (List V)) (i : Nat) : List V := rows.map fun r => r.getD i .non
noncomputable def putAll (H : Hp) (q : Addr) (cs : List Addr) (f : Nat → List V) : Hp := fun a => match H a with
  | some o => some o
  | none => if a = q then some (.lst (cs.map V.ref)) else match cs.findIdx? (fun c => decide (c = a)) with
    | some j => some (.tup (f j))
    | none => none
theorem putAll_old {H : Hp} {q : Addr} {cs : List Addr} {f : Nat → List V} {a : Addr} {o : HO} (h : H a = some o) : putAll H q cs f a = some o := by
  simp only [putAll, h]
theorem putAll_q {H : Hp} {q : Addr} {cs : List Addr} {f : Nat → List V} (h : H q = none) : putAll H q cs f q = some (.lst (cs.map V.ref)) := by
  simp only [putAll, h, if_true]
theorem putAll_new {H : Hp} {q : Addr} {cs : List Addr} {f : Nat → List V} {a : Addr} {o : HO} (h : H a = none) (e : putAll H q cs f a = some o) : (a = q ∧ o = .lst (cs.map V.ref)) ∨ ∃ j, cs[j]? = some a ∧ o = .tup (f j) := by
  simp only [putAll, h] at e
  split at e
  · exact .inl ⟨by assumption, (Option.some.inj e).symm⟩
  · split at e
    · rename_i j hj
      obtain ⟨hlt, h1, _⟩ := List.findIdx?_eq_some_iff_getElem.mp hj
      exact .inr ⟨j, by rw [List.getElem?_eq_getElem hlt, of_decide_eq_true h1], (Option.some.inj e).symm⟩
    · cases e
theorem putAll_at {H : Hp} {q : Addr} {cs : List Addr} {f : Nat → List V} {a : Addr} {j : Nat} (h : H a = none) (hq : a ≠ q) (hj : cs[j]? = some a) (hf : ∀ i, cs[i]? = some a → f i = f j) : putAll H q cs f a = some (.tup (f j)) := by
  simp only [putAll, h, if_neg hq]
  cases hc : cs.findIdx? (fun c => decide (c = a)) with
  | none =>
    rw [List.findIdx?_eq_none_iff] at hc
    have := hc a (List.mem_of_getElem? hj)
    simp at this
  | some i =>
    obtain ⟨hlt, h1, _⟩ := List.findIdx?_eq_some_iff_getElem.mp hc
    simp only
    rw [hf i (by rw [List.getElem?_eq_getElem hlt, of_decide_eq_true h1])]
section
variable {X : Cx} {pins : List (Addr × Obj)} {σ : L2.St} {H H' : Hp} {s : Shared} {h' : Heap}
theorem inv_all {t' : Nat} (I : Inv X pins σ H s) (k : ∀ b u, s.heap.get? b = some u → h'.get? b = some u) (old : ∀ a o, H a = some o → H' a = some o)
    (new : ∀ a o, H a = none → H' a = some o → s.heap.objs.size ≤ a ∧ ObjOk X.prog X.w H' h' a o) : Inv X pins σ H' { s with heap := h', toks := t' } := by
  refine I.un ⟨fun b u q _ _ _ => k b u q, fun b u q _ _ _ => ⟨u.slots, k b u q⟩, fun b u q n _ => ?_, fun b u q _ => ⟨u, k b u q⟩, fun b xs q => old _ _ q, fun b u xs q => old _ _ q, fun b ps q => ⟨#[], by rw [old _ _ q]; simp⟩⟩ fun b u e => ?_
  · cases e : H' b with
    | none => rfl
    | some o => exact absurd (Nat.lt_of_lt_of_le (Heap.lt_size q) (new b o n e).1) (Nat.lt_irrefl _)
  · cases n : H b with
    | none => exact (new b u n e).2
    | some o =>
      have e2 := old b o n
      rw [e] at e2
      cases e2
      exact (I.hok b u n).stay (fun c v _ q => k c v q) (fun c q => old _ _ q) fun c xs q => old _ _ q
end
theorem vals_getD : ∀ {xs : List V} {us : List Value} (i : Nat), Vals xs us → L2.RelV (xs.getD i .non) (us.getD i .none)
  | _, _, _, .nil => rfl
  | _, _, 0, .cons r _ => by simpa using r
  | _, _, i + 1, .cons _ t => by simpa using vals_getD i t
theorem vals_col {rows : List (List V)} {us : List (List Value)} (hl : rows.length = us.length) (h : ∀ (j : Nat) r u, rows[j]? = some r → us[j]? = some u → Vals r u) (i : Nat) : Vals (colV rows i) (col us i) := by
  induction rows generalizing us with
  | nil =>
    cases us with
    | nil => exact .nil
    | cons u us => cases hl
  | cons r rows ih =>
    cases us with
    | nil => cases hl
    | cons u us => exact .cons (vals_getD i (h 0 r u rfl rfl)) (ih (by simpa using hl) fun j a b e1 e2 => h (j + 1) a b e1 e2)
theorem vals_refs : ∀ (as : List Addr), Vals (as.map V.ref) (as.map Value.ref)
  | [] => .nil
  | a :: as => .cons rfl (vals_refs as)

theorem lz_inv {X : Cx} {pins : List (Addr × Obj)} {σ : L2.St} {H1 : Hp} {s2 : Shared} {h3 : Heap} {tk : Nat} {acc : Array Value} {cc : Nat} {rows : List (List V)} {us : List (List Value)} {m lo S : Nat} (I2 : Inv X pins σ H1 s2) (hul : rows.length = us.length) (hv : ∀ (j : Nat) r u, rows[j]? = some r → us[j]? = some u → Vals r u) (h12 : rows.length ≤ 12) (hm64 : m ≤ sizeLine) (hlo : s2.heap.objs.size ≤ lo) (hS : s2.heap.objs.size ≤ S)
    (kp : ∀ b u, s2.heap.get? b = some u → h3.get? b = some u) (hSS : h3.get? S = some { cls := .type "list", dict := none, data := .seq acc cc, slots := #[] }) (hC : Cols h3 lo S us m acc) :
    ∃ (cs : List Addr) (H' : Hp), Inv X pins σ H' { s2 with heap := h3, toks := tk } ∧ Same H1 H' ∧ H1 S = none ∧ cs.length = m ∧ (∀ (i : Nat) c, cs[i]? = some c → H1 c = none ∧ H' c = some (.tup (colV rows i))) ∧ H' S = some (.lst (cs.map V.ref)) := by
  have hacc : ∃ cs : List Addr, cs.map Value.ref = acc.toList := by
    have : ∀ l : List Value, (∀ v ∈ l, ∃ a : Addr, v = .ref a) → ∃ cs : List Addr, cs.map Value.ref = l := by
      intro l
      induction l with
      | nil => exact fun _ => ⟨[], rfl⟩
      | cons v l ih =>
        intro h
        obtain ⟨a, rfl⟩ := h v List.mem_cons_self
        obtain ⟨cs, e⟩ := ih fun v hv => h v (List.mem_cons_of_mem _ hv)
        exact ⟨a :: cs, by rw [List.map_cons, e]⟩
    refine this acc.toList fun v hv => ?_
    obtain ⟨j, hj⟩ := List.getElem?_of_mem hv
    obtain ⟨a, e, _⟩ := hC.2 j v (by simpa using hj)
    exact ⟨a, e⟩
  obtain ⟨cs, hcs⟩ := hacc
  have hcl : cs.length = m := by
    have := congrArg List.length hcs
    simp at this
    rw [this]
    exact hC.1
  have hcj : ∀ (j : Nat) c, cs[j]? = some c → s2.heap.objs.size ≤ c ∧ c ≠ S ∧ h3.get? c = some { cls := .type "tuple", data := .seq (col us j).toArray } := fun j c e => by
    have e1 : acc[j]? = some (.ref c) := by
      have : acc.toList[j]? = some (.ref c) := by rw [← hcs, List.getElem?_map, e]; rfl
      simpa using this
    obtain ⟨a, e2, e3, e5, e4⟩ := hC.2 j _ e1
    cases e2
    exact ⟨Nat.le_of_lt (Nat.lt_of_le_of_lt hlo e3), e5, e4⟩
  have fresh : ∀ a, s2.heap.objs.size ≤ a → H1 a = none := fun a ha => I2.hok.fresh ha
  have hvc : ∀ i, Vals (colV rows i) (col us i) := vals_col hul hv
  have hlc : ∀ i, (colV rows i).length ≤ sizeLine := fun i => by
    simp only [colV, List.length_map]
    exact Nat.le_trans h12 (by decide)
  have hf : ∀ (j : Nat) c, cs[j]? = some c → ∀ i, cs[i]? = some c → colV rows i = colV rows j := fun j c e i e' => by
    have a1 := (hcj j c e).2.2
    have a2 := (hcj i c e').2.2
    rw [a1] at a2
    injection a2 with a2
    injection a2 with _ _ a2 _
    injection a2 with a2 _
    have a3 : col us j = col us i := by simpa using congrArg Array.toList a2
    have v1 := hvc i
    rw [← a3] at v1
    exact v1.inj (hvc j)
  have I3 : Inv X pins σ (putAll H1 S cs (colV rows)) { s2 with heap := h3, toks := tk } := by
    refine inv_all I2 kp (fun a o e => putAll_old e) fun a o n e => ?_
    rcases putAll_new n e with ⟨rfl, rfl⟩ | ⟨j, hj, rfl⟩
    · refine ⟨hS, by rw [List.length_map, hcl]; exact hm64, cs.map Value.ref, cc, vals_refs cs, ?_⟩
      rw [hSS, hcs]
    · obtain ⟨b1, b2, b3⟩ := hcj j a hj
      exact ⟨b1, hlc j, col us j, hvc j, ⟨_, b3, rfl, 0, rfl⟩⟩
  refine ⟨cs, _, I3, fun a o e => putAll_old e, fresh _ hS, hcl, fun i c e => ?_, putAll_q (fresh _ hS)⟩
  obtain ⟨b1, b2, b3⟩ := hcj i c e
  exact ⟨fresh _ b1, putAll_at (fresh _ b1) b2 e (hf i c e)⟩
theorem end0_2 {prog : Program} {w : World} {b : Nat} {l1 l2 : Addr} {r1 r2 : List Value} (h1 : l1 < b) (h2 : l2 < b) (e1 : r1.length = 0) : End0 prog w b 2 [l1, l2] [r1, r2] := by
  intro A s Q E hh Z hQ
  have it := Z.itr
  rcases Z.st with ⟨_, hz, vs, lv, hTO⟩ | ⟨h, _⟩
  rotate_left
  · exact absurd h (Nat.lt_irrefl _)
  obtain ⟨x, y, rfl⟩ : ∃ x y, vs = [x, y] := by
    match vs, lv with
    | [x, y], _ => exact ⟨x, y, rfl⟩
  have S := ZM.sep b l1 l2 h1 h2
  have hh' : A.in1.handled = none := hh
  have d1 := ZM.drawsM (prog := prog) (w := w) (A := A.in1) false hh' b l1 S.na r1.toArray
  have d2 := ZM.drawsM (prog := prog) (w := w) (A := A.in1) false hh' (b + 1 : Nat) l2 S.nb r2.toArray
  exact wpAny_pyNext_zipD2_end S.toZipSep2 d1 d2 hz Z.ti hTO ⟨it.it 0 l1 rfl, it.tu 0 l1 r1 rfl rfl⟩ ⟨it.it 1 l2 rfl, it.tu 1 l2 r2 rfl rfl⟩ (Nat.zero_le _) (Nat.zero_le _) (.inl (by simp [e1])) fun h' tk hk => hQ h' tk fun c o hc e => hk c o (fun z => by have z' : @Eq Nat c (b + 4) := z; omega) (fun z => by have z' : @Eq Nat c (b + 3) := z; omega) (fun z => by have z' : @Eq Nat c b := z; omega) (fun z => by have z' : @Eq Nat c (b + 1) := z; omega) e
noncomputable def tLz2 (K : PySem.W.Frag) (ta : TA) : TE := fun σ H Q => ta σ H fun vs H1 => ∃ (a b : Addr) (xs ys : List V), vs = [.ref a, .ref b] ∧ SqL K H1 a xs ∧ SqL K H1 b ys ∧ xs.length ≤ sizeLine ∧ ys.length = xs.length ∧
  ∀ (q : Addr) (cs : List Addr) (H2 : Hp), Same H1 H2 → H1 q = none → cs.length = xs.length → (∀ (i : Nat) d, cs[i]? = some d → H1 d = none ∧ H2 d = some (.tup (colV [xs, ys] i))) → H2 q = some (.lst (cs.map V.ref)) → Q (.ref q) H2
section
variable {X : Cx} {ta : TA} {e1 e2 e3 : Expr} {p1 p3 pos2 pos : Pos}
theorem pe_lz2 (hh : X.A.handled = none) (ha : PA X [e1, e2] ta) (hgt : Gl X "list") (hmt : X.mg "list" = none) (hgz : Gl X "zip") (hmz : X.mg "zip" = none) (hvt : bootBuiltins "list" = some (.type "list") := by decide +kernel) (hvz : bootBuiltins "zip" = some (.type "zip") := by decide +kernel)
    (hs1 : starEach [.Call (.Name "zip" p1) [e1, e2] [] pos2] X.env = [(false, eval (.Call (.Name "zip" p1) [e1, e2] [] pos2) X.env)] := by rfl)
    (hs : starEach [e1, e2] X.env = (false, eval e1 X.env) :: starEach [e2] X.env := by rfl) (hpl : (backTo pos2 (starEach [e2] X.env)).any (·.1) = false := by rfl) :
    PE X (.Call (.Name "list" p3) [.Call (.Name "zip" p1) [e1, e2] [] pos2] [] pos) (tLz2 X.K ta) := by
  refine ⟨fun pins s σ H Q I h => ?_⟩
  refine wpAny_Call_Name_kw (ld_blt I hgt hmt hvt ?_ (by decide) (by decide))
  refine PyProof.Rows.callWith_type1 ?_ hs1 rfl
  rw [hs1]
  refine Calls.spliced_cons ?_
  refine wpAny_Call_Name_kw (ld_blt I hgz hmz hvz ?_ (by decide) (by decide))
  refine PyProof.Rows.callWith_type1 (thn (ha.run pos2 pins s σ H _ I h) ?_) hs hpl
  rintro us s1 ⟨vs, H1, I1, r1, a, b, xs, ys, rfl, hqx, hqy, hm64, ly, q⟩
  cases r1 with
  | cons r rr =>
   cases rr with
   | cons r' rr =>
     cases rr
     cases r
     cases r'
     obtain ⟨its, rv, p1, la⟩ := ZM.Sq.real (t := false) I1 hqx
     obtain ⟨its2, rv2, p2, lb⟩ := ZM.Sq.real (t := false) I1 hqy
     refine zip_begins2 (begins_list a its.toArray) (begins_list b its2.toArray) p1 p2 fun h' hz hTI hTO g1 g2 hsz hk => ?_
     refine Calls.spliced_nil ?_
     have l1 : its.length = xs.length := rv.length.symm
     have l2 : its2.length = xs.length := rv2.length.symm.trans ly
     have Z : ZSt h' s1.heap.objs.size 2 [a, b] [its, its2] 0 := by
       refine ⟨hTI, ⟨fun j l e => ?_, fun j l r e e' => ?_⟩, .inl ⟨rfl, hz, [.none, .none], rfl, hTO⟩⟩
       · match j, e with
         | 0, e => cases e; exact ⟨_, g1, rfl, rfl⟩
         | 1, e => cases e; exact ⟨_, g2, rfl, rfl⟩
       · match j, e, e' with
         | 0, e, e' => cases e; cases e'; exact Heap.IsList.at p1 fun o q => hk _ o q
         | 1, e, e' => cases e; cases e'; exact Heap.IsList.at p2 fun o q => hk _ o q
     refine call_list_zip (s := { s1 with heap := h' }) (b := s1.heap.objs.size) (n := 2) (ls := [a, b]) (rows := [its, its2]) (m := xs.length) hh rfl rfl ?_ ?_ (fun e => end0_2 la lb (l1.trans e)) (by decide) hm64 (by decide) Z fun h3 tk acc cc hk3 hSS hC => ?_
     · intro l hl
       simp only [List.mem_cons, List.mem_nil_iff, or_false] at hl
       rcases hl with rfl | rfl
       · exact la
       · exact lb
     · intro r hr
       simp only [List.mem_cons, List.mem_nil_iff, or_false] at hr
       rcases hr with rfl | rfl
       · exact l1
       · exact l2
     have hszle : s1.heap.objs.size ≤ h'.objs.size := by rw [hsz]; omega
     obtain ⟨cs, H', I3, sm, f, hcl, hcc, hq⟩ := lz_inv (tk := tk) (rows := [xs, ys]) (us := [its, its2]) I1 rfl (fun j r u e e' => by
       match j, e, e' with
       | 0, e, e' => cases e; cases e'; exact rv
       | 1, e, e' => cases e; cases e'; exact rv2) (by show 2 ≤ 12; decide) hm64 (show s1.heap.objs.size ≤ s1.heap.objs.size + 2 + 2 by omega) hszle (fun b u e => hk3 b u (.inl (Heap.lt_size e)) (hk b u e)) hSS hC
     exact ⟨.ref h'.objs.size, H', I3, rfl, q _ cs H' sm f hcl hcc hq⟩
end
end ZL
namespace K1
open PySem PySem.Spec PyProof.Rows L2
noncomputable def smV (t : Sm) : List V := [.int (t.1 : Int), .int (t.2.1 : Int), .int t.2.2]
noncomputable def SumsA (H : Hp) (cs : List Addr) (L : List Sm) : Prop := cs.length = L.length ∧ ∀ (i : Nat) c t, cs[i]? = some c → L[i]? = some t → H c = some (.tup (smV t))
theorem SumsA.same {H H' : Hp} {cs : List Addr} {L : List Sm} (h : SumsA H cs L) (s : Same H H') : SumsA H' cs L := ⟨h.1, fun i c t e1 e2 => s _ _ (h.2 i c t e1 e2)⟩
theorem SumsA.get {H : Hp} {cs : List Addr} {L : List Sm} (h : SumsA H cs L) {i : Nat} {x : V} (e : (cs.map V.ref)[i]? = some x) : ∃ c t, x = .ref c ∧ cs[i]? = some c ∧ L[i]? = some t ∧ H c = some (.tup (smV t)) := by
  obtain ⟨c, hc, rfl⟩ := at_map e
  obtain ⟨t, ht⟩ := ex_at (l := L) (i := i) (by rw [← h.1]; exact lt_at hc)
  exact ⟨c, t, rfl, hc, ht, h.2 i c t hc ht⟩
theorem SumsA.snoc {H : Hp} {F c : Addr} {xs : List V} {cs : List Addr} {L : List Sm} {t : Sm} {o : HO} (h : SumsA H cs L) (hF : H F = some (.lst xs)) (hc : H c = some (.tup (smV t))) : SumsA (upd H F o) (cs ++ [c]) (L ++ [t]) := by
  have kp : ∀ {a : Addr} {ys : List V}, H a = some (.tup ys) → (upd H F o) a = some (.tup ys) := fun {a ys} e => by rw [upd_ne (fun z => by rw [z, hF] at e; cases e)]; exact e
  refine ⟨by rw [List.length_append, List.length_append, h.1]; rfl, fun i d u e1 e2 => ?_⟩
  rcases snoc_at e1 with e1 | ⟨rfl, rfl⟩
  · rw [List.getElem?_append_left (by rw [← h.1]; exact lt_at e1)] at e2
    exact kp (h.2 i d u e1 e2)
  · rw [h.1, List.getElem?_append_right (Nat.le_refl _), Nat.sub_self] at e2
    obtain rfl := Option.some.inj e2
    exact kp hc
noncomputable def spLSu : Sp := fun vs H Q _ => ∃ (q l : Addr) (n nd : Nat) (hs : List Addr) (rs : Rwz) (acts : List Int), vs = [.ref q, .ref l, .int (nd : Int)] ∧ LLq H q hs rs ∧ rs.length = n ∧ n ≤ 12 ∧ nd ≤ 8 ∧ H l = some (.lst (vrow acts)) ∧ acts.length ≤ 400 ∧ (∀ r ∈ rs, r.length = acts.length) ∧
  ∀ p cs H', Same H H' → H p = none → H' p = some (.lst (cs.map V.ref)) → SumsA H' cs (sumsL acts rs nd n) → Q (.ref p) H'
section
variable {P : Program} {w : World} {K : PySem.W.Frag} {mg : Str → Option Value} {base : Heap}
noncomputable abbrev nSu : List Str := ["_law_counts_here", "_law_acts", "_law_deeds", "_law_found", "_law_house", "_law_deed", "_law_rows", "_law_count", "_law_one"]
theorem scSu : FnScope nSu ["_law_counts_here", "_law_acts", "_law_deeds"] (defScope sLSums) := ⟨rfl, rfl, rfl, by decide +kernel, rfl, by decide +kernel, by decide +kernel⟩
theorem ok_lsu {f : Addr} {fd : FuncData} (D : Df K mg "_law_sums" sLSums ["_law_counts_here", "_law_acts", "_law_deeds"] f fd) (B : Bt mg) : FnOk P w K mg base CX0 1 f fd ["_law_counts_here", "_law_acts", "_law_deeds"] spLSu := by
  refine D.F.ok scSu (fun vs H Q E h => ?_) (fun cdv A outer s H vs Q E hr h => ?_)
  · obtain ⟨q, l, n, nd, hs, rs, acts, rfl, _⟩ := h
    rfl
  · obtain ⟨q, l, n, nd, hs, rs, acts, rfl, hL, hn, n12, nd8, hl, a4, lr, done⟩ := h
    have hu := hr.units
    refine ⟨_, (pss_cons (ps_set (i := 3) scSu.nd rfl (.inl rfl) (pe_lst pa_nil))
    (pss_cons (ps_for PassesOwn.never rfl (pi_range1 (by rfl) B.range (pa_cons (pe_callB call_len_seq (by rfl) B.len PySem.boot_len (pa_cons (pv 0) pa_nil)) pa_nil)) (pg_name (i := 4) scSu.nd rfl (.inl rfl))
      (pss_one (ps_for PassesOwn.never rfl (pi_range1 (by rfl) B.range (pa_cons (pv 2) pa_nil)) (pg_name (i := 5) scSu.nd rfl (.inr rfl))
        (pss_cons (ps_set (i := 6) scSu.nd rfl (.inl rfl) (ZL.pe_lz2 (by exact hr.hd) (pa_cons (pe_ix ix_list (pv 0) (pv 4) (fun _ _ => rfl)) (pa_cons (pv 1) pa_nil)) (by rfl) B.list (by rfl) B.zip))
        (pss_one (ps_expr (pe_bm PySem.F.plainAttrs_list PySem.F.slot_list_append PySem.F.type_list_append mt_append (pv 3) (pa_cons (pe_tup (pa_cons (pv 4) (pa_cons (pv 5) (pa_cons (pe_callB (cr_sum rfl) (by rfl) B.sum (by decide +kernel) (pa_cons (pe_lc (own := [("_law_count", 7), ("_law_one", 8)]) (g := gTup K 2 (gCons (gName 7) (gCons (gName 8) gNil))) rfl scSu.nd (pi_list (pv 6)) (blkOk_by (N := nSu) (sc := defScope sLSums) (by decide +kernel)) (fun _ _ _ _ _ => (pg_tup rfl (pgs_cons (pg_name (i := 7) scSu.nd rfl (Or.inl rfl)) (pgs_cons (pg_name (i := 8) scSu.nd rfl (Or.inl rfl)) pgs_nil)))) (fun _ _ _ _ _ => pts_one (PW.pt (pw_and (pt_cmpR op_eq (pv 8) (pv 5) (nomark _)) (pw_and1 (pt_cmpR op_gt (pv 7) pe_int (nomark _)))))) (fun _ _ _ _ _ => (pe_op op_sub (pv 7) pe_int))) pa_nil)) pa_nil)))) pa_nil))))))))
    (pss_one (ps_ret (pv 3))))), ?_⟩
    have e1 : ((hs.map V.ref).length : Int) = (n : Int) := by rw [List.length_map, hL.2.1, hn]
    refine ⟨(by show 0 ≤ sizeLine; decide), fun F hF => ?_⟩
    refine gn ?_
    dsimp only [List.set]
    have sF := same_new (o := HO.lst []) hF
    refine ⟨_, rfl, q, _, rfl, .inl (SqL.of (sF _ _ hL.1)), ?_⟩
    rw [e1]
    refine ⟨(n : Int), rfl, by omega, by omega, for_range (fun i σ H' => ∃ (v4 v5 v6 : Option V) (cs : List Addr), σ = [some (.ref q), some (.ref l), some (.int (nd : Int)), some (.ref F), v4, v5, v6, none, none] ∧ Same H H' ∧ H' F = some (.lst (cs.map V.ref)) ∧ SumsA H' cs (sumsL acts rs nd i)) ⟨none, none, none, [], rfl, sF, upd_same, rfl, fun i c t e => by cases e⟩ ?_ ?_⟩
    · rintro i σ H3 hi ⟨v4, v5, v6, cs, rfl, s3, hF3, hS3⟩
      have hin : i < n := by omega
      refine gn ?_
      dsimp only [List.set]
      rw [Int.zero_add]
      obtain ⟨x, hx⟩ := ex_at (l := hs) (i := i) (by rw [hL.2.1, hn]; exact hin)
      have hr0 : rs[i]? = some (rs.getD i []) := getL (by omega)
      have hxr := hL.2.2 i x _ hx hr0
      have lx := lr _ (List.mem_of_getElem? hr0)
      refine ⟨_, rfl, (nd : Int), rfl, by omega, by omega, for_range (fun d σ H' => ∃ (v5 v6 : Option V) (cs : List Addr), σ = [some (.ref q), some (.ref l), some (.int (nd : Int)), some (.ref F), some (.int (i : Int)), v5, v6, none, none] ∧ Same H H' ∧ H' F = some (.lst (cs.map V.ref)) ∧ SumsA H' cs (sumsL acts rs nd i ++ sumsR acts (rs.getD i []) i d)) ⟨v5, v6, cs, rfl, s3, hF3, by rw [show sumsR acts (rs.getD i []) i 0 = [] from rfl, List.append_nil]; exact hS3⟩ ?_ ?_⟩
      · rintro d σ H4 hd ⟨v5, v6, cs, rfl, s4, hF4, hS4⟩
        have hdn : d < nd := by omega
        refine gn ?_
        dsimp only [List.set]
        rw [Int.zero_add]
        have hL4 := hL.same s4
        refine ⟨_, rfl, _, rfl, q, _, (i : Int), .ref x, rfl, rfl, SqL.of hL4.1, at_i (map_at hx), _, rfl, nilP ⟨x, l, _, _, rfl, SqL.of (s4 _ _ hxr), SqL.of (s4 _ _ hl), sz (by rw [vrow_len, lx]; omega), by rw [vrow_len, vrow_len, lx], fun qq cs2 H5 s5 _ lcs hcs hqq => ?_⟩⟩
        rw [vrow_len, lx] at lcs
        refine gn ?_
        dsimp only [List.set]
        have hF5 := s5 _ _ hF4
        have hS5 := hS4.same s5
        have lS := hS5.1
        rw [List.length_append, sumsL_len, sumsR, List.length_map, List.length_range] at lS
        have mm : i * nd ≤ 12 * 8 := Nat.mul_le_mul (by omega) nd8
        generalize hr9 : rs.getD i [] = r at hxr lx hS5 hcs hr0 ⊢
        refine ⟨_, rfl, .inl ⟨rfl, _, SqL.of hF5⟩, _, rfl, _, rfl, ?_⟩
        refine ⟨_, rfl, qq, rfl, ⟨_, SqL.of hqq⟩, fun D6 hD6 => lc_list (K := K) (a := qq) (xs := cs2.map V.ref) (fun j H' => ∃ L : List Int, Same H5 H' ∧ H' D6 = some (.lst (vrow L)) ∧ L.length ≤ j ∧ L.sum = dM (d : Int) (r.take j) (acts.take j)) ⟨[], same_new hD6, upd_same, Nat.le_refl _, rfl⟩ (fun j H' _ ⟨_, s6, _⟩ => SqL.of (s6 _ _ hqq)) ?_ ?_⟩
        · rintro j y H6 hy ⟨L, s6, hD66, lL, sL⟩
          obtain ⟨c, hc, rfl⟩ := at_map hy
          have jk : j < acts.length := by rw [← lcs]; exact lt_at hc
          have hcr := s6 _ _ (hcs j c hc).2
          have g1 : r[j]? = some (r.getD j 0) := getD_at (by omega)
          have g2 : acts[j]? = some (acts.getD j 0) := getD_at jk
          have ec : ZL.colV [vrow r, vrow acts] j = [.int (r.getD j 0), .int (acts.getD j 0)] := by
            show [(vrow r).getD j .non, (vrow acts).getD j .non] = _
            rw [List.getD_eq_getElem?_getD, List.getD_eq_getElem?_getD, vrow, vrow, List.getElem?_map, List.getElem?_map, g1, g2]; rfl
          rw [ec] at hcr
          have snoc := dM_snoc (d : Int) (r.take j) (acts.take j) (r.getD j 0) (acts.getD j 0) (by rw [List.length_take, List.length_take, lx])
          rw [← take_succ g1, ← take_succ g2, ← sL] at snoc
          refine ⟨c, _, rfl, SqT.of hcr, rfl, _, _, rfl, _, _, rfl, rfl, rfl, ?_⟩
          refine ⟨_, rfl, _, rfl, rfl, _, rfl, ?_⟩
          refine ifD (fun e1 => ?_) fun e1 => ?_
          · have e1' : acts.getD j 0 = (d : Int) := by have := of_decide_eq_true e1; injection this
            refine ⟨_, rfl, _, _, rfl, rfl, _, rfl, ?_⟩
            refine ifD (fun e2 => ?_) fun e2 => ?_
            · have e2' : 0 < r.getD j 0 := of_decide_eq_true e2
              rw [if_pos ⟨e1', e2'⟩] at snoc
              refine ⟨_, rfl, _, _, rfl, rfl, _, hD66, szl (by rw [vrow_len]; omega), L ++ [r.getD j 0 - 1], fun c' o e => by rw [upd_ne (ne_of_none e hD6)]; exact s6 _ _ e, by rw [upd_same, vrow, vrow, List.map_append]; rfl, by rw [List.length_append]; show L.length + 1 ≤ j + 1; omega, by rw [snoc, List.sum_append]; show L.sum + (r.getD j 0 - 1 + 0) = _; omega⟩
            · have e2' : ¬ 0 < r.getD j 0 := of_decide_eq_false e2
              rw [if_neg (fun z => e2' z.2)] at snoc
              exact ⟨L, s6, hD66, by omega, by rw [snoc]; omega⟩
          · have e1' : ¬ acts.getD j 0 = (d : Int) := fun z => (of_decide_eq_false e1) (by rw [z])
            rw [if_neg (fun z => e1' z.1)] at snoc
            exact ⟨L, s6, hD66, by omega, by rw [snoc]; omega⟩
        rintro H6 ⟨L, s6, hD66, lL, sL⟩
        rw [List.length_map, lcs, ← lx, List.take_length, lx, List.take_length] at sL
        refine ⟨D6, L, rfl, SqL.of hD66, ?_⟩
        rw [sL]
        refine nilP ⟨(by show 3 ≤ sizeLine; decide), fun T hT => ?_⟩
        have sT := same_new (o := HO.tup (smV (i, d, dM (d : Int) r acts))) hT
        have hF6 := sT _ _ (s6 _ _ hF5)
        have s47 := (s5.trans s6).trans sT
        refine nilP ⟨F, _, _, rfl, rfl, hF6, szl (by rw [List.length_map]; omega), _, _, cs ++ [T], rfl, fun c o e => by rw [upd_ne (ne_of_none e hF)]; exact s47 _ _ (s4 _ _ e), by rw [upd_same, List.map_append]; rfl, ?_⟩
        rw [sumsR_succ, ← List.append_assoc]
        exact ((hS5.same s6).same sT).snoc hF6 upd_same
      · rintro σ H4 ⟨v5, v6, cs, rfl, s4, hF4, hS4⟩
        exact ⟨_, _, _, cs, rfl, s4, hF4, hS4⟩
    · rintro σ H3 ⟨v4, v5, v6, cs, rfl, s3, hF3, hS3⟩
      exact ⟨_, rfl, done F cs _ s3 hF hF3 hS3⟩
end
end K1
namespace K1
open PySem PySem.Spec PyProof.Rows L2
noncomputable def spLG : Sp := fun vs H Q _ => ∃ (m : Nat) (p : Addr) (cs : List Addr) (L : List Sm), vs = [.int (m : Int), .ref p] ∧ H p = some (.lst (cs.map V.ref)) ∧ SumsA H cs L ∧ L.length ≤ 100 ∧ (∀ t ∈ L, 0 ≤ t.2.2 ∧ t.2.2 < 1073741824) ∧ GrtIs m (L.map fun t => t.2.2) ∧ ∀ H', Same H H' → Q (.bl true) H'
noncomputable def posL (xs : List Int) : List Int := xs.filter fun x => decide (0 < x)
theorem posL_snoc (xs : List Int) (x : Int) : posL (xs ++ [x]) = posL xs ++ if 0 < x then [x] else [] := by
  unfold posL
  rw [List.filter_append]
  congr 1
  by_cases z : 0 < x
  · rw [if_pos z, List.filter_cons, if_pos (decide_eq_true z)]; rfl
  · rw [if_neg z, List.filter_cons, if_neg (by rw [decide_eq_false z]; decide)]; rfl
section
variable {P : Program} {w : World} {K : PySem.W.Frag} {mg : Str → Option Value} {base : Heap}
noncomputable abbrev nLg : List Str := ["_law_number", "_law_sums_here", "_law_one", "_law_some", "_law_rest", "_law_other", "_law_turn", "_law_house", "_law_deed"]
theorem scLg : FnScope nLg ["_law_number", "_law_sums_here"] (defScope sLIsGreatest) := ⟨rfl, rfl, rfl, by decide +kernel, rfl, by decide +kernel, by decide +kernel⟩
theorem ok_lg {f : Addr} {fd : FuncData} (D : Df K mg "_law_is_greatest" sLIsGreatest ["_law_number", "_law_sums_here"] f fd) (B : Bt mg) : FnOk P w K mg base CX0 1 f fd ["_law_number", "_law_sums_here"] spLG := by
  refine D.F.ok scLg (fun vs H Q E h => ?_) (fun cdv A outer s H vs Q E hr h => ?_)
  · obtain ⟨m, p, cs, L, rfl, _⟩ := h
    rfl
  · obtain ⟨m, p, cs, L, rfl, hp, hS, l100, hb, hg, q⟩ := h
    have hu := hr.units
    refine ⟨_, (pss_cons (ps_setLc (i := 3) (own := [("_law_house", 7), ("_law_deed", 8), ("_law_one", 2)]) (g := gTup K 3 (gCons (gName 7) (gCons (gName 8) (gCons (gName 2) gNil)))) rfl scLg.nd rfl rfl (sw_true rfl rfl rfl (by decide +kernel)) (pi_list (pv 1)) (blkOk_by (N := nLg) (sc := defScope sLIsGreatest) (by decide +kernel)) (fun _ _ _ _ _ => (pg_tup rfl (pgs_cons (pg_name (i := 7) scLg.nd rfl (Or.inl rfl)) (pgs_cons (pg_name (i := 8) scLg.nd rfl (Or.inl rfl)) (pgs_cons (pg_name (i := 2) scLg.nd rfl (Or.inl rfl)) pgs_nil))))) (fun _ _ _ _ _ => pts_one (pt_cmpR op_gt (pv 2) pe_int (nomark _))) (fun _ _ _ _ _ => (pv 2)))
    (pss_cons (ps_if (pt_cmpR (eqD (K := K) rfl hu) (pv 3) (pe_lst pa_nil) (nomark _))
      (pss_one (ps_ret (pe_cmpR op_eq (pv 0) pe_int (nomark _))))
      pss_nil)
    (pss_cons (ps_if (PW.pt (pw_or (pt_cmpR op_lt (pv 0) pe_int (nomark _)) (pw_or1 (pt_val (pe_callB (cr_any rfl) (by rfl) B.any (by decide +kernel) (pa_cons (pe_lc (own := [("_law_one", 2)]) (g := gName 2) (tt := tYes) rfl scLg.nd (pi_list (pv 3)) (blkOk_by (N := nLg) (sc := defScope sLIsGreatest) (by decide +kernel)) (fun _ _ _ _ _ => (pg_name (i := 2) scLg.nd rfl (Or.inl rfl))) (fun _ _ _ _ _ => pts_nil) (fun _ _ _ _ _ => (pe_cmpR op_ne (pe_op op_mod (pe_callTy call_int1 (by rfl) B.int PyProof.Rows.boot_int (pa_cons (pv 2) pa_nil)) (pv 0)) pe_int (nomark _)))) pa_nil))))))
      (pss_one (ps_ret pe_bl))
      pss_nil)
    (pss_cons (ps_set (i := 4) scLg.nd rfl (.inl rfl) (pe_op op_fdiv (pe_ix ix_list (pv 3) pe_int (fun _ _ => rfl)) (pv 0)))
    (pss_cons (ps_for PassesOwn.never rfl (pi_list (pv 3)) (pg_name (i := 2) scLg.nd rfl (.inl rfl))
      (pss_cons (ps_set (i := 5) scLg.nd rfl (.inl rfl) (pe_op op_fdiv (pv 2) (pv 0)))
      (pss_one (ps_for PassesOwn.never rfl (pi_range1 (by rfl) B.range (pa_cons pe_int pa_nil)) (pg_name (i := 6) scLg.nd rfl (.inl rfl))
        (pss_cons (ps_if (pt_cmpR op_eq (pv 5) pe_int (nomark _))
          (pss_one (ps_break))
          pss_nil)
        (pss_one (ps_par (i := 4) (j := 5) rfl scLg.nd rfl rfl (by decide) rfl rfl (pa_cons (pv 5) (pa_cons (pe_op op_mod (pe_callTy call_int1 (by rfl) B.int PyProof.Rows.boot_int (pa_cons (pv 4) pa_nil)) (pv 5)) pa_nil)) rfl)))))))
    (pss_one (ps_ret (pe_cmpR op_eq (pv 4) pe_int (nomark _))))))))), ?_⟩
    -- those above 0
    refine ⟨_, rfl, p, rfl, ⟨_, SqL.of hp⟩, fun D1 hD1 => lc_list (K := K) (a := p) (xs := cs.map V.ref) (fun j H' => Same H H' ∧ H' D1 = some (.lst (vrow (posL ((L.map fun t => t.2.2).take j))))) ⟨same_new hD1, by rw [upd_same]; rfl⟩ (fun j H' _ ⟨s1, _⟩ => SqL.of (s1 _ _ hp)) ?_ ?_⟩
    · rintro j y H1 hy ⟨s1, hD11⟩
      obtain ⟨c, t, rfl, hc, ht, hct⟩ := hS.get hy
      have hct1 := s1 _ _ hct
      have em : (L.map fun t => t.2.2)[j]? = some t.2.2 := map_at ht
      have etk := take_succ em
      have ll : (posL ((L.map fun t => t.2.2).take j)).length ≤ 100 := Nat.le_trans (List.length_filter_le _ _) (by rw [List.length_take, List.length_map]; omega)
      refine ⟨c, _, rfl, SqT.of hct1, rfl, _, _, rfl, _, _, rfl, _, _, rfl, rfl, rfl, ?_⟩
      refine ⟨_, rfl, _, _, rfl, rfl, _, rfl, ?_⟩
      refine ifD (fun e => ?_) fun e => ?_
      · have e' : 0 < t.2.2 := of_decide_eq_true e
        refine ⟨_, rfl, _, hD11, szl (by rw [vrow_len]; omega), fun c' o e => by rw [upd_ne (ne_of_none e hD1)]; exact s1 _ _ e, ?_⟩
        rw [upd_same, etk, posL_snoc, if_pos e', vrow, vrow, List.map_append]; rfl
      · have e' : ¬ 0 < t.2.2 := of_decide_eq_false e
        refine ⟨s1, ?_⟩
        rw [etk, posL_snoc, if_neg e', List.append_nil]; exact hD11
    rintro H1 ⟨s1, hD11⟩
    rw [List.length_map, hS.1, ← List.length_map (as := L) (f := fun t => t.2.2), List.take_length] at hD11
    refine gn ?_
    dsimp only [List.set]
    have hb' : ∀ y ∈ L.map (fun t => t.2.2), 0 ≤ y ∧ y < 1073741824 := fun y hy => by
      obtain ⟨t, ht, rfl⟩ := List.mem_map.mp hy
      exact hb t ht
    have lL : (L.map fun t => t.2.2).length ≤ 100 := by rw [List.length_map]; exact l100
    generalize L.map (fun t => t.2.2) = ys at hg hb' lL hD11
    have hx : ∀ x, x ∈ posL ys ↔ x ∈ ys ∧ 0 < x := fun x => by
      unfold posL
      rw [List.mem_filter]
      exact ⟨fun ⟨h1, h2⟩ => ⟨h1, of_decide_eq_true h2⟩, fun ⟨h1, h2⟩ => ⟨h1, decide_eq_true h2⟩⟩
    have lX : (posL ys).length ≤ 100 := Nat.le_trans (List.length_filter_le _ _) lL
    generalize posL ys = xs at hx hD11 lX
    refine ⟨_, rfl, (by show 0 ≤ sizeLine; decide), fun em hem => ?_⟩
    have s2 := same_new (o := HO.lst []) hem
    refine ⟨.list (dI xs), .list [], .lst (SqL.of (s2 _ _ hD11)) (dp_ints xs), .lst (SqL.of upd_same) .nil, shL_ints xs, shL_ints [], ?_⟩
    rw [eqv_nil]
    have hD12 := s2 _ _ hD11
    have s12 := s1.trans s2
    generalize upd H1 em (HO.lst []) = H2 at hD12 s12 ⊢
    clear s2 hD11 hem
    refine ⟨_, rfl, ifD (fun ez => ?_) fun ez => ?_⟩
    · have ez' : xs = [] := of_decide_eq_true ez
      have m0 : m = 0 := by
        have := (hg (m + 1)).mpr fun y hy => by
          have h1 := hb' y hy
          have h2 : ¬ 0 < y := fun z => by have := (hx y).mpr ⟨hy, z⟩; rw [ez'] at this; cases this
          have : y = 0 := by omega
          rw [this]; exact Nat.dvd_zero _
        by_cases z : m = 0
        · exact z
        · have := Nat.le_of_dvd (by omega) this
          omega
      subst m0
      exact ⟨_, rfl, eqVV (x := .int 0) rfl (q _ s12)⟩
    · have ez' : xs ≠ [] := of_decide_eq_false ez
      obtain ⟨x0, xr, hxs⟩ : ∃ x0 xr, xs = x0 :: xr := by
        cases xs with
        | nil => exact absurd rfl ez'
        | cons a b => exact ⟨a, b, rfl⟩
      have x0m : x0 ∈ xs := by rw [hxs]; exact List.mem_cons_self
      have dv : ∀ y ∈ ys, m ∣ y.natAbs := (hg m).mp (Nat.dvd_refl m)
      have hx0 := (hx x0).mp x0m
      have m1 : 0 < m := by
        have h1 := dv x0 hx0.1
        rcases Nat.eq_zero_or_pos m with z | z
        · rw [z] at h1
          have := Nat.eq_zero_of_zero_dvd h1
          omega
        · exact z
      have mb : m < 1073741824 := by
        have h1 := Nat.le_of_dvd (by omega) (dv x0 hx0.1)
        have := hb' x0 hx0.1
        omega
      -- every one above 0, as a multiple
      have mul : ∀ y ∈ xs, ∃ k : Nat, y = ((k * m : Nat) : Int) ∧ 0 < k ∧ k < 1073741824 ∧ y % (m : Int) = 0 ∧ y / (m : Int) = (k : Int) := fun y hy => by
        obtain ⟨h1, h2⟩ := (hx y).mp hy
        obtain ⟨k, hk⟩ := dv y h1
        have hb1 := hb' y h1
        have e : y = ((k * m : Nat) : Int) := by rw [Nat.mul_comm k m, ← hk]; omega
        have k0 : 0 < k := by
          rcases Nat.eq_zero_or_pos k with z | z
          · rw [z, Nat.zero_mul] at e; omega
          · exact z
        have kle : k * 1 ≤ k * m := Nat.mul_le_mul_left _ m1
        refine ⟨k, e, k0, by omega, ?_, ?_⟩
        · rw [e, ← Int.natCast_emod, Nat.mul_mod_left]; rfl
        · rw [e, ← Int.natCast_ediv, Nat.mul_div_cancel _ m1]
      refine nxP ?_
      refine ⟨_, rfl, _, _, rfl, rfl, _, rfl, ?_⟩
      refine ifD (fun e => absurd (of_decide_eq_true e) (by omega)) fun _ => ?_
      refine ⟨_, rfl, D1, rfl, ⟨_, SqL.of hD12⟩, fun D3 hD3 => lc_list (K := K) (a := D1) (xs := vrow xs) (fun j H' => Same H2 H' ∧ H' D3 = some (.lst ((List.replicate j false).map V.bl))) ⟨same_new hD3, upd_same⟩ (fun j H' _ ⟨s3, _⟩ => SqL.of (s3 _ _ hD12)) ?_ ?_⟩
      · rintro j y H3 hy ⟨s3, hD33⟩
        obtain ⟨z, hz, rfl⟩ := vrow_at hy
        obtain ⟨k, _, _, _, hmod, _⟩ := mul z (List.mem_of_getElem? hz)
        have jl := lt_at hz
        refine ⟨rfl, _, rfl, .inl ⟨_, rfl, _, rfl, _, _, rfl, rfl, (by omega), rfl, _, hD33, szl (by rw [List.length_map, List.length_replicate]; omega), fun c' o e => by rw [upd_ne (ne_of_none e hD3)]; exact s3 _ _ e, ?_⟩⟩
        have eF : (!decide (V.int (z % (m : Int)) = V.int 0)) = false := by rw [hmod]; rfl
        rw [upd_same, List.replicate_succ', List.map_append]
        show some (HO.lst (List.map V.bl (List.replicate j false) ++ [V.bl (!decide (V.int (z % (m : Int)) = V.int 0))])) = _
        rw [eF]; rfl
      rintro H3 ⟨s3, hD33⟩
      refine ⟨D3, _, rfl, SqL.of hD33, ?_⟩
      have eany : (List.replicate (vrow xs).length false).any id = false := List.any_eq_false.mpr fun b hb => by rw [List.eq_of_mem_replicate hb]; decide
      rw [eany]
      refine ⟨_, rfl, iteF (nxP ?_)⟩
      have hD13 := s3 _ _ hD12
      have s13 := s12.trans s3
      obtain ⟨k0, ek0, k00, k0b, _, dk0⟩ := mul x0 x0m
      refine ⟨_, rfl, D1, _, (0 : Int), .int x0, rfl, rfl, SqL.of hD13, at_i (i := 0) (by rw [hxs]; rfl), _, rfl, _, _, rfl, rfl, ⟨by omega, by omega⟩, ?_⟩
      refine gn ?_
      dsimp only [List.set]
      rw [dk0]
      refine ⟨_, rfl, D1, rfl, ⟨_, SqL.of hD13⟩, for_list (K := K) (a := D1) (xs := vrow xs) (fun j σ H' => ∃ (R : Nat) (v2 v5 v6 : Option V), σ = [some (.int (m : Int)), some (.ref p), v2, some (.ref D1), some (.int (R : Int)), v5, v6, none, none] ∧ Same H H' ∧ H' D1 = some (.lst (vrow xs)) ∧ 0 < R ∧ R < 1073741824 ∧ ∀ x : Nat, x ∣ R ↔ x ∣ k0 ∧ ∀ y ∈ xs.take j, x * m ∣ y.natAbs)
        ⟨k0, none, none, none, rfl, s13, hD13, k00, k0b, fun x => ⟨fun h => ⟨h, fun y hy => nomatch hy⟩, fun h => h.1⟩⟩ (fun j σ H' _ ⟨_, _, _, _, _, _, h, _⟩ => SqL.of h) ?_ ?_⟩
      · rintro j y σ H4 hy ⟨R, v2, v5, v6, rfl, s4, hD14, R0, Rb, hR⟩
        obtain ⟨z, hz, rfl⟩ := vrow_at hy
        obtain ⟨k, ek, kk0, kb, _, dk⟩ := mul z (List.mem_of_getElem? hz)
        have etk := take_succ hz
        refine gn ?_
        dsimp only [List.set]
        refine ⟨_, rfl, _, rfl, _, _, rfl, rfl, ⟨by omega, by omega⟩, ?_⟩
        refine gn ?_
        dsimp only [List.set]
        rw [dk]
        have fin : ∀ {r : Nat} {v6 : Option V} {H' : Hp}, Same H H' → H' D1 = some (.lst (vrow xs)) → (∀ x : Nat, x ∣ r ∧ x ∣ 0 ↔ x ∣ R ∧ x ∣ k) → ∃ (R : Nat) (v2 v5 v6' : Option V), [some (.int (m : Int)), some (.ref p), some (V.int z), some (.ref D1), some (.int (r : Int)), some (V.int ((0 : Nat) : Int)), v6, none, none] = [some (.int (m : Int)), some (.ref p), v2, some (.ref D1), some (.int (R : Int)), v5, v6', none, none] ∧ Same H H' ∧ H' D1 = some (.lst (vrow xs)) ∧ 0 < R ∧ R < 1073741824 ∧ ∀ x : Nat, x ∣ R ↔ x ∣ k0 ∧ ∀ y ∈ xs.take (j + 1), x * m ∣ y.natAbs := fun {r v6 H'} s5 h5 hc => by
          have hr : r ∣ R ∧ r ∣ k := (hc r).mp ⟨Nat.dvd_refl r, Nat.dvd_zero r⟩
          have r0 : 0 < r := Nat.pos_of_dvd_of_pos hr.1 R0
          have rb := Nat.le_of_dvd R0 hr.1
          refine ⟨r, _, _, _, rfl, s5, h5, r0, by omega, fun x => ?_⟩
          have h1 : x ∣ r ↔ x ∣ R ∧ x ∣ k := ⟨fun h => (hc x).mp ⟨h, Nat.dvd_zero x⟩, fun h => ((hc x).mpr h).1⟩
          have h2 : x ∣ k ↔ x * m ∣ z.natAbs := by
            rw [ek, Int.natAbs_natCast]
            exact (Nat.mul_dvd_mul_iff_right m1).symm
          rw [h1, hR x, h2, etk]
          constructor
          · rintro ⟨⟨g1, g2⟩, g3⟩
            exact ⟨g1, fun y hy => (List.mem_append.mp hy).elim (g2 y) fun e => by rw [List.mem_singleton.mp e]; exact g3⟩
          · rintro ⟨g1, g2⟩
            exact ⟨⟨g1, fun y hy => g2 y (List.mem_append_left _ hy)⟩, g2 z (List.mem_append_right _ (List.mem_singleton.mpr rfl))⟩
        have PB : R * k < 2 ^ 199 := by
          have h1 : R * k ≤ 1073741824 * 1073741824 := Nat.mul_le_mul (by omega) (by omega)
          have h2 : 1073741824 * 1073741824 < 2 ^ 199 := by decide
          omega
        refine ⟨(200 : Int), rfl, by omega, by omega, for_range (fun t σ H' => ∃ (r o : Nat) (v6 : Option V), σ = [some (.int (m : Int)), some (.ref p), some (.int z), some (.ref D1), some (.int (r : Int)), some (.int (o : Int)), v6, none, none] ∧ Same H H' ∧ H' D1 = some (.lst (vrow xs)) ∧ (∀ x : Nat, x ∣ r ∧ x ∣ o ↔ x ∣ R ∧ x ∣ k) ∧ (t = 0 ∨ (o < r ∧ r * o * 2 ^ (t - 1) ≤ R * k)) ∧ (t = 0 → r * o ≤ R * k)) ⟨R, k, v6, rfl, s4, hD14, fun x => Iff.rfl, .inl rfl, fun _ => Nat.le_refl _⟩ ?_ ?_⟩
        · rintro t σ H5 ht ⟨r, o, v6, rfl, s5, hD15, hc, hlt, h0⟩
          refine gn ?_
          dsimp only [List.set]
          refine ⟨_, rfl, rfl, _, rfl, ?_⟩
          refine ifD (fun e => ?_) fun e => ?_
          · have e' : o = 0 := by have := of_decide_eq_true e; injection this with this; omega
            subst e'
            exact fin s5 hD15 hc
          · have e' : 0 < o := by
              rcases Nat.eq_zero_or_pos o with z | z
              · exact absurd (show V.int (o : Int) = V.int 0 by rw [z]; rfl) (of_decide_eq_false e)
              · exact z
            obtain ⟨g1, g2⟩ := euc_step e' hlt h0
            refine nxP ⟨_, rfl, _, rfl, .inl ⟨_, rfl, _, rfl, _, _, rfl, rfl, (by omega), ?_⟩⟩
            refine nilP ⟨_, _, rfl, o, r % o, some (V.int (0 + (t : Int))), by rw [Int.natCast_emod]; rfl, s5, hD15, fun x => ?_, .inr ⟨g1, g2⟩, fun h => absurd h (by omega)⟩
            rw [← hc x]
            constructor
            · rintro ⟨a1, a2⟩
              exact ⟨(Nat.dvd_mod_iff a1).mp a2, a1⟩
            · rintro ⟨a1, a2⟩
              exact ⟨a2, (Nat.dvd_mod_iff a2).mpr a1⟩
        · rintro σ H5 ⟨r, o, v6, rfl, s5, hD15, hc, hlt, _⟩
          have h := hlt.resolve_left (by decide)
          obtain rfl : o = 0 := euc_end h PB
          exact fin s5 hD15 hc
      · rintro σ H4 ⟨R, v2, v5, v6, rfl, s4, _, R0, Rb, hR⟩
        rw [vrow_len, List.take_length] at hR
        have R1 : R = 1 := by
          have h1 := ((hR R).mp (Nat.dvd_refl R)).2
          have h2 : R * m ∣ m := (hg (R * m)).mpr fun y hy => by
            by_cases z : 0 < y
            · exact h1 y ((hx y).mpr ⟨hy, z⟩)
            · have := hb' y hy
              have : y = 0 := by omega
              rw [this]; exact Nat.dvd_zero _
          have h3 := Nat.le_of_dvd m1 h2
          have h4 : 1 * m ≤ R * m := Nat.mul_le_mul_right _ R0
          by_cases w : R = 1
          · exact w
          · have h5 : 2 * m ≤ R * m := Nat.mul_le_mul_right _ (by omega)
            omega
        subst R1
        exact ⟨_, rfl, eqVV (x := .int 1) rfl (q _ s4)⟩
end
end K1
namespace K1
open PySem PySem.Spec PyProof.Rows L2
structure Mk2 (b l F : Addr) (H H' : Hp) (as : List Addr) (ts : Ts) : Prop where
  dl : Dl b l H H'
  ll : LLq H' F as ts
  nf : ∀ a ∈ as, a ≠ b ∧ a ≠ l ∧ a ≠ F
  f : H F = none
  fb : F ≠ b
  fl : F ≠ l
section
variable {b l F R : Addr} {H H' H2 : Hp} {as : List Addr} {ts : Ts} {o : HO} {t : List Int}
theorem Mk2.same (m : Mk2 b l F H H' as ts) (s : Same H' H2) : Mk2 b l F H H2 as ts := ⟨m.dl.same s, m.ll.same s, m.nf, m.f, m.fb, m.fl⟩
theorem Mk2.draw (m : Mk2 b l F H H' as ts) (d : Dl b l H' H2) : Mk2 b l F H H2 as ts :=
  ⟨m.dl.trans d, ⟨d.2 _ _ m.ll.1 m.fb m.fl, m.ll.2.1, fun i a r e1 e2 => d.2 _ _ (m.ll.2.2 i a r e1 e2) (m.nf a (List.mem_of_getElem? e1)).1 (m.nf a (List.mem_of_getElem? e1)).2.1⟩, m.nf, m.f, m.fb, m.fl⟩
theorem Mk2.put (m : Mk2 b l F H H' as ts) (hR : H R = none) (n1 : R ≠ b) (n2 : R ≠ l) (n3 : R ≠ F) (n4 : R ∉ as) : Mk2 b l F H (upd H' R o) as ts :=
  ⟨m.dl.put hR n1 n2, ⟨by rw [upd_ne (Ne.symm n3)]; exact m.ll.1, m.ll.2.1, fun i a r e1 e2 => by rw [upd_ne (fun z => n4 (by rw [← z]; exact List.mem_of_getElem? e1))]; exact m.ll.2.2 i a r e1 e2⟩, m.nf, m.f, m.fb, m.fl⟩
theorem Mk2.push (m : Mk2 b l F H H' as ts) (hR : H' R = some (.lst (vrow t))) (n1 : R ≠ b) (n2 : R ≠ l) (n3 : R ≠ F) : Mk2 b l F H (upd H' F (.lst ((as ++ [R]).map V.ref))) (as ++ [R]) (ts ++ [t]) :=
  ⟨m.dl.put m.f m.fb m.fl, m.ll.snoc hR (fun a ha => (m.nf a ha).2.2) n3, fun a ha => (List.mem_append.mp ha).elim (m.nf a) fun z => by rw [List.mem_singleton.mp z]; exact ⟨n1, n2, n3⟩, m.f, m.fb, m.fl⟩
theorem Mk2.new (m : Mk2 b l F H H' as ts) (hR : H' R = none) : H R = none ∧ R ≠ b ∧ R ≠ l ∧ R ≠ F ∧ R ∉ as := by
  have nb := m.dl.1.nb hR
  have nl := m.dl.1.nl hR
  refine ⟨?_, nb, nl, fun z => (by rw [z, m.ll.1] at hR; cases hR), fun z => ?_⟩
  · cases e : H R with
    | none => rfl
    | some o => rw [m.dl.2 _ _ e nb nl] at hR; cases hR
  · obtain ⟨i, hi⟩ := List.getElem?_of_mem z
    obtain ⟨r, hr⟩ := ex_at (l := ts) (i := i) (by rw [← m.ll.2.1]; exact lt_at hi)
    rw [m.ll.2.2 i R r hi hr] at hR; cases hR
end
noncomputable def spLLn : Sp := fun vs H Q _ => ∃ (b l : Addr) (pe nd : Nat), vs = [.ref b, .int (pe : Int), .int (nd : Int)] ∧ DealO H b l ∧ 1 ≤ pe ∧ pe ≤ 12 ∧ 1 ≤ nd ∧ nd ≤ 8 ∧
  ∀ (lead : Nat) (ms : List Nat) p H', Dl b l H H' → lead ≤ 1 → pe + lead ≤ 12 → ms.length = nd → LLo b l H' p (lnT pe lead ms) → Q (.ref p) H'
noncomputable def lnR (pe lead m k : Nat) : List Int := (List.range k).map fun s => ((it (pe + lead) lead m s : Nat) : Int)
theorem lnR_succ (pe lead m k : Nat) : lnR pe lead m (k + 1) = lnR pe lead m k ++ [((it (pe + lead) lead m k : Nat) : Int)] := by unfold lnR; rw [List.range_succ, List.map_append]; rfl
theorem lnT_snoc (pe lead : Nat) (ms : List Nat) (m : Nat) : lnT pe lead (ms ++ [m]) = lnT pe lead ms ++ [lnR pe lead m (pe + lead)] := by unfold lnT; rw [List.map_append]; rfl
section
variable {P : Program} {w : World} {K : PySem.W.Frag} {mg : Str → Option Value} {base : Heap}
noncomputable abbrev nLn : List Str := ["_law_deal", "_law_period", "_law_deeds", "_law_lead", "_law_found", "_law_deed", "_law_more", "_law_row", "_law_state", "_law_place", "_law_turn"]
theorem scLn : FnScope nLn ["_law_deal", "_law_period", "_law_deeds"] (defScope sLLine) := ⟨rfl, rfl, rfl, by decide +kernel, rfl, by decide +kernel, by decide +kernel⟩
theorem ok_lln {f fA : Addr} {fd fdA : FuncData} (D : Df K mg "_law_line" sLLine ["_law_deal", "_law_period", "_law_deeds"] f fd) (DA : Df K mg "_law_any" sLAny ["_law_deal", "_law_bound"] fA fdA) (B : Bt mg) (GA : FnOk P w K mg base CX0 1 fA fdA ["_law_deal", "_law_bound"] spAny) : FnOk P w K mg base CX0 2 f fd ["_law_deal", "_law_period", "_law_deeds"] spLLn := by
  refine D.F.ok scLn (fun vs H Q E h => ?_) (fun cdv A outer s H vs Q E hr h => ?_)
  · obtain ⟨b, l, pe, nd, rfl, _⟩ := h
    rfl
  · obtain ⟨b, l, pe, nd, rfl, hb, p1, p12, n1, n8, done⟩ := h
    have hu := hr.units
    have r1 := hr
    refine ⟨_, (pss_cons (ps_set (i := 3) scLn.nd rfl (.inl rfl) (pe_ifExp (PW.pt (pw_and (pt_cmpR op_lt (pv 1) pe_int (nomark _)) (pw_and1 (pt_cmpR op_eq (pc DA GA r1 pass0 (pa_cons (pv 0) (pa_cons pe_int pa_nil))) pe_int (nomark _))))) pe_int pe_int))
    (pss_cons (ps_set (i := 4) scLn.nd rfl (.inl rfl) (pe_lst pa_nil))
    (pss_cons (ps_for PassesOwn.never rfl (pi_range1 (by rfl) B.range (pa_cons (pv 2) pa_nil)) (pg_name (i := 5) scLn.nd rfl (.inl rfl))
      (pss_cons (ps_par (i := 6) (j := 7) rfl scLn.nd rfl rfl (by decide) rfl rfl (pa_cons (pc DA GA r1 pass0 (pa_cons (pv 0) (pa_cons pe_int pa_nil))) (pa_cons (pe_lst pa_nil) pa_nil)) rfl)
      (pss_cons (ps_for PassesOwn.never rfl (pi_range1 (by rfl) B.range (pa_cons (pe_op op_add (pv 1) (pv 3)) pa_nil)) (pg_name (i := 8) scLn.nd rfl (.inl rfl))
        (pss_cons (ps_set (i := 9) scLn.nd rfl (.inl rfl) (pv 8))
        (pss_cons (ps_for PassesOwn.never rfl (pi_range1 (by rfl) B.range (pa_cons (pv 6) pa_nil)) (pg_name (i := 10) scLn.nd rfl (.inl rfl))
          (pss_one (ps_set (i := 9) scLn.nd rfl (.inl rfl) (pe_ifExp (pt_cmpR op_lt (pe_op op_add (pv 9) pe_int) (pe_op op_add (pv 1) (pv 3)) (nomark _)) (pe_op op_add (pv 9) pe_int) (pv 3)))))
        (pss_one (ps_expr (pe_bm PySem.F.plainAttrs_list PySem.F.slot_list_append PySem.F.type_list_append mt_append (pv 7) (pa_cons (pv 9) pa_nil)))))))
      (pss_one (ps_expr (pe_bm PySem.F.plainAttrs_list PySem.F.slot_list_append PySem.F.type_list_append mt_append (pv 4) (pa_cons (pv 7) pa_nil)))))))
    (pss_one (ps_ret (pv 4)))))), ?_⟩
    -- where it comes round
    refine seqG (fun σ H' => ∃ lead : Nat, σ = [some (.ref b), some (.int (pe : Int)), some (.int (nd : Int)), some (.int (lead : Int)), none, none, none, none, none, none, none] ∧ Dl b l H H' ∧ lead ≤ 1 ∧ pe + lead ≤ 12) ?_ fun go => ?_
    rotate_left
    · refine ⟨_, rfl, _, _, rfl, rfl, _, rfl, ?_⟩
      refine ifD (fun e => ?_) fun e => ?_
      · have e' : (pe : Int) < 12 := of_decide_eq_true e
        refine ⟨_, rfl, b, l, 2, rfl, hb, by decide, by decide, fun r H1 _ _ d1 => ⟨rfl, _, rfl, ?_⟩⟩
        refine ifD (fun e2 => ?_) fun e2 => ?_
        · exact go _ _ ⟨1, rfl, d1, by decide, by omega⟩
        · exact go _ _ ⟨0, rfl, d1, by decide, by omega⟩
      · exact go _ _ ⟨0, rfl, ⟨hb, fun c o e _ _ => e⟩, by decide, by omega⟩
    rintro σ H1 ⟨lead, rfl, d1, l1, l12⟩
    refine ⟨(by show 0 ≤ sizeLine; decide), fun F hF => ?_⟩
    refine gn ?_
    dsimp only [List.set]
    have nb := d1.1.nb hF
    have nl := d1.1.nl hF
    have hF0 : H F = none := by
      cases e : H F with
      | none => rfl
      | some o => rw [d1.2 _ _ e nb nl] at hF; cases hF
    have m0 : Mk2 b l F H (upd H1 F (.lst [])) [] [] := ⟨d1.put hF0 nb nl, ⟨upd_same, rfl, fun i a r e => by cases e⟩, (fun a ha => nomatch ha), hF0, nb, nl⟩
    refine ⟨_, rfl, (nd : Int), rfl, by omega, by omega, for_range (fun i σ H' => ∃ (v5 v6 v7 v8 v9 v10 : Option V) (as : List Addr) (ms : List Nat), σ = [some (.ref b), some (.int (pe : Int)), some (.int (nd : Int)), some (.int (lead : Int)), some (.ref F), v5, v6, v7, v8, v9, v10] ∧ Mk2 b l F H H' as (lnT pe lead ms) ∧ ms.length = i) ⟨none, none, none, none, none, none, [], [], rfl, m0, rfl⟩ ?_ ?_⟩
    · rintro i σ H2 hi ⟨v5, v6, v7, v8, v9, v10, as, ms, rfl, m2, lm⟩
      refine gn ?_
      dsimp only [List.set]
      rw [Int.zero_add]
      refine ⟨_, rfl, b, l, 13, rfl, m2.dl.1, by decide, by decide, fun r H3 ra rb d3 => ?_⟩
      have m3 := m2.draw d3
      obtain ⟨mo, rfl⟩ : ∃ mo : Nat, r = (mo : Int) := ⟨r.toNat, by omega⟩
      refine ⟨(by show 0 ≤ sizeLine; decide), fun R hR => ?_⟩
      obtain ⟨hR0, nRb, nRl, nRF, nRa⟩ := m3.new hR
      have m4 := m3.same (same_new (o := HO.lst []) hR)
      refine nilP ⟨_, _, rfl, ?_⟩
      dsimp only [List.set]
      have hR4 : (upd H3 R (HO.lst [])) R = some (.lst (vrow (lnR pe lead mo 0))) := upd_same
      generalize upd H3 R (HO.lst []) = H4 at m4 hR4 ⊢
      clear m3 m2 d3 hR
      refine seqG (fun σ H' => ∃ (v8 v9 v10 : Option V), σ = [some (.ref b), some (.int (pe : Int)), some (.int (nd : Int)), some (.int (lead : Int)), some (.ref F), some (.int (i : Int)), some (.int (mo : Int)), some (.ref R), v8, v9, v10] ∧ Mk2 b l F H H' as (lnT pe lead ms) ∧ H' R = some (.lst (vrow (lnR pe lead mo (pe + lead))))) ?_ fun go2 => ?_
      rotate_left
      · refine ⟨_, rfl, _, rfl, _, _, rfl, rfl, ((pe : Int) + (lead : Int)), rfl, by omega, by omega, for_range (fun s σ H' => ∃ (v8 v9 v10 : Option V), σ = [some (.ref b), some (.int (pe : Int)), some (.int (nd : Int)), some (.int (lead : Int)), some (.ref F), some (.int (i : Int)), some (.int (mo : Int)), some (.ref R), v8, v9, v10] ∧ Mk2 b l F H H' as (lnT pe lead ms) ∧ H' R = some (.lst (vrow (lnR pe lead mo s)))) ⟨v8, v9, v10, rfl, m4, hR4⟩ ?_ ?_⟩
        · rintro s σ H5 hs ⟨v8, v9, v10, rfl, m5, hR5⟩
          have hsn : s < pe + lead := by omega
          refine gn ?_
          dsimp only [List.set]
          rw [Int.zero_add]
          refine ⟨_, rfl, ?_⟩
          refine gn ?_
          dsimp only [List.set]
          refine seqG (fun σ H' => ∃ v10 : Option V, σ = [some (.ref b), some (.int (pe : Int)), some (.int (nd : Int)), some (.int (lead : Int)), some (.ref F), some (.int (i : Int)), some (.int (mo : Int)), some (.ref R), some (.int (s : Int)), some (.int ((it (pe + lead) lead mo s : Nat) : Int)), v10] ∧ H' = H5) ?_ fun go3 => ?_
          rotate_left
          · refine ⟨_, rfl, (mo : Int), rfl, by omega, by omega, for_range (fun t σ H' => ∃ v10 : Option V, σ = [some (.ref b), some (.int (pe : Int)), some (.int (nd : Int)), some (.int (lead : Int)), some (.ref F), some (.int (i : Int)), some (.int (mo : Int)), some (.ref R), some (.int (s : Int)), some (.int ((it (pe + lead) lead t s : Nat) : Int)), v10] ∧ H' = H5) ⟨v10, rfl, rfl⟩ ?_ (fun σ H' h => go3 σ H' h)⟩
            rintro t σ H' ht ⟨v10, rfl, rfl⟩
            refine gn ?_
            dsimp only [List.set]
            generalize hx : it (pe + lead) lead t s = x
            have hnx : it (pe + lead) lead (t + 1) s = if x + 1 < pe + lead then x + 1 else lead := by rw [← hx]; rfl
            rw [hnx]
            refine ⟨_, rfl, _, _, rfl, rfl, _, rfl, _, rfl, _, _, rfl, rfl, _, _, rfl, rfl, _, rfl, ?_⟩
            refine ifD (fun e => ?_) fun e => ?_
            · have e' : x + 1 < pe + lead := by have := of_decide_eq_true e; omega
              rw [if_pos e']
              exact ⟨_, rfl, _, _, rfl, rfl, _, rfl, rfl⟩
            · have e' : ¬ x + 1 < pe + lead := by have := of_decide_eq_false e; omega
              rw [if_neg e']
              exact ⟨_, rfl, _, rfl, rfl⟩
          rintro σ H' ⟨v10, rfl, rfl⟩
          have ll : (lnR pe lead mo s).length ≤ 1000 := by unfold lnR; rw [List.length_map, List.length_range]; omega
          refine ⟨_, rfl, .inl ⟨rfl, _, SqL.of hR5⟩, _, rfl, R, _, _, rfl, rfl, hR5, szl (by rw [vrow_len]; omega), _, _, _, rfl, m5.put hR0 nRb nRl nRF nRa, ?_⟩
          rw [upd_same, lnR_succ, vrow, vrow, List.map_append]; rfl
        · rintro σ H5 ⟨v8, v9, v10, rfl, m5, hR5⟩
          refine go2 _ _ ⟨v8, v9, v10, rfl, m5, ?_⟩
          rw [show ((pe : Int) + (lead : Int)).toNat = pe + lead by omega] at hR5
          exact hR5
      rintro σ H5 ⟨v8, v9, v10, rfl, m5, hR5⟩
      have la := m5.ll.2.1
      rw [lnT_len] at la
      have hF5 := m5.ll.1
      have mp := m5.push hR5 nRb nRl nRF
      rw [← lnT_snoc] at mp
      refine ⟨_, rfl, .inl ⟨rfl, _, SqL.of hF5⟩, _, rfl, F, _, _, rfl, rfl, hF5, szl (by rw [List.length_map]; omega), _, _, _, _, _, _, as ++ [R], ms ++ [mo], rfl, ?_, by rw [List.length_append, lm]; rfl⟩
      rw [List.map_append] at mp
      exact mp
    · rintro σ H2 ⟨v5, v6, v7, v8, v9, v10, as, ms, rfl, m2, lm⟩
      exact ⟨_, rfl, done lead ms F _ m2.dl l1 l12 (by rw [lm]; rfl) ⟨as, m2.ll, m2.fb, m2.fl, fun a ha => ⟨(m2.nf a ha).1, (m2.nf a ha).2.1⟩⟩⟩
end
end K1
namespace K1
open PySem PySem.Spec PyProof.Rows L2
noncomputable def shR (tb : Ts) (fi : Int) (acts r : List Int) : Bool := decide (run tb fi (rc acts r) = run tb fi (rc acts (r.map mn1)))
noncomputable def shB (tb : Ts) (fi : Int) (acts : List Int) (rs : Rwz) (n : Nat) : List Bool := (List.range n).map fun h => shR tb fi acts (rs.getD h [])
theorem shB_succ (tb : Ts) (fi : Int) (acts : List Int) (rs : Rwz) (n : Nat) : shB tb fi acts rs (n + 1) = shB tb fi acts rs n ++ [shR tb fi acts (rs.getD n [])] := by unfold shB; rw [List.range_succ, List.map_append]; rfl
noncomputable def spLSh (M W : Addr) : Sp := fun vs H Q _ => ∃ (p w sl : Addr) (fi : Int) (tas : List Addr) (tb : Ts) (n : Nat) (ps : Prs) (cs : List Addr) (ss : List Stp), vs = [.ref p, .ref w, .int fi, .ref sl] ∧ LLq H p tas tb ∧ Wf tb ∧ (0 ≤ fi ∧ fi < (nS tb : Int)) ∧ Cmm tb fi ∧ WebAt W H w n ps ∧ Wv n ps ∧ H sl = some (.lst (cs.map V.ref)) ∧ StpsA H cs ss ∧ (∀ s ∈ ss, okS n ps.length tb.length s) ∧ ss.length ≤ 60 ∧
  ∀ q H', Same H H' → H q = none → H' q = some (.lst ((shB tb fi (actD ss) (cnt n ps ss).hs n).map V.bl)) → Q (.ref q) H'
section
variable {P : Program} {w : World} {K : PySem.W.Frag} {mg : Str → Option Value} {base : Heap}
noncomputable abbrev nSh : List Str := ["_law_tables", "_law_web_here", "_law_first", "_law_steps_here", "_law_machine", "_law_found", "_law_states", "_law_rows", "_law_house", "_law_state", "_law_plain", "_law_told", "_law_count"]
theorem scSh : FnScope nSh ["_law_tables", "_law_web_here", "_law_first", "_law_steps_here"] (defScope sLShown) := ⟨rfl, rfl, rfl, by decide +kernel, rfl, by decide +kernel, by decide +kernel⟩
theorem ok_lsh {f fLC fLB fSA fPS fM M W CM CB CU CS CH : Addr} {fd fdLC fdLB fdSA fdPS fdM : FuncData} (D : Df K mg "_law_shown" sLShown ["_law_tables", "_law_web_here", "_law_first", "_law_steps_here"] f fd) (DLC : Df K mg "_law_counts" sLCounts ["_law_many", "_law_ties", "_law_steps_here"] fLC fdLC) (DLB : Df K mg "_law_led_by" sLLedBy ["_law_tables", "_law_first", "_law_steps_here", "_law_counts_here"] fLB fdLB)
    (DSA : Df K mg "standing_after" sStandingAfter ["machine", "web", "first", "steps"] fSA fdSA) (DPS : Df K mg "plain_state" sPlainState ["machine", "web", "first", "steps", "house"] fPS fdPS) (B : Bt mg) (TMa : McT K mg M) (TW : WcT K mg W) (MM : Mk K M fM) (BM : Binds K fdM ["self", "tables"] [])
    (GLC : FnOk P w K mg base CX0 1 fLC fdLC ["_law_many", "_law_ties", "_law_steps_here"] spLCts) (GLB : FnOk P w K mg base CX0 1 fLB fdLB ["_law_tables", "_law_first", "_law_steps_here", "_law_counts_here"] spLLb) (GM : FnOk P w K mg base (L2.CX P w) 6 fM fdM ["self", "tables"] (spMInit K CM M))
    (GSA : FnOk P w K mg base (L2.CX P w) 9 fSA fdSA ["machine", "web", "first", "steps"] (spStandA K M W CB CU)) (GPS : FnOk P w K mg base (L2.CX P w) 7 fPS fdPS ["machine", "web", "first", "steps", "house"] (spPlain K M W CS CB CH)) :
    FnOk P w K mg base CX0 10 f fd ["_law_tables", "_law_web_here", "_law_first", "_law_steps_here"] (spLSh M W) := by
  refine D.F.ok scSh (fun vs H Q E h => ?_) (fun cdv A outer s H vs Q E hr h => ?_)
  · obtain ⟨p, w, sl, fi, tas, tb, n, ps, cs, ss, rfl, _⟩ := h
    rfl
  · obtain ⟨p, w, sl, fi, tas, tb, n, ps, cs, ss, rfl, hLL, wf, hfi, cmm, hw, hW, hp, hA, hok, hl6, q⟩ := h
    have hu := hr.units
    have r1 := hr.mono (show 1 ≤ 9 by decide)
    have r7 := hr.mono (show 7 ≤ 9 by decide)
    have rM := hr.mono (show 7 ≤ 9 by decide)
    have r9 := hr
    refine ⟨_, (pss_cons (ps_par (i := 4) (j := 5) rfl scSh.nd rfl rfl (by decide) rfl rfl (pa_cons (pe_make MM GM rM rfl TMa.g BM .nil passF' (pa_cons (pv 0) pa_nil)) (pa_cons (pe_lst pa_nil) pa_nil)) rfl)
    (pss_cons (ps_set (i := 6) scSh.nd rfl (.inl rfl) (pe_ix ix_tup (pc DSA GSA r9 passF' (pa_cons (pv 4) (pa_cons (pv 1) (pa_cons (pv 2) (pa_cons (pv 3) pa_nil))))) pe_int (fun _ _ => rfl)))
    (pss_cons (ps_set (i := 7) scSh.nd rfl (.inl rfl) (pe_ix ix_list (pc DLC GLC r1 pass0 (pa_cons (pe_fld (pv 1) rfl) (pa_cons (pe_fld (pv 1) rfl) (pa_cons (pv 3) pa_nil)))) pe_int (fun _ _ => rfl)))
    (pss_cons (ps_for PassesOwn.never rfl (pi_range1 (by rfl) B.range (pa_cons (pe_fld (pv 1) rfl) pa_nil)) (pg_name (i := 8) scSh.nd rfl (.inl rfl))
      (pss_cons (ps_set (i := 9) scSh.nd rfl (.inl rfl) (pc DLB GLB r1 pass0 (pa_cons (pv 0) (pa_cons (pv 2) (pa_cons (pv 3) (pa_cons (pe_ix ix_list (pv 7) (pv 8) (fun _ _ => rfl)) pa_nil))))))
      (pss_cons (ps_set (i := 10) scSh.nd rfl (.inl rfl) (pc DLB GLB r1 pass0 (pa_cons (pv 0) (pa_cons (pv 2) (pa_cons (pv 3) (pa_cons (pe_lc (own := [("_law_count", 12)]) (g := gName 12) (tt := tYes) rfl scSh.nd (pi_list (pe_ix ix_list (pv 7) (pv 8) (fun _ _ => rfl))) (blkOk_by (N := nSh) (sc := defScope sLShown) (by decide +kernel)) (fun _ _ _ _ _ => (pg_name (i := 12) scSh.nd rfl (Or.inl rfl))) (fun _ _ _ _ _ => pts_nil) (fun _ _ _ _ _ => (pe_callB (call_min2 rfl) (by rfl) B.min (by decide +kernel) (pa_cons pe_int (pa_cons (pv 12) pa_nil))))) pa_nil))))))
      (pss_cons (ps_set (i := 11) scSh.nd rfl (.inl rfl) (pe_tup (pa_cons (pe_ix ix_tup (pv 6) (pv 8) (fun _ _ => rfl)) (pa_cons (pc DPS GPS r7 passF' (pa_cons (pv 4) (pa_cons (pv 1) (pa_cons (pv 2) (pa_cons (pv 3) (pa_cons (pv 8) pa_nil)))))) pa_nil))))
      (pss_one (ps_expr (pe_bm PySem.F.plainAttrs_list PySem.F.slot_list_append PySem.F.type_list_append mt_append (pv 5) (pa_cons (pe_ifExp (pt_cmpR (eqD (K := K) rfl hu) (pv 11) (pe_tup (pa_cons (pv 9) (pa_cons (pv 10) pa_nil))) (nomark _)) (pe_cmpR op_eq (pv 9) (pv 10) (nomark _)) pe_non) pa_nil))))))))
    (pss_one (ps_ret (pv 5))))))), ?_⟩
    have n12 := hW.n12
    have C := cnt_cur hW hok
    have al : (actD ss).length ≤ 60 := Nat.le_trans (actD_len ss) hl6
    -- the machine
    refine ⟨_, rfl, fun mc mdx hm0 hmdx nem => ?_⟩
    have smm := mkSameN (o1 := HO.own mc) (o2 := HO.ins M mdx []) hm0 hmdx nem
    refine ⟨mc, mdx, .ref p, some ((vts tb).map some), rfl, upd_same, (hLL.same smm).mv, fun z hz => (by rw [chk_wf wf] at hz; cases hz), fun _ ts' es ta H1 k1 hM => ⟨rfl, ?_⟩⟩
    obtain rfl := vts_inj es
    have s1 : Same H H1 := fun c u ec => k1 c u (smm c u ec) (ne_of_none ec hm0)
    clear smm k1 hm0 hmdx nem es
    refine ⟨(by show 0 ≤ sizeLine; decide), fun F hF => nilP ⟨_, _, rfl, ?_⟩⟩
    dsimp only [List.set]
    have sF := same_new (o := HO.lst []) hF
    have hFF : (upd H1 F (HO.lst [])) F = some (.lst []) := upd_same
    have hM2 := hM.same sF
    have s2 := s1.trans sF
    have hF0 : H F = none := s1.free hF
    generalize upd H1 F (HO.lst []) = H2 at hFF hM2 s2 ⊢
    clear hM sF s1
    -- what a net stands at
    refine ⟨_, rfl, _, rfl, _, rfl, _, rfl, ?_⟩
    obtain ⟨s, rrun, led⟩ := led_run (e := ⟨mc, ta, w, tb, n, ps, fi⟩) cmm hW ss hok
    have ledh : ∀ h, h < n → s.ss.getD h 0 = run tb fi (rc (actD ss) ((cnt n ps ss).hs.getD h [])) := fun h hh => by
      have := led.h h hh
      rw [C.ds] at this; exact this
    have lss : s.ss.length = n := led.ls
    refine nilP ⟨⟨mc, ta, w, tb, n, ps, fi⟩, .ref sl, _, rfl, ⟨hM2, hw.same s2, wf, hW⟩, hfi, svs_right (.lst (s2 _ _ hp)) (hA.same s2), fun z ez => (by rw [sf_right hok (by omega)] at ez; cases ez), fun ss' es' _ _ => ?_⟩
    obtain rfl := stV_inj _ _ (Option.some.inj es')
    refine ⟨fun sx p2 sa2 aa2 H3 hr2 s3 hp2' hs2 ha2 => ?_, fun x1 x2 x3 hb => (rrun.no_brk hb).elim⟩
    obtain rfl := rrun.uniq hr2
    refine ⟨p2, _, (0 : Int), .ref sa2, rfl, rfl, SqT.of hp2', at_i (i := 0) rfl, ?_⟩
    refine gn ?_
    dsimp only [List.set]
    have s23 := s2.trans s3
    have hFF3 := s3 _ _ hFF
    -- the counts
    obtain ⟨dxw, tw, w1, w2⟩ := id (hw.same s23)
    refine ⟨_, rfl, w, W, dxw, _, _, rfl, w1, TW.cl, TW.nH, wf_h _ _, _, rfl, w, W, dxw, _, _, rfl, w1, TW.cl, TW.nT, wf_t _ _, _, rfl, ?_⟩
    refine nilP ⟨tw, sl, true, n, tb.length, ps, cs, ss, rfl, w2, hW, s23 _ _ hp, hA.same s23, hok, by omega, fun q0 hl al' hs as' H4 s4 nl nhs hq0 hh ha => ?_⟩
    refine ⟨q0, _, (0 : Int), .ref hl, rfl, rfl, SqL.of hq0, at_i (i := 0) rfl, ?_⟩
    refine gn ?_
    dsimp only [List.set]
    have nlF : hl ≠ F := fun z => by rw [z, hFF3] at nl; cases nl
    have nhF : ∀ x ∈ hs, x ≠ F := fun x hx z => by have := nhs x hx; rw [z, hFF3] at this; cases this
    have hFF4 := s4 _ _ hFF3
    have s24 := s23.trans s4
    have hM4 := hM2.same (s3.trans s4)
    have hsa4 := s4 _ _ hs2
    have ok := C.ok
    have Cnn := C.nn
    have hw4 := hw.same s24
    generalize hacts : actD ss = acts at *
    generalize hu' : cnt n ps ss = u at *
    clear ha hq0 w1 w2 hp2' ha2 s23 hFF3 hM2 s2 hFF hr2
    obtain ⟨dxw4, tw4, w14, _⟩ := id hw4
    refine ⟨_, rfl, w, W, dxw4, _, _, rfl, w14, TW.cl, TW.nH, wf_h _ _, (n : Int), rfl, by omega, by omega, for_range (fun i σ H' => ∃ v8 v9 v10 v11 : Option V, σ = [some (.ref p), some (.ref w), some (.int fi), some (.ref sl), some (.ref mc), some (.ref F), some (.ref sa2), some (.ref hl), v8, v9, v10, v11, none] ∧ (∀ c o, H4 c = some o → c ≠ F → H' c = some o) ∧ H' F = some (.lst ((shB tb fi acts u.hs i).map V.bl))) ⟨none, none, none, none, rfl, fun _ _ e _ => e, hFF4⟩ ?_ ?_⟩
    · rintro i σ H5 hi ⟨v8, v9, v10, v11, rfl, ks, hF5⟩
      have hin : i < n := by omega
      have kp : Kp H4 H5 := fun c o e _ nl => ks c o e (fun z => nl [] (by rw [z, hFF4] at e; exact (Option.some.inj e).symm))
      have hM5 := hM4.kp kp
      have hw5 := hw4.kp kp
      have hsl5 := ks _ _ (s24 _ _ hp) (ne_of_none hp hF0)
      have hA5 := (hA.same s24).kp kp
      have hLL5 : LLq H5 p tas tb := ⟨ks _ _ (s24 _ _ hLL.1) (ne_of_none hLL.1 hF0), hLL.2.1, fun i a t e1 e2 => ks _ _ (s24 _ _ (hLL.2.2 i a t e1 e2)) (ne_of_none (hLL.2.2 i a t e1 e2) hF0)⟩
      have hsa5 := kp.tup hsa4
      obtain ⟨x, hx1⟩ := ex_at (l := hs) (i := i) (by rw [hh.2.1, ok.lh]; exact hin)
      have hh5 := ks _ _ hh.1 nlF
      have hx5 := ks _ _ (hh.2.2 i x _ hx1 (getL (by rw [ok.lh]; exact hin))) (nhF x (List.mem_of_getElem? hx1))
      have rl := ok.row hin
      have rnn : ∀ a, 0 ≤ (u.hs.getD i []).getD a 0 := fun a => Cnn i a
      have ePl := rc_mn acts (u.hs.getD i []) rnn rl.symm
      have eS := ledh i hin
      have esh := shB_succ tb fi acts u.hs i
      have elen : ∀ k, (shB tb fi acts u.hs k).length = k := fun k => by unfold shB; rw [List.length_map, List.length_range]
      have mnn : ∀ a, 0 ≤ ((u.hs.getD i []).map mn1).getD a 0 := fun a => by
        rw [List.getD_eq_getElem?_getD]
        cases e : ((u.hs.getD i []).map mn1)[a]? with
        | none => exact Int.le_refl _
        | some v =>
          obtain ⟨y, hy, rfl⟩ := List.mem_map.mp (List.mem_of_getElem? e)
          obtain ⟨b, hb⟩ := List.getElem?_of_mem hy
          have := rnn b
          rw [List.getD_eq_getElem?_getD, hb] at this
          have : 0 ≤ y := this
          show 0 ≤ mn1 y
          unfold mn1; split <;> omega
      have bS : (run tb fi (rc acts (u.hs.getD i []))).natAbs < 10 ^ 19 ∧ (run tb fi (rc acts ((u.hs.getD i []).map mn1))).natAbs < 10 ^ 19 := by
        have ain : ∀ d ∈ acts, 0 ≤ d ∧ d < (tb.length : Int) := fun d hd => actD_mem hok d (by rw [hacts]; exact hd)
        have h1 := wf.run (rc acts (u.hs.getD i [])) fi (fun z hz => ain z (mem_rc hz)) hfi
        have h2 := wf.run (rc acts ((u.hs.getD i []).map mn1)) fi (fun z hz => ain z (mem_rc hz)) hfi
        have := wf.s12
        omega
      have shr : shR tb fi acts (u.hs.getD i []) = decide (V.int (run tb fi (rc acts (u.hs.getD i []))) = V.int (run tb fi (rc acts ((u.hs.getD i []).map mn1)))) := by
        unfold shR
        exact decide_eq_decide.mpr ⟨fun e => by rw [e], fun e => by injection e⟩
      rw [shr] at esh
      clear shr
      generalize hr0 : u.hs.getD i [] = r at hx5 rl rnn ePl eS esh mnn bS
      generalize hS : run tb fi (rc acts r) = S at eS esh bS
      generalize hP : run tb fi (rc acts (r.map mn1)) = Pl at ePl esh bS
      refine gn ?_
      dsimp only [List.set]
      rw [Int.zero_add]
      refine ⟨_, rfl, _, rfl, _, rfl, _, rfl, _, rfl, hl, _, (i : Int), .ref x, rfl, rfl, SqL.of hh5, at_i (map_at hx1), nilP ⟨p, sl, x, fi, tas, tb, n, ps.length, cs, ss, r, rfl, hLL5, wf, hfi, hsl5, hA5, hok, by omega, hx5, by rw [hacts, rl], rnn, fun H6 s6 => ?_⟩⟩
      rw [hacts, hS]
      refine gn ?_
      dsimp only [List.set]
      have hx6 := s6 _ _ hx5
      refine ⟨_, rfl, _, rfl, _, rfl, _, rfl, _, rfl, hl, _, (i : Int), .ref x, rfl, rfl, SqL.of (s6 _ _ hh5), at_i (map_at hx1), x, rfl, ⟨_, SqL.of hx6⟩, fun D9 hD9 => lc_list (K := K) (a := x) (xs := vrow r) (fun j H' => Same H6 H' ∧ H' D9 = some (.lst (vrow ((r.map mn1).take j)))) ⟨same_new hD9, by rw [upd_same]; rfl⟩ (fun j H' _ ⟨s9, _⟩ => SqL.of (s9 _ _ hx6)) ?_ ?_⟩
      · rintro j y H9 hy ⟨s9, hD99⟩
        obtain ⟨c, hc, rfl⟩ := vrow_at hy
        have jl := lt_at hc
        refine ⟨rfl, _, rfl, _, _, rfl, _, hD99, szl (by rw [vrow_len, List.length_take, List.length_map]; omega), fun c' o e => by rw [upd_ne (ne_of_none e hD9)]; exact s9 _ _ e, ?_⟩
        have ez : (r.map mn1)[j]? = some (mn1 c) := map_at hc
        rw [upd_same, take_succ ez, vrow, vrow, List.map_append]; rfl
      rintro H9 ⟨s9, hD99⟩
      rw [vrow_len, List.take_of_length_le (by rw [List.length_map]; exact Nat.le_refl _)] at hD99
      have s59 := s6.trans s9
      refine nilP ⟨p, sl, D9, fi, tas, tb, n, ps.length, cs, ss, r.map mn1, rfl, hLL5.same s59, wf, hfi, s59 _ _ hsl5, hA5.same s59, hok, by omega, hD99, by rw [hacts, List.length_map, rl], mnn, fun H10 s10 => ?_⟩
      rw [hacts, hP]
      refine gn ?_
      dsimp only [List.set]
      have s510 := s59.trans s10
      refine ⟨_, rfl, _, rfl, sa2, _, (i : Int), .int (s.ss.getD i 0), rfl, rfl, SqT.of (s510 _ _ hsa5), at_i (vrow_get (by rw [lss]; exact hin)), ?_⟩
      rw [eS]
      refine ⟨_, rfl, _, rfl, _, rfl, _, rfl, _, rfl, ?_⟩
      refine nilP ⟨mc, ta, w, tb, n, ps, .int fi, .ref sl, .int (i : Int), none, _, none, rfl, hM5.same s510, wf, hw5.same s510, hW, .int _, svs_right (.lst (s510 _ _ hsl5)) (hA5.same s510), .int _, fun hb => (by rw [belowOk hfi] at hb; cases hb), fun _ => ⟨fun z ez => (by rw [sf_right hok (by omega)] at ez; cases ez), fun ss' es' _ _ => ?_⟩⟩
      obtain rfl := stV_inj _ _ (Option.some.inj es')
      refine ⟨fun hb => ?_, fun fi' h' e1 e2 hn' H11 s11 => ?_⟩
      · rw [belowB_nat, decide_eq_true hin] at hb; cases hb
      injection e1 with e1
      injection e2 with e2
      obtain rfl : i = h' := by omega
      rw [← e1, hu', hr0, hacts, ← ePl, hP]
      have s511 := s510.trans s11
      refine nilP ⟨(by show 2 ≤ sizeLine; decide), fun T hT => ?_⟩
      refine gn ?_
      dsimp only [List.set]
      have sT := same_new (o := HO.tup [V.int S, .int Pl]) hT
      have hT1 : (upd H11 T (HO.tup [V.int S, .int Pl])) T = some (.tup (vrow [S, Pl])) := upd_same
      have s512 := s511.trans sT
      generalize upd H11 T (HO.tup [V.int S, .int Pl]) = H12 at hT1 s512 ⊢
      have sml : ∀ z ∈ [S, Pl], z.natAbs < 10 ^ 19 := fun z hz => by
        rcases List.mem_cons.mp hz with rfl | hz
        · exact bS.1
        · rw [List.mem_singleton.mp hz]; exact bS.2
      refine ⟨_, rfl, .inl ⟨rfl, _, SqL.of (s512 _ _ hF5)⟩, _, rfl, _, rfl, _, rfl, (by show 2 ≤ sizeLine; decide), fun T2 hT2 => ?_⟩
      have s13 := same_new (o := HO.tup [V.int S, .int Pl]) hT2
      refine eqDP (.tup (SqT.of (s13 _ _ hT1)) (dp_ints _)) (.tup (SqT.of upd_same) (dp_ints [S, Pl])) (K1.Pl.tuple (pla_ints _ sml)) (by decide) ⟨_, rfl, iteT ?_⟩
      have s513 := s512.trans s13
      have hF13 := s513 _ _ hF5
      refine ⟨_, rfl, _, rfl, rfl, ?_⟩
      refine nilP ⟨F, _, _, rfl, rfl, hF13, szl (by rw [List.length_map, elen]; omega), _, _, _, _, rfl, fun c o e nF => by rw [upd_ne nF]; exact s513 _ _ (ks c o e nF), ?_⟩
      rw [upd_same, esh, List.map_append]; rfl
    · rintro σ H5 ⟨v8, v9, v10, v11, rfl, ks, hF5⟩
      rw [Int.toNat_natCast] at hF5
      exact ⟨_, rfl, q F H5 (fun c o e => ks c o (s24 _ _ e) (ne_of_none e hF0)) hF0 hF5⟩
end
end K1
namespace K1
open PySem PySem.Spec PyProof.Rows L2
noncomputable def Wr (K : PySem.W.Frag) (b l : Addr) (n t d : Nat) (H : Hp) (v : V) : Prop := ∀ H', Ks [b, l] H H' → ∃ r, Sv K H' v r ∧ stB n t d r = false
section
variable {K : PySem.W.Frag} {b l : Addr} {n t d : Nat} {H H1 : Hp}
theorem Wr.ks {v : V} (w : Wr K b l n t d H v) (k : Ks [b, l] H H1) : Wr K b l n t d H1 v := fun H' k' => w H' (k.trans k')
noncomputable def fl : V → Bool | .int _ => true | .bl _ => true | .non => true | .str _ => true | _ => false
theorem fl_kv {v : V} (h : fl v = true) : KV K H v none := by
  cases v <;> first | exact .int _ | exact .bl _ | exact .non | exact .str _ | (cases h)
noncomputable def fi0 : List V → Bool | [] => true | .str s :: _ => PyData.strOk s | .int _ :: _ => true | _ => false
theorem fi0_fi {ys : List V} (h : fi0 ys = true) : ∀ y r, some ys = some (y :: r) → Fi H y := fun y r e => by
  obtain rfl := Option.some.inj e
  cases y <;> first | exact .inl ⟨_, rfl, h⟩ | exact .inr (.inl ⟨_, rfl⟩) | (cases h)
theorem wr_tup {p : Addr} {ys : List V} (hp : H p = some (.tup ys)) (hb : DealO H b l) (h1 : ys.all fl = true) (h2 : fi0 ys = true) (h3 : stB n t d (some ys) = false) : Wr K b l n t d H (.ref p) := fun H' k => by
  have hp' := k.tup hp (by
    obtain ⟨_, ns, z, _, g2, g3⟩ := hb
    intro m
    simp only [List.mem_cons, List.mem_nil_iff, or_false] at m
    rcases m with m | m
    · rw [m, g2] at hp; cases hp
    · rw [m, g3] at hp; cases hp)
  exact ⟨some ys, ⟨⟨.tup hp', fun zs e y hy => by obtain rfl := Option.some.inj e; exact ⟨none, fl_kv (List.all_eq_true.mp h1 y hy)⟩⟩, fi0_fi h2⟩, h3⟩
theorem wr_fl {v : V} (h : fl v = true) : Wr K b l n t d H v := fun H' k => ⟨none, ⟨⟨fl_kv h, fun ys e => by cases e⟩, fun y ys e => by cases e⟩, rfl⟩
end
theorem rh_bad {K : PySem.W.Frag} {W C : Addr} {H : Hp} {Q : VK} {E : XK} {w : Addr} {n k : Nat} {ps : Prs} {v : V} {o : Option (List (Option (List V)))} (hw : WebAt W H w n ps) (hW : Wv n ps) (hv : Svs K H v o) (hf : sfV n ps.length 8 o = .int (k : Int)) (q : Rz C "at" (.int (k : Int)) H E) : spRH K W C [.ref w, v] H Q E :=
  ⟨w, v, o, n, ps, rfl, hw, hW, hv, fun z ez => (by
    have e2 : V.int z = V.int (k : Int) := ez.symm.trans hf
    injection e2 with e2
    rw [e2]; exact q), fun ss e hok hl => (by
    rw [e, sf_right hok hl] at hf; cases hf)⟩
theorem Dl.ks {b l : Addr} {H H' : Hp} (d : Dl b l H H') : Ks [b, l] H H' := fun c o e n _ => d.2 c o e (fun z => n (by rw [z]; exact List.mem_cons_self)) (fun z => n (by rw [z]; exact List.mem_cons_of_mem _ List.mem_cons_self))
theorem same_ks {xs : List Addr} {H H' : Hp} (s : Same H H') : Ks xs H H' := fun c o e _ _ => s c o e
theorem ext_ks {xs : List Addr} {H H' : Hp} (s : LamX.ExtN H H') : Ks xs H H' := fun c o e _ n => s c o e n
theorem tup3C {a b c : V} {u : TA} {σ : L2.St} {H : Hp} {Q : List V → Hp → Prop} (h : 3 ≤ sizeLine ∧ ∀ p, H p = none → u σ (upd H p (.tup [a, b, c])) fun vs H' => Q (.ref p :: vs) H') : tCons (tTup (tCons (tC a) (tCons (tC b) (tCons (tC c) tNil)))) u σ H Q := h
theorem tup0C {u : TA} {σ : L2.St} {H : Hp} {Q : List V → Hp → Prop} (h : 0 ≤ sizeLine ∧ ∀ p, H p = none → u σ (upd H p (.tup [])) fun vs H' => Q (.ref p :: vs) H') : tCons (tTup tNil) u σ H Q := h
theorem cmm_paper {ts : Ts} {fi : Int} {ns : List Int} {r : Option (Int × Int × Int)} (hc : Cmm ts fi) (mem : ∀ x, x ∈ ns ↔ Rch ts fi x) (p : PaperIs ts ns r) : r = none := by
  cases r with
  | none => rfl
  | some q =>
    obtain ⟨x, a, b⟩ := q
    obtain ⟨i, h1, h2, h3, h4, _⟩ := p
    obtain ⟨row, hr, e⟩ := (mem x).mp (List.mem_of_getElem? h1)
    exact absurd h4 (hc x (by rw [← e]; exact reach_run row fi .refl hr) a b h2 h3)
theorem nd_dec (pe : Nat) (x : Int) : decide (V.int (x % (pe : Int)) = V.int 0) = decide (pe ∣ x.natAbs) := by
  refine decide_eq_decide.mpr ⟨fun e => ?_, fun e => ?_⟩
  · injection e with e
    exact Int.ofNat_dvd_left.mp (Int.dvd_of_emod_eq_zero e)
  · rw [Int.emod_eq_zero_of_dvd (Int.ofNat_dvd_left.mpr e)]
theorem ct_tells {m d nd : Nat} {acts r : List Int} (m1 : 1 ≤ m) (rn : ∀ c ∈ r, 0 ≤ c) (ain : ∀ e ∈ acts, 0 ≤ e ∧ e < (nd : Int)) (hn : ¬ m ∣ (dM (d : Int) r acts).natAbs) : shR (ctT m d nd) 0 acts r = false := by
  unfold shR
  refine decide_eq_false fun e => ?_
  have mnn : ∀ c ∈ r.map mn1, 0 ≤ c := fun c hc => by
    obtain ⟨y, hy, rfl⟩ := List.mem_map.mp hc
    have := rn y hy
    unfold mn1; split <;> omega
  have hmn := dS_mn (d : Int) r acts rn
  have rS := ct_run (m := m) (d := d) (nd := nd) m1 (rc acts r) 0 (by omega) fun e he => ain e (mem_rc he)
  have rP := ct_run (m := m) (d := d) (nd := nd) m1 (rc acts (r.map mn1)) 0 (by omega) fun e he => ain e (mem_rc he)
  rw [Nat.zero_add] at rS rP
  have rS : run (ctT m d nd) 0 (rc acts r) = _ := rS
  have rP : run (ctT m d nd) 0 (rc acts (r.map mn1)) = _ := rP
  rw [rS, rP] at e
  have c1 := cntD_rc d acts r rn
  have c2 := cntD_rc d acts (r.map mn1) mnn
  rw [Int.natCast_emod, Int.natCast_emod, Int.emod_eq_emod_iff_emod_sub_eq_zero, c1, c2, hmn] at e
  refine hn (Int.ofNat_dvd_left.mp (Int.dvd_of_emod_eq_zero ?_))
  rw [← e]; congr 1; omega
theorem dp_bls {K : PySem.W.Frag} {H : Hp} : ∀ bs : List Bool, DpAll K H (bs.map V.bl) (bs.map PyData.bool)
  | [] => .nil
  | b :: bs => .cons (.bl b) (dp_bls bs)
theorem pla_bls : ∀ bs : List Bool, PlA (bs.map PyData.bool) 0 bs.length
  | [] => PlA.nil
  | b :: bs => (PlA.cons (Pl.bl b) (pla_bls bs)).mono (by decide) (by rw [List.length_cons]; omega)
theorem WebAt.ext {W w : Addr} {n : Nat} {ts : Prs} {H H1 : Hp} (h : WebAt W H w n ts) (s : LamX.ExtN H H1) : WebAt W H1 w n ts := h.kp (Kp.ext s)
structure Sb2 (W b l tl pp w : Addr) (T : List (Addr × Str)) (n : Nat) (ts : Prs) (as scs : List Addr) (sts : List Stp) (H : Hp) : Prop where
  dl : DealO H b l
  tb : LamX.Tabs T H
  wb : WebAt W H w n ts
  tie : TL b l tl H as ts
  st : SL b l pp H scs sts
section
variable {W b l tl pp w : Addr} {T : List (Addr × Str)} {n : Nat} {ts : Prs} {as scs : List Addr} {sts : List Stp} {H H1 : Hp}
theorem TL.ext (t : TL b l tl H as ts) (s : LamX.ExtN H H1) : TL b l tl H1 as ts := ⟨s _ _ t.h (fun ps z => by cases z), ⟨t.ps.1, fun i a q e1 e2 => s _ _ (t.ps.2 i a q e1 e2) (fun ps z => by cases z)⟩, t.nb, t.nl, t.na⟩
theorem Sb2.same (x : Sb2 W b l tl pp w T n ts as scs sts H) (s : Same H H1) : Sb2 W b l tl pp w T n ts as scs sts H1 := ⟨x.dl.same s, x.tb.ext s, x.wb.same s, x.tie.same s, x.st.same s⟩
theorem Sb2.draw (x : Sb2 W b l tl pp w T n ts as scs sts H) (d : Dl b l H H1) : Sb2 W b l tl pp w T n ts as scs sts H1 := ⟨d.1, tabs_dl x.tb x.dl d, x.wb.kp (Kp.dl x.dl d), x.tie.dl x.dl d, x.st.dl x.dl d⟩
theorem Sb2.ext (x : Sb2 W b l tl pp w T n ts as scs sts H) (s : LamX.ExtN H H1) (t : LamX.Tabs T H1) : Sb2 W b l tl pp w T n ts as scs sts H1 :=
  ⟨x.dl.ext s, t, x.wb.ext s, x.tie.ext s, ⟨s _ _ x.st.h (fun ps z => by cases z), x.st.ps.kp (Kp.ext s), x.st.nb, x.st.nl⟩⟩
end
structure Su2 (b l su : Addr) (L : List Sm) (H : Hp) : Prop where
  ex : ∃ cs : List Addr, H su = some (.lst (cs.map V.ref)) ∧ SumsA H cs L
  nb : su ≠ b
  nl : su ≠ l
theorem Su2.same {b l su : Addr} {L : List Sm} {H H1 : Hp} (x : Su2 b l su L H) (s : Same H H1) : Su2 b l su L H1 := let ⟨⟨cs, h1, h2⟩, n1, n2⟩ := x; ⟨⟨cs, s _ _ h1, h2.same s⟩, n1, n2⟩
theorem Su2.draw {b l su : Addr} {L : List Sm} {H H1 : Hp} (x : Su2 b l su L H) (hb : DealO H b l) (d : Dl b l H H1) : Su2 b l su L H1 := by
  obtain ⟨⟨cs, h1, h2⟩, n1, n2⟩ := x
  have k := Kp.dl hb d
  exact ⟨⟨cs, d.2 _ _ h1 n1 n2, h2.1, fun i c t e1 e2 => k.tup (h2.2 i c t e1 e2)⟩, n1, n2⟩
end K1
namespace K1
open PySem PySem.Spec PyProof.Rows L2
noncomputable abbrev qLa : Str := "law.<locals>.<lambda>"
theorem crMaxK {X : Cx} {K : PySem.W.Frag} (h : X.K = K) (hc : X.calm = true) : CallR X (.builtin "max") (rMax K) := by subst h; exact cr_max hc
noncomputable abbrev gM : List Value → List Value → List Value := fun us ws => us ++ ws.reverse
noncomputable abbrev gMV : List V → List V → List V := fun us ws => us ++ ws.reverse
theorem kb_rh {K : PySem.W.Frag} {f : Addr} {fd : FuncData} (F : Fun K "run_harm" "run_harm" sRunHarm f fd) : KBn K fd ["web", "steps"] 0 ["steps", "web"] gM gMV := by
  obtain ⟨oc, od, kV, doc, pm, an, cdv, ct, osl, rfl, lk, hcd⟩ := F.ex
  refine ⟨fun s us ws _ h0 h1 => .of_eq ?_, fun r q => r.append q.reverse⟩
  obtain rfl := List.eq_nil_of_length_eq_zero h0
  obtain ⟨a, b, rfl⟩ := len2 h1
  rfl
structure Dn (P : Program) (w : World) (K : PySem.W.Frag) (mg : Str → Option Value) (base : Heap) (M W CM CB CUc CS : Addr) (T : List (Addr × Str)) : Prop where
  B : Bt mg
  hd : Hd K mg base CB
  TM : McT K mg M
  TW : WcT K mg W
  dealt : ∃ f fd, Df K mg "_law_dealt" sLDealt ["_law_script"] f fd ∧ FnOk P w K mg base CX0 1 f fd ["_law_script"] (spDealt K)
  any : ∃ f fd, Df K mg "_law_any" sLAny ["_law_deal", "_law_bound"] f fd ∧ FnOk P w K mg base CX0 1 f fd ["_law_deal", "_law_bound"] spAny
  of : ∃ f fd, Df K mg "_law_of" sLOf ["_law_deal", "_law_some"] f fd ∧ FnOk P w K mg base CX0 2 f fd ["_law_deal", "_law_some"] spOf
  web : ∃ f fd, Df K mg "_law_web" sLWeb ["_law_deal", "_law_most"] f fd ∧ FnOk P w K mg base CX0 3 f fd ["_law_deal", "_law_most"] spWeb
  ls : ∃ f fd, Df K mg "_law_steps" sLSteps ["_law_deal", "_law_many", "_law_ties", "_law_deeds", "_law_length"] f fd ∧ FnOk P w K mg base CX0 2 f fd ["_law_deal", "_law_many", "_law_ties", "_law_deeds", "_law_length"] spLSteps
  rh : ∃ f fd, Df K mg "run_harm" sRunHarm ["web", "steps"] f fd ∧ FnOk P w K mg base (L2.CX P w) 7 f fd ["web", "steps"] (spRH K W CB)
  lc : ∃ f fd, Df K mg "_law_counts" sLCounts ["_law_many", "_law_ties", "_law_steps_here"] f fd ∧ FnOk P w K mg base CX0 1 f fd ["_law_many", "_law_ties", "_law_steps_here"] spLCts
  su : ∃ f fd, Df K mg "_law_sums" sLSums ["_law_counts_here", "_law_acts", "_law_deeds"] f fd ∧ FnOk P w K mg base CX0 1 f fd ["_law_counts_here", "_law_acts", "_law_deeds"] spLSu
  lg : ∃ f fd, Df K mg "_law_is_greatest" sLIsGreatest ["_law_number", "_law_sums_here"] f fd ∧ FnOk P w K mg base CX0 1 f fd ["_law_number", "_law_sums_here"] spLG
  ln : ∃ f fd, Df K mg "_law_line" sLLine ["_law_deal", "_law_period", "_law_deeds"] f fd ∧ FnOk P w K mg base CX0 2 f fd ["_law_deal", "_law_period", "_law_deeds"] spLLn
  ha : ∃ f fd, Df K mg "harmless_period" sHarm ["machine", "first"] f fd ∧ FnOk P w K mg base (L2.CX P w) 7 f fd ["machine", "first"] (spHarm K M CS CUc)
  sh : ∃ f fd, Df K mg "_law_shown" sLShown ["_law_tables", "_law_web_here", "_law_first", "_law_steps_here"] f fd ∧ FnOk P w K mg base CX0 10 f fd ["_law_tables", "_law_web_here", "_law_first", "_law_steps_here"] (spLSh M W)
  mkM : ∃ f fd, Mk K M f ∧ Binds K fd ["self", "tables"] [] ∧ FnOk P w K mg base (L2.CX P w) 6 f fd ["self", "tables"] (spMInit K CM M)
  mkW : ∃ f fd, Mk K W f ∧ Binds K fd ["self", "houses", "ties"] [] ∧ FnOk P w K mg base (L2.CX P w) 6 f fd ["self", "houses", "ties"] (spWInitL W)
noncomputable def spLaw (K : PySem.W.Frag) (T : List (Addr × Str)) : Sp := fun vs H Q _ => ∃ (a : Addr) (ns : List Int), vs = [.ref a] ∧ SqL K H a (ns.map V.int) ∧ ns.length ≤ 63 ∧ LamX.Tabs T H ∧ ∀ H', Q (.bl true) H'
section
variable {P : Program} {w : World} {K : PySem.W.Frag} {mg : Str → Option Value} {base : Heap}
noncomputable abbrev nLa : List Str := ["_law_script", "_law_deal", "_law_many", "_law_ties", "_law_deeds", "_law_steps_here", "_law_told", "_law_acts", "_law_rows", "_law_sums_here", "_law_period", "_law_tables", "_law_number", "_law_house", "_law_deed", "_law_more", "_law_bent", "_law_web_here", "_law_step", "_law_row", "_law_state", "_law_one"]
theorem scLa : FnScope nLa ["_law_script"] (defScope sLaw) := ⟨rfl, rfl, rfl, by decide +kernel, rfl, by decide +kernel, by decide +kernel⟩
theorem ok_law {f M W CM CB CUc CS c_ Pt : Addr} {fd : FuncData} {T : List (Addr × Str)} (F : FunC K "law" "law" sLaw f fd (.ref c_)) (TB : LamX.TabB base mg c_ Pt) (hmT : (Pt, qLa) ∈ T) (hun : ∀ p ∈ T, p.1 = Pt → p.2 = qLa) (dn : Dn P w K mg base M W CM CB CUc CS T) : FnG P w K mg base 11 f fd ["_law_script"] (spLaw K T) := by
  have B := dn.B
  have hd := dn.hd
  have TMa := dn.TM
  have TW := dn.TW
  obtain ⟨_, _, DDe, GDe⟩ := dn.dealt
  obtain ⟨_, _, DA, GA⟩ := dn.any
  obtain ⟨_, _, DO, GO⟩ := dn.of
  obtain ⟨_, _, DW, GW⟩ := dn.web
  obtain ⟨_, _, DS, GS⟩ := dn.ls
  obtain ⟨_, _, DRH, GRH⟩ := dn.rh
  obtain ⟨_, _, DC, GC⟩ := dn.lc
  obtain ⟨_, _, DSu, GSu⟩ := dn.su
  obtain ⟨_, _, DLg, GLg⟩ := dn.lg
  obtain ⟨_, _, DLn, GLn⟩ := dn.ln
  obtain ⟨_, _, DHa, GHa⟩ := dn.ha
  obtain ⟨_, _, DSh, GSh⟩ := dn.sh
  obtain ⟨_, _, MM, BM, GM⟩ := dn.mkM
  obtain ⟨_, _, MW, BW, GWi⟩ := dn.mkW
  refine F.okG scLa (fun vs H Q E h => ?_) (fun A_ outer s_ H vs Q E hr hgd h => ?_)
  · obtain ⟨a, ns, rfl, _⟩ := h
    rfl
  · obtain ⟨a, ns, rfl, hS, hlen, hT, q⟩ := h
    have hu : (A_.deeper (envOfC "law" (defScope sLaw) s_.heap.objs.size f (.ref c_))).units + 64 < cLine := hr.units
    have r1 := hr.mono (show 1 ≤ 10 by decide)
    have r2 := hr.mono (show 2 ≤ 10 by decide)
    have r3 := hr.mono (show 3 ≤ 10 by decide)
    have rM := hr.mono (show 7 ≤ 10 by decide)
    have r7 := hr.mono (show 7 ≤ 10 by decide)
    have r9 := hr.mono (show 9 ≤ 10 by decide)
    have r10 := hr
    refine ⟨_, (pss_cons (ps_set (i := 1) scLa.nd rfl (.inl rfl) (pc DDe GDe r1 pass0 (pa_cons (pv 0) pa_nil)))
    (pss_cons (ps_asg (pc DW GW r3 pass0 (pa_cons (pv 1) (pa_cons pe_int pa_nil))) (pg_tup rfl (pgs_cons (pg_name (i := 2) scLa.nd rfl (.inl rfl)) (pgs_cons (pg_name (i := 3) scLa.nd rfl (.inl rfl)) pgs_nil))))
    (pss_cons (ps_if (PW.pt (pw_and (pt_cmpR op_gt (pv 2) pe_int (nomark _)) (pw_and1 (pt_cmpR op_gt (pc DA GA r1 pass0 (pa_cons (pv 1) (pa_cons pe_int pa_nil))) pe_int (nomark _)))))
      (pss_one (ps_set (i := 3) scLa.nd rfl (.inl rfl) (pe_op op_cat (pv 3) (pe_slice sl_list (pe_lst (pa_cons (pe_lst (pa_cons (pe_op op_sub (pv 2) pe_int) (pa_cons pe_int pa_nil))) (pa_cons (pe_lst (pa_cons pe_int (pa_cons (pe_op op_sub (pv 2) pe_int) pa_nil))) pa_nil))) po_none (po_some (pe_op op_add pe_int (pc DA GA r1 pass0 (pa_cons (pv 1) (pa_cons pe_int pa_nil)))))))))
      pss_nil)
    (pss_cons (ps_asg (pe_tup (pa_cons (pe_make MW GWi rM rfl TW.g BW .nil passF' (pa_cons (pv 2) (pa_cons (pv 3) pa_nil))) (pa_cons (pe_op op_add pe_int (pc DA GA r1 pass0 (pa_cons (pv 1) (pa_cons pe_int pa_nil)))) pa_nil))) (pg_tup rfl (pgs_cons (pg_name (i := 17) scLa.nd rfl (.inr rfl)) (pgs_cons (pg_name (i := 4) scLa.nd rfl (.inl rfl)) pgs_nil))))
    (pss_cons (ps_set (i := 5) scLa.nd rfl (.inl rfl) (pc DS GS r2 pass0 (pa_cons (pv 1) (pa_cons (pv 2) (pa_cons (pv 3) (pa_cons (pv 4) (pa_cons (pc DO GO r2 pass0 (pa_cons (pv 1) (pa_cons (pe_lst (pa_cons pe_int (pa_cons pe_int (pa_cons pe_int pa_nil)))) pa_nil))) pa_nil)))))))
    (pss_cons (ps_set (i := 6) scLa.nd rfl (.inl rfl) (pe_ifExp (pt_cmpR op_eq (pc DA GA r1 pass0 (pa_cons (pv 1) (pa_cons pe_int pa_nil))) pe_int (nomark _)) (pc DRH GRH r7 passF' (pa_cons (pv 17) (pa_cons (pv 5) pa_nil))) (pe_callW DRH GRH r7 (kb_rh DRH.F) passF' (pk_cons (pe_callTy call_tuple_of (by rfl) B.tuple PyProof.Rows.boot_tuple (pa_cons (pv 5) pa_nil)) (pk_cons (pv 17) pk_nil)))))
    (pss_cons (ps_setLc (i := 7) (own := [("_law_step", 18)]) (g := gName 18) rfl scLa.nd rfl rfl (sw_true rfl rfl rfl (by decide +kernel)) (pi_list (pv 5)) (blkOk_by (N := nLa) (sc := defScope sLaw) (by decide +kernel)) (fun _ _ _ _ _ => (pg_name (i := 18) scLa.nd rfl (Or.inl rfl))) (fun _ _ _ _ _ => pts_one (pt_cmpR op_eq (pe_ix (ixTK (K := K) rfl) (pv 18) pe_int (fun _ _ => rfl)) pe_str (nomark _))) (fun _ _ _ _ _ => (pe_ix (ixTK (K := K) rfl) (pv 18) pe_int (fun _ _ => rfl))))
    (pss_cons (ps_set (i := 8) scLa.nd rfl (.inl rfl) (pe_ix ix_list (pc DC GC r1 pass0 (pa_cons (pv 2) (pa_cons (pv 3) (pa_cons (pv 5) pa_nil)))) pe_int (fun _ _ => rfl)))
    (pss_cons (ps_set (i := 9) scLa.nd rfl (.inl rfl) (pc DSu GSu r1 pass0 (pa_cons (pv 8) (pa_cons (pv 7) (pa_cons (pv 4) pa_nil)))))
    (pss_cons (ps_if (PW.pt (pw_or (pt_not (pt_val (pe_callB call_isi (by rfl) B.isinstance (by decide +kernel) (pa_cons (pv 6) (pa_cons (pe_bltn (v := .ty "int") (by rfl) B.int PyProof.Rows.boot_int rfl) pa_nil))))) (pw_or (pt_val (pe_callB call_isi (by rfl) B.isinstance (by decide +kernel) (pa_cons (pv 6) (pa_cons (pe_bltn (v := .ty "bool") (by rfl) B.bool PyProof.Rows.boot_bool rfl) pa_nil)))) (pw_or1 (pt_not (pt_val (pc DLg GLg r1 pass0 (pa_cons (pv 6) (pa_cons (pv 9) pa_nil)))))))))
      (pss_one (ps_ret pe_bl))
      pss_nil)
    (pss_cons (ps_if (pt_cmpR op_ne (pe_cmpR op_eq (pv 6) pe_int (nomark _)) (pe_cmpR op_le (pe_callB (cr_max rfl) (by rfl) B.max (by decide +kernel) (pa_cons (pe_lc (own := [("_law_row", 19)]) (g := gName 19) (tt := tYes) rfl scLa.nd (pi_list (pv 8)) (blkOk_by (N := nLa) (sc := defScope sLaw) (by decide +kernel)) (fun _ _ _ _ _ => (pg_name (i := 19) scLa.nd rfl (Or.inl rfl))) (fun _ _ _ _ _ => pts_nil) (fun _ _ _ _ _ => (pe_callB (crMaxK (K := K) rfl rfl) (by rfl) B.max (by decide +kernel) (pa_cons (pe_op op_cat (pv 19) (pe_lst (pa_cons pe_int pa_nil))) pa_nil)))) pa_nil)) pe_int (nomark _)) (nomark _))
      (pss_one (ps_ret pe_bl))
      pss_nil)
    (pss_cons (ps_for PassesOwn.never rfl (pi_list (pe_lst (pa_cons (pe_op op_add pe_int (pc DA GA r1 pass0 (pa_cons (pv 1) (pa_cons pe_int pa_nil)))) (pa_cons (pc DO GO r2 pass0 (pa_cons (pv 1) (pa_cons (pe_lst (pa_cons pe_int (pa_cons pe_int (pa_cons pe_int (pa_cons pe_int pa_nil))))) pa_nil))) (pa_cons (pe_callB (call_min2 rfl) (by rfl) B.min (by decide +kernel) (pa_cons pe_int (pa_cons (pe_callB (call_max2 rfl) (by rfl) B.max (by decide +kernel) (pa_cons pe_int (pa_cons (pv 6) pa_nil))) pa_nil))) pa_nil))))) (pg_name (i := 10) scLa.nd rfl (.inr rfl))
      (pss_one (ps_if (PW.pt (pw_or (pt_cmpR op_eq (pv 6) pe_int (nomark _)) (pw_or1 (pt_cmpR op_eq (pe_op op_mod (pe_callTy call_int1 (by rfl) B.int PyProof.Rows.boot_int (pa_cons (pv 6) pa_nil)) (pv 10)) pe_int (nomark _)))))
        (pss_cons (ps_set (i := 11) scLa.nd rfl (.inl rfl) (pc DLn GLn r2 pass0 (pa_cons (pv 1) (pa_cons (pv 10) (pa_cons (pv 4) pa_nil)))))
        (pss_cons (ps_set (i := 12) scLa.nd rfl (.inl rfl) (pc DHa GHa r7 passF' (pa_cons (pe_make MM GM rM rfl TMa.g BM .nil passF' (pa_cons (pv 11) pa_nil)) (pa_cons pe_int pa_nil))))
        (pss_one (ps_if (PW.pt (pw_or (pt_cmpR op_lt (pv 12) pe_int (nomark _)) (pw_or (pt_cmpR op_ne (pe_op op_mod (pe_callTy call_int1 (by rfl) B.int PyProof.Rows.boot_int (pa_cons (pv 10) pa_nil)) (pv 12)) pe_int (nomark _)) (pw_or1 (pt_cmpR (neD (K := K) rfl hu) (pc DSh GSh r10 pass0 (pa_cons (pv 11) (pa_cons (pv 17) (pa_cons pe_int (pa_cons (pv 5) pa_nil))))) (pe_op op_rep (pe_lst (pa_cons pe_bl pa_nil)) (pv 2)) (nomark _))))))
          (pss_one (ps_ret pe_bl))
          pss_nil))))
        (pss_cons (ps_asg (pc DO GO r2 pass0 (pa_cons (pv 1) (pa_cons (pe_lc (own := [("_law_row", 19)]) (g := gName 19) rfl scLa.nd (pi_list (pv 9)) (blkOk_by (N := nLa) (sc := defScope sLaw) (by decide +kernel)) (fun _ _ _ _ _ => (pg_name (i := 19) scLa.nd rfl (Or.inl rfl))) (fun _ _ _ _ _ => pts_one (pt_cmpR op_ne (pe_op op_mod (pe_callTy call_int1 (by rfl) B.int PyProof.Rows.boot_int (pa_cons (pe_ix (ixTK (K := K) rfl) (pv 19) pe_int (fun _ _ => rfl)) pa_nil)) (pv 10)) pe_int (nomark _))) (fun _ _ _ _ _ => (pv 19))) pa_nil))) (pg_tup rfl (pgs_cons (pg_name (i := 13) scLa.nd rfl (.inl rfl)) (pgs_cons (pg_name (i := 14) scLa.nd rfl (.inr rfl)) (pgs_cons (pg_name (i := 15) scLa.nd rfl (.inl rfl)) pgs_nil)))))
        (pss_cons (ps_setLc (i := 11) (own := [("_law_one", 21)]) (g := gName 21) (tt := tYes) rfl scLa.nd rfl rfl (sw_true rfl rfl rfl (by decide +kernel)) (pi_range1 (by rfl) B.range (pa_cons (pv 4) pa_nil)) (blkOk_by (N := nLa) (sc := defScope sLaw) (by decide +kernel)) (fun _ _ _ _ _ => (pg_name (i := 21) scLa.nd rfl (Or.inr rfl))) (fun _ _ _ _ _ => pts_nil) (fun _ _ _ _ _ => (pe_lc (own := [("_law_state", 20)]) (g := gName 20) (tt := tYes) rfl scLa.nd (pi_range1 (by rfl) B.range (pa_cons (pv 10) pa_nil)) (blkOk_by (by rfl)) (fun _ _ _ _ _ => (pg_name (i := 20) scLa.nd rfl (Or.inl rfl))) (fun _ _ _ _ _ => pts_nil) (fun _ _ _ _ _ => (pe_op op_mod (pe_callTy call_int1 (by rfl) B.int PyProof.Rows.boot_int (pa_cons (pe_op op_add (pv 20) (pe_ifExp (pt_cmpR op_eq (pv 21) (pv 14) (nomark _)) pe_int pe_int)) pa_nil)) (pv 10))))))
        (pss_one (ps_if (PW.pt (pw_or (pt_cmpR op_ne (pc DHa GHa r7 passF' (pa_cons (pe_make MM GM rM rfl TMa.g BM .nil passF' (pa_cons (pv 11) pa_nil)) (pa_cons pe_int pa_nil))) (pv 10) (nomark _)) (pw_or1 (pt_cmpR op_ne (pe_callB call_reprS (by rfl) B.repr (by decide +kernel) (pa_cons (pe_ix ix_list (pc DSh GSh r10 pass0 (pa_cons (pv 11) (pa_cons (pv 17) (pa_cons pe_int (pa_cons (pv 5) pa_nil))))) (pv 13) (fun _ _ => rfl)) pa_nil)) pe_str (nomark _)))))
          (pss_one (ps_ret pe_bl))
          pss_nil)))))))
    (pss_cons (ps_set (i := 16) scLa.nd rfl (.inr rfl) (pe_op op_cat (pv 5) (pe_lst (pa_cons (pc DO GO r2 pass0 (pa_cons (pv 1) (pa_cons (pe_lst (pa_cons pe_non (pa_cons (pe_tup (pa_cons pe_str (pa_cons (pe_callB call_len_seq (by rfl) B.len PySem.boot_len (pa_cons (pv 3) pa_nil)) pa_nil))) (pa_cons (pe_tup (pa_cons pe_str (pa_cons (pv 2) (pa_cons pe_int pa_nil)))) (pa_cons (pe_tup (pa_cons pe_str (pa_cons pe_int (pa_cons pe_int pa_nil)))) (pa_cons (pe_tup pa_nil) (pa_cons pe_str pa_nil))))))) pa_nil))) pa_nil))))
    (pss_one (ps_ret (pe_cmpR (eqD (K := K) rfl hu) (pHeard (k := 7) (qn := qLa) (T := T) hd TB hgd r9 rfl rfl hmT hun rfl (LamX.lamS_by (by rfl)) rfl (fun _ _ _ _ _ => rfl)
          (fun A outer s H E f c' hr2 => pc DRH GRH hr2 (pass1 (E := E) (takes_of rfl rfl rfl rfl)) (pa_cons (pv 17) (pa_cons (pv 16) pa_nil)))) (pe_lst (pa_cons (pe_callB call_len_seq (by rfl) B.len PySem.boot_len (pa_cons (pv 5) pa_nil)) pa_nil)) (nomark _))))))))))))))))), ?_⟩
    refine ⟨_, rfl, a, ns, rfl, hS, hlen, fun b l H2 sm1 hb0 hl0 hb2 => ?_⟩
    have hT2 := hT.ext sm1
    dsimp only [List.set]
    clear hS hlen hb0 hl0 sm1 hT
    -- the web
    refine ⟨_, rfl, b, l, 4, rfl, hb2, by decide, by decide, fun qw tl as ts many H3 d3 hqw tie ftl wv hmk htl => ?_⟩
    have hT3 := tabs_dl hT2 hb2 d3
    have hb3 := d3.1
    refine ⟨qw, _, rfl, SqT.of hqw, rfl, _, _, rfl, _, _, rfl, rfl, ?_⟩
    dsimp only [List.set]
    clear hqw hT2 hb2 d3 ftl
    have n1 := wv.n1
    -- some ties more
    refine seqG (fun σ H' => ∃ (tl : Addr) (as : List Addr) (ts : Prs), σ = [some (.ref a), some (.ref b), some (.int (many : Int)), some (.ref tl), none, none, none, none, none, none, none, none, none, none, none, none, none, none, none, none, none, none] ∧ DealO H' b l ∧ LamX.Tabs T H' ∧ TL b l tl H' as ts ∧ Wv many ts) ?_ fun go => ?_
    rotate_left
    · refine ⟨_, rfl, _, _, rfl, rfl, _, rfl, ?_⟩
      refine ifD (fun em => ?_) fun _ => iteF (nxP (go _ _ ⟨tl, as, ts, rfl, hb3, hT3, tie, wv⟩))
      have m2 : 1 < many := by have := of_decide_eq_true em; omega
      refine ⟨_, rfl, b, l, 4, rfl, hb3, by decide, by decide, fun r H4 _ _ d4 => ⟨_, _, rfl, rfl, _, rfl, ?_⟩⟩
      have hT4 := tabs_dl hT3 hb3 d4
      have hb4 := d4.1
      have tie4 := tie.dl hb3 d4
      refine ifD (fun _ => ?_) fun _ => nxP (go _ _ ⟨tl, as, ts, rfl, hb4, hT4, tie4, wv⟩)
      clear hT3 hb3 d4 tie
      have en1 : (many : Int) - 1 = ((many - 1 : Nat) : Int) := by omega
      refine ⟨_, rfl, _, rfl, _, _, rfl, rfl, cnP (nilP ⟨(by show 2 ≤ sizeLine; decide), fun p1 hp1 => ?_⟩)⟩
      refine ⟨_, rfl, _, _, rfl, rfl, nilP ⟨(by show 2 ≤ sizeLine; decide), fun p2 hp2 => ?_⟩⟩
      refine nilP ⟨(by show 2 ≤ sizeLine; decide), fun p3 hp3 => ?_⟩
      have s1 := same_new (o := HO.lst [V.int ((many : Int) - 1), .int 0]) hp1
      have h1 : (upd H4 p1 (HO.lst [V.int ((many : Int) - 1), .int 0])) p1 = some (.lst (pV (many - 1, 0))) := by rw [upd_same, en1]; rfl
      have b1 : p1 ≠ b ∧ p1 ≠ l := ⟨hb4.nb hp1, hb4.nl hp1⟩
      generalize upd H4 p1 (HO.lst [V.int ((many : Int) - 1), .int 0]) = H5 at s1 h1 hp2 hp3 ⊢
      have hb5 := hb4.same s1
      have s2 := same_new (o := HO.lst [V.int 0, .int ((many : Int) - 1)]) hp2
      have h2 : (upd H5 p2 (HO.lst [V.int 0, .int ((many : Int) - 1)])) p2 = some (.lst (pV (0, many - 1))) := by rw [upd_same, en1]; rfl
      have b2 : p2 ≠ b ∧ p2 ≠ l := ⟨hb5.nb hp2, hb5.nl hp2⟩
      generalize upd H5 p2 (HO.lst [V.int 0, .int ((many : Int) - 1)]) = H6 at s2 h2 hp3 ⊢
      have hb6 := hb5.same s2
      have s3 := same_new (o := HO.lst [V.ref p1, .ref p2]) hp3
      have h3 : (upd H6 p3 (HO.lst [V.ref p1, .ref p2])) p3 = some (.lst (([p1, p2] : List Addr).map V.ref)) := upd_same
      have b3 : p3 ≠ b ∧ p3 ≠ l := ⟨hb6.nb hp3, hb6.nl hp3⟩
      generalize upd H6 p3 (HO.lst [V.ref p1, .ref p2]) = H7 at s3 h3 ⊢
      have s13 := s2.trans s3
      have s03 := s1.trans s13
      have h1 := s13 _ _ h1
      have h2 := s3 _ _ h2
      have hb7 := hb4.same s03
      refine ⟨_, rfl, b, l, 2, rfl, hb7, by decide, by decide, fun r2 H8 ra rb d8 => ⟨_, _, rfl, rfl, _, rfl, p3, _, rfl, SqL.of (d8.2 _ _ h3 b3.1 b3.2), fun p4 hp4 => ?_⟩⟩
      have hT8 := tabs_dl (hT4.ext s03) hb7 d8
      have tie8 := (tie4.same s03).dl hb7 d8
      have h18 := d8.2 _ _ h1 b1.1 b1.2
      have h28 := d8.2 _ _ h2 b2.1 b2.2
      obtain ⟨k, hk, k2⟩ : ∃ k : Nat, (1 : Int) + r2 = (k : Int) ∧ k ≤ 2 := ⟨(1 + r2).toNat, by omega, by omega⟩
      have hcut : HO.lst (cutV (([p1, p2] : List Addr).map V.ref) none (some ((1 : Int) + r2))) = HO.lst ((([p1, p2] : List Addr).take k).map V.ref) := by
        rw [hk, cut_to (by show k ≤ 2; exact k2), List.map_take]
      rw [hcut]
      have s9 := same_new (o := HO.lst ((([p1, p2] : List Addr).take k).map V.ref)) hp4
      have tie9 := tie8.same s9
      refine ⟨tl, p4, _, _, rfl, rfl, tie9.h, upd_same, sz (by rw [List.length_map, List.length_map, tie9.ps.1, List.length_take]; simp only [List.length_cons, List.length_nil]; omega), fun p5 hp5 => ?_⟩
      have s10 := same_new (o := HO.lst (as.map V.ref ++ (([p1, p2] : List Addr).take k).map V.ref)) hp5
      have s810 := s9.trans s10
      have hb9 := d8.1.same s9
      have ts2 : ∀ (i : Nat) (c : Addr) (t : Nat × Nat), ([p1, p2] : List Addr)[i]? = some c → ([(many - 1, 0), (0, many - 1)] : Prs)[i]? = some t → H8 c = some (.lst (pV t)) ∧ c ≠ b ∧ c ≠ l := fun i c t e1 e2 => by
        match i, e1, e2 with
        | 0, e1, e2 => cases e1; cases e2; exact ⟨h18, b1⟩
        | 1, e1, e2 => cases e1; cases e2; exact ⟨h28, b2⟩
        | (i + 2), e1, _ => cases e1
      refine go _ _ ⟨p5, as ++ ([p1, p2] : List Addr).take k, ts ++ ([(many - 1, 0), (0, many - 1)] : Prs).take k, rfl, d8.1.same s810, hT8.ext s810, ⟨by rw [upd_same, List.map_append], ⟨?_, fun i c t e1 e2 => ?_⟩, hb9.nb hp5, hb9.nl hp5, fun c hc => ?_⟩, ⟨n1, wv.n12, ?_, fun q hq => ?_⟩⟩
      · rw [List.length_append, List.length_append, tie4.ps.1, List.length_take, List.length_take]; rfl
      · by_cases z : i < as.length
        · rw [List.getElem?_append_left z] at e1
          rw [List.getElem?_append_left (by rw [← tie4.ps.1]; exact z)] at e2
          exact s810 _ _ (tie8.ps.2 i c t e1 e2)
        · rw [List.getElem?_append_right (by omega)] at e1
          rw [List.getElem?_append_right (by rw [← tie4.ps.1]; omega), ← tie4.ps.1] at e2
          have i2 : i - as.length < k := by have := lt_at e1; rw [List.length_take] at this; omega
          rw [List.getElem?_take, if_pos i2] at e1 e2
          exact s810 _ _ (ts2 _ c t e1 e2).1
      · rcases List.mem_append.mp hc with hc | hc
        · exact tie4.na c hc
        · obtain ⟨i, hi⟩ := List.getElem?_of_mem (List.mem_of_mem_take hc)
          have i2 : i < 2 := lt_at hi
          obtain ⟨t, ht⟩ := ex_at (l := ([(many - 1, 0), (0, many - 1)] : Prs)) (i := i) i2
          exact (ts2 i c t hi ht).2.2
      · rw [List.length_append, List.length_take]
        have : ([(many - 1, 0), (0, many - 1)] : Prs).length = 2 := rfl
        omega
      · rcases List.mem_append.mp hq with hq | hq
        · exact wv.pr q hq
        · have hq := List.mem_of_mem_take hq
          simp only [List.mem_cons, List.mem_nil_iff, or_false] at hq
          rcases hq with rfl | rfl
          · exact ⟨by show many - 1 < many; omega, by show 0 < many; omega, by show many - 1 ≠ 0; omega⟩
          · exact ⟨by show 0 < many; omega, by show many - 1 < many; omega, by show 0 ≠ many - 1; omega⟩
    rintro σ H4 ⟨tl, as, ts, rfl, hb4, hT4, tie4, wv⟩
    clear hT3 hb3 tie htl
    -- the web, the deeds, the steps
    refine ⟨_, rfl, _, rfl, fun wc wdx hw0 hwdx new => ?_⟩
    have smw := mkSameN (o1 := HO.own wc) (o2 := HO.ins W wdx []) hw0 hwdx new
    refine ⟨wc, wdx, many, tl, as, ts, rfl, upd_same, smw _ _ tie4.h, tie4.ps.same smw, wv, fun H5 k5 hWb => ⟨rfl, ?_⟩⟩
    have s5 : Same H4 H5 := fun c u ec => k5 c u (smw c u ec) (ne_of_none ec hw0)
    have tie5 := tie4.same s5
    have hb5 := hb4.same s5
    have hT5 := hT4.ext s5
    clear smw k5 hw0 hwdx new tie4 hb4 hT4 s5
    refine ⟨_, rfl, b, l, 3, rfl, hb5, by decide, by decide, fun r H6 ra rb d6 => ⟨_, _, rfl, rfl, nilP ⟨(by show 2 ≤ sizeLine; decide), fun tp htp => ?_⟩⟩⟩
    have hT6 := tabs_dl hT5 hb5 d6
    have tie6 := tie5.dl hb5 d6
    have hWb6 := hWb.kp (Kp.dl hb5 d6)
    have hb6 := d6.1
    clear hT5 tie5 hWb d6 hb5
    obtain ⟨nd, hnd, nd1, nd3⟩ : ∃ nd : Nat, (1 : Int) + r = (nd : Int) ∧ 1 ≤ nd ∧ nd ≤ 3 := ⟨(1 + r).toNat, by omega, by omega, by omega⟩
    have s7 := same_new (o := HO.tup [V.ref wc, .int (1 + r)]) htp
    have htp1 : (upd H6 tp (HO.tup [V.ref wc, .int (1 + r)])) tp = some (.tup [V.ref wc, .int (nd : Int)]) := by rw [upd_same, hnd]
    refine ⟨tp, _, rfl, SqT.of htp1, rfl, _, _, rfl, _, _, rfl, rfl, ?_⟩
    dsimp only [List.set]
    have hb7 := hb6.same s7
    have hT7 := hT6.ext s7
    have tie7 := tie6.same s7
    have hWb7 := hWb6.same s7
    generalize upd H6 tp (HO.tup [V.ref wc, .int (1 + r)]) = H7 at hb7 hT7 tie7 hWb7 ⊢
    clear s7 htp htp1 hb6 hT6 tie6 hWb6 hnd ra rb
    refine ⟨_, rfl, _, rfl, _, rfl, _, rfl, _, rfl, (by show 3 ≤ sizeLine; decide), fun p3 hp3 => ?_⟩
    have s11 := same_new (o := HO.lst [V.int 2, .int 9, .int 18]) hp3
    have h3 : (upd H7 p3 (HO.lst [V.int 2, .int 9, .int 18])) p3 = some (.lst [.int 2, .int 9, .int 18]) := upd_same
    have n3b := hb7.nb hp3
    have n3l := hb7.nl hp3
    have hb11 := hb7.same s11
    have hT11 := hT7.ext s11
    have tie11 := tie7.same s11
    have hWb11 := hWb7.same s11
    generalize upd H7 p3 (HO.lst [V.int 2, .int 9, .int 18]) = H11 at h3 hb11 hT11 tie11 hWb11 ⊢
    clear s11 hp3 hb7 hT7 tie7 hWb7
    refine nilP ⟨b, l, p3, _, rfl, hb11, h3, n3b, n3l, (by simp), (by simp), fun j v H12 hj d12 => ?_⟩
    obtain ⟨mm, rfl, m18⟩ : ∃ mm : Nat, v = .int (mm : Int) ∧ mm ≤ 18 := by
      match j, hj with
      | 0, hj => exact ⟨2, (Option.some.inj hj).symm, by decide⟩
      | 1, hj => exact ⟨9, (Option.some.inj hj).symm, by decide⟩
      | 2, hj => exact ⟨18, (Option.some.inj hj).symm, by decide⟩
      | (j + 3), hj => cases hj
    have hT12 := tabs_dl hT11 hb11 d12
    have tie12 := tie11.dl hb11 d12
    have hWb12 := hWb11.kp (Kp.dl hb11 d12)
    have hb12 := d12.1
    clear d12 h3 hj n3b n3l hT11 tie11 hWb11 hb11
    have n12 := wv.n12
    have t20 := wv.t20
    refine nilP ⟨b, l, tl, as, ts, many, nd, mm, rfl, hb12, tie12, wv.n1, by omega, nd1, by omega, by omega, fun pp scs sts H13 d13 hpp0 sl ok ln0 => ?_⟩
    have sb0 : Sb2 W b l tl pp wc T many ts as scs sts H13 := ⟨d13.1, tabs_dl hT12 hb12 d13, hWb12.kp (Kp.dl hb12 d13), tie12.dl hb12 d13, sl⟩
    have ln : sts.length ≤ 18 := Nat.le_trans ln0 m18
    clear hT12 tie12 hWb12 hb12 d13 sl hpp0 ln0 m18
    have ok8 : ∀ s ∈ sts, okS many ts.length 8 s := fun s hs => okS8 (by omega) (ok s hs)
    have C := cnt_cur wv ok
    have kl : (actD sts).length ≤ 18 := Nat.le_trans (actD_len _) ln
    refine gn ?_
    dsimp only [List.set]
    -- what the program tells
    generalize hG : hdR (actD sts) (cnt many ts sts).hs 0 = G
    refine seqG (fun σ H' => σ = [some (.ref a), some (.ref b), some (.int (many : Int)), some (.ref tl), some (.int (nd : Int)), some (.ref pp), some (.int (G : Int)), none, none, none, none, none, none, none, none, none, none, some (.ref wc), none, none, none, none] ∧ Sb2 W b l tl pp wc T many ts as scs sts H') ?_ fun go => ?_
    rotate_left
    · refine ⟨_, rfl, b, l, 2, rfl, sb0.dl, by decide, by decide, fun r0 H15 _ _ d15 => ⟨rfl, _, rfl, ?_⟩⟩
      have sb15 := sb0.draw d15
      have told : ∀ {H' : Hp} {v : V} {Q' : VK} {E' : XK}, Same H15 H' → KV K H' v (some (scs.map V.ref)) → (∀ H2, Same H15 H2 → Q' (.int (G : Int)) H2) → spRH K W CB [.ref wc, v] H' Q' E' := fun {H' v Q' E'} s kv k => by
        have sb' := sb15.same s
        refine ⟨wc, v, _, many, ts, rfl, sb'.wb, wv, svs_right kv sb'.st.ps, fun z ez => (by rw [sf_right ok8 (by omega)] at ez; cases ez), fun ss es _ _ H2 s2 => ?_⟩
        obtain rfl := stV_inj _ _ (Option.some.inj es)
        rw [hG]
        exact k H2 (s.trans s2)
      refine ifD (fun _ => ?_) fun _ => ?_
      · refine ⟨_, rfl, _, rfl, ?_⟩
        exact nilP (told (fun _ _ e => e) (.lst sb15.st.h) fun H2 s => go _ _ ⟨rfl, sb15.same s⟩)
      · refine ⟨_, rfl, pp, _, rfl, .inl ⟨SqL.of sb15.st.h, fun t1 ht1 => ?_⟩⟩
        have s1 := same_new (o := HO.tup (scs.map V.ref)) ht1
        refine ⟨_, rfl, rfl, told s1 (.tup upd_same) fun H2 s => go _ _ ⟨rfl, sb15.same s⟩⟩
    rintro σ H15 ⟨rfl, sb15⟩
    clear sb0
    -- the acts
    refine ⟨_, rfl, pp, rfl, ⟨_, SqL.of sb15.st.h⟩, fun D1 hD1 => lc_list (K := K) (a := pp) (xs := scs.map V.ref) (fun i H' => Same H15 H' ∧ H' D1 = some (.lst (vrow (actD (sts.take i))))) ⟨same_new hD1, upd_same⟩ (fun i H' _ ⟨s6, _⟩ => SqL.of (s6 _ _ sb15.st.h)) ?_ ?_⟩
    · rintro i x H6 hx ⟨s6, hD6⟩
      obtain ⟨a', st, rfl, ha', hst, hat⟩ := sb15.st.ps.get' hx
      have hat6 := s6 _ _ hat
      have ea := take_succ hst
      have l4 : (actD (sts.take i)).length ≤ 18 := Nat.le_trans (actD_len _) (by rw [List.length_take]; omega)
      refine ⟨rfl, ?_⟩
      cases st with
      | dd h d =>
        have rd : ∀ (j : Nat) v, (stV (.dd h d))[j]? = some v → atI (stV (.dd h d)) (j : Int) = some v := fun j v hv => at_i hv
        refine ⟨_, rfl, a', _, (0 : Int), .str "do", rfl, rfl, SqT.of hat6, rd 0 _ rfl, ⟨rfl, true, congrArg V.bl (decide_eq_true rfl), iteT ?_⟩⟩
        refine ⟨_, rfl, a', _, (2 : Int), .int (d : Int), rfl, rfl, SqT.of hat6, rd 2 _ rfl, _, hD6, szl (by rw [vrow_len]; omega), fun c o e => by rw [upd_ne (ne_of_none e hD1)]; exact s6 _ _ e, ?_⟩
        rw [upd_same, ea, actD_app, vrow, vrow, List.map_append]; rfl
      | mt t =>
        have rd : ∀ (j : Nat) v, (stV (.mt t))[j]? = some v → atI (stV (.mt t)) (j : Int) = some v := fun j v hv => at_i hv
        refine ⟨_, rfl, a', _, (0 : Int), .str "meet", rfl, rfl, SqT.of hat6, rd 0 _ rfl, ⟨rfl, false, congrArg V.bl (decide_eq_false (by decide +kernel)), iteF ?_⟩⟩
        refine ⟨s6, ?_⟩
        rw [ea, actD_app, show actD [Stp.mt t] = [] from rfl, List.append_nil]; exact hD6
    rintro H16 ⟨s16, hD16⟩
    rw [List.take_of_length_le (by rw [List.length_map, sb15.st.ps.1]; exact Nat.le_refl _)] at hD16
    refine gn ?_
    dsimp only [List.set]
    have sb16 := sb15.same s16
    clear sb15 s16
    -- the counts
    refine ⟨_, rfl, _, rfl, _, rfl, nilP ⟨tl, pp, false, many, nd, ts, scs, sts, rfl, ⟨as, sb16.tie.h, sb16.tie.ps⟩, wv, sb16.st.h, sb16.st.ps, ok, by omega, fun qc hl al hs2 as2 H17 s17 nhl nhs hqc hh ha => ?_⟩⟩
    refine ⟨qc, _, (0 : Int), .ref hl, rfl, rfl, SqL.of hqc, at_i (i := 0) rfl, ?_⟩
    refine gn ?_
    dsimp only [List.set]
    have sb17 := sb16.same s17
    have hD17 := s17 _ _ hD16
    clear sb16 hD16 s17 nhl nhs hqc ha
    have okc := C.ok
    have Cnn := C.nn
    have ain : ∀ z ∈ actD sts, 0 ≤ z ∧ z < (nd : Int) := fun z hz => actD_mem ok z hz
    have b18 : ∀ i x, (cnt many ts sts).h i x ≤ 262144 := fun i x => by
      have h1 := C.bd i x
      have h2 : (2 : Int) ^ sts.length ≤ 2 ^ 18 := by
        obtain ⟨j, hj⟩ : ∃ j, 18 = sts.length + j := ⟨18 - sts.length, by omega⟩
        rw [hj, Int.pow_add]
        have h1 := two_pos sts.length
        have h2 := two_pos j
        have : (2 : Int) ^ sts.length * 1 ≤ 2 ^ sts.length * 2 ^ j := Int.mul_le_mul_of_nonneg_left h2 (by omega)
        omega
      have h3 : (2 : Int) ^ 18 = 262144 := by decide
      omega
    have lrows : ∀ r ∈ (cnt many ts sts).hs, r.length = (actD sts).length := fun r hr => okc.rh r hr
    have mrow : ∀ r ∈ (cnt many ts sts).hs, ∀ c ∈ r, 0 ≤ c ∧ c ≤ 262144 := fun r hr c hc => by
      obtain ⟨i, hi⟩ := List.getElem?_of_mem hr
      obtain ⟨x, hx⟩ := List.getElem?_of_mem hc
      have e : (cnt many ts sts).h i x = c := by
        show ((cnt many ts sts).hs.getD i []).getD x 0 = c
        rw [List.getD_eq_getElem?_getD, List.getD_eq_getElem?_getD, hi]
        show (r[x]?).getD 0 = c
        rw [hx]; rfl
      rw [← e]
      exact ⟨Cnn i x, b18 i x⟩
    have lhs := okc.lh
    have grt := hdR_grt (acts := actD sts) (rs := (cnt many ts sts).hs) lhs (show nd ≤ 8 by omega) fun z hz => (ain z hz).2
    rw [hG] at grt
    -- the sums
    refine ⟨_, rfl, _, rfl, _, rfl, nilP ⟨hl, D1, many, nd, hs2, (cnt many ts sts).hs, actD sts, rfl, hh, lhs, n12, by omega, hD17, by omega, lrows, fun su cs H18 s18 nsu hsu hS => ?_⟩⟩
    refine gn ?_
    dsimp only [List.set]
    have su18 : Su2 b l su (sumsL (actD sts) (cnt many ts sts).hs nd many) H18 := ⟨⟨cs, hsu, hS⟩, sb17.dl.nb nsu, sb17.dl.nl nsu⟩
    have sb18 := sb17.same s18
    have hh18 := hh.same s18
    have hS0 := hS
    clear sb17 hD17 hh s18 nsu
    have Lb : ∀ t ∈ sumsL (actD sts) (cnt many ts sts).hs nd many, 0 ≤ t.2.2 ∧ t.2.2 < 1073741824 := fun t ht => by
      obtain ⟨h, d, h1, h2, rfl⟩ := mem_sumsL.mp ht
      have hr := List.mem_of_getElem? (getL (l := (cnt many ts sts).hs) (i := h) (by omega))
      have b1 := dM_bd (d : Int) 262144 (by decide) ((cnt many ts sts).hs.getD h []) (actD sts) fun c hc => (mrow _ hr c hc).2
      have b2 := dM_nn (d : Int) ((cnt many ts sts).hs.getD h []) (actD sts)
      have b3 := lrows _ hr
      have b4 : (((cnt many ts sts).hs.getD h []).length : Int) * 262144 ≤ 18 * 262144 := Int.mul_le_mul_of_nonneg_right (by omega) (by decide)
      exact ⟨b2, by show dM (d : Int) _ _ < _; omega⟩
    have Ll : (sumsL (actD sts) (cnt many ts sts).hs nd many).length ≤ 36 := by
      rw [sumsL_len]
      have : many * nd ≤ 12 * 3 := Nat.mul_le_mul n12 nd3
      omega
    -- what is told is the greatest number
    refine ⟨_, rfl, _, _, _, _, _, rfl, .ty _, (.base (.int _) : TyX K H18 (.int (G : Int)) (.type Tg.i.nm)), kit_I K .i, _, rfl, iteF ?_⟩
    refine ⟨_, rfl, _, _, _, _, _, rfl, .ty _, (.base (.int _) : TyX K H18 (.int (G : Int)) (.type Tg.i.nm)), kit_B K .i, _, rfl, iteF ?_⟩
    refine ⟨_, rfl, _, rfl, nilP ⟨G, su, cs, _, rfl, hsu, hS, by omega, Lb, grt, fun H19 s19 => ⟨_, rfl, iteF (nxP ?_)⟩⟩⟩
    dsimp only
    have sb19 := sb18.same s19
    have su19 := su18.same s19
    have hh19 := hh18.same s19
    clear sb18 su18 hh18 hS hsu s19 hS0
    -- nothing is counted twice exactly if it is 0
    refine seqG (fun σ H' => σ = [some (.ref a), some (.ref b), some (.int (many : Int)), some (.ref tl), some (.int (nd : Int)), some (.ref pp), some (.int (G : Int)), some (.ref D1), some (.ref hl), some (.ref su), none, none, none, none, none, none, none, some (.ref wc), none, none, none, none] ∧ Sb2 W b l tl pp wc T many ts as scs sts H' ∧ Su2 b l su (sumsL (actD sts) (cnt many ts sts).hs nd many) H') ?_ fun go => ?_
    rotate_left
    · refine ⟨_, rfl, rfl, _, rfl, hl, rfl, ⟨_, SqL.of hh19.1⟩, fun D5 hD5 => lc_list (K := K) (a := hl) (xs := hs2.map V.ref) (fun j H' => ∃ ms : List Int, Same H19 H' ∧ H' D5 = some (.lst (vrow ms)) ∧ ms.length = j ∧ ∀ i m, ms[i]? = some m → (∀ a, (cnt many ts sts).h i a ≤ m) ∧ (m = 0 ∨ ∃ a, (cnt many ts sts).h i a = m)) ⟨[], same_new hD5, upd_same, rfl, fun i m z => by cases z⟩ (fun j H' _ ⟨_, s1, _⟩ => SqL.of (s1 _ _ hh19.1)) ?_ ?_⟩
      · rintro j y H21 hy ⟨ms, s21, hD51, lms, hms⟩
        obtain ⟨ya, hya, rfl⟩ := at_map hy
        have hj : j < (cnt many ts sts).hs.length := by rw [← hh19.2.1]; exact lt_at hya
        have hjn : j < many := by rw [← lhs]; exact hj
        have hyr := s21 _ _ (hh19.2.2 j ya _ hya (getL hj))
        have lrow : ((cnt many ts sts).hs.getD j []).length ≤ 18 := by rw [okc.row hjn]; exact kl
        refine ⟨rfl, _, rfl, (by show 1 ≤ sizeLine; decide), fun z1 hz1 => ?_⟩
        have s22 := same_new (o := HO.lst [V.int 0]) hz1
        refine ⟨ya, z1, _, _, rfl, rfl, s22 _ _ hyr, upd_same, sz (by rw [vrow_len]; simp only [List.length_cons, List.length_nil]; omega), fun c hc => ?_⟩
        have s23 := s22.trans (same_new (o := HO.lst (vrow ((cnt many ts sts).hs.getD j []) ++ [V.int 0])) hc)
        have hc3 : (upd (upd H21 z1 (HO.lst [V.int 0])) c (HO.lst (vrow ((cnt many ts sts).hs.getD j []) ++ [V.int 0]))) c = some (.lst (((cnt many ts sts).hs.getD j [] ++ [(0 : Int)]).map V.int)) := by rw [upd_same, List.map_append]; rfl
        refine nilP ⟨c, (cnt many ts sts).hs.getD j [] ++ [0], rfl, SqL.of hc3, by simp, fun m hm hmax => ?_⟩
        refine ⟨_, s23 _ _ hD51, szl (by rw [vrow_len]; omega), ms ++ [m], fun c' o e => by rw [upd_ne (ne_of_none e hD5)]; exact s23 _ _ (s21 _ _ e), by rw [upd_same, vrow, vrow, List.map_append]; rfl, by rw [List.length_append, lms]; rfl, fun i m' hm' => ?_⟩
        rcases snoc_at hm' with hm' | ⟨rfl, rfl⟩
        · exact hms i m' hm'
        · rw [lms]
          constructor
          · intro a
            show ((cnt many ts sts).hs.getD j []).getD a 0 ≤ _
            rw [List.getD_eq_getElem?_getD]
            cases ee : ((cnt many ts sts).hs.getD j [])[a]? with
            | none => exact hmax 0 (List.mem_append_right _ (List.mem_singleton.mpr rfl))
            | some v => exact hmax v (List.mem_append_left _ (List.mem_of_getElem? ee))
          · rcases List.mem_append.mp hm with h | h
            · obtain ⟨a, ha⟩ := List.getElem?_of_mem h
              exact .inr ⟨a, by show ((cnt many ts sts).hs.getD j []).getD a 0 = _; rw [List.getD_eq_getElem?_getD, ha]; rfl⟩
            · exact .inl (List.mem_singleton.mp h)
      rintro H21 ⟨ms, s21, hD51, lms, hms⟩
      rw [List.length_map, hh19.2.1, lhs] at lms
      refine ⟨D5, ms, rfl, SqL.of hD51, by omega, fun m hm hmax => ?_⟩
      have same2 : decide (V.int (G : Int) = V.int 0) = decide (m ≤ 1) := by
        refine decide_eq_decide.mpr ⟨fun e => ?_, fun e => ?_⟩
        · have G0 : G = 0 := by injection e with e; omega
          by_cases z : m ≤ 1
          · exact z
          · exfalso
            obtain ⟨i, hi⟩ := List.getElem?_of_mem hm
            have hin : i < many := by rw [← lms]; exact lt_at hi
            obtain ⟨_, m2⟩ := hms i m hi
            rcases m2 with rfl | ⟨x, ex⟩
            · omega
            · have hxk : x < (actD sts).length := by
                by_cases w : x < (actD sts).length
                · exact w
                · rw [cur_h_out okc (.inr (by omega))] at ex; omega
              have hr := getL (l := (cnt many ts sts).hs) (i := i) (by omega)
              have hrl := okc.row hin
              have e1 : ((cnt many ts sts).hs.getD i [])[x]? = some m := by
                rw [getD_at (by rw [hrl]; exact hxk)]
                exact congrArg some ex
              have e2 : (actD sts)[x]? = some ((actD sts).getD x 0) := getD_at hxk
              have hd := ain _ (List.mem_of_getElem? e2)
              have hp := dM_pos ((actD sts).getD x 0) ((cnt many ts sts).hs.getD i []) (actD sts) x m e1 e2 (by omega)
              have := (grt 0).mp (by rw [G0]; exact Nat.dvd_refl 0) (dM ((actD sts).getD x 0) ((cnt many ts sts).hs.getD i []) (actD sts)) (List.mem_map.mpr ⟨_, mem_sumsL.mpr ⟨i, ((actD sts).getD x 0).toNat, hin, by omega, rfl⟩, by
                show dM ((((actD sts).getD x 0).toNat : Nat) : Int) _ _ = _
                rw [Int.toNat_of_nonneg hd.1]⟩)
              have := Nat.eq_zero_of_zero_dvd this
              omega
        · have G0 : G = 0 := by
            have := (grt (G + 1)).mpr fun y hy => by
              obtain ⟨t, ht, rfl⟩ := List.mem_map.mp hy
              obtain ⟨h, d, h1, h2, rfl⟩ := mem_sumsL.mp ht
              have hr := getL (l := (cnt many ts sts).hs) (i := h) (by omega)
              have z : dM (d : Int) ((cnt many ts sts).hs.getD h []) (actD sts) = 0 := dM_zero fun c hc => by
                obtain ⟨x, hx⟩ := List.getElem?_of_mem hc
                obtain ⟨i', hi'⟩ := ex_at (l := ms) (i := h) (by omega)
                have h3 := (hms h i' hi').1 x
                have h4 := hmax i' (List.mem_of_getElem? hi')
                have h5 : (cnt many ts sts).h h x = c := by show ((cnt many ts sts).hs.getD h []).getD x 0 = c; rw [List.getD_eq_getElem?_getD, hx]; rfl
                omega
              show G + 1 ∣ (dM (d : Int) ((cnt many ts sts).hs.getD h []) (actD sts)).natAbs
              rw [z]; exact Nat.dvd_zero _
            by_cases w : G = 0
            · exact w
            · have := Nat.le_of_dvd (by omega) this
              omega
          rw [G0]; rfl
      refine ⟨_, _, rfl, rfl, ?_⟩
      refine ⟨rfl, false, congrArg V.bl (by show (!decide (V.bl (decide (V.int (G : Int) = V.int 0)) = V.bl (decide (m ≤ 1)))) = false; rw [same2, decide_eq_true rfl]; rfl), iteF (nxP (go _ _ ⟨rfl, sb19.same s21, su19.same s21⟩))⟩
    rintro σ H20 ⟨rfl, sb20, su20⟩
    clear sb19 su19 hh19
    -- three rounds
    refine seqG (fun σ H' => ∃ v10 v11 v12 v13 v14 v15 : Option V, σ = [some (.ref a), some (.ref b), some (.int (many : Int)), some (.ref tl), some (.int (nd : Int)), some (.ref pp), some (.int (G : Int)), some (.ref D1), some (.ref hl), some (.ref su), v10, v11, v12, v13, v14, v15, none, some (.ref wc), none, none, none, none] ∧ Sb2 W b l tl pp wc T many ts as scs sts H') ?_ fun go => ?_
    rotate_left
    · refine ⟨_, rfl, b, l, 12, rfl, sb20.dl, by decide, by decide, fun r1' H21 ra rb d21 => ⟨_, _, rfl, rfl, _, rfl, (by show 4 ≤ sizeLine; decide), fun p4 hp4 => ?_⟩⟩
      have sb21 := sb20.draw d21
      have su21 := su20.draw sb20.dl d21
      have s22 := same_new (o := HO.lst [V.int 1, .int 2, .int 3, .int 4]) hp4
      have h4 : (upd H21 p4 (HO.lst [V.int 1, .int 2, .int 3, .int 4])) p4 = some (.lst [.int 1, .int 2, .int 3, .int 4]) := upd_same
      have n4b := sb21.dl.nb hp4
      have n4l := sb21.dl.nl hp4
      have sb22 := sb21.same s22
      have su22 := su21.same s22
      generalize upd H21 p4 (HO.lst [V.int 1, .int 2, .int 3, .int 4]) = H22 at h4 sb22 su22 ⊢
      clear s22 hp4 sb21 su21 sb20 su20 d21
      refine nilP ⟨b, l, p4, _, rfl, sb22.dl, h4, n4b, n4l, (by simp), (by simp), fun j v H23 hj d23 => ?_⟩
      obtain ⟨m2, rfl, m21, m24⟩ : ∃ m2 : Nat, v = .int (m2 : Int) ∧ 1 ≤ m2 ∧ m2 ≤ 12 := by
        match j, hj with
        | 0, hj => exact ⟨1, (Option.some.inj hj).symm, by decide, by decide⟩
        | 1, hj => exact ⟨2, (Option.some.inj hj).symm, by decide, by decide⟩
        | 2, hj => exact ⟨3, (Option.some.inj hj).symm, by decide, by decide⟩
        | 3, hj => exact ⟨4, (Option.some.inj hj).symm, by decide, by decide⟩
        | (j + 4), hj => cases hj
      have sb23 := sb22.draw d23
      have su23 := su22.draw sb22.dl d23
      clear h4 n4b n4l sb22 su22 d23 hj
      refine ⟨_, rfl, _, _, rfl, _, _, rfl, nilP ⟨(by show 3 ≤ sizeLine; decide), fun pl hpl => ?_⟩⟩
      obtain ⟨m3, em3, m31, m312⟩ : ∃ m3 : Nat, (if (if (G : Int) > 1 then (G : Int) else 1) < 12 then (if (G : Int) > 1 then (G : Int) else 1) else 12) = (m3 : Int) ∧ 1 ≤ m3 ∧ m3 ≤ 12 := by
        by_cases z : (G : Int) > 1
        · rw [if_pos z]
          by_cases z2 : (G : Int) < 12
          · exact ⟨G, if_pos z2, by omega, by omega⟩
          · exact ⟨12, if_neg z2, by decide, by decide⟩
        · rw [if_neg z]
          exact ⟨1, if_pos (by decide), by decide, by decide⟩
      have nlb := sb23.dl.nb hpl
      have nll := sb23.dl.nl hpl
      rw [em3]
      obtain ⟨m1, em1, m11, m112⟩ : ∃ m1 : Nat, (1 : Int) + r1' = (m1 : Int) ∧ 1 ≤ m1 ∧ m1 ≤ 12 := ⟨(1 + r1').toNat, by omega, by omega, by omega⟩
      have s24 := same_new (o := HO.lst [V.int (1 + r1'), .int (m2 : Int), .int (m3 : Int)]) hpl
      have hpl4 : (upd H23 pl (HO.lst [V.int (1 + r1'), .int (m2 : Int), .int (m3 : Int)])) pl = some (.lst [V.int (m1 : Int), .int (m2 : Int), .int (m3 : Int)]) := by rw [upd_same, em1]
      have sb24 := sb23.same s24
      have su24 := su23.same s24
      refine ⟨pl, rfl, ⟨_, SqL.of hpl4⟩, for_list (K := K) (a := pl) (xs := [V.int (m1 : Int), .int (m2 : Int), .int (m3 : Int)]) (fun i σ H' => ∃ v10 v11 v12 v13 v14 v15 : Option V, σ = [some (.ref a), some (.ref b), some (.int (many : Int)), some (.ref tl), some (.int (nd : Int)), some (.ref pp), some (.int (G : Int)), some (.ref D1), some (.ref hl), some (.ref su), v10, v11, v12, v13, v14, v15, none, some (.ref wc), none, none, none, none] ∧ Sb2 W b l tl pp wc T many ts as scs sts H' ∧ Su2 b l su (sumsL (actD sts) (cnt many ts sts).hs nd many) H' ∧ H' pl = some (.lst [V.int (m1 : Int), .int (m2 : Int), .int (m3 : Int)]))
        ⟨none, none, none, none, none, none, rfl, sb24, su24, hpl4⟩ (fun i σ H' _ ⟨_, _, _, _, _, _, _, _, _, h⟩ => SqL.of h) ?_ ?_⟩
      rotate_left
      · rintro σ H' ⟨v10, v11, v12, v13, v14, v15, h1, h2, _, _⟩
        exact go σ H' ⟨v10, v11, v12, v13, v14, v15, h1, h2⟩
      clear sb23 su23 s24 sb24 su24 hpl4 hpl
      rintro i y σ H25 hy ⟨v10, v11, v12, v13, v14, v15, rfl, sb25, su25, hpl25⟩
      obtain ⟨pe, rfl, pe1, pe12⟩ : ∃ pe : Nat, y = .int (pe : Int) ∧ 1 ≤ pe ∧ pe ≤ 12 := by
        match i, hy with
        | 0, hy => exact ⟨m1, (Option.some.inj hy).symm, m11, m112⟩
        | 1, hy => exact ⟨m2, (Option.some.inj hy).symm, m21, m24⟩
        | 2, hy => exact ⟨m3, (Option.some.inj hy).symm, m31, m312⟩
        | (i + 3), hy => cases hy
      refine gn ?_
      dsimp only [List.set]
      have lacts : (actD sts).length ≤ 18 := kl
      refine ifG (fun c H' => c = decide (pe ∣ G) ∧ H' = H25) (fun c H1 hc => ?_) fun go2 => ?_
      rotate_left
      · refine ⟨_, rfl, rfl, _, rfl, ?_⟩
        refine ifD (fun e => ?_) fun e => ?_
        · have G0 : G = 0 := by have := of_decide_eq_true e; injection this with this; omega
          exact go2 true _ ⟨by rw [G0, decide_eq_true (Nat.dvd_zero pe)], rfl⟩
        · refine ⟨_, rfl, .inl ⟨_, rfl, _, rfl, _, _, rfl, rfl, (by omega), rfl, _, rfl, ?_⟩⟩
          refine go2 _ _ ⟨?_, rfl⟩
          refine decide_eq_decide.mpr ⟨fun e => ?_, fun e => ?_⟩
          · injection e with e
            have e : (G : Int) % (pe : Int) = 0 := e
            rw [← Int.natCast_emod] at e
            exact Nat.dvd_of_mod_eq_zero (by omega)
          · have := Nat.mod_eq_zero_of_dvd e
            show V.int ((G : Int) % (pe : Int)) = V.int 0
            rw [← Int.natCast_emod, this]; rfl
      obtain ⟨rfl, rfl⟩ := hc
      by_cases hdv : pe ∣ G
      · rw [decide_eq_true hdv]
        refine iteT ?_
        -- a line
        refine ⟨_, rfl, _, rfl, _, rfl, nilP ⟨b, l, pe, nd, rfl, sb25.dl, pe1, pe12, nd1, by omega, fun lead ms p H26 d26 l1 l12 lms lo => ?_⟩⟩
        refine gn ?_
        dsimp only [List.set]
        have sb26 := sb25.draw d26
        have su26 := su25.draw sb25.dl d26
        have hpl26 := d26.2 _ _ hpl25 nlb nll
        clear sb25 su25 hpl25
        have wf := ln_wf (pe := pe) (lead := lead) (ms := ms) (by omega) (by omega) pe1 l12
        have cmm := ln_cmm (pe := pe) (lead := lead) (ms := ms) (by omega) (by omega) pe1 l12
        have hS : nS (lnT pe lead ms) = pe + lead := lnT_nS (by omega)
        have hfi : 0 ≤ (0 : Int) ∧ (0 : Int) < (nS (lnT pe lead ms) : Int) := by rw [hS]; omega
        have okL : ∀ s ∈ sts, okS many ts.length (lnT pe lead ms).length s := fun s hs => by rw [lnT_len, lms]; exact ok s hs
        have harm := fun {h : Nat} (hh : HarmIs (lnT pe lead ms) 0 h) => ln_harm (ms := ms) pe1 l1 hh
        have same : ∀ h, h < many → run (lnT pe lead ms) 0 (rc (actD sts) ((cnt many ts sts).hs.getD h [])) = run (lnT pe lead ms) 0 (rc (actD sts) (((cnt many ts sts).hs.getD h []).map mn1)) := fun h hh => by
          have hr := List.mem_of_getElem? (getL (l := (cnt many ts sts).hs) (i := h) (by omega))
          refine ln_same pe1 l1 (fun c hc => (mrow _ hr c hc).1) (fun z hz => by rw [lms]; exact ain z hz) fun d hd => ?_
          exact (grt pe).mp hdv _ (List.mem_map.mpr ⟨_, mem_sumsL.mpr ⟨h, d, hh, by omega, rfl⟩, rfl⟩)
        generalize lnT pe lead ms = tb at lo wf cmm hS hfi okL harm same
        obtain ⟨tas, hLL, npb, npl, nab⟩ := lo
        -- its machine
        refine ⟨_, rfl, fun mc mdx hm0 hmdx nem => ?_⟩
        have smm := mkSameN (o1 := HO.own mc) (o2 := HO.ins M mdx []) hm0 hmdx nem
        refine ⟨mc, mdx, .ref p, some ((vts tb).map some), rfl, upd_same, (hLL.same smm).mv, fun z hz => (by rw [chk_wf wf] at hz; cases hz), fun _ ts' es ta H27 k27 hM => ⟨rfl, ?_⟩⟩
        obtain rfl := vts_inj es
        have s27 : Same H26 H27 := fun c u ec => k27 c u (smm c u ec) (ne_of_none ec hm0)
        refine ⟨mc, ta, tb, .int 0, rfl, hM, wf, ⟨none, .int _⟩, fun hb => (by rw [belowOk hfi] at hb; cases hb), fun _ => ⟨0, rfl, fun ns r H28 s28 asc mem pap => ?_⟩⟩
        obtain rfl := cmm_paper cmm mem pap
        refine ⟨fun _ h H29 s29 hh => ?_, fun x a b er => nomatch er⟩
        obtain ⟨h0, hdp⟩ := harm hh
        refine gn ?_
        dsimp only [List.set]
        have s2629 := s27.trans s29
        have sb29 := sb26.same s2629
        have su29 := su26.same s2629
        have hpl29 := s2629 _ _ hpl26
        have hLL29 := hLL.same s2629
        clear sb26 su26 hpl26 smm k27 hm0 hmdx nem es s27 s28 s29 s2629 hM hLL
        have hmod : (pe : Int) % (h : Int) = 0 := by
          rw [← Int.natCast_emod, Nat.mod_eq_zero_of_dvd hdp]; rfl
        refine ⟨_, rfl, _, _, rfl, rfl, _, rfl, ?_⟩
        refine ifD (fun e => absurd (of_decide_eq_true e) (by omega)) fun _ => ?_
        refine ⟨_, rfl, .inl ⟨_, rfl, _, rfl, _, _, rfl, rfl, (by omega), rfl, _, rfl, ?_⟩⟩
        have eF : (!decide (V.int ((pe : Int) % (h : Int)) = V.int 0)) = false := by rw [hmod]; rfl
        refine ifD (fun e => ?_) fun _ => ?_
        · exfalso
          have e : (!decide (V.int ((pe : Int) % (h : Int)) = V.int 0)) = true := e
          rw [eF] at e; cases e
        -- what it shows
        refine ⟨_, rfl, _, rfl, _, rfl, nilP ⟨p, wc, pp, 0, tas, tb, many, ts, scs, sts, rfl, hLL29, wf, hfi, cmm, sb29.wb, wv, sb29.st.h, sb29.st.ps, okL, by omega, fun q0 H30 s30 _ hq0 => ?_⟩⟩
        have eall : shB tb 0 (actD sts) (cnt many ts sts).hs many = List.replicate many true := by
          unfold shB
          refine List.eq_replicate_iff.mpr ⟨by rw [List.length_map, List.length_range], fun x hx => ?_⟩
          obtain ⟨h, hh, rfl⟩ := List.mem_map.mp hx
          unfold shR
          rw [same h (List.mem_range.mp hh), decide_eq_true rfl]
        rw [eall] at hq0
        refine ⟨(by show 1 ≤ sizeLine; decide), fun l1' hl1' => ⟨_, rfl, rep_by many upd_same (by omega) fun l2 hl2 => ?_⟩⟩
        have s31 := (same_new (o := HO.lst [V.bl true]) hl1').trans (same_new (o := HO.lst (List.replicate many (V.bl true))) hl2)
        refine neDP (.lst (SqL.of (s31 _ _ hq0)) (dp_bls _)) (.lst (SqL.of (xs := (List.replicate many true).map V.bl) (by rw [upd_same, List.map_replicate])) (dp_bls _)) (Pl.list (pla_bls _)) (by decide) ⟨_, rfl, iteF (nxP ?_)⟩
        have s32 := s30.trans s31
        exact ⟨_, _, _, _, _, _, rfl, sb29.same s32, su29.same s32, s32 _ _ hpl29⟩
      · rw [decide_eq_false hdv]
        refine iteF ?_
        have pe2 : 2 ≤ pe := by
          rcases (show pe = 1 ∨ 2 ≤ pe by omega) with rfl | z
          · exact absurd (Nat.one_dvd G) hdv
          · exact z
        -- a sum that it does not divide
        have nex : ∃ t ∈ sumsL (actD sts) (cnt many ts sts).hs nd many, ¬ pe ∣ t.2.2.natAbs := by
          by_cases z : ∃ t ∈ sumsL (actD sts) (cnt many ts sts).hs nd many, ¬ pe ∣ t.2.2.natAbs
          · exact z
          · refine absurd ((grt pe).mpr fun y hy => ?_) hdv
            obtain ⟨t, ht, rfl⟩ := List.mem_map.mp hy
            by_cases w : pe ∣ t.2.2.natAbs
            · exact w
            · exact absurd ⟨t, ht, w⟩ z
        obtain ⟨⟨cs', hsu25, hS25⟩, nsub, nsul⟩ := id su25
        have lcs := hS25.1
        refine ⟨_, rfl, _, rfl, su, rfl, ⟨_, SqL.of hsu25⟩, fun D7 hD7 => lc_list (K := K) (a := su) (xs := cs'.map V.ref) (fun j H' => ∃ ds : List Addr, Same H1 H' ∧ H' D7 = some (.lst (ds.map V.ref)) ∧ ds.length ≤ j ∧ (∀ d ∈ ds, ∃ t ∈ sumsL (actD sts) (cnt many ts sts).hs nd many, H1 d = some (.tup (smV t)) ∧ ¬ pe ∣ t.2.2.natAbs) ∧ ((∃ (i : Nat) (t : Sm), i < j ∧ (sumsL (actD sts) (cnt many ts sts).hs nd many)[i]? = some t ∧ ¬ pe ∣ t.2.2.natAbs) → ds ≠ [])) ⟨[], same_new hD7, upd_same, Nat.le_refl _, (fun d hd => nomatch hd), fun ⟨i, t, h, _⟩ => absurd h (Nat.not_lt_zero _)⟩ (fun j H' _ ⟨_, s1, _⟩ => SqL.of (s1 _ _ hsu25)) ?_ ?_⟩
        · rintro j y H6 hy ⟨ds, s6, hD76, lds, hds, hne⟩
          obtain ⟨c, t, rfl, hc, ht, hct⟩ := hS25.get hy
          have hct6 := s6 _ _ hct
          have jl := lt_at ht
          refine ⟨rfl, _, rfl, c, _, (2 : Int), .int t.2.2, rfl, rfl, SqT.of hct6, at_i (i := 2) rfl, .inl ⟨_, rfl, _, rfl, _, _, rfl, rfl, (by omega), rfl, _, rfl, ?_⟩⟩
          refine ifD (fun e => ?_) fun e => ?_
          · have e : (!decide (V.int (t.2.2 % (pe : Int)) = V.int 0)) = true := e
            rw [nd_dec] at e
            have nd' : ¬ pe ∣ t.2.2.natAbs := fun w => by rw [decide_eq_true w] at e; cases e
            refine ⟨_, rfl, _, hD76, szl (by rw [List.length_map]; omega), ds ++ [c], fun c' o e' => by rw [upd_ne (ne_of_none e' hD7)]; exact s6 _ _ e', by rw [upd_same, List.map_append]; rfl, by rw [List.length_append]; show ds.length + 1 ≤ j + 1; omega, fun d hd' => ?_, fun _ => by simp⟩
            rcases List.mem_append.mp hd' with h | h
            · exact hds d h
            · rw [List.mem_singleton.mp h]
              exact ⟨t, List.mem_of_getElem? ht, hct, nd'⟩
          · have e : (!decide (V.int (t.2.2 % (pe : Int)) = V.int 0)) = false := e
            rw [nd_dec] at e
            have nd' : pe ∣ t.2.2.natAbs := by
              by_cases w : pe ∣ t.2.2.natAbs
              · exact w
              · rw [decide_eq_false w] at e; cases e
            refine ⟨ds, s6, hD76, by omega, hds, fun ⟨i, t', hi, ht', hn⟩ => hne ⟨i, t', ?_, ht', hn⟩⟩
            rcases (show i < j ∨ i = j by omega) with h | h
            · exact h
            · subst h
              rw [ht] at ht'
              obtain rfl := Option.some.inj ht'
              exact absurd nd' hn
        rintro H6 ⟨ds, s6, hD76, lds, hds, hne⟩
        have ds0 : ds ≠ [] := by
          obtain ⟨t, ht, hn⟩ := nex
          obtain ⟨i, hi⟩ := List.getElem?_of_mem ht
          exact hne ⟨i, t, by rw [List.length_map, lcs]; exact lt_at hi, hi, hn⟩
        have sb6 := sb25.same s6
        have su6 := su25.same s6
        have hpl6 := s6 _ _ hpl25
        have nb7 := sb25.dl.nb hD7
        have nl7 := sb25.dl.nl hD7
        rw [List.length_map, lcs] at lds
        refine nilP ⟨b, l, D7, _, rfl, sb6.dl, hD76, nb7, nl7, (by rw [List.length_map]; exact List.length_pos_iff.mpr ds0), (by rw [List.length_map]; omega), fun j v H7 hj d7 => ?_⟩
        obtain ⟨c, hc, rfl⟩ := at_map hj
        obtain ⟨t, ht, hct, hnd'⟩ := hds c (List.mem_of_getElem? hc)
        obtain ⟨h, d, hh, hd', rfl⟩ := mem_sumsL.mp ht
        have hct7 := (Kp.dl sb6.dl d7).tup (s6 _ _ hct)
        have sb7 := sb6.draw d7
        have su7 := su6.draw sb6.dl d7
        have hpl7 := d7.2 _ _ hpl6 nlb nll
        clear sb6 su6 hpl6 sb25 su25 hpl25 hsu25 hS25 hD76 hds hne s6 hj d7 nex
        refine ⟨c, _, rfl, SqT.of hct7, rfl, _, _, rfl, _, _, rfl, _, _, rfl, rfl, ?_⟩
        dsimp only [List.set]
        -- a counter
        refine ⟨_, rfl, (nd : Int), rfl, by omega, by omega, fun D0 hD0 => lc_range (fun i H' => ∃ as, Bl H7 H' D0 as (ctT pe d i)) ⟨[], Bl.init hD0⟩ ?_ ?_⟩
        · rintro i Hb hi ⟨as, I⟩
          rw [Int.zero_add]
          refine ⟨rfl, _, rfl, (pe : Int), rfl, by omega, by omega, fun D1 hD1 => lc_range (fun j H' => Same Hb H' ∧ H' D1 = some (.lst (vrow (ctR pe (decide (i = d)) j)))) ⟨same_new hD1, by rw [upd_same]; rfl⟩ ?_ ?_⟩
          · rintro j H2 hj ⟨s2, hD2⟩
            rw [Int.zero_add]
            have fin : ∀ x : Int, x = (((j + if decide (i = d) = true then 1 else 0) % pe : Nat) : Int) → ∃ acc, H2 D1 = some (.lst acc) ∧ acc.length < sizeLine ∧ Same Hb (upd H2 D1 (.lst (acc ++ [V.int x]))) ∧ (upd H2 D1 (.lst (acc ++ [V.int x]))) D1 = some (.lst (vrow (ctR pe (decide (i = d)) (j + 1)))) := fun x e =>
              ⟨_, hD2, szl (by rw [vrow_len, ctR_len]; omega), fun c o e' => by rw [upd_ne (ne_of_none e' hD1)]; exact s2 _ _ e', by rw [upd_same, ctR_succ, e, vrow, vrow, List.map_append]; rfl⟩
            refine ⟨rfl, _, rfl, _, rfl, _, rfl, rfl, _, rfl, ?_⟩
            refine ifD (fun ez => ?_) fun ez => ?_
            · have hid : i = d := by have := of_decide_eq_true ez; injection this with this; omega
              refine ⟨_, _, rfl, rfl, .inl ⟨_, rfl, _, rfl, _, _, rfl, rfl, by omega, fin _ ?_⟩⟩
              rw [decide_eq_true hid]
              show ((j : Int) + 1) % (pe : Int) = (((j + 1) % pe : Nat) : Int)
              rw [Int.natCast_emod]; rfl
            · have hid : ¬ i = d := fun z => by have := of_decide_eq_false ez; exact this (by rw [z])
              refine ⟨_, _, rfl, rfl, .inl ⟨_, rfl, _, rfl, _, _, rfl, rfl, by omega, fin _ ?_⟩⟩
              rw [decide_eq_false hid]
              show ((j : Int) + 0) % (pe : Int) = (((j + 0) % pe : Nat) : Int)
              rw [Int.natCast_emod]; rfl
          rintro H2 ⟨s2, hD2⟩
          rw [Int.toNat_natCast] at hD2
          have := I.step (r := ctR pe (decide (i = d)) pe) (by rw [ctT_len]; omega) s2 hD2 hD1
          rw [← ctT_succ] at this
          exact this
        rintro H8 ⟨tas, I⟩
        rw [Int.toNat_natCast] at I
        refine gn ?_
        dsimp only [List.set]
        have hLL := I.l
        have sb8 := sb7.same I.s
        have su8 := su7.same I.s
        have hpl8 := I.s _ _ hpl7
        clear sb7 su7 hpl7 I hct7
        have wf := ct_wf (m := pe) (d := d) (nd := nd) nd1 (by omega) pe1 pe12
        have hfi : 0 ≤ (0 : Int) ∧ (0 : Int) < (nS (ctT pe d nd) : Int) := by rw [ctT_nS nd1]; omega
        have cmm := ct_cmm (m := pe) (d := d) (nd := nd) nd1 (by omega) pe1 pe12 0 (by omega)
        have okL : ∀ s ∈ sts, okS many ts.length (ctT pe d nd).length s := fun s hs => by rw [ctT_len]; exact ok s hs
        have hr := List.mem_of_getElem? (getL (l := (cnt many ts sts).hs) (i := h) (by omega))
        have tells := ct_tells (m := pe) (d := d) (nd := nd) (acts := actD sts) (r := (cnt many ts sts).hs.getD h []) pe1 (fun c hc => (mrow _ hr c hc).1) ain hnd'
        have harm := fun {k : Nat} (hh : HarmIs (ctT pe d nd) 0 k) => ct_harm pe1 hd' hh
        generalize ctT pe d nd = tb at hLL wf hfi cmm okL tells harm
        refine ⟨_, rfl, fun mc mdx hm0 hmdx nem => ?_⟩
        have smm := mkSameN (o1 := HO.own mc) (o2 := HO.ins M mdx []) hm0 hmdx nem
        refine ⟨mc, mdx, .ref D0, some ((vts tb).map some), rfl, upd_same, (hLL.same smm).mv, fun z hz => (by rw [chk_wf wf] at hz; cases hz), fun _ ts' es ta H27 k27 hM => ⟨rfl, ?_⟩⟩
        obtain rfl := vts_inj es
        have s27 : Same H8 H27 := fun c u ec => k27 c u (smm c u ec) (ne_of_none ec hm0)
        refine ⟨mc, ta, tb, .int 0, rfl, hM, wf, ⟨none, .int _⟩, fun hb => (by rw [belowOk hfi] at hb; cases hb), fun _ => ⟨0, rfl, fun ns r H28 s28 asc mem pap => ?_⟩⟩
        obtain rfl := cmm_paper cmm mem pap
        refine ⟨fun _ k H29 s29 hhk => ?_, fun x a b er => nomatch er⟩
        obtain rfl := harm hhk
        have s2729 := s27.trans s29
        have sb29 := sb8.same s2729
        have su29 := su8.same s2729
        have hpl29 := s2729 _ _ hpl8
        have hLL29 := hLL.same s2729
        clear sb8 su8 hpl8 smm k27 hm0 hmdx nem es s27 s28 s29 s2729 hM hLL
        refine ⟨_, rfl, rfl, false, congrArg V.bl (by rw [decide_eq_true rfl]; rfl), iteF ?_⟩
        refine ⟨_, rfl, _, rfl, _, rfl, nilP ⟨D0, wc, pp, 0, tas, tb, many, ts, scs, sts, rfl, hLL29, wf, hfi, cmm, sb29.wb, wv, sb29.st.h, sb29.st.ps, okL, by omega, fun q0 H30 s30 _ hq0 => ?_⟩⟩
        have eat : ((shB tb 0 (actD sts) (cnt many ts sts).hs many).map V.bl)[h]? = some (.bl false) := by
          unfold shB
          rw [List.getElem?_map, List.getElem?_map, List.getElem?_range hh]
          show some (V.bl (shR tb 0 (actD sts) ((cnt many ts sts).hs.getD h []))) = _
          rw [tells]
        refine ⟨_, rfl, q0, _, (h : Int), .bl false, rfl, rfl, SqL.of hq0, at_i eat, ?_⟩
        refine nilP ⟨_, rfl, .inr (.inl ⟨false, rfl, ?_⟩)⟩
        refine ⟨rfl, false, congrArg V.bl (by show (!decide (V.str "False" = V.str "False")) = false; rw [decide_eq_true rfl]; rfl), iteF (nxP ?_)⟩
        exact ⟨_, _, _, _, _, _, rfl, sb29.same s30, su29.same s30, s30 _ _ hpl29⟩
    rintro σ H25 ⟨v10, v11, v12, v13, v14, v15, rfl, sb25⟩
    clear su20 sb20
    -- steps that are bent
    have ela : ((as.map V.ref).length : Int) = (ts.length : Int) := by rw [List.length_map, sb25.tie.ps.1]
    have els : ((scs.map V.ref).length : Int) = (sts.length : Int) := by rw [List.length_map, sb25.st.ps.1]
    refine ⟨_, rfl, _, rfl, _, rfl, tl, _, rfl, .inl (SqL.of sb25.tie.h), ?_⟩
    rw [ela]
    refine nilP ⟨(by show 2 ≤ sizeLine; decide), fun p1 hp1 => ?_⟩
    refine ⟨_, rfl, cnP (nilP ⟨(by show 3 ≤ sizeLine; decide), fun p2 hp2 => ?_⟩)⟩
    refine tup3C ⟨(by show 3 ≤ sizeLine; decide), fun p3 hp3 => ?_⟩
    refine tup0C ⟨(by show 0 ≤ sizeLine; decide), fun p4 hp4 => ?_⟩
    refine cnP (nilP ⟨(by show 6 ≤ sizeLine; decide), fun p5 hp5 => ?_⟩)
    have s1 := same_new (o := HO.tup [V.str "meet", .int (ts.length : Int)]) hp1
    have h1 : (upd H25 p1 (HO.tup [V.str "meet", .int (ts.length : Int)])) p1 = some (.tup [V.str "meet", .int (ts.length : Int)]) := upd_same
    have s2 := same_new (o := HO.tup [V.str "do", .int (many : Int), .int 0]) hp2
    have h2 : (upd (upd H25 p1 (HO.tup [V.str "meet", .int (ts.length : Int)])) p2 (HO.tup [V.str "do", .int (many : Int), .int 0])) p2 = some (.tup [V.str "do", .int (many : Int), .int 0]) := upd_same
    generalize hH30 : upd (upd H25 p1 (HO.tup [V.str "meet", .int (ts.length : Int)])) p2 (HO.tup [V.str "do", .int (many : Int), .int 0]) = H30 at s2 h2 hp3 hp4 hp5 ⊢
    have s12 := s1.trans s2
    have h1 := s2 _ _ h1
    have s3 := same_new (o := HO.tup [V.str "do", .int 0, .int 8]) hp3
    have h3 : (upd H30 p3 (HO.tup [V.str "do", .int 0, .int 8])) p3 = some (.tup [V.str "do", .int 0, .int 8]) := upd_same
    have s4 := same_new (o := HO.tup []) hp4
    have h4 : (upd (upd H30 p3 (HO.tup [V.str "do", .int 0, .int 8])) p4 (HO.tup [])) p4 = some (.tup []) := upd_same
    have s34 := s3.trans s4
    have h3 := s4 _ _ h3
    generalize hH31 : upd (upd H30 p3 (HO.tup [V.str "do", .int 0, .int 8])) p4 (HO.tup []) = H31 at s34 h3 h4 hp5 ⊢
    have h1 := s34 _ _ h1
    have h2 := s34 _ _ h2
    have sb31 := (sb25.same s12).same s34
    have nb5 := sb31.dl.nb hp5
    have nl5 := sb31.dl.nl hp5
    have s5 := same_new (o := HO.lst [V.non, .ref p1, .ref p2, .ref p3, .ref p4, .str "meet"]) hp5
    have h5 : (upd H31 p5 (HO.lst [V.non, .ref p1, .ref p2, .ref p3, .ref p4, .str "meet"])) p5 = some (.lst [V.non, .ref p1, .ref p2, .ref p3, .ref p4, .str "meet"]) := upd_same
    have sb32 := sb31.same s5
    have wr : ∀ v ∈ ([V.non, .ref p1, .ref p2, .ref p3, .ref p4, .str "meet"] : List V), Wr K b l many ts.length 8 (upd H31 p5 (HO.lst [V.non, .ref p1, .ref p2, .ref p3, .ref p4, .str "meet"])) v := fun v hv => by
      simp only [List.mem_cons, List.mem_nil_iff, or_false] at hv
      rcases hv with rfl | rfl | rfl | rfl | rfl | rfl
      · exact wr_fl rfl
      · refine wr_tup (s5 _ _ h1) sb32.dl rfl (show PyData.strOk "meet" = true by decide +kernel) ?_
        show (decide (V.str "meet" = V.str "meet") && belowB (.int (ts.length : Int)) (ts.length : Int)) = false
        rw [belowB_nat, decide_eq_false (Nat.lt_irrefl _), Bool.and_false]
      · refine wr_tup (s5 _ _ h2) sb32.dl rfl (show PyData.strOk "do" = true by decide +kernel) ?_
        show (decide (V.str "do" = V.str "do") && (belowB (.int (many : Int)) (many : Int) && belowB (.int 0) ((8 : Nat) : Int))) = false
        rw [belowB_nat, decide_eq_false (Nat.lt_irrefl _), Bool.false_and, Bool.and_false]
      · refine wr_tup (s5 _ _ h3) sb32.dl rfl (show PyData.strOk "do" = true by decide +kernel) ?_
        show (decide (V.str "do" = V.str "do") && (belowB (.int 0) (many : Int) && belowB (.int 8) ((8 : Nat) : Int))) = false
        rw [show belowB (.int 8) ((8 : Nat) : Int) = false from rfl, Bool.and_false, Bool.and_false]
      · exact wr_tup (s5 _ _ h4) sb32.dl rfl rfl rfl
      · exact wr_fl rfl
    generalize upd H31 p5 (HO.lst [V.non, .ref p1, .ref p2, .ref p3, .ref p4, .str "meet"]) = H32 at h5 sb32 wr ⊢
    clear hH30 hH31 s1 s2 s3 s4 s5 s12 s34 h1 h2 h3 h4 hp1 hp2 hp3 hp4 hp5 sb25 sb31
    refine nilP ⟨b, l, p5, _, rfl, sb32.dl, h5, nb5, nl5, (by simp), (by simp), fun j x H33 hj d33 => ?_⟩
    have wx := (wr x (List.mem_of_getElem? hj)).ks (Dl.ks d33)
    have sb33 := sb32.draw d33
    clear sb32 wr h5 d33
    refine nilP ⟨(by show 1 ≤ sizeLine; decide), fun p6 hp6 => ?_⟩
    have s6 := same_new (o := HO.lst [x]) hp6
    refine ⟨pp, p6, _, _, rfl, rfl, s6 _ _ sb33.st.h, upd_same, sz (by rw [List.length_map, sb33.st.ps.1]; simp only [List.length_cons, List.length_nil]; omega), fun p7 hp7 => ?_⟩
    have s7 := same_new (o := HO.lst (scs.map V.ref ++ [x])) hp7
    have h7 : (upd (upd H33 p6 (HO.lst [x])) p7 (HO.lst (scs.map V.ref ++ [x]))) p7 = some (.lst (scs.map V.ref ++ [x])) := upd_same
    have s67 := s6.trans s7
    have sb34 := sb33.same s67
    have w34 := wx.ks (same_ks s67)
    generalize upd (upd H33 p6 (HO.lst [x])) p7 (HO.lst (scs.map V.ref ++ [x])) = H34 at h7 sb34 w34 ⊢
    clear s6 s7 s67 sb33 wx hp6 hp7
    refine gn ?_
    dsimp only [List.set]
    refine ⟨sb34.tb, fun H40 ex t40 => ?_⟩
    have sb40 := sb34.ext ex t40
    have h70 := ex _ _ h7 (fun ps z => by cases z)
    obtain ⟨r, sv, hstB⟩ := (w34.ks (ext_ks ex)) H40 (fun _ _ e _ _ => e)
    refine ⟨_, rfl, _, rfl, nilP (rh_bad sb40.wb wv (svs_more h70 sb40.st.ps sv) (sf_more ok8 hstB (by omega)) ?_)⟩
    refine fun d H41 s41 hd41 hx41 => ⟨d, rfl, rfl, _, hx41, fun p10 H42 s42 hp10 h10 => ?_⟩
    refine ⟨_, rfl, pp, _, rfl, .inl (SqL.of (s42 _ _ (s41 _ _ sb40.st.h))), ?_⟩
    rw [els]
    refine nilP ⟨(by show 1 ≤ sizeLine; decide), fun p11 hp11 => ?_⟩
    have s43 := same_new (o := HO.lst [V.int (sts.length : Int)]) hp11
    refine eqDP (.lst (SqL.of (s43 _ _ h10)) (.cons (.int _) .nil)) (.lst (SqL.of upd_same) (.cons (.int _) .nil)) (Pl.list (PlA.cons (Pl.int (i := (sts.length : Int)) (by omega)) PlA.nil)) (by decide) (q _)
end
end K1
namespace K1
open PySem PySem.Spec PyProof.Rows L2
theorem call_laws {P : Program} {w : World} {K : PySem.W.Frag} {mg mb : Str → Option Value} {k : Nat} {fa a : Addr} (Ps : List (Addr × Addr)) {fd : FuncData} {x : Str} {sp : Sp} {s : Shared} {vs : List Value} {ns : List Int}
    (KX : K.In s.heap) (hmg : s.heap.Ns mainGlobals mg) (hmb : s.heap.Ns builtinsNs mb) (hbb : ∀ x : Str, x ≠ "__name__" → mb x = bootBuiltins x) (hlim : s.heap.NoLimit) (hg : s.gens = #[])
    (hPs : ∀ p ∈ Ps, s.heap.get? p.2 = some { cls := .none, data := .fields #[] } ∧ K.lookup p.2 = none ∧ PySem.W.CodeHd s.heap p.1 p.2)
    (hbm : ∃ (bm : Addr) (ob : Obj), mg "__builtins__" = some (.ref bm) ∧ bm ≠ builtinsNs ∧ s.heap.get? bm = some ob ∧ ob.cls = .type "module" ∧ ob.dict = some builtinsNs ∧ ob.data = .plain)
    (ha : s.heap.get? a = some { cls := .type "list", data := .seq vs.toArray }) (hi : IntsAre vs ns) (hl : ns.length ≤ sizeLine) (hr : Room k callerA)
    (F : ∀ base : Heap, K.In base → base.Ns mainGlobals mg → (∀ p ∈ Ps, LamX.TabB base mg p.1 p.2) → FnG P w K mg base k fa fd [x] sp) (hbind : ∀ (s : Shared) (u : Value), BindsTo s fd ⟨[u], []⟩ [(x, u)])
    (hsp : ∀ H : Hp, (∀ p ∈ Ps, H p.2 = some (.tbl #[])) → SqL K H a (ns.map V.int) → sp [.ref a] H (fun v _ => v = .bl true) fun _ _ _ => False) :
    codeAny (model P w) callerA (.call (.ref fa) ⟨[.ref a], []⟩) (fun r s' => r = .ok (.ret (.bool true)) ∧ OldK s.heap s'.heap ∧ s'.os = s.os ∧ AllBare s'.gens) s := by
  have hTS : ∀ b, b ∈ Ps.map (·.2) → s.heap.get? b = some { cls := .none, data := .fields #[] } ∧ K.lookup b = none ∧ ∃ c, PySem.W.CodeHd s.heap c b := fun b hb => by
    obtain ⟨p, hp, rfl⟩ := List.mem_map.mp hb
    obtain ⟨h1, h2, h3⟩ := hPs p hp
    exact ⟨h1, h2, _, h3⟩
  generalize hTSd : Ps.map (·.2) = TS at hTS
  have inTS : ∀ p ∈ Ps, p.2 ∈ TS := fun p hp => by rw [← hTSd]; exact List.mem_map.mpr ⟨p, hp, rfl⟩
  have nPa : ∀ b ∈ TS, b ≠ a := fun b hb z => by
    have hT := (hTS b hb).1
    rw [z, ha] at hT
    cases Option.some.inj hT
  -- told of any way to follow the script
  have told : ∀ H : Hp, (∀ b ∈ TS, H b = some (.tbl #[])) → (∀ b, b ∉ TS → H b = none ∨ (b = a ∧ K.lookup a = none ∧ ∃ o xs, H a = some (.frz o (.lst xs)))) → SqL K H a (ns.map V.int) → HOk P w H s.heap →
      codeAny (model P w) callerA (.call (.ref fa) ⟨[.ref a], []⟩) (fun r s' => r = .ok (.ret (.bool true)) ∧ OldK s.heap s'.heap ∧ s'.os = s.os ∧ AllBare s'.gens) s := by
    intro H hP hO hS hok
    have out : ∀ {b : Addr} {o : Obj}, s.heap.get? b = some o → b ∉ TS → b ≠ a → (hidT s.heap H).get? b = some o := fun {b o} e n1 n2 => hidT_get e ((hO b n1).resolve_right fun z => n2 z.1)
    have neD : ∀ {b : Addr} {o : Obj}, s.heap.get? b = some o → (∀ v n, o.data ≠ .seq v n) → (o.data ≠ .fields #[]) → b ∉ TS ∧ b ≠ a := fun {b o} e h1 h2 => ⟨fun z => by
      have hT := (hTS b z).1
      rw [hT] at e
      cases Option.some.inj e
      exact h2 rfl, fun z => by
      rw [z, ha] at e
      cases Option.some.inj e
      exact h1 _ _ rfl⟩
    have ns_ : ∀ {b : Addr} {m : Str → Option Value}, s.heap.Ns b m → (hidT s.heap H).Ns b m := fun {b m} ⟨o, es, ep, e, d, r⟩ => by
      have n := neD e (fun v n z => by rw [d] at z; cases z) (fun z => by rw [d] at z; cases z)
      exact ⟨o, es, ep, out e n.1 n.2, d, r⟩
    have kin : K.In (hidT s.heap H) := fun b o e => by
      refine hidT_get (KX b o e) ?_
      by_cases z : b ∈ TS
      · rw [(hTS b z).2.1] at e; cases e
      · refine (hO b z).resolve_right fun ⟨z1, z2, _⟩ => ?_
        rw [z1, z2] at e
        cases e
    have hM : L2.Mod K mg (hidT s.heap H) := ⟨kin, ns_ hmg, ⟨mb, ns_ hmb, hbb⟩, let ⟨mc, h1, h2⟩ := hlim; ⟨mc, ns_ h1, h2⟩⟩
    have TB : ∀ p ∈ Ps, LamX.TabB (hidT s.heap H) mg p.1 p.2 := fun p hp => by
      obtain ⟨hT, nT, hC⟩ := hPs p hp
      refine ⟨?_, ?_, fun z => ?_⟩
      · obtain ⟨o, us, file, tf, flags, tg, inF, text, tt, e, e2, e3, r⟩ := hC
        have n := neD e (fun v n z => by rw [e3] at z; cases z) (fun z => by
          rw [e3] at z
          cases z
          have := r.1
          simp at this)
        exact ⟨o, us, file, tf, flags, tg, inF, text, tt, out e n.1 n.2, e2, e3, r⟩
      · obtain ⟨bm, ob, b1, b2, b3, b4, b5, b6⟩ := hbm
        have n := neD b3 (fun v n z => by rw [b6] at z; cases z) (fun z => by rw [b6] at z; cases z)
        refine ⟨bm, ob, b1, b2, fun z => ?_, fun z => n.1 (by rw [z]; exact inTS p hp), out b3 n.1 n.2, b4, b5, b6⟩
        obtain ⟨o, es, ep, e, d, _⟩ := hmg
        rw [z, e] at b3
        cases Option.some.inj b3
        rw [d] at b6
        cases b6
      · obtain ⟨o, es, ep, e, d, _⟩ := hmg
        rw [z, hT] at e
        cases Option.some.inj e
        cases d
    have e0 : Env0 P w K mg (hidT s.heap H) callerA [] s H := ⟨rfl, hM, fun b o e => of_hidT e, Nat.le_of_eq (hidT_size _ _), trivial, fun b hb => absurd (show b ∈ ([] : List Addr) from hb) (by simp), hok, .of_eq hg⟩
    refine codeAny_mono ((F _ kin (ns_ hmg) TB).run callerA [] s H ⟨[.ref a], []⟩ [.ref a] [.ref a] _ _ hr rfl e0 (hbind s (.ref a)) (.cons rfl .nil) (hsp H (fun p hp => hP _ (inTS p hp)) hS)) fun r s' h => ?_
    cases r with
    | error e => exact (show False from h).elim
    | ok fl =>
      cases fl with
      | next => exact False.elim h
      | brk => exact False.elim h
      | cont => exact False.elim h
      | ret u =>
        obtain ⟨v, H', os, bare, un, hok', r', q⟩ := h
        obtain rfl : v = V.bl true := q
        obtain rfl : u = Value.bool true := r'
        have hm' : ∀ b ∈ TS, ∃ more, s'.heap.get? b = some { cls := .none, data := .fields more } := fun b hb => by
          obtain ⟨more, hm⟩ := un.tbls b #[] (hP b hb)
          have z := hok' b _ hm
          rw [Array.empty_append] at z
          exact ⟨more, z⟩
        have rest : ∀ b o, b ∉ TS → s.heap.get? b = some o → s'.heap.get? b = some o := fun b o n e => by
          rcases hO b n with z | ⟨z, _, ob, xs, hf⟩
          · exact un.keep b o e z (fun w => absurd (show b ∈ ([] : List Addr) from w) (by simp)) (by simp)
          · rw [z] at e ⊢
            have e1 := (hok a _ hf).1
            rw [e] at e1
            rw [Option.some.inj e1]
            exact (hok' a _ (un.frzs a ob _ hf)).1
        refine ⟨rfl, ⟨fun b o e => ?_, fun b o e => ?_⟩, os, bare⟩
        · by_cases z : b ∈ TS
          · obtain ⟨hT, _, c, hC⟩ := hTS b z
            obtain ⟨more, hm⟩ := hm' b z
            rw [hT] at e
            cases Option.some.inj e
            exact .inr (.inl ⟨(hC.tab hT).isCodeTable, rfl, #[], more, rfl, by rw [Array.empty_append]; exact hm⟩)
          · exact .inl (rest b o z e)
        · by_cases z : b ∈ TS
          · obtain ⟨more, hm⟩ := hm' b z
            exact ⟨_, hm⟩
          · exact ⟨o, rest b o z e⟩
  have rv := vals_ints hi
  have naTS : a ∉ TS := fun z => nPa a z rfl
  cases hk : K.lookup a with
  | some o =>
    have e := KX a o hk
    rw [ha] at e
    cases Option.some.inj e
    refine told (fun b => if b ∈ TS then some (.tbl #[]) else none) (fun b hb => if_pos hb) (fun b n => .inl (if_neg n)) (.inr ⟨_, vs.toArray, _, hk, rfl, rfl, rfl, by rw [List.size_toArray, hi.length]; exact hl, by simpa using rv⟩) fun b u z => ?_
    by_cases n : b ∈ TS
    · have z' : some (HO.tbl #[]) = some u := (if_pos n).symm.trans z
      cases z'
      exact (hTS b n).1
    · have z' : (none : Option HO) = some u := (if_neg n).symm.trans z
      cases z'
  | none =>
    refine told (fun b => if b ∈ TS then some (.tbl #[]) else if b = a then some (.frz { cls := .type "list", data := .seq vs.toArray } (.lst (ns.map V.int))) else none) (fun b hb => if_pos hb) (fun b n => ?_) (.inl (.inr ⟨_, (if_neg naTS).trans (if_pos rfl)⟩)) fun b u z => ?_
    · by_cases n2 : b = a
      · exact .inr ⟨n2, hk, _, _, (if_neg naTS).trans (if_pos rfl)⟩
      · exact .inl ((if_neg n).trans (if_neg n2))
    · by_cases n : b ∈ TS
      · have z' : some (HO.tbl #[]) = some u := (if_pos n).symm.trans z
        cases z'
        exact (hTS b n).1
      · by_cases n2 : b = a
        · have z' := ((if_neg n).trans (if_pos n2)).symm.trans z
          cases z'
          rw [n2]
          exact ⟨ha, by rw [List.length_map]; exact hl, vs, _, rv, ha⟩
        · have z' := ((if_neg n).trans (if_neg n2)).symm.trans z
          cases z'
end K1
namespace K1
open PySem PySem.Spec PyProof.Rows L2
noncomputable abbrev T1 (Pt : Addr) : List (Addr × Str) := [(Pt, qLa)]
structure Tp (K : PySem.W.Frag) (mg : Str → Option Value) (M W N Cc CM CW CB CU CUc CS CD CH CT CR c Pt fa : Addr) (fd : FuncData) : Prop where
  B : Bt mg
  ff : ∃ f fd, DfF K mg f fd
  cs : Cs mg
  u : UnC K mg CU
  ui : ∃ f fd, Fun K "__init__" "Untold.__init__" sUInit f fd ∧ PySem.W.findIn K (.ref CU) "__init__" = some (some (.ref f)) ∧ PySem.W.typeIn K (.ref f) = some (.type "function") ∧ Binds K fd ["self", "archive", "here", "there"] []
  uc : UnCc K mg CUc
  uic : ∃ f fd, Fun K "__init__" "Uncommuting.__init__" sUCInit f fd ∧ PySem.W.findIn K (.ref CUc) "__init__" = some (some (.ref f)) ∧ PySem.W.typeIn K (.ref f) = some (.type "function") ∧ Binds K fd ["self", "state", "one", "other"] []
  cw : Cw mg
  kt : Ct mg
  gc : Gc mg
  lcmC : Lc mg
  whole : ∃ f fd, Df K mg "is_whole" sWhole ["value"] f fd
  below : ∃ f fd, Df K mg "is_below" sBelow ["value", "limit"] f fd
  seq : ∃ f fd, Df K mg "is_sequence" sSeq ["value", "least", "most"] f fd
  fnb : ∃ f fd, Df K mg "first_not_below" sFnb ["items", "limit"] f fd
  repl : ∃ f fd, Df K mg "replaced" sRepl ["items", "at", "item"] f fd
  isTab : ∃ f fd, Df K mg "is_table" sIsTab ["value", "states"] f fd
  chkT : ∃ f fd, Df K mg "checked_tables" sChk ["value"] f fd
  needS : ∃ f fd, Df K mg "need_state" sNeedS ["machine", "state"] f fd
  needD : ∃ f fd, Df K mg "need_deed" sNeedD ["machine", "deed"] f fd
  fault : ∃ f fd, Df K mg "row_fault" sFault ["machine", "value"] f fd
  row : ∃ f fd, Df K mg "check_row" sRow ["machine", "value"] f fd
  moved : ∃ f fd, Df K mg "moved" sMoved ["machine", "state", "row"] f fd
  orbit : ∃ f fd, Df K mg "orbit" sOrbit ["machine", "state"] f fd
  needSs : ∃ f fd, Df K mg "need_states" sNeedSs ["machine", "states"] f fd
  joined : ∃ f fd, Df K mg "joined" sJoined ["machine", "archive", "here", "there"] f fd
  join : ∃ f fd, Df K mg "join" sJoin ["machine", "archive", "here", "there"] f fd
  pair : ∃ f fd, Df K mg "is_pair" sPair ["value", "houses"] f fd
  cties : ∃ f fd, Df K mg "checked_ties" sCTies ["houses", "ties"] f fd
  needH : ∃ f fd, Df K mg "need_house" sNeedH ["web", "house"] f fd
  needT : ∃ f fd, Df K mg "need_tie" sNeedT ["web", "tie"] f fd
  isStep : ∃ f fd, Df K mg "is_step" sIsStep ["web", "deeds", "value"] f fd
  sf : ∃ f fd, Df K mg "steps_fault" sStepsFault ["web", "deeds", "value"] f fd
  so : ∃ f fd, Df K mg "steps_of" sStepsOf ["web", "deeds", "value"] f fd
  ck : ∃ f fd, Df K mg "check_steps" sCheckSteps ["machine", "web", "value"] f fd
  anyS : ∃ f fd, Df K mg "any_steps" sAnySteps ["web", "value"] f fd
  stand : ∃ f fd, Df K mg "stand_first" sStandFirst ["net", "machine", "web", "first"] f fd
  done : ∃ f fd, Df K mg "done_at" sDoneAt ["net", "house", "deed"] f fd
  jo : ∃ f fd, Df K mg "joined_over" sJoinedOver ["net", "tie"] f fd
  pj : ∃ f fd, Df K mg "put_joined" sPutJoined ["net", "tie", "joined"] f fd
  pt : ∃ f fd, Df K mg "take" sPTake ["books", "step"] f fd
  sa : ∃ f fd, Df K mg "standing_after" sStandingAfter ["machine", "web", "first", "steps"] f fd
  cPaper : ∃ f fd, Df K mg "commuting_paper" sCPaper ["machine", "state"] f fd
  needC : ∃ f fd, Df K mg "need_commuting" sNeedC ["machine", "state"] f fd
  power : ∃ f fd, Df K mg "power_of" sPower ["machine", "state", "row"] f fd
  less : ∃ f fd, Df K mg "less_tie" sLessTie ["here", "there", "between"] f fd
  deeds : ∃ f fd, Df K mg "deeds_of" sDeedsOf ["steps"] f fd
  counted : ∃ f fd, Df K mg "counted" sCounted ["web", "steps"] f fd
  cacts : ∃ f fd, Df K mg "counted_acts" sCountedActs ["counts"] f fd
  plain : ∃ f fd, Df K mg "plain_state" sPlainState ["machine", "web", "first", "steps", "house"] f fd
  harm : ∃ f fd, Df K mg "harmless_period" sHarm ["machine", "first"] f fd
  rh : ∃ f fd, Df K mg "run_harm" sRunHarm ["web", "steps"] f fd
  dealt : ∃ f fd, Df K mg "_law_dealt" sLDealt ["_law_script"] f fd
  any : ∃ f fd, Df K mg "_law_any" sLAny ["_law_deal", "_law_bound"] f fd
  of : ∃ f fd, Df K mg "_law_of" sLOf ["_law_deal", "_law_some"] f fd
  lweb : ∃ f fd, Df K mg "_law_web" sLWeb ["_law_deal", "_law_most"] f fd
  ls : ∃ f fd, Df K mg "_law_steps" sLSteps ["_law_deal", "_law_many", "_law_ties", "_law_deeds", "_law_length"] f fd
  heard : ∃ f fd, Df K mg "_law_bad_steps" sLBadSteps ["_law_work"] f fd
  lcts : ∃ f fd, Df K mg "_law_counts" sLCounts ["_law_many", "_law_ties", "_law_steps_here"] f fd
  llb : ∃ f fd, Df K mg "_law_led_by" sLLedBy ["_law_tables", "_law_first", "_law_steps_here", "_law_counts_here"] f fd
  lsu : ∃ f fd, Df K mg "_law_sums" sLSums ["_law_counts_here", "_law_acts", "_law_deeds"] f fd
  lgr : ∃ f fd, Df K mg "_law_is_greatest" sLIsGreatest ["_law_number", "_law_sums_here"] f fd
  lln : ∃ f fd, Df K mg "_law_line" sLLine ["_law_deal", "_law_period", "_law_deeds"] f fd
  lsh : ∃ f fd, Df K mg "_law_shown" sLShown ["_law_tables", "_law_web_here", "_law_first", "_law_steps_here"] f fd
  law : FunC K "law" "law" sLaw fa fd (.ref c)
  lawb : ∀ (s : Shared) (u : Value), BindsTo s fd ⟨[u], []⟩ [("_law_script", u)]
  initM : ∃ f fd, Fun K "__init__" "Machine.__init__" sMInit f fd ∧ Mk K M f ∧ Binds K fd ["self", "tables"] []
  TM : McT K mg M
  initW : ∃ f fd, Fun K "__init__" "Web.__init__" sWInit f fd ∧ Mk K W f ∧ Binds K fd ["self", "houses", "ties"] []
  TW : WcT K mg W
  initN : ∃ f fd, Fun K "__init__" "Net.__init__" sNetInit f fd ∧ Mk K N f ∧ Binds K fd ["self", "machine", "web", "first"] []
  m_N_do : ∃ f fd, Fun K "do" "Net.do" sNetDo f fd ∧ Meth K N "do" f ∧ Binds K fd ["self", "house", "deed"] []
  m_N_meet : ∃ f fd, Fun K "meet" "Net.meet" sNetMeet f fd ∧ Meth K N "meet" f ∧ Binds K fd ["self", "tie"] []
  TN : NtT K mg N
  initCc : ∃ f fd, Fun K "__init__" "Counts.__init__" sCountsInit f fd ∧ Mk K Cc f ∧ Binds K fd ["self", "web", "acts"] []
  m_Cc_do : ∃ f fd, Fun K "do" "Counts.do" sCountsDo f fd ∧ Meth K Cc "do" f ∧ Binds K fd ["self", "house", "deed"] []
  m_Cc_meet : ∃ f fd, Fun K "meet" "Counts.meet" sCountsMeet f fd ∧ Meth K Cc "meet" f ∧ Binds K fd ["self", "tie"] []
  TCc : CcT K mg Cc
  t1 : ∃ q b i, LAt.Txt K mg "BadMachine" q b CM i
  t2 : ∃ q b i, LAt.Txt K mg "BadWeb" q b CW i
  t3 : ∃ q b i, LAt.Txt K mg "BadSteps" q b CB i
  t4 : ∃ q b i, LState.Txt K mg "NoState" q b CS i
  t5 : ∃ q b i, LDeed.Txt K mg "NoDeed" q b CD i
  t6 : ∃ q b i, LHouse.Txt K mg "NoHouse" q b CH i
  t7 : ∃ q b i, LTie.Txt K mg "NoTie" q b CT i
  t8 : ∃ q b i, LAt.Txt K mg "BadRow" q b CR i
  ex : ∃ N, mg "NetError" = some (.ref N) ∧ Exm K CB N
  tab : PySem.W.tabIn K "law" = some (c, Pt)
  nP : K.lookup Pt = Option.none
section
variable {P : Program} {w : World} {K : PySem.W.Frag} {mg : Str → Option Value} {base : Heap}
theorem asm {M W N Cc CM CW CB CU CUc CS CD CH CT CR c Pt fa : Addr} {fd : FuncData} (t : Tp K mg M W N Cc CM CW CB CU CUc CS CD CH CT CR c Pt fa fd) (TB : LamX.TabB base mg c Pt) : FnG P w K mg base 11 fa fd ["_law_script"] (spLaw K (T1 Pt)) := by
  have B := t.B
  have cw := t.cw
  have kt := t.kt
  have gc := t.gc
  have lcmC := t.lcmC
  obtain ⟨_, _, dWhole⟩ := t.whole
  obtain ⟨_, _, dBelow⟩ := t.below
  obtain ⟨_, _, dSeq⟩ := t.seq
  obtain ⟨_, _, dFnb⟩ := t.fnb
  obtain ⟨_, _, dRepl⟩ := t.repl
  obtain ⟨_, _, dIsTab⟩ := t.isTab
  obtain ⟨_, _, dChkT⟩ := t.chkT
  obtain ⟨_, _, dNeedS⟩ := t.needS
  obtain ⟨_, _, dNeedD⟩ := t.needD
  obtain ⟨_, _, dFault⟩ := t.fault
  obtain ⟨_, _, dRow⟩ := t.row
  obtain ⟨_, _, dMoved⟩ := t.moved
  obtain ⟨_, _, dOrbit⟩ := t.orbit
  obtain ⟨_, _, dNeedSs⟩ := t.needSs
  obtain ⟨_, _, dJoined⟩ := t.joined
  obtain ⟨_, _, dJoin⟩ := t.join
  obtain ⟨_, _, dPair⟩ := t.pair
  obtain ⟨_, _, dCties⟩ := t.cties
  obtain ⟨_, _, dNeedH⟩ := t.needH
  obtain ⟨_, _, dNeedT⟩ := t.needT
  obtain ⟨_, _, dIsStep⟩ := t.isStep
  obtain ⟨_, _, dSf⟩ := t.sf
  obtain ⟨_, _, dSo⟩ := t.so
  obtain ⟨_, _, dCk⟩ := t.ck
  obtain ⟨_, _, dAnyS⟩ := t.anyS
  obtain ⟨_, _, dStand⟩ := t.stand
  obtain ⟨_, _, dDone⟩ := t.done
  obtain ⟨_, _, dJo⟩ := t.jo
  obtain ⟨_, _, dPj⟩ := t.pj
  obtain ⟨_, _, dPt⟩ := t.pt
  obtain ⟨_, _, dSa⟩ := t.sa
  obtain ⟨_, _, dCPaper⟩ := t.cPaper
  obtain ⟨_, _, dNeedC⟩ := t.needC
  obtain ⟨_, _, dPower⟩ := t.power
  obtain ⟨_, _, dLess⟩ := t.less
  obtain ⟨_, _, dDeeds⟩ := t.deeds
  obtain ⟨_, _, dCounted⟩ := t.counted
  obtain ⟨_, _, dCacts⟩ := t.cacts
  obtain ⟨_, _, dPlain⟩ := t.plain
  obtain ⟨_, _, dHarm⟩ := t.harm
  obtain ⟨_, _, dRh⟩ := t.rh
  obtain ⟨_, _, dDealt⟩ := t.dealt
  obtain ⟨_, _, dAny⟩ := t.any
  obtain ⟨_, _, dOf⟩ := t.of
  obtain ⟨_, _, dLweb⟩ := t.lweb
  obtain ⟨_, _, dLs⟩ := t.ls
  obtain ⟨_, _, dHeard⟩ := t.heard
  obtain ⟨_, _, dLcts⟩ := t.lcts
  obtain ⟨_, _, dLlb⟩ := t.llb
  obtain ⟨_, _, dLsu⟩ := t.lsu
  obtain ⟨_, _, dLgr⟩ := t.lgr
  obtain ⟨_, _, dLln⟩ := t.lln
  obtain ⟨_, _, dLsh⟩ := t.lsh
  have TM := t.TM
  obtain ⟨_, _, fiM, mkM, biM⟩ := t.initM
  have TW := t.TW
  obtain ⟨_, _, fiW, mkW, biW⟩ := t.initW
  have TN := t.TN
  obtain ⟨_, _, fiN, mkN, biN⟩ := t.initN
  obtain ⟨_, _, f_N_do, mt_N_do, b_N_do⟩ := t.m_N_do
  obtain ⟨_, _, f_N_meet, mt_N_meet, b_N_meet⟩ := t.m_N_meet
  have TCc := t.TCc
  obtain ⟨_, _, fiCc, mkCc, biCc⟩ := t.initCc
  obtain ⟨_, _, f_Cc_do, mt_Cc_do, b_Cc_do⟩ := t.m_Cc_do
  obtain ⟨_, _, f_Cc_meet, mt_Cc_meet, b_Cc_meet⟩ := t.m_Cc_meet
  obtain ⟨_, _, _, x1⟩ := id t.t1
  obtain ⟨_, _, _, x2⟩ := id t.t2
  obtain ⟨_, _, _, x3⟩ := id t.t3
  obtain ⟨_, _, _, x4⟩ := id t.t4
  obtain ⟨_, _, _, x5⟩ := id t.t5
  obtain ⟨_, _, _, x6⟩ := id t.t6
  obtain ⟨_, _, _, x7⟩ := id t.t7
  obtain ⟨_, _, _, x8⟩ := id t.t8
  obtain ⟨_, _, dFF⟩ := t.ff
  have cs := t.cs
  have U := t.u
  have UC := t.uc
  obtain ⟨_, _, fUi, iC, tI, bI⟩ := t.ui
  obtain ⟨_, _, fUiC, iCC, tIC, bIC⟩ := t.uic
  have gWhole := ok_whole (P := P) (w := w) (base := base) dWhole B
  have gBelow := ok_below (P := P) (w := w) (base := base) dBelow dWhole B
  have gSeq := ok_seq (P := P) (w := w) (base := base) dSeq B
  have gFnb := ok_fnb (P := P) (w := w) (base := base) dFnb dBelow B gBelow
  have gIsTab := ok_istab (P := P) (w := w) (base := base) dIsTab dSeq dFnb gSeq gFnb
  have gChkT := ok_chk (P := P) (w := w) (base := base) dChkT dSeq dIsTab B kt x1 gSeq gIsTab
  have gMi := ok_minit (P := P) (w := w) (base := base) fiM dChkT B TM gChkT
  have gNeedS := ok_needS (P := P) (w := w) (base := base) dNeedS dBelow TM x4 gBelow
  have gNeedD := ok_needD (P := P) (w := w) (base := base) dNeedD dBelow TM x5 gBelow
  have gFault := ok_fault (P := P) (w := w) (base := base) dFault dSeq dFnb kt TM gSeq gFnb
  have gRow := ok_row (P := P) (w := w) (base := base) dRow dFault B x8 gFault
  have gMoved := ok_moved (P := P) (w := w) (base := base) dMoved TM
  have gMovedL := ok_movedL (P := P) (w := w) (base := base) dMoved TM
  have gFirst := ok_first (P := P) (w := w) (base := base) dFF B TM
  have gOrbit := ok_orbit (P := P) (w := w) (base := base) dOrbit dNeedS dFF B gNeedS gFirst
  have gCPaper := ok_cpaper (P := P) (w := w) (base := base) dCPaper dOrbit dMoved B TM gOrbit gMoved
  have gUiC := ok_uinitC (P := P) (w := w) (base := base) fUiC UC
  have gNeedC := ok_needC (P := P) (w := w) (base := base) dNeedC dCPaper UC iCC tIC bIC gUiC gCPaper
  have gPower := ok_power (P := P) (w := w) (base := base) dPower dNeedS dRow dMoved B gNeedS gRow gMoved
  have gHarm := ok_harm (P := P) (w := w) (base := base) dHarm dNeedC dPower B lcmC TM gNeedC gPower
  have gUi := ok_uinit (P := P) (w := w) (base := base) fUi U
  have gJoined := ok_joined (P := P) (w := w) (base := base) dJoined dFF U B iC tI bI gUi gFirst
  have gNeedSs := ok_needSs (P := P) (w := w) (base := base) dNeedSs dNeedS gNeedS
  have gJoin := ok_join (P := P) (w := w) (base := base) dJoin dNeedSs dJoined gNeedSs gJoined
  have gPair := ok_pair (P := P) (w := w) (base := base) dPair dSeq dFnb gSeq gFnb
  have gCties := ok_ctiesL (P := P) (w := w) (base := base) dCties dWhole dSeq dPair B cw x2 gWhole gSeq gPair
  have gWi := ok_winitL (P := P) (w := w) (base := base) fiW dCties TW gCties
  have gNeedH := ok_needH (P := P) (w := w) (base := base) dNeedH dBelow TW x6 gBelow
  have gNeedT := ok_needT (P := P) (w := w) (base := base) dNeedT dBelow B TW x7 gBelow
  have gRepl := ok_repl (P := P) (w := w) (base := base) dRepl
  have gIsStep := ok_isStep (P := P) (w := w) (base := base) dIsStep dSeq dBelow B cs TW gSeq gBelow
  have gSf := ok_sfault (P := P) (w := w) (base := base) dSf dSeq dIsStep B cs gSeq gIsStep
  have gSo := ok_stepsOf (P := P) (w := w) (base := base) dSo dSf B x3 gSf
  have gCk := ok_ckSteps (P := P) (w := w) (base := base) dCk dSo TM gSo
  have gAnyS := ok_anyS (P := P) (w := w) (base := base) dAnyS dSo kt gSo
  have gStand := ok_stand (P := P) (w := w) (base := base) dStand dNeedS B TN TW gNeedS
  have gDone := ok_doneAt (P := P) (w := w) (base := base) dDone dNeedH dNeedD dRepl TN TM TW cs gNeedH gNeedD gRepl
  have gJo := ok_joinO (P := P) (w := w) (base := base) dJo dNeedT dJoin TN TW gNeedT gJoin
  have gPj := ok_putJ (M := M) (P := P) (w := w) (base := base) dPj dRepl TN TW cs gRepl
  have gNi := ok_ninit (P := P) (w := w) (base := base) fiN dStand gStand
  have gDo := ok_ndo (P := P) (w := w) (base := base) f_N_do dDone gDone
  have gMeet := ok_nmeet (P := P) (w := w) (base := base) f_N_meet dJo dPj gJo gPj
  have gLess := ok_less (P := P) (w := w) (base := base) dLess B
  have gKi := ok_kinit (P := P) (w := w) (base := base) fiCc B TCc TW
  have gKdo := ok_kdo (W := W) (P := P) (w := w) (base := base) f_Cc_do dRepl B TCc gRepl
  have gKmeet := ok_kmeet (P := P) (w := w) (base := base) f_Cc_meet dLess dRepl TCc TW gLess gRepl
  have nmS : NMs P w K mg base N M W CH CD CT CU := ⟨TN, ⟨_, _, mt_N_do, b_N_do, gDo⟩, ⟨_, _, mt_N_meet, b_N_meet, gMeet⟩⟩
  have cmS : CMs P w K mg base Cc W := ⟨TCc, ⟨_, _, mt_Cc_do, b_Cc_do, gKdo⟩, ⟨_, _, mt_Cc_meet, b_Cc_meet, gKmeet⟩⟩
  have gPt := ok_ptake (P := P) (w := w) (base := base) dPt nmS cs
  have gCt := ok_ctake (P := P) (w := w) (base := base) dPt cmS cs
  have gSa := ok_standA (CH := CH) (CD := CD) (CT := CT) (P := P) (w := w) (base := base) dSa dCk dPt TN mkN biN gNi gCk gPt
  have gDeeds := ok_deeds (P := P) (w := w) (base := base) dDeeds B cs
  have gCounted := ok_counted (P := P) (w := w) (base := base) dCounted dDeeds dPt B TCc mkCc biCc gKi gDeeds gCt
  have gCacts := ok_cacts (P := P) (w := w) (base := base) dCacts B
  have gPlain := ok_plain (P := P) (w := w) (base := base) dPlain dNeedS dCounted dCk dNeedH dMoved dCacts TCc gNeedS gCounted gCk gNeedH gMovedL gCacts
  have gRh := ok_rh (P := P) (w := w) (base := base) dRh dAnyS dCounted dCacts B gc kt TCc gAnyS gCounted gCacts
  have gDealt := ok_dealt (P := P) (w := w) (base := base) dDealt B
  have gAny := ok_any (P := P) (w := w) (base := base) dAny B
  have gOf := ok_of (P := P) (w := w) (base := base) dOf dAny B gAny
  have gWeb := ok_web (P := P) (w := w) (base := base) dLweb dAny dOf B gAny gOf
  have gLs := ok_lsteps (P := P) (w := w) (base := base) dLs dAny B gAny
  have gLcts := ok_lcts (P := P) (w := w) (base := base) dLcts B
  have gLlb := ok_llb (P := P) (w := w) (base := base) dLlb B
  have gLsu := ok_lsu (P := P) (w := w) (base := base) dLsu B
  have gLgr := ok_lg (P := P) (w := w) (base := base) dLgr B
  have gLln := ok_lln (P := P) (w := w) (base := base) dLln dAny B gAny
  have gLsh := ok_lsh (P := P) (w := w) (base := base) dLsh dLcts dLlb dSa dPlain B TM TW mkM biM gLcts gLlb gMi gSa gPlain
  have hd : Hd K mg base CB := ⟨B, t.heard, t.t3, t.ex⟩
  exact ok_law t.law TB List.mem_cons_self (fun p hp _ => by rw [List.mem_singleton.mp hp]) (⟨B, hd, TM, TW, ⟨_, _, dDealt, gDealt⟩, ⟨_, _, dAny, gAny⟩, ⟨_, _, dOf, gOf⟩, ⟨_, _, dLweb, gWeb⟩, ⟨_, _, dLs, gLs⟩, ⟨_, _, dRh, gRh⟩, ⟨_, _, dLcts, gLcts⟩, ⟨_, _, dLsu, gLsu⟩, ⟨_, _, dLgr, gLgr⟩, ⟨_, _, dLln, gLln⟩, ⟨_, _, dHarm, gHarm⟩, ⟨_, _, dLsh, gLsh⟩, ⟨_, _, mkM, biM, gMi⟩, ⟨_, _, mkW, biW, gWi⟩⟩ : Dn P w K mg base M W CM CB CUc CS (T1 Pt))
end
theorem walkK {l : PySem.W.OpenLaw} {q : Program} {loose : List Str} {XP : (Str → Option Value) → Heap → Prop} {YP : World → Heap → Prop} {d : DefRec} {K : Params → PySem.W.Frag} (hn : l.most = some 63) (hdf : d.params.defaults = []) (hY : ∀ (w : World) (h : Heap), YP w h → (K w.params).In h)
    (hr : ∃ d', (recsOf q).find? (fun e => e.name == ("law" : Str)) = some d')
    (F : ∀ (w : World) (mg : Str → Option Value) (fa : Addr) (h : Heap), (K w.params).In h → h.Ns mainGlobals mg → mg d.name = some (.ref fa) → ∃ (M W N Cc CM CW CB CU CUc CS CD CH CT CR c Pt : Addr) (fd : FuncData), Tp (K w.params) mg M W N Cc CM CW CB CU CUc CS CD CH CT CR c Pt fa fd) :
    PySem.W.WalkO q loose XP YP l.row.toRowW d [] (fun f vs => PySem.call f vs) := by
  refine Att.attach_callB hn hdf fun w s₀ s₁ mg mb fa o pm cd doc a vs ns G Y ho hd hcd hmg hobj hints hlen hbits hg => ?_
  have KX := hY w _ Y
  obtain ⟨M, W, N, Cc, CM, CW, CB, CU, CUc, CS, CD, CH, CT, CR, c, Pt, fd, t⟩ := F w mg fa _ KX G.T.g hmg
  obtain ⟨d_hr, hr⟩ := hr
  obtain ⟨Chr, Thr⟩ := PySem.W.tab_of G.T KX hr t.tab
  exact call_laws (k := 11) [(c, Pt)] (x := "_law_script") (sp := spLaw (K w.params) (T1 Pt)) KX G.T.g G.T.b G.T.builtins G.T.nolimit hg (fun p hp => by
      simp only [List.mem_cons, List.mem_nil_iff, or_false] at hp
      rcases hp with rfl
      · exact ⟨Thr, t.nP, Chr⟩) G.T.bmain hobj hints (Nat.le_trans hlen (by decide)) ⟨rfl, by decide, by decide⟩ (fun base _ _ TB => asm t (TB _ List.mem_cons_self)) t.lawb
    fun H hP hS => ⟨a, ns, rfl, hS, hlen, fun p hp => by
      simp only [List.mem_cons, List.mem_nil_iff, or_false] at hp
      rcases hp with rfl
      · exact .nil (hP _ List.mem_cons_self), fun _ => rfl⟩
end K1
namespace K1
open PySem PySem.Spec PyProof.Rows L2
section
variable {K : PySem.W.Frag} {h : Heap} {mg : Str → Option Value} {x qual : Str} {st : Stmt} {ps : List Str} {f C : Addr} {oc kV doc pm cdv ct : Value} {od an : Option Addr} {osl : Array (Option Value)}
theorem df_of (X : K.In h) (G : h.Ns mainGlobals mg) (a : PySem.W.nsIn K mainGlobals x = some (some (.ref f))) (l : K.lookup f = some ⟨oc, od, .func (PySem.W.fnOf x x (defArgs st) (defBody st) (defScope st) .none kV doc pm an cdv ct), osl⟩)
    (c : PySem.W.codeIn K cdv x = true) (k : PySem.W.keepIn K (.ref f) = true)
    (b : ∀ (kV doc pm : Value) (an : Option Addr) (cdv ct : Value) (us : List Value), us.length = ps.length → bindArgs (PySem.W.fnOf x x (defArgs st) (defBody st) (defScope st) .none kV doc pm an cdv ct) ⟨us, []⟩ = pure (ps.zip us)) : ∃ f fd, Df K mg x st ps f fd :=
  ⟨f, _, ⟨fun_mk l c k, PySem.W.mg_of X G a, (fun_mk l c k).binds b⟩⟩
theorem law_of {fa cc : Addr} (X : K.In h) (G : h.Ns mainGlobals mg) (e : mg "law" = some (.ref fa)) (a : PySem.W.nsIn K mainGlobals "law" = some (some (.ref f))) (l : K.lookup f = some ⟨oc, od, .func (PySem.W.fnOf "law" "law" (defArgs sLaw) (defBody sLaw) (defScope sLaw) .none kV doc pm an (.ref cc) ct), osl⟩)
    (c : PySem.W.codeIn K (.ref cc) "law" = true) (k : PySem.W.keepIn K (.ref f) = true) : ∃ fd, FunC K "law" "law" sLaw fa fd (.ref cc) ∧ ∀ (s : Shared) (u : Value), BindsTo s fd ⟨[u], []⟩ [("_law_script", u)] := by
  have z := e.symm.trans (PySem.W.mg_of X G a)
  cases Option.some.inj z
  exact ⟨_, ⟨⟨oc, od, kV, doc, pm, an, ct, osl, rfl, l, c⟩, k⟩, fun s u => .of_eq rfl⟩
theorem init_M {M : Addr} (a : PySem.W.findIn K (.ref M) "__init__" = some (some (.ref f))) (i : PySem.W.isFn K (.ref f) = true) (m : PySem.W.makesIn K M = true) (kM : PySem.W.keepIn K (.ref M) = true)
    (l : K.lookup f = some ⟨oc, od, .func (PySem.W.fnOf "__init__" "Machine.__init__" (defArgs sMInit) (defBody sMInit) (defScope sMInit) .none kV doc pm an cdv ct), osl⟩) (c : PySem.W.codeIn K cdv "Machine.__init__" = true) (k : PySem.W.keepIn K (.ref f) = true) :
    ∃ f fd, Fun K "__init__" "Machine.__init__" sMInit f fd ∧ Mk K M f ∧ Binds K fd ["self", "tables"] [] :=
  ⟨f, _, fun_mk l c k, ⟨m, a, i, kM⟩, (fun_mk l c k).binds fun _ _ _ _ _ _ us hl => match us, hl with | [_, _], _ => rfl⟩
theorem ui_of {C : Addr} (a : PySem.W.findIn K (.ref C) "__init__" = some (some (.ref f))) (i : PySem.W.typeIn K (.ref f) = some (.type "function"))
    (l : K.lookup f = some ⟨oc, od, .func (PySem.W.fnOf "__init__" "Untold.__init__" (defArgs sUInit) (defBody sUInit) (defScope sUInit) .none kV doc pm an cdv ct), osl⟩) (c : PySem.W.codeIn K cdv "Untold.__init__" = true) (k : PySem.W.keepIn K (.ref f) = true) :
    ∃ f fd, Fun K "__init__" "Untold.__init__" sUInit f fd ∧ PySem.W.findIn K (.ref C) "__init__" = some (some (.ref f)) ∧ PySem.W.typeIn K (.ref f) = some (.type "function") ∧ Binds K fd ["self", "archive", "here", "there"] [] :=
  ⟨f, _, fun_mk l c k, a, i, (fun_mk l c k).binds fun _ _ _ _ _ _ us hl => by obtain ⟨a, b, c, d, rfl⟩ := K1.len4 hl; rfl⟩
theorem uic_of {C : Addr} (a : PySem.W.findIn K (.ref C) "__init__" = some (some (.ref f))) (i : PySem.W.typeIn K (.ref f) = some (.type "function"))
    (l : K.lookup f = some ⟨oc, od, .func (PySem.W.fnOf "__init__" "Uncommuting.__init__" (defArgs sUCInit) (defBody sUCInit) (defScope sUCInit) .none kV doc pm an cdv ct), osl⟩) (c : PySem.W.codeIn K cdv "Uncommuting.__init__" = true) (k : PySem.W.keepIn K (.ref f) = true) :
    ∃ f fd, Fun K "__init__" "Uncommuting.__init__" sUCInit f fd ∧ PySem.W.findIn K (.ref C) "__init__" = some (some (.ref f)) ∧ PySem.W.typeIn K (.ref f) = some (.type "function") ∧ Binds K fd ["self", "state", "one", "other"] [] :=
  ⟨f, _, fun_mk l c k, a, i, (fun_mk l c k).binds fun _ _ _ _ _ _ us hl => by obtain ⟨a, b, c, d, rfl⟩ := K1.len4 hl; rfl⟩
theorem init_W {M : Addr} (a : PySem.W.findIn K (.ref M) "__init__" = some (some (.ref f))) (i : PySem.W.isFn K (.ref f) = true) (m : PySem.W.makesIn K M = true) (kM : PySem.W.keepIn K (.ref M) = true)
    (l : K.lookup f = some ⟨oc, od, .func (PySem.W.fnOf "__init__" "Web.__init__" (defArgs sWInit) (defBody sWInit) (defScope sWInit) .none kV doc pm an cdv ct), osl⟩) (c : PySem.W.codeIn K cdv "Web.__init__" = true) (k : PySem.W.keepIn K (.ref f) = true) :
    ∃ f fd, Fun K "__init__" "Web.__init__" sWInit f fd ∧ Mk K M f ∧ Binds K fd ["self", "houses", "ties"] [] :=
  ⟨f, _, fun_mk l c k, ⟨m, a, i, kM⟩, (fun_mk l c k).binds fun _ _ _ _ _ _ us hl => match us, hl with | [_, _, _], _ => rfl⟩
theorem init_N {M : Addr} (a : PySem.W.findIn K (.ref M) "__init__" = some (some (.ref f))) (i : PySem.W.isFn K (.ref f) = true) (m : PySem.W.makesIn K M = true) (kM : PySem.W.keepIn K (.ref M) = true)
    (l : K.lookup f = some ⟨oc, od, .func (PySem.W.fnOf "__init__" "Net.__init__" (defArgs sNetInit) (defBody sNetInit) (defScope sNetInit) .none kV doc pm an cdv ct), osl⟩) (c : PySem.W.codeIn K cdv "Net.__init__" = true) (k : PySem.W.keepIn K (.ref f) = true) :
    ∃ f fd, Fun K "__init__" "Net.__init__" sNetInit f fd ∧ Mk K M f ∧ Binds K fd ["self", "machine", "web", "first"] [] :=
  ⟨f, _, fun_mk l c k, ⟨m, a, i, kM⟩, (fun_mk l c k).binds fun _ _ _ _ _ _ us hl => by obtain ⟨a, b, c, d, rfl⟩ := K1.len4 hl; rfl⟩
theorem meth_N_do {M : Addr} (a : PySem.W.findIn K (.ref M) "do" = some (some (.ref f))) (i : PySem.W.isFn K (.ref f) = true)
    (l : K.lookup f = some ⟨oc, od, .func (PySem.W.fnOf "do" "Net.do" (defArgs sNetDo) (defBody sNetDo) (defScope sNetDo) .none kV doc pm an cdv ct), osl⟩) (c : PySem.W.codeIn K cdv "Net.do" = true) (k : PySem.W.keepIn K (.ref f) = true) :
    ∃ f fd, Fun K "do" "Net.do" sNetDo f fd ∧ Meth K M "do" f ∧ Binds K fd ["self", "house", "deed"] [] :=
  ⟨f, _, fun_mk l c k, ⟨a, i, k⟩, (fun_mk l c k).binds fun _ _ _ _ _ _ us hl => match us, hl with | [_, _, _], _ => rfl⟩
theorem meth_N_meet {M : Addr} (a : PySem.W.findIn K (.ref M) "meet" = some (some (.ref f))) (i : PySem.W.isFn K (.ref f) = true)
    (l : K.lookup f = some ⟨oc, od, .func (PySem.W.fnOf "meet" "Net.meet" (defArgs sNetMeet) (defBody sNetMeet) (defScope sNetMeet) .none kV doc pm an cdv ct), osl⟩) (c : PySem.W.codeIn K cdv "Net.meet" = true) (k : PySem.W.keepIn K (.ref f) = true) :
    ∃ f fd, Fun K "meet" "Net.meet" sNetMeet f fd ∧ Meth K M "meet" f ∧ Binds K fd ["self", "tie"] [] :=
  ⟨f, _, fun_mk l c k, ⟨a, i, k⟩, (fun_mk l c k).binds fun _ _ _ _ _ _ us hl => match us, hl with | [_, _], _ => rfl⟩
theorem init_Cc {M : Addr} (a : PySem.W.findIn K (.ref M) "__init__" = some (some (.ref f))) (i : PySem.W.isFn K (.ref f) = true) (m : PySem.W.makesIn K M = true) (kM : PySem.W.keepIn K (.ref M) = true)
    (l : K.lookup f = some ⟨oc, od, .func (PySem.W.fnOf "__init__" "Counts.__init__" (defArgs sCountsInit) (defBody sCountsInit) (defScope sCountsInit) .none kV doc pm an cdv ct), osl⟩) (c : PySem.W.codeIn K cdv "Counts.__init__" = true) (k : PySem.W.keepIn K (.ref f) = true) :
    ∃ f fd, Fun K "__init__" "Counts.__init__" sCountsInit f fd ∧ Mk K M f ∧ Binds K fd ["self", "web", "acts"] [] :=
  ⟨f, _, fun_mk l c k, ⟨m, a, i, kM⟩, (fun_mk l c k).binds fun _ _ _ _ _ _ us hl => match us, hl with | [_, _, _], _ => rfl⟩
theorem meth_Cc_do {M : Addr} (a : PySem.W.findIn K (.ref M) "do" = some (some (.ref f))) (i : PySem.W.isFn K (.ref f) = true)
    (l : K.lookup f = some ⟨oc, od, .func (PySem.W.fnOf "do" "Counts.do" (defArgs sCountsDo) (defBody sCountsDo) (defScope sCountsDo) .none kV doc pm an cdv ct), osl⟩) (c : PySem.W.codeIn K cdv "Counts.do" = true) (k : PySem.W.keepIn K (.ref f) = true) :
    ∃ f fd, Fun K "do" "Counts.do" sCountsDo f fd ∧ Meth K M "do" f ∧ Binds K fd ["self", "house", "deed"] [] :=
  ⟨f, _, fun_mk l c k, ⟨a, i, k⟩, (fun_mk l c k).binds fun _ _ _ _ _ _ us hl => match us, hl with | [_, _, _], _ => rfl⟩
theorem meth_Cc_meet {M : Addr} (a : PySem.W.findIn K (.ref M) "meet" = some (some (.ref f))) (i : PySem.W.isFn K (.ref f) = true)
    (l : K.lookup f = some ⟨oc, od, .func (PySem.W.fnOf "meet" "Counts.meet" (defArgs sCountsMeet) (defBody sCountsMeet) (defScope sCountsMeet) .none kV doc pm an cdv ct), osl⟩) (c : PySem.W.codeIn K cdv "Counts.meet" = true) (k : PySem.W.keepIn K (.ref f) = true) :
    ∃ f fd, Fun K "meet" "Counts.meet" sCountsMeet f fd ∧ Meth K M "meet" f ∧ Binds K fd ["self", "tie"] [] :=
  ⟨f, _, fun_mk l c k, ⟨a, i, k⟩, (fun_mk l c k).binds fun _ _ _ _ _ _ us hl => match us, hl with | [_, _], _ => rfl⟩
end
section
variable {K : PySem.W.Frag} {h : Heap} {mg : Str → Option Value} {cn ql nm q : Str} {C N0 N fI : Addr} {bs sub : List Value} {sn : List Str} {ab : Bool} {col : Option Bool} {dd : Option Addr} {k0 k1 k2 k3 k5 : Option Value} {oc doc pm cdv ct : Value} {od an : Option Addr} {osl : Array (Option Value)} {p1 p2 q1 q2 q3 q4 : Pos}
theorem LAt_of_ (X : K.In h) (G : h.Ns mainGlobals mg) (a : PySem.W.nsIn K mainGlobals cn = some (some (.ref C))) (xl : K.lookup C = some (excClassObj nm q C N bs (.ref N0 :: veT) true sn sub ab col dd k0 k1 k2 k3 k5 "ValueError.__new__"))
    (sa : PySem.W.findIn K (.ref C) "__setattr__" = some (some (.builtin "object.__setattr__"))) (ga : PySem.W.findIn K (.ref C) "__getattribute__" = some (some (.builtin "BaseException.__getattribute__"))) (gg : PySem.W.findIn K (.ref C) "__getattr__" = some none) (no : PySem.W.findIn K (.ref C) "at" = some none)
    (ic : PySem.W.findIn K (.ref C) "__init__" = some (some (.ref fI))) (tc : PySem.W.typeIn K (.ref fI) = some (.type "function")) (kc : PySem.W.keepIn K (.ref C) = true) (ec : PySem.W.subIn K (.ref C) (.type "BaseException") = some true) (ty : PySem.W.typeIn K (.ref C) = some (.type "type")) (hc : PySem.W.hasDictIn K C = true)
    (l : K.lookup fI = some ⟨oc, od, .func (PySem.W.fnOf "__init__" ql (LAt.iA p1 p2) (LAt.iB q1 q2 q3 q4) LAt.iS .none .none doc pm an cdv ct), osl⟩) (c : PySem.W.codeIn K cdv ql = true) : ∃ q b i, LAt.Txt K mg cn q b C i :=
  ⟨ql, _, fI, ⟨PySem.W.mg_of X G a, ⟨nm, q, N, bs, sn, sub, ab, col, dd, k0, k1, k2, k3, k5, xl⟩, mro_ve N0, sa, ga, gg, no, ic, tc, kc, ec, ty, hc, ⟨oc, od, doc, pm, an, cdv, ct, osl, p1, p2, q1, q2, q3, q4, l, c⟩⟩⟩
theorem LDeed_of_ (X : K.In h) (G : h.Ns mainGlobals mg) (a : PySem.W.nsIn K mainGlobals cn = some (some (.ref C))) (xl : K.lookup C = some (excClassObj nm q C N bs keT true sn sub ab col dd k0 k1 k2 k3 k5 "LookupError.__new__"))
    (sa : PySem.W.findIn K (.ref C) "__setattr__" = some (some (.builtin "object.__setattr__"))) (ga : PySem.W.findIn K (.ref C) "__getattribute__" = some (some (.builtin "BaseException.__getattribute__"))) (gg : PySem.W.findIn K (.ref C) "__getattr__" = some none) (no : PySem.W.findIn K (.ref C) "deed" = some none)
    (ic : PySem.W.findIn K (.ref C) "__init__" = some (some (.ref fI))) (tc : PySem.W.typeIn K (.ref fI) = some (.type "function")) (kc : PySem.W.keepIn K (.ref C) = true) (ec : PySem.W.subIn K (.ref C) (.type "BaseException") = some true) (ty : PySem.W.typeIn K (.ref C) = some (.type "type")) (hc : PySem.W.hasDictIn K C = true)
    (l : K.lookup fI = some ⟨oc, od, .func (PySem.W.fnOf "__init__" ql (LDeed.iA p1 p2) (LDeed.iB q1 q2 q3 q4) LDeed.iS .none .none doc pm an cdv ct), osl⟩) (c : PySem.W.codeIn K cdv ql = true) : ∃ q b i, LDeed.Txt K mg cn q b C i :=
  ⟨ql, _, fI, ⟨PySem.W.mg_of X G a, ⟨nm, q, N, bs, sn, sub, ab, col, dd, k0, k1, k2, k3, k5, xl⟩, mro_ke, sa, ga, gg, no, ic, tc, kc, ec, ty, hc, ⟨oc, od, doc, pm, an, cdv, ct, osl, p1, p2, q1, q2, q3, q4, l, c⟩⟩⟩
theorem LHouse_of_ (X : K.In h) (G : h.Ns mainGlobals mg) (a : PySem.W.nsIn K mainGlobals cn = some (some (.ref C))) (xl : K.lookup C = some (excClassObj nm q C N bs keT true sn sub ab col dd k0 k1 k2 k3 k5 "LookupError.__new__"))
    (sa : PySem.W.findIn K (.ref C) "__setattr__" = some (some (.builtin "object.__setattr__"))) (ga : PySem.W.findIn K (.ref C) "__getattribute__" = some (some (.builtin "BaseException.__getattribute__"))) (gg : PySem.W.findIn K (.ref C) "__getattr__" = some none) (no : PySem.W.findIn K (.ref C) "house" = some none)
    (ic : PySem.W.findIn K (.ref C) "__init__" = some (some (.ref fI))) (tc : PySem.W.typeIn K (.ref fI) = some (.type "function")) (kc : PySem.W.keepIn K (.ref C) = true) (ec : PySem.W.subIn K (.ref C) (.type "BaseException") = some true) (ty : PySem.W.typeIn K (.ref C) = some (.type "type")) (hc : PySem.W.hasDictIn K C = true)
    (l : K.lookup fI = some ⟨oc, od, .func (PySem.W.fnOf "__init__" ql (LHouse.iA p1 p2) (LHouse.iB q1 q2 q3 q4) LHouse.iS .none .none doc pm an cdv ct), osl⟩) (c : PySem.W.codeIn K cdv ql = true) : ∃ q b i, LHouse.Txt K mg cn q b C i :=
  ⟨ql, _, fI, ⟨PySem.W.mg_of X G a, ⟨nm, q, N, bs, sn, sub, ab, col, dd, k0, k1, k2, k3, k5, xl⟩, mro_ke, sa, ga, gg, no, ic, tc, kc, ec, ty, hc, ⟨oc, od, doc, pm, an, cdv, ct, osl, p1, p2, q1, q2, q3, q4, l, c⟩⟩⟩
theorem LState_of_ (X : K.In h) (G : h.Ns mainGlobals mg) (a : PySem.W.nsIn K mainGlobals cn = some (some (.ref C))) (xl : K.lookup C = some (excClassObj nm q C N bs keT true sn sub ab col dd k0 k1 k2 k3 k5 "LookupError.__new__"))
    (sa : PySem.W.findIn K (.ref C) "__setattr__" = some (some (.builtin "object.__setattr__"))) (ga : PySem.W.findIn K (.ref C) "__getattribute__" = some (some (.builtin "BaseException.__getattribute__"))) (gg : PySem.W.findIn K (.ref C) "__getattr__" = some none) (no : PySem.W.findIn K (.ref C) "state" = some none)
    (ic : PySem.W.findIn K (.ref C) "__init__" = some (some (.ref fI))) (tc : PySem.W.typeIn K (.ref fI) = some (.type "function")) (kc : PySem.W.keepIn K (.ref C) = true) (ec : PySem.W.subIn K (.ref C) (.type "BaseException") = some true) (ty : PySem.W.typeIn K (.ref C) = some (.type "type")) (hc : PySem.W.hasDictIn K C = true)
    (l : K.lookup fI = some ⟨oc, od, .func (PySem.W.fnOf "__init__" ql (LState.iA p1 p2) (LState.iB q1 q2 q3 q4) LState.iS .none .none doc pm an cdv ct), osl⟩) (c : PySem.W.codeIn K cdv ql = true) : ∃ q b i, LState.Txt K mg cn q b C i :=
  ⟨ql, _, fI, ⟨PySem.W.mg_of X G a, ⟨nm, q, N, bs, sn, sub, ab, col, dd, k0, k1, k2, k3, k5, xl⟩, mro_ke, sa, ga, gg, no, ic, tc, kc, ec, ty, hc, ⟨oc, od, doc, pm, an, cdv, ct, osl, p1, p2, q1, q2, q3, q4, l, c⟩⟩⟩
theorem LTie_of_ (X : K.In h) (G : h.Ns mainGlobals mg) (a : PySem.W.nsIn K mainGlobals cn = some (some (.ref C))) (xl : K.lookup C = some (excClassObj nm q C N bs keT true sn sub ab col dd k0 k1 k2 k3 k5 "LookupError.__new__"))
    (sa : PySem.W.findIn K (.ref C) "__setattr__" = some (some (.builtin "object.__setattr__"))) (ga : PySem.W.findIn K (.ref C) "__getattribute__" = some (some (.builtin "BaseException.__getattribute__"))) (gg : PySem.W.findIn K (.ref C) "__getattr__" = some none) (no : PySem.W.findIn K (.ref C) "tie" = some none)
    (ic : PySem.W.findIn K (.ref C) "__init__" = some (some (.ref fI))) (tc : PySem.W.typeIn K (.ref fI) = some (.type "function")) (kc : PySem.W.keepIn K (.ref C) = true) (ec : PySem.W.subIn K (.ref C) (.type "BaseException") = some true) (ty : PySem.W.typeIn K (.ref C) = some (.type "type")) (hc : PySem.W.hasDictIn K C = true)
    (l : K.lookup fI = some ⟨oc, od, .func (PySem.W.fnOf "__init__" ql (LTie.iA p1 p2) (LTie.iB q1 q2 q3 q4) LTie.iS .none .none doc pm an cdv ct), osl⟩) (c : PySem.W.codeIn K cdv ql = true) : ∃ q b i, LTie.Txt K mg cn q b C i :=
  ⟨ql, _, fI, ⟨PySem.W.mg_of X G a, ⟨nm, q, N, bs, sn, sub, ab, col, dd, k0, k1, k2, k3, k5, xl⟩, mro_ke, sa, ga, gg, no, ic, tc, kc, ec, ty, hc, ⟨oc, od, doc, pm, an, cdv, ct, osl, p1, p2, q1, q2, q3, q4, l, c⟩⟩⟩
end
theorem cw_of {K : PySem.W.Frag} {h : Heap} {mg : Str → Option Value} {t0 t1 : Tok} (X : K.In h) (G : h.Ns mainGlobals mg) (a0 : PySem.W.nsIn K mainGlobals "MOST_HOUSES" = some (some (.int 12 t0))) (a1 : PySem.W.nsIn K mainGlobals "MOST_TIES" = some (some (.int 20 t1))) : Cw mg :=
  ⟨⟨_, PySem.W.mg_of X G a0⟩, ⟨_, PySem.W.mg_of X G a1⟩⟩
theorem kt_of {K : PySem.W.Frag} {h : Heap} {mg : Str → Option Value} {t0 t1 t2 : Tok} (X : K.In h) (G : h.Ns mainGlobals mg) (a0 : PySem.W.nsIn K mainGlobals "MOST_TABLES" = some (some (.int 8 t0))) (a1 : PySem.W.nsIn K mainGlobals "MOST_STATES" = some (some (.int 12 t1))) (a2 : PySem.W.nsIn K mainGlobals "MOST_ROW" = some (some (.int 10000 t2))) : Ct mg :=
  ⟨⟨_, PySem.W.mg_of X G a0⟩, ⟨_, PySem.W.mg_of X G a1⟩, ⟨_, PySem.W.mg_of X G a2⟩⟩
theorem gc_of {K : PySem.W.Frag} {h : Heap} {mg : Str → Option Value} (X : K.In h) (G : h.Ns mainGlobals mg) (a0 : PySem.W.nsIn K mainGlobals "gcd" = some (some (.builtin "math.gcd"))) : Gc mg :=
  ⟨PySem.W.mg_of X G a0⟩
theorem lcmC_of {K : PySem.W.Frag} {h : Heap} {mg : Str → Option Value} (X : K.In h) (G : h.Ns mainGlobals mg) (a0 : PySem.W.nsIn K mainGlobals "lcm" = some (some (.builtin "math.lcm"))) : Lc mg :=
  ⟨PySem.W.mg_of X G a0⟩
theorem bt_of {K : PySem.W.Frag} {h : Heap} {mg : Str → Option Value} (X : K.In h) (G : h.Ns mainGlobals mg) (z : ∀ x ∈ ([("isinstance" : Str), "int", "bool", "list", "tuple", "len", "enumerate", "range", "sorted", "set", "repr", "abs", "min", "max", "sum", "all", "any", "zip", "str", "dict", "KeyError"]), PySem.W.nsIn K mainGlobals x = some none) : Bt mg := by
  have n := fun x hx => PySem.W.mg_none_of X G (z x hx)
  exact ⟨n _ (by decide), n _ (by decide), n _ (by decide), n _ (by decide), n _ (by decide), n _ (by decide), n _ (by decide), n _ (by decide), n _ (by decide), n _ (by decide), n _ (by decide), n _ (by decide), n _ (by decide), n _ (by decide), n _ (by decide), n _ (by decide), n _ (by decide), n _ (by decide), n _ (by decide), n _ (by decide), n _ (by decide)⟩
theorem tab_mk {K : PySem.W.Frag} {x : Str} {f c Pt : Addr} {oc o1 : Value} {od o2 : Option Addr} {fd : FuncData} {osl o4 : Array (Option Value)} {vs : Array Value} (a : PySem.W.nsIn K mainGlobals x = some (some (.ref f))) (l : K.lookup f = some ⟨oc, od, .func fd, osl⟩) (hc : fd.code = .ref c)
    (lc : K.lookup c = some ⟨o1, o2, .fields vs, o4⟩) (hv : (vs[11]? : Option Value) = some (.ref Pt)) : PySem.W.tabIn K x = some (c, Pt) := by
  unfold PySem.W.tabIn
  rw [a]
  dsimp only
  rw [l]
  dsimp only
  rw [hc]
  dsimp only
  rw [lc]
  dsimp only
  rw [hv]
section
variable {K : PySem.W.Frag} {h : Heap} {mg : Str → Option Value} {f : Addr} {oc kV doc pm cdv ct : Value} {od an : Option Addr} {osl : Array (Option Value)}
theorem dfF_of {T : Addr} {o1 : Value} {o2 : Option Addr} {n : Nat} {o4 : Array (Option Value)} (X : K.In h) (G : h.Ns mainGlobals mg) (a : PySem.W.nsIn K mainGlobals "first_rows" = some (some (.ref f)))
    (l : K.lookup f = some ⟨oc, od, .func (PySem.W.fnOf "first_rows" "first_rows" (defArgs sFirst) (defBody sFirst) (defScope sFirst) (.ref T) kV doc pm an cdv ct), osl⟩)
    (c : PySem.W.codeIn K cdv "first_rows" = true) (k : PySem.W.keepIn K (.ref f) = true) (lT : K.lookup T = some ⟨o1, o2, .seq #[.none, .none] n, o4⟩) : ∃ f fd, DfF K mg f fd :=
  ⟨f, _, ⟨⟨⟨oc, od, .ref T, kV, doc, pm, an, cdv, ct, osl, rfl, l, c, .inr ⟨by simp, T, _, [.none, .none], n, rfl, lT, rfl, .cons rfl (.cons rfl .nil)⟩, .inl rfl⟩, k⟩, PySem.W.mg_of X G a⟩⟩
end
section
variable {K : PySem.W.Frag} {h : Heap} {mg : Str → Option Value} {cn ql nm q : Str} {C N0 N fI : Addr} {bs sub : List Value} {sn : List Str} {ab : Bool} {col : Option Bool} {dd : Option Addr} {k0 k1 k2 k3 k5 : Option Value} {oc doc pm cdv ct : Value} {od an : Option Addr} {osl : Array (Option Value)} {p1 p2 q1 q2 q3 q4 : Pos}
theorem un_of (X : K.In h) (G : h.Ns mainGlobals mg) (a : PySem.W.nsIn K mainGlobals "Untold" = some (some (.ref C))) (xl : K.lookup C = some (excClassObj nm q C N bs (.ref N0 :: veT) true sn sub ab col dd k0 k1 k2 k3 k5 "ValueError.__new__")) (rv : PySem.HandSPX.refsVE (.ref N0 :: veT) = true)
    (sa : PySem.W.findIn K (.ref C) "__setattr__" = some (some (.builtin "object.__setattr__"))) (ga : PySem.W.findIn K (.ref C) "__getattribute__" = some (some (.builtin "BaseException.__getattribute__"))) (gg : PySem.W.findIn K (.ref C) "__getattr__" = some none)
    (n1 : PySem.W.findIn K (.ref C) "archive" = some none) (n2 : PySem.W.findIn K (.ref C) "here" = some none) (n3 : PySem.W.findIn K (.ref C) "there" = some none)
    (kc : PySem.W.keepIn K (.ref C) = true) (ec : PySem.W.subIn K (.ref C) (.type "BaseException") = some true) (ty : PySem.W.typeIn K (.ref C) = some (.type "type")) (hc : PySem.W.hasDictIn K C = true) : UnC K mg C :=
  ⟨⟨⟨nm, q, N, bs, _, sn, sub, ab, col, dd, k0, k1, k2, k3, k5, xl, rv⟩, sa, ec, ty, kc⟩, n1, n2, n3, ⟨ga, gg, ec, hc⟩, PySem.W.mg_of X G a⟩
theorem unc_of (X : K.In h) (G : h.Ns mainGlobals mg) (a : PySem.W.nsIn K mainGlobals "Uncommuting" = some (some (.ref C))) (xl : K.lookup C = some (excClassObj nm q C N bs (.ref N0 :: veT) true sn sub ab col dd k0 k1 k2 k3 k5 "ValueError.__new__")) (rv : PySem.HandSPX.refsVE (.ref N0 :: veT) = true)
    (sa : PySem.W.findIn K (.ref C) "__setattr__" = some (some (.builtin "object.__setattr__"))) (ga : PySem.W.findIn K (.ref C) "__getattribute__" = some (some (.builtin "BaseException.__getattribute__"))) (gg : PySem.W.findIn K (.ref C) "__getattr__" = some none)
    (n1 : PySem.W.findIn K (.ref C) "state" = some none) (n2 : PySem.W.findIn K (.ref C) "one" = some none) (n3 : PySem.W.findIn K (.ref C) "other" = some none)
    (kc : PySem.W.keepIn K (.ref C) = true) (ec : PySem.W.subIn K (.ref C) (.type "BaseException") = some true) (ty : PySem.W.typeIn K (.ref C) = some (.type "type")) (hc : PySem.W.hasDictIn K C = true) : UnCc K mg C :=
  ⟨⟨⟨nm, q, N, bs, _, sn, sub, ab, col, dd, k0, k1, k2, k3, k5, xl, rv⟩, sa, ec, ty, kc⟩, n1, n2, n3, ⟨ga, gg, ec, hc⟩, PySem.W.mg_of X G a⟩
end
theorem cs_of {K : PySem.W.Frag} {h : Heap} {mg : Str → Option Value} {t0 t1 t2 : Tok} (X : K.In h) (G : h.Ns mainGlobals mg) (a0 : PySem.W.nsIn K mainGlobals "MOST_STEPS" = some (some (.int 400 t0))) (a1 : PySem.W.nsIn K mainGlobals "DO" = some (some (.str "do" t1))) (a2 : PySem.W.nsIn K mainGlobals "MEET" = some (some (.str "meet" t2))) : Cs mg :=
  ⟨⟨_, PySem.W.mg_of X G a0⟩, ⟨_, PySem.W.mg_of X G a1⟩, ⟨_, PySem.W.mg_of X G a2⟩⟩
theorem tp_of {K : PySem.W.Frag} {h : Heap} {mg : Str → Option Value} {fa fN M W N Cc CM CW CB CU CUc CS CD CH CT CR NErr : Addr} {oc kV doc pm ct : Value} {od an : Option Addr} {osl : Array (Option Value)} {c Pt : Addr} {o1 : Value} {o2 : Option Addr} {o4 : Array (Option Value)} {vs : Array Value}  (X : K.In h) (G : h.Ns mainGlobals mg)
    (B : Bt mg) (ff : ∃ f fd, DfF K mg f fd) (cs : Cs mg) (u : UnC K mg CU) (ui : ∃ f fd, Fun K "__init__" "Untold.__init__" sUInit f fd ∧ PySem.W.findIn K (.ref CU) "__init__" = some (some (.ref f)) ∧ PySem.W.typeIn K (.ref f) = some (.type "function") ∧ Binds K fd ["self", "archive", "here", "there"] []) (uc : UnCc K mg CUc) (uic : ∃ f fd, Fun K "__init__" "Uncommuting.__init__" sUCInit f fd ∧ PySem.W.findIn K (.ref CUc) "__init__" = some (some (.ref f)) ∧ PySem.W.typeIn K (.ref f) = some (.type "function") ∧ Binds K fd ["self", "state", "one", "other"] []) (cw : Cw mg) (kt : Ct mg) (gc : Gc mg) (lcmC : Lc mg)
    (whole : ∃ f fd, Df K mg "is_whole" sWhole ["value"] f fd)
    (below : ∃ f fd, Df K mg "is_below" sBelow ["value", "limit"] f fd)
    (seq : ∃ f fd, Df K mg "is_sequence" sSeq ["value", "least", "most"] f fd)
    (fnb : ∃ f fd, Df K mg "first_not_below" sFnb ["items", "limit"] f fd)
    (repl : ∃ f fd, Df K mg "replaced" sRepl ["items", "at", "item"] f fd)
    (isTab : ∃ f fd, Df K mg "is_table" sIsTab ["value", "states"] f fd)
    (chkT : ∃ f fd, Df K mg "checked_tables" sChk ["value"] f fd)
    (needS : ∃ f fd, Df K mg "need_state" sNeedS ["machine", "state"] f fd)
    (needD : ∃ f fd, Df K mg "need_deed" sNeedD ["machine", "deed"] f fd)
    (fault : ∃ f fd, Df K mg "row_fault" sFault ["machine", "value"] f fd)
    (row : ∃ f fd, Df K mg "check_row" sRow ["machine", "value"] f fd)
    (moved : ∃ f fd, Df K mg "moved" sMoved ["machine", "state", "row"] f fd)
    (orbit : ∃ f fd, Df K mg "orbit" sOrbit ["machine", "state"] f fd)
    (needSs : ∃ f fd, Df K mg "need_states" sNeedSs ["machine", "states"] f fd)
    (joined : ∃ f fd, Df K mg "joined" sJoined ["machine", "archive", "here", "there"] f fd)
    (join : ∃ f fd, Df K mg "join" sJoin ["machine", "archive", "here", "there"] f fd)
    (pair : ∃ f fd, Df K mg "is_pair" sPair ["value", "houses"] f fd)
    (cties : ∃ f fd, Df K mg "checked_ties" sCTies ["houses", "ties"] f fd)
    (needH : ∃ f fd, Df K mg "need_house" sNeedH ["web", "house"] f fd)
    (needT : ∃ f fd, Df K mg "need_tie" sNeedT ["web", "tie"] f fd)
    (isStep : ∃ f fd, Df K mg "is_step" sIsStep ["web", "deeds", "value"] f fd)
    (sf : ∃ f fd, Df K mg "steps_fault" sStepsFault ["web", "deeds", "value"] f fd)
    (so : ∃ f fd, Df K mg "steps_of" sStepsOf ["web", "deeds", "value"] f fd)
    (ck : ∃ f fd, Df K mg "check_steps" sCheckSteps ["machine", "web", "value"] f fd)
    (anyS : ∃ f fd, Df K mg "any_steps" sAnySteps ["web", "value"] f fd)
    (stand : ∃ f fd, Df K mg "stand_first" sStandFirst ["net", "machine", "web", "first"] f fd)
    (done : ∃ f fd, Df K mg "done_at" sDoneAt ["net", "house", "deed"] f fd)
    (jo : ∃ f fd, Df K mg "joined_over" sJoinedOver ["net", "tie"] f fd)
    (pj : ∃ f fd, Df K mg "put_joined" sPutJoined ["net", "tie", "joined"] f fd)
    (pt : ∃ f fd, Df K mg "take" sPTake ["books", "step"] f fd)
    (sa : ∃ f fd, Df K mg "standing_after" sStandingAfter ["machine", "web", "first", "steps"] f fd)
    (cPaper : ∃ f fd, Df K mg "commuting_paper" sCPaper ["machine", "state"] f fd)
    (needC : ∃ f fd, Df K mg "need_commuting" sNeedC ["machine", "state"] f fd)
    (power : ∃ f fd, Df K mg "power_of" sPower ["machine", "state", "row"] f fd)
    (less : ∃ f fd, Df K mg "less_tie" sLessTie ["here", "there", "between"] f fd)
    (deeds : ∃ f fd, Df K mg "deeds_of" sDeedsOf ["steps"] f fd)
    (counted : ∃ f fd, Df K mg "counted" sCounted ["web", "steps"] f fd)
    (cacts : ∃ f fd, Df K mg "counted_acts" sCountedActs ["counts"] f fd)
    (plain : ∃ f fd, Df K mg "plain_state" sPlainState ["machine", "web", "first", "steps", "house"] f fd)
    (harm : ∃ f fd, Df K mg "harmless_period" sHarm ["machine", "first"] f fd)
    (rh : ∃ f fd, Df K mg "run_harm" sRunHarm ["web", "steps"] f fd)
    (dealt : ∃ f fd, Df K mg "_law_dealt" sLDealt ["_law_script"] f fd)
    (any : ∃ f fd, Df K mg "_law_any" sLAny ["_law_deal", "_law_bound"] f fd)
    (of : ∃ f fd, Df K mg "_law_of" sLOf ["_law_deal", "_law_some"] f fd)
    (lweb : ∃ f fd, Df K mg "_law_web" sLWeb ["_law_deal", "_law_most"] f fd)
    (ls : ∃ f fd, Df K mg "_law_steps" sLSteps ["_law_deal", "_law_many", "_law_ties", "_law_deeds", "_law_length"] f fd)
    (heard : ∃ f fd, Df K mg "_law_bad_steps" sLBadSteps ["_law_work"] f fd)
    (lcts : ∃ f fd, Df K mg "_law_counts" sLCounts ["_law_many", "_law_ties", "_law_steps_here"] f fd)
    (llb : ∃ f fd, Df K mg "_law_led_by" sLLedBy ["_law_tables", "_law_first", "_law_steps_here", "_law_counts_here"] f fd)
    (lsu : ∃ f fd, Df K mg "_law_sums" sLSums ["_law_counts_here", "_law_acts", "_law_deeds"] f fd)
    (lgr : ∃ f fd, Df K mg "_law_is_greatest" sLIsGreatest ["_law_number", "_law_sums_here"] f fd)
    (lln : ∃ f fd, Df K mg "_law_line" sLLine ["_law_deal", "_law_period", "_law_deeds"] f fd)
    (lsh : ∃ f fd, Df K mg "_law_shown" sLShown ["_law_tables", "_law_web_here", "_law_first", "_law_steps_here"] f fd)
    (eL : mg "law" = some (.ref fa)) (aN : PySem.W.nsIn K mainGlobals "law" = some (some (.ref fN))) (lN : K.lookup fN = some ⟨oc, od, .func (PySem.W.fnOf "law" "law" (defArgs sLaw) (defBody sLaw) (defScope sLaw) .none kV doc pm an (.ref c) ct), osl⟩)
    (cN : PySem.W.codeIn K (.ref c) "law" = true) (kN : PySem.W.keepIn K (.ref fN) = true) (lc : K.lookup c = some ⟨o1, o2, .fields vs, o4⟩) (hv : (vs[11]? : Option Value) = some (.ref Pt)) (nP : K.lookup Pt = Option.none)
    (ac_M : PySem.W.nsIn K mainGlobals "Machine" = some (some (.ref M))) (pgM : PySem.W.plainGet K M Str.empty = true) (hdM : PySem.W.hasDictIn K M = true) (poM : PySem.W.plainOver K M = true) (saM : PySem.W.findIn K (.ref M) "__setattr__" = some (some (.builtin "object.__setattr__"))) (nM0 : PySem.W.findIn K (.ref M) "tables" = some Option.none) (nM1 : PySem.W.findIn K (.ref M) "deeds" = some Option.none) (nM2 : PySem.W.findIn K (.ref M) "states" = some Option.none) (caM : PySem.W.findIn K (.ref M) "__class__" = some (some (.builtin "object.__class__"))) (spM : PySem.W.specialIn K (.builtin "object.__class__") "__get__" = some (some (.builtin "getset_descriptor.__get__"))) (tkM : PySem.W.takesIn K (.builtin "object.__class__") = some true) (moM : PySem.W.mroIn K M (.type "object") = some true)
    (initM : ∃ f fd, Fun K "__init__" "Machine.__init__" sMInit f fd ∧ Mk K M f ∧ Binds K fd ["self", "tables"] [])
    (ac_W : PySem.W.nsIn K mainGlobals "Web" = some (some (.ref W))) (pgW : PySem.W.plainGet K W Str.empty = true) (hdW : PySem.W.hasDictIn K W = true) (poW : PySem.W.plainOver K W = true) (saW : PySem.W.findIn K (.ref W) "__setattr__" = some (some (.builtin "object.__setattr__"))) (nW0 : PySem.W.findIn K (.ref W) "ties" = some Option.none) (nW1 : PySem.W.findIn K (.ref W) "houses" = some Option.none)
    (initW : ∃ f fd, Fun K "__init__" "Web.__init__" sWInit f fd ∧ Mk K W f ∧ Binds K fd ["self", "houses", "ties"] [])
    (ac_N : PySem.W.nsIn K mainGlobals "Net" = some (some (.ref N))) (pgN : PySem.W.plainGet K N Str.empty = true) (hdN : PySem.W.hasDictIn K N = true) (poN : PySem.W.plainOver K N = true) (saN : PySem.W.findIn K (.ref N) "__setattr__" = some (some (.builtin "object.__setattr__"))) (nN0 : PySem.W.findIn K (.ref N) "first" = some Option.none) (nN1 : PySem.W.findIn K (.ref N) "machine" = some Option.none) (nN2 : PySem.W.findIn K (.ref N) "web" = some Option.none) (nN3 : PySem.W.findIn K (.ref N) "states" = some Option.none) (nN4 : PySem.W.findIn K (.ref N) "archives" = some Option.none) (nN5 : PySem.W.findIn K (.ref N) "steps" = some Option.none)
    (initN : ∃ f fd, Fun K "__init__" "Net.__init__" sNetInit f fd ∧ Mk K N f ∧ Binds K fd ["self", "machine", "web", "first"] [])
    (m_N_do : ∃ f fd, Fun K "do" "Net.do" sNetDo f fd ∧ Meth K N "do" f ∧ Binds K fd ["self", "house", "deed"] [])
    (m_N_meet : ∃ f fd, Fun K "meet" "Net.meet" sNetMeet f fd ∧ Meth K N "meet" f ∧ Binds K fd ["self", "tie"] [])
    (ac_Cc : PySem.W.nsIn K mainGlobals "Counts" = some (some (.ref Cc))) (pgCc : PySem.W.plainGet K Cc Str.empty = true) (hdCc : PySem.W.hasDictIn K Cc = true) (poCc : PySem.W.plainOver K Cc = true) (saCc : PySem.W.findIn K (.ref Cc) "__setattr__" = some (some (.builtin "object.__setattr__"))) (nCc0 : PySem.W.findIn K (.ref Cc) "web" = some Option.none) (nCc1 : PySem.W.findIn K (.ref Cc) "deeds" = some Option.none) (nCc2 : PySem.W.findIn K (.ref Cc) "houses" = some Option.none) (nCc3 : PySem.W.findIn K (.ref Cc) "ties" = some Option.none)
    (initCc : ∃ f fd, Fun K "__init__" "Counts.__init__" sCountsInit f fd ∧ Mk K Cc f ∧ Binds K fd ["self", "web", "acts"] [])
    (m_Cc_do : ∃ f fd, Fun K "do" "Counts.do" sCountsDo f fd ∧ Meth K Cc "do" f ∧ Binds K fd ["self", "house", "deed"] [])
    (m_Cc_meet : ∃ f fd, Fun K "meet" "Counts.meet" sCountsMeet f fd ∧ Meth K Cc "meet" f ∧ Binds K fd ["self", "tie"] [])
    (t1 : ∃ q b i, LAt.Txt K mg "BadMachine" q b CM i)
    (t2 : ∃ q b i, LAt.Txt K mg "BadWeb" q b CW i)
    (t3 : ∃ q b i, LAt.Txt K mg "BadSteps" q b CB i)
    (t4 : ∃ q b i, LState.Txt K mg "NoState" q b CS i)
    (t5 : ∃ q b i, LDeed.Txt K mg "NoDeed" q b CD i)
    (t6 : ∃ q b i, LHouse.Txt K mg "NoHouse" q b CH i)
    (t7 : ∃ q b i, LTie.Txt K mg "NoTie" q b CT i)
    (t8 : ∃ q b i, LAt.Txt K mg "BadRow" q b CR i)
    (aNE : PySem.W.nsIn K mainGlobals "NetError" = some (some (.ref NErr))) (ex : Exm K CB NErr)
    : ∃ (M W N Cc CM CW CB CU CUc CS CD CH CT CR c Pt : Addr) (fd : FuncData), Tp K mg M W N Cc CM CW CB CU CUc CS CD CH CT CR c Pt fa fd := by
  obtain ⟨fd, l1, l2⟩ := law_of X G eL aN lN cN kN
  exact ⟨M, W, N, Cc, CM, CW, CB, CU, CUc, CS, CD, CH, CT, CR, c, Pt, fd, ⟨B, ff, cs, u, ui, uc, uic, cw, kt, gc, lcmC, whole, below, seq, fnb, repl, isTab, chkT, needS, needD, fault, row, moved, orbit, needSs, joined, join, pair, cties, needH, needT, isStep, sf, so, ck, anyS, stand, done, jo, pj, pt, sa, cPaper, needC, power, less, deeds, counted, cacts, plain, harm, rh, dealt, any, of, lweb, ls, heard, lcts, llb, lsu, lgr, lln, lsh, l1, l2, initM, ⟨⟨pgM, hdM, poM, saM⟩, nM0, nM1, nM2, PySem.W.mg_of X G ac_M, caM, spM, tkM, moM⟩, initW, ⟨⟨pgW, hdW, poW, saW⟩, nW0, nW1, PySem.W.mg_of X G ac_W⟩, initN, m_N_do, m_N_meet, ⟨⟨pgN, hdN, poN, saN⟩, nN0, nN1, nN2, nN3, nN4, nN5, PySem.W.mg_of X G ac_N⟩, initCc, m_Cc_do, m_Cc_meet, ⟨⟨pgCc, hdCc, poCc, saCc⟩, nCc0, nCc1, nCc2, nCc3, PySem.W.mg_of X G ac_Cc⟩, t1, t2, t3, t4, t5, t6, t7, t8, ⟨NErr, PySem.W.mg_of X G aNE, ex⟩, tab_mk aN lN rfl lc hv, nP⟩⟩
end K1
open PySem PySem.W PyProof.Rows
set_option maxRecDepth 100000 in
set_option maxHeartbeats 0 in
theorem PySem.Challenge.cw_houseslessties_k20_whole_what_wrong_runs_holds : PySem.Challenge.rw_houseslessties_k20_whole_what_wrong_runs.Holds := by
  w_on; o_law; k_head; (case hw => w_witness2)
  k_fill
  refine K1.walkK (l := PySem.Challenge.rw_houseslessties_k20_whole_what_wrong_runs) rfl rfl (fun w h Y => PySem.W.km_in_of Y) ?hr ?F
  case hr => exact ⟨_, rfl⟩
  case F =>
    intro w mg fa h KX G hmg
    refine' K1.tp_of KX G ?B ?ff ?cs ?u ?ui ?uc ?uic ?cw ?kt ?gc ?lcmC ?zwhole ?zbelow ?zseq ?zfnb ?zrepl ?zisTab ?zchkT ?zneedS ?zneedD ?zfault ?zrow ?zmoved ?zorbit ?zneedSs ?zjoined ?zjoin ?zpair ?zcties ?zneedH ?zneedT ?zisStep ?zsf ?zso ?zck ?zanyS ?zstand ?zdone ?zjo ?zpj ?zpt ?zsa ?zcPaper ?zneedC ?zpower ?zless ?zdeeds ?zcounted ?zcacts ?zplain ?zharm ?zrh ?zdealt ?zany ?zof ?zlweb ?zls ?zheard ?zlcts ?zllb ?zlsu ?zlgr ?zlln ?zlsh hmg ?aN ?lN ?cN ?kN ?lc ?hv ?nP ?ac_M ?pgM ?hdM ?poM ?saM ?nM0 ?nM1 ?nM2 ?caM ?spM ?tkM ?moM ?initM ?ac_W ?pgW ?hdW ?poW ?saW ?nW0 ?nW1 ?initW ?ac_N ?pgN ?hdN ?poN ?saN ?nN0 ?nN1 ?nN2 ?nN3 ?nN4 ?nN5 ?initN ?m_N_do ?m_N_meet ?ac_Cc ?pgCc ?hdCc ?poCc ?saCc ?nCc0 ?nCc1 ?nCc2 ?nCc3 ?initCc ?m_Cc_do ?m_Cc_meet ?t1 ?t2 ?t3 ?t4 ?t5 ?t6 ?t7 ?t8 ?aNE ?ex
    case B =>
      refine K1.bt_of KX G fun x hx => ?_
      simp only [List.mem_cons, List.mem_nil_iff, or_false] at hx
      rcases hx with rfl | rfl | rfl | rfl | rfl | rfl | rfl | rfl | rfl | rfl | rfl | rfl | rfl | rfl | rfl | rfl | rfl | rfl | rfl | rfl | rfl <;> k_is
    case ff => (refine' K1.dfF_of (by assumption) (by assumption) ?a_ff ?l_ff ?c_ff ?k_ff ?lT_ff; (case a_ff => k_is); (case l_ff => k_is); (case c_ff => k_is); (case k_ff => k_is); (case lT_ff => k_is))
    case cs => (refine' K1.cs_of (by assumption) (by assumption) ?c_0 ?c_1 ?c_2; (case c_0 => k_is); (case c_1 => k_is); (case c_2 => k_is))
    case u => (refine' K1.un_of (by assumption) (by assumption) ?a_u ?xl_u ?rv_u ?sa_u ?ga_u ?gg_u ?n1_u ?n2_u ?n3_u ?kc_u ?ec_u ?ty_u ?hc_u; (case a_u => k_is); (case xl_u => k_is); (case rv_u => rfl); (case sa_u => k_is); (case ga_u => k_is); (case gg_u => k_is); (case n1_u => k_is); (case n2_u => k_is); (case n3_u => k_is); (case kc_u => k_is); (case ec_u => k_is); (case ty_u => k_is); (case hc_u => k_is))
    case ui => (refine' K1.ui_of ?a_ui ?i_ui ?l_ui ?c_ui ?k_ui; (case a_ui => k_is); (case i_ui => k_is); (case l_ui => k_is); (case c_ui => k_is); (case k_ui => k_is))
    case uc => (refine' K1.unc_of (by assumption) (by assumption) ?a_uc ?xl_uc ?rv_uc ?sa_uc ?ga_uc ?gg_uc ?n1_uc ?n2_uc ?n3_uc ?kc_uc ?ec_uc ?ty_uc ?hc_uc; (case a_uc => k_is); (case xl_uc => k_is); (case rv_uc => rfl); (case sa_uc => k_is); (case ga_uc => k_is); (case gg_uc => k_is); (case n1_uc => k_is); (case n2_uc => k_is); (case n3_uc => k_is); (case kc_uc => k_is); (case ec_uc => k_is); (case ty_uc => k_is); (case hc_uc => k_is))
    case uic => (refine' K1.uic_of ?a_uic ?i_uic ?l_uic ?c_uic ?k_uic; (case a_uic => k_is); (case i_uic => k_is); (case l_uic => k_is); (case c_uic => k_is); (case k_uic => k_is))
    case cw => refine' K1.cw_of KX G ?acw0 ?acw1; (case acw0 => k_is); (case acw1 => k_is)
    case kt => refine' K1.kt_of KX G ?akt0 ?akt1 ?akt2; (case akt0 => k_is); (case akt1 => k_is); (case akt2 => k_is)
    case gc => refine' K1.gc_of KX G ?agc0; (case agc0 => k_is)
    case lcmC => refine' K1.lcmC_of KX G ?alcmC0; (case alcmC0 => k_is)
    case zwhole =>
      (refine' K1.df_of (by assumption) (by assumption) ?a_0 ?l_0 ?c_0 ?k_0 ?b_0; (case a_0 => k_is); (case l_0 => k_is); (case c_0 => k_is); (case k_0 => k_is))
      case b_0 => exact fun _ _ _ _ _ _ us hl => match us, hl with | [_], _ => rfl
    case zbelow =>
      (refine' K1.df_of (by assumption) (by assumption) ?a_1 ?l_1 ?c_1 ?k_1 ?b_1; (case a_1 => k_is); (case l_1 => k_is); (case c_1 => k_is); (case k_1 => k_is))
      case b_1 => exact fun _ _ _ _ _ _ us hl => match us, hl with | [_, _], _ => rfl
    case zseq =>
      (refine' K1.df_of (by assumption) (by assumption) ?a_2 ?l_2 ?c_2 ?k_2 ?b_2; (case a_2 => k_is); (case l_2 => k_is); (case c_2 => k_is); (case k_2 => k_is))
      case b_2 => exact fun _ _ _ _ _ _ us hl => match us, hl with | [_, _, _], _ => rfl
    case zfnb =>
      (refine' K1.df_of (by assumption) (by assumption) ?a_3 ?l_3 ?c_3 ?k_3 ?b_3; (case a_3 => k_is); (case l_3 => k_is); (case c_3 => k_is); (case k_3 => k_is))
      case b_3 => exact fun _ _ _ _ _ _ us hl => match us, hl with | [_, _], _ => rfl
    case zrepl =>
      (refine' K1.df_of (by assumption) (by assumption) ?a_4 ?l_4 ?c_4 ?k_4 ?b_4; (case a_4 => k_is); (case l_4 => k_is); (case c_4 => k_is); (case k_4 => k_is))
      case b_4 => exact fun _ _ _ _ _ _ us hl => match us, hl with | [_, _, _], _ => rfl
    case zisTab =>
      (refine' K1.df_of (by assumption) (by assumption) ?a_5 ?l_5 ?c_5 ?k_5 ?b_5; (case a_5 => k_is); (case l_5 => k_is); (case c_5 => k_is); (case k_5 => k_is))
      case b_5 => exact fun _ _ _ _ _ _ us hl => match us, hl with | [_, _], _ => rfl
    case zchkT =>
      (refine' K1.df_of (by assumption) (by assumption) ?a_6 ?l_6 ?c_6 ?k_6 ?b_6; (case a_6 => k_is); (case l_6 => k_is); (case c_6 => k_is); (case k_6 => k_is))
      case b_6 => exact fun _ _ _ _ _ _ us hl => match us, hl with | [_], _ => rfl
    case zneedS =>
      (refine' K1.df_of (by assumption) (by assumption) ?a_7 ?l_7 ?c_7 ?k_7 ?b_7; (case a_7 => k_is); (case l_7 => k_is); (case c_7 => k_is); (case k_7 => k_is))
      case b_7 => exact fun _ _ _ _ _ _ us hl => match us, hl with | [_, _], _ => rfl
    case zneedD =>
      (refine' K1.df_of (by assumption) (by assumption) ?a_8 ?l_8 ?c_8 ?k_8 ?b_8; (case a_8 => k_is); (case l_8 => k_is); (case c_8 => k_is); (case k_8 => k_is))
      case b_8 => exact fun _ _ _ _ _ _ us hl => match us, hl with | [_, _], _ => rfl
    case zfault =>
      (refine' K1.df_of (by assumption) (by assumption) ?a_9 ?l_9 ?c_9 ?k_9 ?b_9; (case a_9 => k_is); (case l_9 => k_is); (case c_9 => k_is); (case k_9 => k_is))
      case b_9 => exact fun _ _ _ _ _ _ us hl => match us, hl with | [_, _], _ => rfl
    case zrow =>
      (refine' K1.df_of (by assumption) (by assumption) ?a_10 ?l_10 ?c_10 ?k_10 ?b_10; (case a_10 => k_is); (case l_10 => k_is); (case c_10 => k_is); (case k_10 => k_is))
      case b_10 => exact fun _ _ _ _ _ _ us hl => match us, hl with | [_, _], _ => rfl
    case zmoved =>
      (refine' K1.df_of (by assumption) (by assumption) ?a_11 ?l_11 ?c_11 ?k_11 ?b_11; (case a_11 => k_is); (case l_11 => k_is); (case c_11 => k_is); (case k_11 => k_is))
      case b_11 => exact fun _ _ _ _ _ _ us hl => match us, hl with | [_, _, _], _ => rfl
    case zorbit =>
      (refine' K1.df_of (by assumption) (by assumption) ?a_12 ?l_12 ?c_12 ?k_12 ?b_12; (case a_12 => k_is); (case l_12 => k_is); (case c_12 => k_is); (case k_12 => k_is))
      case b_12 => exact fun _ _ _ _ _ _ us hl => match us, hl with | [_, _], _ => rfl
    case zneedSs =>
      (refine' K1.df_of (by assumption) (by assumption) ?a_13 ?l_13 ?c_13 ?k_13 ?b_13; (case a_13 => k_is); (case l_13 => k_is); (case c_13 => k_is); (case k_13 => k_is))
      case b_13 => exact fun _ _ _ _ _ _ us hl => match us, hl with | [_, _], _ => rfl
    case zjoined =>
      (refine' K1.df_of (by assumption) (by assumption) ?a_14 ?l_14 ?c_14 ?k_14 ?b_14; (case a_14 => k_is); (case l_14 => k_is); (case c_14 => k_is); (case k_14 => k_is))
      case b_14 => exact fun _ _ _ _ _ _ us hl => by obtain ⟨a, b, c, d, rfl⟩ := K1.len4 hl; rfl
    case zjoin =>
      (refine' K1.df_of (by assumption) (by assumption) ?a_15 ?l_15 ?c_15 ?k_15 ?b_15; (case a_15 => k_is); (case l_15 => k_is); (case c_15 => k_is); (case k_15 => k_is))
      case b_15 => exact fun _ _ _ _ _ _ us hl => by obtain ⟨a, b, c, d, rfl⟩ := K1.len4 hl; rfl
    case zpair =>
      (refine' K1.df_of (by assumption) (by assumption) ?a_16 ?l_16 ?c_16 ?k_16 ?b_16; (case a_16 => k_is); (case l_16 => k_is); (case c_16 => k_is); (case k_16 => k_is))
      case b_16 => exact fun _ _ _ _ _ _ us hl => match us, hl with | [_, _], _ => rfl
    case zcties =>
      (refine' K1.df_of (by assumption) (by assumption) ?a_17 ?l_17 ?c_17 ?k_17 ?b_17; (case a_17 => k_is); (case l_17 => k_is); (case c_17 => k_is); (case k_17 => k_is))
      case b_17 => exact fun _ _ _ _ _ _ us hl => match us, hl with | [_, _], _ => rfl
    case zneedH =>
      (refine' K1.df_of (by assumption) (by assumption) ?a_18 ?l_18 ?c_18 ?k_18 ?b_18; (case a_18 => k_is); (case l_18 => k_is); (case c_18 => k_is); (case k_18 => k_is))
      case b_18 => exact fun _ _ _ _ _ _ us hl => match us, hl with | [_, _], _ => rfl
    case zneedT =>
      (refine' K1.df_of (by assumption) (by assumption) ?a_19 ?l_19 ?c_19 ?k_19 ?b_19; (case a_19 => k_is); (case l_19 => k_is); (case c_19 => k_is); (case k_19 => k_is))
      case b_19 => exact fun _ _ _ _ _ _ us hl => match us, hl with | [_, _], _ => rfl
    case zisStep =>
      (refine' K1.df_of (by assumption) (by assumption) ?a_20 ?l_20 ?c_20 ?k_20 ?b_20; (case a_20 => k_is); (case l_20 => k_is); (case c_20 => k_is); (case k_20 => k_is))
      case b_20 => exact fun _ _ _ _ _ _ us hl => match us, hl with | [_, _, _], _ => rfl
    case zsf =>
      (refine' K1.df_of (by assumption) (by assumption) ?a_21 ?l_21 ?c_21 ?k_21 ?b_21; (case a_21 => k_is); (case l_21 => k_is); (case c_21 => k_is); (case k_21 => k_is))
      case b_21 => exact fun _ _ _ _ _ _ us hl => match us, hl with | [_, _, _], _ => rfl
    case zso =>
      (refine' K1.df_of (by assumption) (by assumption) ?a_22 ?l_22 ?c_22 ?k_22 ?b_22; (case a_22 => k_is); (case l_22 => k_is); (case c_22 => k_is); (case k_22 => k_is))
      case b_22 => exact fun _ _ _ _ _ _ us hl => match us, hl with | [_, _, _], _ => rfl
    case zck =>
      (refine' K1.df_of (by assumption) (by assumption) ?a_23 ?l_23 ?c_23 ?k_23 ?b_23; (case a_23 => k_is); (case l_23 => k_is); (case c_23 => k_is); (case k_23 => k_is))
      case b_23 => exact fun _ _ _ _ _ _ us hl => match us, hl with | [_, _, _], _ => rfl
    case zanyS =>
      (refine' K1.df_of (by assumption) (by assumption) ?a_24 ?l_24 ?c_24 ?k_24 ?b_24; (case a_24 => k_is); (case l_24 => k_is); (case c_24 => k_is); (case k_24 => k_is))
      case b_24 => exact fun _ _ _ _ _ _ us hl => match us, hl with | [_, _], _ => rfl
    case zstand =>
      (refine' K1.df_of (by assumption) (by assumption) ?a_25 ?l_25 ?c_25 ?k_25 ?b_25; (case a_25 => k_is); (case l_25 => k_is); (case c_25 => k_is); (case k_25 => k_is))
      case b_25 => exact fun _ _ _ _ _ _ us hl => by obtain ⟨a, b, c, d, rfl⟩ := K1.len4 hl; rfl
    case zdone =>
      (refine' K1.df_of (by assumption) (by assumption) ?a_26 ?l_26 ?c_26 ?k_26 ?b_26; (case a_26 => k_is); (case l_26 => k_is); (case c_26 => k_is); (case k_26 => k_is))
      case b_26 => exact fun _ _ _ _ _ _ us hl => match us, hl with | [_, _, _], _ => rfl
    case zjo =>
      (refine' K1.df_of (by assumption) (by assumption) ?a_27 ?l_27 ?c_27 ?k_27 ?b_27; (case a_27 => k_is); (case l_27 => k_is); (case c_27 => k_is); (case k_27 => k_is))
      case b_27 => exact fun _ _ _ _ _ _ us hl => match us, hl with | [_, _], _ => rfl
    case zpj =>
      (refine' K1.df_of (by assumption) (by assumption) ?a_28 ?l_28 ?c_28 ?k_28 ?b_28; (case a_28 => k_is); (case l_28 => k_is); (case c_28 => k_is); (case k_28 => k_is))
      case b_28 => exact fun _ _ _ _ _ _ us hl => match us, hl with | [_, _, _], _ => rfl
    case zpt =>
      (refine' K1.df_of (by assumption) (by assumption) ?a_29 ?l_29 ?c_29 ?k_29 ?b_29; (case a_29 => k_is); (case l_29 => k_is); (case c_29 => k_is); (case k_29 => k_is))
      case b_29 => exact fun _ _ _ _ _ _ us hl => match us, hl with | [_, _], _ => rfl
    case zsa =>
      (refine' K1.df_of (by assumption) (by assumption) ?a_30 ?l_30 ?c_30 ?k_30 ?b_30; (case a_30 => k_is); (case l_30 => k_is); (case c_30 => k_is); (case k_30 => k_is))
      case b_30 => exact fun _ _ _ _ _ _ us hl => by obtain ⟨a, b, c, d, rfl⟩ := K1.len4 hl; rfl
    case zcPaper =>
      (refine' K1.df_of (by assumption) (by assumption) ?a_31 ?l_31 ?c_31 ?k_31 ?b_31; (case a_31 => k_is); (case l_31 => k_is); (case c_31 => k_is); (case k_31 => k_is))
      case b_31 => exact fun _ _ _ _ _ _ us hl => match us, hl with | [_, _], _ => rfl
    case zneedC =>
      (refine' K1.df_of (by assumption) (by assumption) ?a_32 ?l_32 ?c_32 ?k_32 ?b_32; (case a_32 => k_is); (case l_32 => k_is); (case c_32 => k_is); (case k_32 => k_is))
      case b_32 => exact fun _ _ _ _ _ _ us hl => match us, hl with | [_, _], _ => rfl
    case zpower =>
      (refine' K1.df_of (by assumption) (by assumption) ?a_33 ?l_33 ?c_33 ?k_33 ?b_33; (case a_33 => k_is); (case l_33 => k_is); (case c_33 => k_is); (case k_33 => k_is))
      case b_33 => exact fun _ _ _ _ _ _ us hl => match us, hl with | [_, _, _], _ => rfl
    case zless =>
      (refine' K1.df_of (by assumption) (by assumption) ?a_34 ?l_34 ?c_34 ?k_34 ?b_34; (case a_34 => k_is); (case l_34 => k_is); (case c_34 => k_is); (case k_34 => k_is))
      case b_34 => exact fun _ _ _ _ _ _ us hl => match us, hl with | [_, _, _], _ => rfl
    case zdeeds =>
      (refine' K1.df_of (by assumption) (by assumption) ?a_35 ?l_35 ?c_35 ?k_35 ?b_35; (case a_35 => k_is); (case l_35 => k_is); (case c_35 => k_is); (case k_35 => k_is))
      case b_35 => exact fun _ _ _ _ _ _ us hl => match us, hl with | [_], _ => rfl
    case zcounted =>
      (refine' K1.df_of (by assumption) (by assumption) ?a_36 ?l_36 ?c_36 ?k_36 ?b_36; (case a_36 => k_is); (case l_36 => k_is); (case c_36 => k_is); (case k_36 => k_is))
      case b_36 => exact fun _ _ _ _ _ _ us hl => match us, hl with | [_, _], _ => rfl
    case zcacts =>
      (refine' K1.df_of (by assumption) (by assumption) ?a_37 ?l_37 ?c_37 ?k_37 ?b_37; (case a_37 => k_is); (case l_37 => k_is); (case c_37 => k_is); (case k_37 => k_is))
      case b_37 => exact fun _ _ _ _ _ _ us hl => match us, hl with | [_], _ => rfl
    case zplain =>
      (refine' K1.df_of (by assumption) (by assumption) ?a_38 ?l_38 ?c_38 ?k_38 ?b_38; (case a_38 => k_is); (case l_38 => k_is); (case c_38 => k_is); (case k_38 => k_is))
      case b_38 => exact fun _ _ _ _ _ _ us hl => match us, hl with | [_, _, _, _, _], _ => rfl
    case zharm =>
      (refine' K1.df_of (by assumption) (by assumption) ?a_39 ?l_39 ?c_39 ?k_39 ?b_39; (case a_39 => k_is); (case l_39 => k_is); (case c_39 => k_is); (case k_39 => k_is))
      case b_39 => exact fun _ _ _ _ _ _ us hl => match us, hl with | [_, _], _ => rfl
    case zrh =>
      (refine' K1.df_of (by assumption) (by assumption) ?a_40 ?l_40 ?c_40 ?k_40 ?b_40; (case a_40 => k_is); (case l_40 => k_is); (case c_40 => k_is); (case k_40 => k_is))
      case b_40 => exact fun _ _ _ _ _ _ us hl => match us, hl with | [_, _], _ => rfl
    case zdealt =>
      (refine' K1.df_of (by assumption) (by assumption) ?a_41 ?l_41 ?c_41 ?k_41 ?b_41; (case a_41 => k_is); (case l_41 => k_is); (case c_41 => k_is); (case k_41 => k_is))
      case b_41 => exact fun _ _ _ _ _ _ us hl => match us, hl with | [_], _ => rfl
    case zany =>
      (refine' K1.df_of (by assumption) (by assumption) ?a_42 ?l_42 ?c_42 ?k_42 ?b_42; (case a_42 => k_is); (case l_42 => k_is); (case c_42 => k_is); (case k_42 => k_is))
      case b_42 => exact fun _ _ _ _ _ _ us hl => match us, hl with | [_, _], _ => rfl
    case zof =>
      (refine' K1.df_of (by assumption) (by assumption) ?a_43 ?l_43 ?c_43 ?k_43 ?b_43; (case a_43 => k_is); (case l_43 => k_is); (case c_43 => k_is); (case k_43 => k_is))
      case b_43 => exact fun _ _ _ _ _ _ us hl => match us, hl with | [_, _], _ => rfl
    case zlweb =>
      (refine' K1.df_of (by assumption) (by assumption) ?a_44 ?l_44 ?c_44 ?k_44 ?b_44; (case a_44 => k_is); (case l_44 => k_is); (case c_44 => k_is); (case k_44 => k_is))
      case b_44 => exact fun _ _ _ _ _ _ us hl => match us, hl with | [_, _], _ => rfl
    case zls =>
      (refine' K1.df_of (by assumption) (by assumption) ?a_45 ?l_45 ?c_45 ?k_45 ?b_45; (case a_45 => k_is); (case l_45 => k_is); (case c_45 => k_is); (case k_45 => k_is))
      case b_45 => exact fun _ _ _ _ _ _ us hl => match us, hl with | [_, _, _, _, _], _ => rfl
    case zheard =>
      (refine' K1.df_of (by assumption) (by assumption) ?a_46 ?l_46 ?c_46 ?k_46 ?b_46; (case a_46 => k_is); (case l_46 => k_is); (case c_46 => k_is); (case k_46 => k_is))
      case b_46 => exact fun _ _ _ _ _ _ us hl => match us, hl with | [_], _ => rfl
    case zlcts =>
      (refine' K1.df_of (by assumption) (by assumption) ?a_47 ?l_47 ?c_47 ?k_47 ?b_47; (case a_47 => k_is); (case l_47 => k_is); (case c_47 => k_is); (case k_47 => k_is))
      case b_47 => exact fun _ _ _ _ _ _ us hl => match us, hl with | [_, _, _], _ => rfl
    case zllb =>
      (refine' K1.df_of (by assumption) (by assumption) ?a_48 ?l_48 ?c_48 ?k_48 ?b_48; (case a_48 => k_is); (case l_48 => k_is); (case c_48 => k_is); (case k_48 => k_is))
      case b_48 => exact fun _ _ _ _ _ _ us hl => by obtain ⟨a, b, c, d, rfl⟩ := K1.len4 hl; rfl
    case zlsu =>
      (refine' K1.df_of (by assumption) (by assumption) ?a_49 ?l_49 ?c_49 ?k_49 ?b_49; (case a_49 => k_is); (case l_49 => k_is); (case c_49 => k_is); (case k_49 => k_is))
      case b_49 => exact fun _ _ _ _ _ _ us hl => match us, hl with | [_, _, _], _ => rfl
    case zlgr =>
      (refine' K1.df_of (by assumption) (by assumption) ?a_50 ?l_50 ?c_50 ?k_50 ?b_50; (case a_50 => k_is); (case l_50 => k_is); (case c_50 => k_is); (case k_50 => k_is))
      case b_50 => exact fun _ _ _ _ _ _ us hl => match us, hl with | [_, _], _ => rfl
    case zlln =>
      (refine' K1.df_of (by assumption) (by assumption) ?a_51 ?l_51 ?c_51 ?k_51 ?b_51; (case a_51 => k_is); (case l_51 => k_is); (case c_51 => k_is); (case k_51 => k_is))
      case b_51 => exact fun _ _ _ _ _ _ us hl => match us, hl with | [_, _, _], _ => rfl
    case zlsh =>
      (refine' K1.df_of (by assumption) (by assumption) ?a_52 ?l_52 ?c_52 ?k_52 ?b_52; (case a_52 => k_is); (case l_52 => k_is); (case c_52 => k_is); (case k_52 => k_is))
      case b_52 => exact fun _ _ _ _ _ _ us hl => by obtain ⟨a, b, c, d, rfl⟩ := K1.len4 hl; rfl
    (case aN => k_is); (case lN => k_is); (case cN => k_is); (case kN => k_is); (case lc => k_is); (case hv => rfl); (case nP => kernel_rfl)
    (case ac_M => k_is); (case pgM => k_is); (case hdM => k_is); (case poM => k_is); (case saM => k_is); (case nM0 => k_is); (case nM1 => k_is); (case nM2 => k_is); (case caM => k_is); (case spM => k_is); (case tkM => k_is); (case moM => k_is)
    case initM => refine' K1.init_M ?a_IM ?i_IM ?m_IM ?kM_IM ?l_IM ?c_IM ?k_IM; (case a_IM => k_is); (case i_IM => k_is); (case m_IM => k_is); (case kM_IM => k_is); (case l_IM => k_is); (case c_IM => k_is); (case k_IM => k_is)
    (case ac_W => k_is); (case pgW => k_is); (case hdW => k_is); (case poW => k_is); (case saW => k_is); (case nW0 => k_is); (case nW1 => k_is)
    case initW => refine' K1.init_W ?a_IW ?i_IW ?m_IW ?kM_IW ?l_IW ?c_IW ?k_IW; (case a_IW => k_is); (case i_IW => k_is); (case m_IW => k_is); (case kM_IW => k_is); (case l_IW => k_is); (case c_IW => k_is); (case k_IW => k_is)
    (case ac_N => k_is); (case pgN => k_is); (case hdN => k_is); (case poN => k_is); (case saN => k_is); (case nN0 => k_is); (case nN1 => k_is); (case nN2 => k_is); (case nN3 => k_is); (case nN4 => k_is); (case nN5 => k_is)
    case initN => refine' K1.init_N ?a_IN ?i_IN ?m_IN ?kM_IN ?l_IN ?c_IN ?k_IN; (case a_IN => k_is); (case i_IN => k_is); (case m_IN => k_is); (case kM_IN => k_is); (case l_IN => k_is); (case c_IN => k_is); (case k_IN => k_is)
    case m_N_do => refine' K1.meth_N_do ?a_Ndo ?i_Ndo ?l_Ndo ?c_Ndo ?k_Ndo; (case a_Ndo => k_is); (case i_Ndo => k_is); (case l_Ndo => k_is); (case c_Ndo => k_is); (case k_Ndo => k_is)
    case m_N_meet => refine' K1.meth_N_meet ?a_Nmeet ?i_Nmeet ?l_Nmeet ?c_Nmeet ?k_Nmeet; (case a_Nmeet => k_is); (case i_Nmeet => k_is); (case l_Nmeet => k_is); (case c_Nmeet => k_is); (case k_Nmeet => k_is)
    (case ac_Cc => k_is); (case pgCc => k_is); (case hdCc => k_is); (case poCc => k_is); (case saCc => k_is); (case nCc0 => k_is); (case nCc1 => k_is); (case nCc2 => k_is); (case nCc3 => k_is)
    case initCc => refine' K1.init_Cc ?a_ICc ?i_ICc ?m_ICc ?kM_ICc ?l_ICc ?c_ICc ?k_ICc; (case a_ICc => k_is); (case i_ICc => k_is); (case m_ICc => k_is); (case kM_ICc => k_is); (case l_ICc => k_is); (case c_ICc => k_is); (case k_ICc => k_is)
    case m_Cc_do => refine' K1.meth_Cc_do ?a_Ccdo ?i_Ccdo ?l_Ccdo ?c_Ccdo ?k_Ccdo; (case a_Ccdo => k_is); (case i_Ccdo => k_is); (case l_Ccdo => k_is); (case c_Ccdo => k_is); (case k_Ccdo => k_is)
    case m_Cc_meet => refine' K1.meth_Cc_meet ?a_Ccmeet ?i_Ccmeet ?l_Ccmeet ?c_Ccmeet ?k_Ccmeet; (case a_Ccmeet => k_is); (case i_Ccmeet => k_is); (case l_Ccmeet => k_is); (case c_Ccmeet => k_is); (case k_Ccmeet => k_is)
    case t1 => (refine' K1.LAt_of_ (by assumption) (by assumption) ?a_t1 ?xl_t1 ?sa_t1 ?ga_t1 ?gg_t1 ?no_t1 ?ic_t1 ?tc_t1 ?kc_t1 ?ec_t1 ?ty_t1 ?hc_t1 ?l_t1 ?c_t1; (case a_t1 => k_is); (case xl_t1 => k_is); (case sa_t1 => k_is); (case ga_t1 => k_is); (case gg_t1 => k_is); (case no_t1 => k_is); (case ic_t1 => k_is); (case tc_t1 => k_is); (case kc_t1 => k_is); (case ec_t1 => k_is); (case ty_t1 => k_is); (case hc_t1 => k_is); (case l_t1 => k_is); (case c_t1 => k_is))
    case t2 => (refine' K1.LAt_of_ (by assumption) (by assumption) ?a_t2 ?xl_t2 ?sa_t2 ?ga_t2 ?gg_t2 ?no_t2 ?ic_t2 ?tc_t2 ?kc_t2 ?ec_t2 ?ty_t2 ?hc_t2 ?l_t2 ?c_t2; (case a_t2 => k_is); (case xl_t2 => k_is); (case sa_t2 => k_is); (case ga_t2 => k_is); (case gg_t2 => k_is); (case no_t2 => k_is); (case ic_t2 => k_is); (case tc_t2 => k_is); (case kc_t2 => k_is); (case ec_t2 => k_is); (case ty_t2 => k_is); (case hc_t2 => k_is); (case l_t2 => k_is); (case c_t2 => k_is))
    case t3 => (refine' K1.LAt_of_ (by assumption) (by assumption) ?a_t3 ?xl_t3 ?sa_t3 ?ga_t3 ?gg_t3 ?no_t3 ?ic_t3 ?tc_t3 ?kc_t3 ?ec_t3 ?ty_t3 ?hc_t3 ?l_t3 ?c_t3; (case a_t3 => k_is); (case xl_t3 => k_is); (case sa_t3 => k_is); (case ga_t3 => k_is); (case gg_t3 => k_is); (case no_t3 => k_is); (case ic_t3 => k_is); (case tc_t3 => k_is); (case kc_t3 => k_is); (case ec_t3 => k_is); (case ty_t3 => k_is); (case hc_t3 => k_is); (case l_t3 => k_is); (case c_t3 => k_is))
    case t4 => (refine' K1.LState_of_ (by assumption) (by assumption) ?a_t4 ?xl_t4 ?sa_t4 ?ga_t4 ?gg_t4 ?no_t4 ?ic_t4 ?tc_t4 ?kc_t4 ?ec_t4 ?ty_t4 ?hc_t4 ?l_t4 ?c_t4; (case a_t4 => k_is); (case xl_t4 => k_is); (case sa_t4 => k_is); (case ga_t4 => k_is); (case gg_t4 => k_is); (case no_t4 => k_is); (case ic_t4 => k_is); (case tc_t4 => k_is); (case kc_t4 => k_is); (case ec_t4 => k_is); (case ty_t4 => k_is); (case hc_t4 => k_is); (case l_t4 => k_is); (case c_t4 => k_is))
    case t5 => (refine' K1.LDeed_of_ (by assumption) (by assumption) ?a_t5 ?xl_t5 ?sa_t5 ?ga_t5 ?gg_t5 ?no_t5 ?ic_t5 ?tc_t5 ?kc_t5 ?ec_t5 ?ty_t5 ?hc_t5 ?l_t5 ?c_t5; (case a_t5 => k_is); (case xl_t5 => k_is); (case sa_t5 => k_is); (case ga_t5 => k_is); (case gg_t5 => k_is); (case no_t5 => k_is); (case ic_t5 => k_is); (case tc_t5 => k_is); (case kc_t5 => k_is); (case ec_t5 => k_is); (case ty_t5 => k_is); (case hc_t5 => k_is); (case l_t5 => k_is); (case c_t5 => k_is))
    case t6 => (refine' K1.LHouse_of_ (by assumption) (by assumption) ?a_t6 ?xl_t6 ?sa_t6 ?ga_t6 ?gg_t6 ?no_t6 ?ic_t6 ?tc_t6 ?kc_t6 ?ec_t6 ?ty_t6 ?hc_t6 ?l_t6 ?c_t6; (case a_t6 => k_is); (case xl_t6 => k_is); (case sa_t6 => k_is); (case ga_t6 => k_is); (case gg_t6 => k_is); (case no_t6 => k_is); (case ic_t6 => k_is); (case tc_t6 => k_is); (case kc_t6 => k_is); (case ec_t6 => k_is); (case ty_t6 => k_is); (case hc_t6 => k_is); (case l_t6 => k_is); (case c_t6 => k_is))
    case t7 => (refine' K1.LTie_of_ (by assumption) (by assumption) ?a_t7 ?xl_t7 ?sa_t7 ?ga_t7 ?gg_t7 ?no_t7 ?ic_t7 ?tc_t7 ?kc_t7 ?ec_t7 ?ty_t7 ?hc_t7 ?l_t7 ?c_t7; (case a_t7 => k_is); (case xl_t7 => k_is); (case sa_t7 => k_is); (case ga_t7 => k_is); (case gg_t7 => k_is); (case no_t7 => k_is); (case ic_t7 => k_is); (case tc_t7 => k_is); (case kc_t7 => k_is); (case ec_t7 => k_is); (case ty_t7 => k_is); (case hc_t7 => k_is); (case l_t7 => k_is); (case c_t7 => k_is))
    case t8 => (refine' K1.LAt_of_ (by assumption) (by assumption) ?a_t8 ?xl_t8 ?sa_t8 ?ga_t8 ?gg_t8 ?no_t8 ?ic_t8 ?tc_t8 ?kc_t8 ?ec_t8 ?ty_t8 ?hc_t8 ?l_t8 ?c_t8; (case a_t8 => k_is); (case xl_t8 => k_is); (case sa_t8 => k_is); (case ga_t8 => k_is); (case gg_t8 => k_is); (case no_t8 => k_is); (case ic_t8 => k_is); (case tc_t8 => k_is); (case kc_t8 => k_is); (case ec_t8 => k_is); (case ty_t8 => k_is); (case hc_t8 => k_is); (case l_t8 => k_is); (case c_t8 => k_is))
    (case aNE => k_is)
    case ex =>
      refine' ⟨?e0⟩
      all_goals first | k_is | kernel_rfl
