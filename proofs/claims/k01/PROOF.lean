import PyProof.Rows.All
import Wide.All
import OpenK.AllK
import Wide.FinOn
import KE.KStateDown
import KE.KIsAll
import PyProof.EqAt
import PyProof.EqKinds
import PyProof.TupleCall
import HandS.ForMost
import HandS.Exc
import HandS.ExcInit
import HandS.Defaults
import HandS.Head0
import HandS.Head1
import HandS.Head2
import HandS.HeadEnd
import HandS.HeadHook1
import HandS.HeadHook2
import HandS.HeadHook3
import HandS.HeadHook4
import HandS.ExcIs
import KE.KTryMore
import HandS.MakeKw
import HandS.WideBits
import HandS.IsInst
import HandS.Style
import PySem.Challenge.RW_postways_k01_errors_made
set_option Elab.async false
set_option linter.all false
set_option maxRecDepth 100000
set_option maxHeartbeats 0
namespace K01
open PySem PySem.Spec PyProof.Rows L2
def topS (i : Nat) : Stmt := PySem.Challenge.pw_postways_k01_errors_made.main.body.getD i (.Pass ⟨0, 0, 0, 0⟩)
/-- the 28 classes that keep a value -/
def errNames : List Str := ["InvalidRows", "InvalidRun", "InvalidLetter", "InvalidLetters", "InvalidParty", "InvalidNames", "InvalidEvent", "InvalidEvents", "InvalidFront", "InvalidLine", "InvalidNumber", "InvalidKind", "InvalidPlace", "InvalidMake", "InvalidLane", "InvalidSlots", "InvalidLog", "InvalidRuns", "InvalidPieces", "InvalidWays", "InvalidPlan", "InvalidWay", "InvalidDesk", "InvalidRecord", "InvalidScript", "InvalidText", "Lies", "Refused"]
def bareNames : List Str := ["NothingToUndo", "NothingToRedo"]
/-- is it an own exception class over ValueError, as OexC wants it -/
def oexB (K : PySem.W.Frag) (C : Addr) : Bool := match K.lookup C with
  | some ⟨.type c, _, .cls cd, sl⟩ => decide (c = "type") && (cd.hasDict && (!cd.hasDel && (match cd.mro, sl.toList with
      | .ref C' :: bm, [_, _, _, _, some (.builtin n), _] => decide (C' = C) && (decide (n = "ValueError.__new__") && PySem.HandSPX.refsVE bm)
      | _, _ => false)))
  | _ => false
def osaB (K : PySem.W.Frag) (C : Addr) : Bool := He.eqO (PySem.W.findIn K (.ref C) "__setattr__") (some (some (.builtin "object.__setattr__"))) &&
  (decide (PySem.W.subIn K (.ref C) (.type "BaseException") = some true) && (decide (PySem.W.typeIn K (.ref C) = some (.type "type")) && PySem.W.keepIn K (.ref C)))
theorem oexC_of {K : PySem.W.Frag} {C : Addr} (h : oexB K C = true) (h2 : osaB K C = true) : OexC K C := by
  obtain ⟨s1, s2⟩ := He.ba h2
  obtain ⟨s3, s4⟩ := He.ba s2
  obtain ⟨s5, s6⟩ := He.ba s4
  refine ⟨?_, He.eqO_ok s1, of_decide_eq_true s3, of_decide_eq_true s5, s6⟩
  unfold oexB at h
  split at h
  · rename_i c dd cd sl ho
    obtain ⟨h1, h2⟩ := He.ba h
    obtain ⟨h3, h4⟩ := He.ba h2
    obtain ⟨h5, h6⟩ := He.ba h4
    split at h6
    · rename_i C' bm k0 k1 k2 k3 n k5 hm hs
      obtain ⟨a1, a2⟩ := He.ba h6
      obtain ⟨a3, a4⟩ := He.ba a2
      have e1 := of_decide_eq_true h1
      have e2 := of_decide_eq_true a1
      have e3 := of_decide_eq_true a3
      obtain ⟨nm, bs, mro, ns, qn, hd, sn, sub, ab, col, del⟩ := cd
      dsimp only at hm h3 h5
      subst hm h3 e1 e2 e3
      have e4 : del = false := by cases del <;> first | rfl | cases h5
      subst e4
      have hsl : sl = #[k0, k1, k2, k3, some (.builtin "ValueError.__new__"), k5] := by
        obtain ⟨l⟩ := sl
        simp only at hs
        rw [hs]
      subst hsl
      exact ⟨nm, qn, ns, bs, bm, sn, sub, ab, col, dd, k0, k1, k2, k3, k5, ho, a4⟩
    · cases h6
  · cases h
def excCB (K : PySem.W.Frag) (D : Addr) : Bool := He.eqO (PySem.W.findIn K (.ref D) "__getattribute__") (some (some (.builtin "BaseException.__getattribute__"))) &&
  (He.eqO (PySem.W.findIn K (.ref D) "__getattr__") (some none) && (decide (PySem.W.subIn K (.ref D) (.type "BaseException") = some true) && (PySem.W.hasDictIn K D &&
  (He.eqO (PySem.W.findIn K (.ref D) "__class__") (some (some (.builtin "object.__class__"))) && (He.eqO (PySem.W.specialIn K (.builtin "object.__class__") "__get__") (some (some (.builtin "getset_descriptor.__get__"))) &&
  (decide (PySem.W.takesIn K (.builtin "object.__class__") = some true) && decide (PySem.W.mroIn K D (.type "object") = some true)))))))
theorem excC_of {K : PySem.W.Frag} {D : Addr} (h : excCB K D = true) : ExcC K D := by
  obtain ⟨s1, h⟩ := He.ba h
  obtain ⟨s2, h⟩ := He.ba h
  obtain ⟨s3, h⟩ := He.ba h
  obtain ⟨s4, h⟩ := He.ba h
  obtain ⟨s5, h⟩ := He.ba h
  obtain ⟨s6, h⟩ := He.ba h
  obtain ⟨s7, s8⟩ := He.ba h
  exact ⟨He.eqO_ok s1, He.eqO_ok s2, of_decide_eq_true s3, s4, He.eqO_ok s5, He.eqO_ok s6, of_decide_eq_true s7, of_decide_eq_true s8⟩
/-- all that is asked of an own exception class -/
def errB (K : PySem.W.Frag) (C : Addr) : Bool := oexB K C && (osaB K C && (excCB K C && He.eqO (PySem.W.findIn K (.ref C) "value") (some none)))
/-- isinstance: the classes are of no other one -/
def kitB (K : PySem.W.Frag) (as bs : List Addr) : Bool := as.all fun a => bs.all fun b => decide (PySem.W.kitOne K (.ref a) (.ref b) = some (decide (a = b)))
def kitP (K : PySem.W.Frag) (as : List Addr) (v : Value) : Bool := as.all fun a => decide (PySem.W.kitOne K (.ref a) v = some true)
def veB (K : PySem.W.Frag) : Bool := match PySem.W.findCls K (.type "ValueError") (.type "type") "__init__" with
  | some (.val (.builtin n)) => decide (n = "ValueError.__init__")
  | _ => false
def exK (K : PySem.W.Frag) : Bool :=
  (decide (He.ma K (He.ga K "NothingToUndo") "__init__" = He.ma K (He.ga K "PostError") "__init__") && decide (He.ma K (He.ga K "NothingToRedo") "__init__" = He.ma K (He.ga K "PostError") "__init__")) && (veB K && (decide (((errNames ++ bareNames ++ [("PostError" : Str)]).map (He.ga K)).Nodup) && (((errNames ++ bareNames) ++ [("PostError" : Str)]).all (fun x => errB K (He.ga K x)) &&
  (kitB K ((errNames ++ bareNames ++ [("PostError" : Str)]).map (He.ga K)) ((errNames ++ bareNames).map (He.ga K)) &&
  (kitP K ((errNames ++ bareNames ++ [("PostError" : Str)]).map (He.ga K)) (.ref (He.ga K "PostError")) && kitP K ((errNames ++ bareNames ++ [("PostError" : Str)]).map (He.ga K)) (.type "ValueError"))))))
/-! the text -/
abbrev sInit (i : Nat) : Stmt := inClass (topS (2 + i)) 0
def initD (x : Str) (i : Nat) : He.DefD := ⟨(x, some "__init__"), "__init__", x ++ (".__init__" : Str), defArgs (sInit i), defBody (sInit i), defScope (sInit i), [.non], []⟩
def postD : He.DefD := ⟨("PostError", some "__init__"), "__init__", "PostError.__init__", defArgs (inClass (topS 1) 0), defBody (inClass (topS 1) 0), defScope (inClass (topS 1) 0), [], []⟩
def lawNames : List Str := ["_law_mixed", "_law_draw", "_law_one_of", "_law_word", "_law_purse", "_law_purses", "_law_first", "_law_called", "_law_bare", "_law_code", "_law_is_error", "_law_right", "law"]
def defD (x : Str) (i : Nat) : He.DefD := ⟨(x, none), x, x, defArgs (topS i), defBody (topS i), defScope (topS i), [], []⟩
def fn : List He.DefD := (lawNames.zipIdx.map fun p => defD p.1 (33 + p.2)) ++ ((errNames.zipIdx.map fun p => initD p.1 p.2) ++ [postD])
def fa : List He.Fa := (lawNames.map .glo) ++ ((errNames ++ bareNames ++ [("PostError" : Str)]).map .glo) ++ ((errNames ++ bareNames ++ [("PostError" : Str)]).map fun x => .meth x "__init__") ++
  ((["len", "range", "int", "isinstance", "repr", "sum", "max", "min", "all", "ValueError", "list", "dict", "tuple"] : List Str).map .free)
end K01

namespace K01
open PySem PySem.Spec PyProof.Rows L2
abbrev R : PySem.W.OpenRow := PySem.W.OpenLaw.row PySem.Challenge.rw_postways_k01_errors_made
abbrev hk : PySem.W.Hook := He.hookX 5 fa fn [] [] exK
def ob (s : PySem.W.SharedT) : He.AlX := He.obsX 5 fa fn [] [] exK (HandSHeadRun.getT s)
theorem ob_eq (s : PySem.W.SharedT) : ob s = hk.obs s.abs := He.obsX_eq (HandSHeadRun.getT_eq s)
def loose : List Str := "PostError" :: (errNames ++ (bareNames ++ lawNames.dropLast))
theorem run (w : World) : HandSHeadRun.RunEq R (PySem.W.view R.prog [45]) hk ob 9000 loose w := by
  intro os
  kernel_rfl
end K01

/-! own errors that keep a value: made as values, asked by isinstance, their field read -/
namespace ErrR
open PySem PySem.Spec PySem.Calls PyProof.Rows PySem.W
section
variable {prog : Program} {w : World} {A : Around} {E : Value → Shared → Prop} {s : Shared} {K : Frag} {x D : Addr} {ox : Obj} {od : Option Obj}
theorem found_cls {C : Addr} {name : Str} {a g : Value} (hc : (clsIn K C).isSome = true) (ha : findIn K (.ref C) name = some (some a)) (hg : specialIn K a "__get__" = some (some g)) (ht : takesIn K a = some true) :
    findObj K C od name = some (.bind g a) := by
  cases e : clsIn K C with
  | none => rw [e] at hc; cases hc
  | some cd => unfold findObj; rw [e, Option.bind_some, ha, Option.bind_some]; simp [hg, ht]
/-- e.__class__ of such an error, whether it has a dict or not -/
theorem cls_attr {Q : Option Value → Shared → Prop} (c : L2.ExcC K D) (X : K.In s.heap) (I : InstAt s.heap x ox D od) (h : Q (some (.ref D)) { s with toks := s.toks + 1 }) :
    wpAny (model prog w) A (getAttr? (.ref x) "__class__") Q E s := by
  have hf : findObj K D od "__class__" = some (.bind (.builtin "getset_descriptor.__get__") (.builtin "object.__class__")) := found_cls (by obtain ⟨cd, hc, _⟩ := any_some c.hd; rw [hc]; rfl) c.ha c.hn c.ht
  obtain ⟨hp, g, d, t, os⟩ := s
  have ty := I.type (M := model prog w)
  have fg := looks_findIn (M := model prog w) X c.hg
  have fk := looks_findIn (M := model prog w) X c.hk
  have fo := looks_find (M := model prog w) X I hf
  have sb : Looks (model prog w) hp (isInstance (.ref x) (.type "BaseException")) true := ty.andThen (looks_subIn X c.hs)
  have n2 : (Value.builtin "BaseException.__getattribute__" == Value.builtin "object.__getattribute__") = false := by decide +kernel
  have n1 : (onTheHeap (Value.ref D) && Value.builtin "BaseException.__getattribute__" == Value.builtin "object.__getattribute__") = false := by rw [n2]; rfl
  have n0 : (false && onTheHeap (Value.builtin "BaseException.__getattribute__")) = false := rfl
  unfold getAttr? getAttrBy? getAttrBy
  refine wpAny_bind (wpAny_mkText (wpAny_bind (wpAny_attempt (wpAny_holding (wpAny_bind (ty.at (wpAny_bind (fg.at ?_))))))))
  show wpAny _ _ (if (onTheHeap (Value.ref D) && Value.builtin "BaseException.__getattribute__" == Value.builtin "object.__getattribute__") = true then _ else _) _ _ _
  rw [n1, if_neg Bool.false_ne_true]
  unfold getAttrByItsOwn hookBefore
  refine wpAny_bind ?_
  rw [if_pos (show onTheHeap (Value.ref D) = true from rfl)]
  refine fk.at (wpAny_bind (wpAny_attempt (wpAny_holding ?_)))
  unfold callGetattribute
  rw [n0, if_neg Bool.false_ne_true]
  unfold boundAndCalled
  rw [PySem.F.excAttr_ValueError.ga.bind (.ref x)]
  refine wpAny_bind (wpAny_pure ?_)
  show wpAny _ _ (call (.builtin "BaseException.__getattribute__") [.ref x, .str "__class__" t]) _ _ _
  refine wpAny_call (codeAny_call_builtin PySem.F.excAttr_ValueError.ga.plain PySem.F.entry_bexc_ga ?_)
  refine @check_slot (model prog w) _ _ ⟨hp, g, d, t + 1, os⟩ "BaseException.__getattribute__" "BaseException" "__getattribute__" (.ref x) [.str "__class__" t] [] _ (by decide +kernel) (by decide +kernel) sb (PySem.F.args_bexc_ga (.ref x) (.str "__class__" t)) ?_
  unfold Builtin.«object.__getattribute__»
  refine wpAny_bind (wpAny_of_eq (a := ((Value.ref x : Value), [Value.str "__class__" t])) (by first | rfl | (simp only [slotArgs]; rfl)) ?_)
  refine wpAny_bind (wpAny_pure (wpAny_bind (ty.at (wpAny_bind (fo.at ?_)))))
  show wpAny _ _ (holding [Value.builtin "object.__class__"] (call (.builtin "getset_descriptor.__get__") [.builtin "object.__class__", .ref x, .ref D]) >>= ret) _ _ _
  refine wpAny_bind (wpAny_holding (wpAny_call (class_get (s := ⟨hp, g, d, t + 1, os⟩) (ox := ox) (od := od) X I c.hm ?_)))
  refine wpAny_pure ?_
  show wpAny _ _ (handedOut (.ref D)) _ _ _
  rw [handedOut_of (v := .ref D) rfl]
  first
    | exact wpAny_pure (wpAny_pure h)
    | exact wpAny_pure h
    | exact wpAny_pure (wpAny_bind (wpAny_pure (wpAny_pure h)))
/-- isinstance's questions of such an error -/
theorem kit_err (c : L2.ExcC K D) : KitX K (.ref x) (.ref D) (fun h => InstAt h x ox D od) := by
  have base := handS_kitx_exc (K := K) (x := x) (D := D) (ox := ox) c.hg c.hk c.hs c.hd c.ha c.hn c.ht c.hm
  refine ⟨fun _ _ _ I => I.type, fun M h X _ => ?_, fun h tp dd its n sl X htp => ?_, fun X I k => cls_attr c X I k⟩
  · obtain ⟨cd, hc, _⟩ := any_some c.hd
    unfold clsIn at hc
    split at hc
    · rename_i c' d' cd' sl' ho
      intro A' Q' E' s' k q
      unfold isType loadHead
      exact wpAny_bind (wpAny_loadPart (k _ _ (X _ _ ho)) (wpAny_pure q))
    · cases hc
  · exact base.ne h tp dd its n sl X htp
end
end ErrR

/-! C(e), C(k = e), C(): an own error class over ValueError with its own __init__, called for a value -/
namespace ErrR
open PySem PySem.Spec PySem.Calls PyProof.Rows PySem.HandSPX
section
variable {M : Model} {A : Around} {E : Value → Shared → Prop} {h : Heap} {g : Array GenState} {d : Drawn} {t : Nat} {os : OsState}
variable {nm q : Str} {C N : Addr} {bs bm bmB : List Value} {hdct : Bool} {sn : List Str} {sub : List Value} {ab : Bool} {col : Option Bool} {dd : Option Addr} {k0 k1 k2 k3 k5 : Option Value} {B newId initId : String}
theorem new_checked (F : ExcBaseFacts B newId initId bmB) (hT : ∀ X : String, bm.contains (Value.type X) = bmB.contains (Value.type X)) {rest : List Value} {kw : List (Str × Value)} {Q : Unit → Shared → Prop}
    (hC : h.get? C = some (excClassObj nm q C N bs bm hdct sn sub ab col dd k0 k1 k2 k3 k5 newId)) (hq : Q () ⟨h, g, d, t, os⟩) : wpAny M A (checkBuiltinCall newId ⟨.ref C :: rest, kw⟩) Q E ⟨h, g, d, t, os⟩ := by
  have here : (Value.ref C :: bm).contains (.type B) = true := by rw [List.contains_cons, hT, F.hasB, Bool.or_true]
  have star := F.noStar
  simp only [checkBuiltinCall, F.newKind, F.newSplit, F.newRow]
  repeat (first | refine wpAny_loadPart_at hC ?_ | (refine wpAny_isSubtype_exc hC ?_; rw [here]) | refine wpAny_staticBase_exc hC ?_ | refine wpAny_madeBy_exc hC ?_ | simp only [bne_self_eq_false, Bool.false_eq_true, if_false] | wp_step)
  exact hq
end
section
variable {prog : Program} {w : World} {A : Around} {E : Value → Shared → Prop} {R : Result → Shared → Prop} {h : Heap} {g : Array GenState} {d : Drawn} {t : Nat} {os : OsState}
variable {nm q : Str} {C N : Addr} {bs bm bmB : List Value} {hdct : Bool} {sn : List Str} {sub : List Value} {ab : Bool} {col : Option Bool} {dd : Option Addr} {k0 k1 k2 k3 k5 : Option Value} {B newId initId : String}
theorem new_made (F : ExcBaseFacts B newId initId bmB) (hT : ∀ X : String, bm.contains (Value.type X) = bmB.contains (Value.type X)) {rest : List Value} {kw : List (Str × Value)}
    (hC : h.get? C = some (excClassObj nm q C N bs bm hdct sn sub ab col dd k0 k1 k2 k3 k5 newId))
    (hq : R (.ok (.ret (.ref (h.objs.size + 1)))) ⟨(h.push { cls := .type "tuple", data := .seq rest.toArray }).push
      { cls := .ref C, data := .fields #[.ref h.objs.size, .none, .none, .none, .bool false, .none] }, g, d, t, os⟩) (hrest : rest.length ≤ sizeLine) :
    codeAny (model prog w) A (.builtin newId ⟨.ref C :: rest, kw⟩) R ⟨h, g, d, t, os⟩ := by
  have ends := F.ends
  have cB : (Value.ref C :: bm).contains (.type B) = true := by rw [List.contains_cons, hT, F.hasB, Bool.or_true]
  have cA : (Value.ref C :: bm).contains (.type "AttributeError") = false := by rw [List.contains_cons, hT, F.noAttr]; rfl
  have cN : (Value.ref C :: bm).contains (.type "NameError") = false := by rw [List.contains_cons, hT, F.noName]; rfl
  refine codeAny_builtinAt F.entry ?_
  unfold Builtin.«BaseException.__new__»
  refine PySem.wpAt_bind ?_
  show PySem.wpAt _ _ _ (stack >>= _) _ _ _
  refine PySem.wpAt_bind (PySem.wpAt_stack fun p below => PySem.wpAt_of_wpAny ?_)
  wp_walk
  refine PySem.wpAt_of_wpAny ?_
  rw [F.owner]
  repeat (first | with_reducible refine wpAny_madeHere_exc F.canon hC ?_ | with_reducible refine wpAny_loadPart_at hC ?_ | (with_reducible refine wpAny_isSubtype_exc hC ?_; first | rw [cB] | rw [cA] | rw [cN]) | wp_step)
  show R _ _
  rw [Heap.size_push]
  exact hq
theorem type_called (F : ExcBaseFacts B newId initId bmB) (hT : ∀ X : String, bm.contains (Value.type X) = bmB.contains (Value.type X)) {rest : List Value} {kw : List (Str × Value)} {fI : Addr} {Q : Fin → Shared → Prop}
    (hC : h.get? C = some (excClassObj nm q C N bs bm hdct sn sub ab col dd k0 k1 k2 k3 k5 newId))
    (hi : W.Looks (model prog w) h (typeLookup (.ref C) "__init__") (some (.ref fI))) (hb : ∀ self, W.Looks (model prog w) h (bindSpecial (.ref fI) self) (.ref fI, [self])) (hrest : rest.length ≤ sizeLine)
    (hq : codeAny (model prog w) A (.call (.ref fI) ⟨.ref (h.objs.size + 1) :: rest, kw⟩)
      (fun r s' => match r with | .ok (.ret v) => v = .none ∧ Q (.done (.ret (.ref (h.objs.size + 1)))) s' | .ok _ => False | .error e => E e s')
      ⟨(h.push (W.kdv_tup rest)).push (excO C h.objs.size), g, d, t, os⟩) :
    wpAny (model prog w) A (Builtin.«type.__call__» ⟨.ref C :: rest, kw⟩) Q E ⟨h, g, d, t, os⟩ := by
  repeat (first | with_reducible refine wpAny_loadPart_at hC ?_ | with_reducible refine wpAny_madeBy_exc hC ?_ | wp_step)
  refine codeAny_call_builtin_code (Code.quiet_builtin _ F.quiet) (new_checked F hT hC (new_made F hT hC ?_ hrest))
  show wpAny _ _ _ _ _ _
  have k : ∀ b o, h.get? b = some o → ((h.push (W.kdv_tup rest)).push (excO C h.objs.size)).get? b = some o := fun b o e => Heap.get?_push_of_some _ (Heap.get?_push_of_some _ e)
  have hC1 := k _ _ hC
  have got : ((h.push (W.kdv_tup rest)).push (excO C h.objs.size)).get? (h.objs.size + 1) = some (excO C h.objs.size) := by heap_get
  have cC : (Value.ref C :: bm).contains (.ref C) = true := by simp
  have i1 := hi.keeps k
  have b1 := (hb (.ref (h.objs.size + 1))).keeps k
  unfold isInstance
  repeat (first | with_reducible refine wpAny_loadPart_at got ?_ | (with_reducible refine wpAny_isSubtype_exc hC1 ?_; rw [cC]) | wp_step)
  show wpAny _ _ (typeLookup (.ref C) _) _ _ _
  refine i1.at (wpAny_holding (wpAny_bind (b1.at (wpAny_bind (wpAny_call (codeAny_mono hq fun r s' z => ?_))))))
  rcases r with e | (v | _ | _ | _) <;> first | exact z | exact z.elim | skip
  obtain ⟨rfl, z⟩ := z
  first
    | exact wpAny_pure (wpAny_pure z)
    | (wp_walk; exact z)
theorem own_called (F : ExcBaseFacts B newId initId bmB) (hT : ∀ X : String, bm.contains (Value.type X) = bmB.contains (Value.type X)) {rest : List Value} {kw : List (Str × Value)} {fI : Addr}
    (hC : h.get? C = some (excClassObj nm q C N bs bm hdct sn sub ab col dd k0 k1 k2 k3 k5 newId))
    (hi : W.Looks (model prog w) h (typeLookup (.ref C) "__init__") (some (.ref fI))) (hb : ∀ self, W.Looks (model prog w) h (bindSpecial (.ref fI) self) (.ref fI, [self])) (hrest : rest.length ≤ sizeLine)
    (hq : codeAny (model prog w) (A.under (.builtin "type.__call__" ⟨.ref C :: rest, kw⟩)) (.call (.ref fI) ⟨.ref (h.objs.size + 1) :: rest, kw⟩) (W.InitBack (h.objs.size + 1) R)
      ⟨(h.push (W.kdv_tup rest)).push (excO C h.objs.size), g, d, t, os⟩) :
    codeAny (model prog w) A (.call (.ref C) ⟨rest, kw⟩) R ⟨h, g, d, t, os⟩ := by
  have f1 := tc_lookup
  have f2 := tc_bind (.ref C)
  have hTy : (⟨h, g, d, t, os⟩ : Shared).TypeIs (.ref C) "type" := ⟨_, hC, rfl⟩
  refine codeAny_of_tree ?_
  show wpAny _ _ (callAny (.ref C) _) _ _ _
  repeat (any_goals (first | assumption | with_reducible refine wpAny_loadPart_at hC ?_ | wp_step))
  refine ⟨rfl, codeAny_call_builtin_at (Code.quiet_builtin _ (by decide +kernel)) entry_typeCall (wpAny_check_type_call_sub hC (type_called F hT hC hi hb hrest ?_))⟩
  refine codeAny_mono hq fun r s' z => ?_
  rcases r with e | (v | _ | _ | _) <;> exact z
end
end ErrR

/-! the rules over the layer: an error as a value, isinstance of it, its field -/
namespace ErrR
open PySem PySem.Spec PyProof.Rows L2
/-- an error with its field at a: class at C, its dict at d -/
structure ErrAt (H : Hp) (a C d : Addr) (fs : List (Str × V)) : Prop where
  at_ : H a = some (exo a C (some d))
  dict : H d = some (exd d fs)
/-- C(..), n positional values, m keywords; C's own __init__ keeps sp -/
def tMkV (C : Addr) (n m : Nat) (sp : Sp) (gV : List V → List V → List V) (t tk : TA) : TE := fun σ H Q => t σ H fun vs H1 => tk σ H1 fun zs H2 => vs.length = n ∧ zs.length = m ∧
  ∀ a, H2 a = none → sp (gV (.ref a :: vs) zs) (upd H2 a (exo a C none)) (fun v H3 => v = .non ∧ Q (.ref a) H3) fun _ _ _ => False
section
variable {X : Cx} {CX : CXT} {k n : Nat} {f C : Addr} {fd : FuncData} {ps ks : List Str} {sp : Sp} {x : Str} {p pos : Pos} {e : Expr} {es : List Expr} {kws : List Keyword} {t tk : TA} {g : List Value → List Value → List Value} {gV : List V → List V → List V}
theorem run_mkV {pins : List (Addr × Obj)} {σ : L2.St} {H : Hp} {s : Shared} {Q : VK} {us ws : List Value} {vs zs : List V} (T : OexC X.K C) (iC : PySem.W.findIn X.K (.ref C) "__init__" = some (some (.ref f))) (tI : PySem.W.typeIn X.K (.ref f) = some (.type "function"))
    (F : FnOk X.prog X.w X.K X.mg X.base CX k f fd ps sp) (hr : Room (k + 1) X.A) (hb : KBn X.K fd ps (n + 1) ks g gV) (hx : Passes CX X fun _ _ _ => False) (I : Inv X pins σ H s) (r : Vals vs us) (rz : Vals zs ws) (l1 : vs.length = n) (l2 : zs.length = ks.length) (hn : n ≤ 1000)
    (h : ∀ a, H a = none → sp (gV (.ref a :: vs) zs) (upd H a (exo a C none)) (fun v H3 => v = .non ∧ Q (.ref a) H3) fun _ _ _ => False) :
    wpAny (model X.prog X.w) X.A (call (.ref C) us (ks.zip ws)) (EP X pins σ Q) X.xe s := by
  obtain ⟨nm, q, N, bs, bm, sn, sub, ab, col, dd, k0, k1, k2, k3, k5, hC, hbm⟩ := T.cls
  obtain ⟨hp, gg, dr, tk, os⟩ := s
  have near : hp.objs.size ≤ hp.objs.size + 1 := Nat.le_succ _
  have hq := h (hp.objs.size + 1) (I.hok.fresh near)
  have keep : ∀ b o, hp.get? b = some o → ((hp.push (PySem.W.kdv_tup us)).push (PySem.HandSPX.excO C hp.objs.size)).get? b = some o := fun b o e => Heap.get?_push_of_some _ (Heap.get?_push_of_some _ e)
  have got : ((hp.push (PySem.W.kdv_tup us)).push (PySem.HandSPX.excO C hp.objs.size)).get? (hp.objs.size + 1) = some (PySem.HandSPX.excO C hp.objs.size) := by heap_get
  have I2 : Inv X pins σ (upd H (hp.objs.size + 1) (exo (hp.objs.size + 1) C none)) ⟨(hp.push (PySem.W.kdv_tup us)).push (PySem.HandSPX.excO C hp.objs.size), gg, dr, tk, os⟩ :=
    I.laid (t' := tk) (a := hp.objs.size + 1) (o := exo (hp.objs.size + 1) C none) (h' := (hp.push (PySem.W.kdv_tup us)).push (PySem.HandSPX.excO C hp.objs.size)) keep near (exo_ok got)
  have r1 : Vals (V.ref (hp.objs.size + 1) :: vs) (Value.ref (hp.objs.size + 1) :: us) := .cons rfl r
  have e1 : (Value.ref (hp.objs.size + 1) :: us).length = n + 1 := r1.length.symm.trans (congrArg Nat.succ l1)
  have e2 : ws.length = ks.length := rz.length.symm.trans l2
  have small : us.length ≤ sizeLine := by
    rw [← Paired.length r, l1, sizeLine_eq]
    omega
  refine wpAny_call (own_called PySem.F.excBase_ValueError (fun Y => PySem.HandSPX.refsVE_contains Y bm hbm) (I.kIn _ _ hC) (PySem.W.looks_findIn I.kIn iC) (fun self => PySem.W.bind_fn I.kIn self tI) small
    (codeAny_mono (F.run _ X.stack _ _ ⟨Value.ref (hp.objs.size + 1) :: us, ks.zip ws⟩ (g (Value.ref (hp.objs.size + 1) :: us) ws) _ _ (fun _ _ _ => False) (hr.make C us (ks.zip ws)) (I2.env0.make C us (ks.zip ws))
      (hb.to _ (Value.ref (hp.objs.size + 1) :: us) ws I2.kIn e1 e2) (hb.rel r1 rz) hq) fun r s' hq' => ?_))
  cases r with
  | error er => exact hx pins σ _ _ er s' I2 hq'
  | ok fl =>
    cases fl with
    | ret u =>
      obtain ⟨v, H', I3, rv, ev, q3⟩ := I2.after hq'
      subst ev
      exact ⟨rv, ⟨V.ref (hp.objs.size + 1), H', I3, rfl, q3⟩⟩
    | next => exact False.elim hq'
    | brk => exact False.elim hq'
    | cont => exact False.elim hq'
/-- C(e, ..) -/
theorem pe_mkV (T : OexC X.K C) (iC : PySem.W.findIn X.K (.ref C) "__init__" = some (some (.ref f))) (tI : PySem.W.typeIn X.K (.ref f) = some (.type "function")) (F : FnOk X.prog X.w X.K X.mg X.base CX k f fd ps sp) (hr : Room (k + 1) X.A) (hb : KBn X.K fd ps (n + 1) [] g gV)
    (hx : Passes CX X fun _ _ _ => False) (hg : Gl X x) (hm : X.mg x = some (.ref C)) (hn : n ≤ 1000) (ha : PA X (e :: es) t) (hdb : (x == ("__debug__" : Str)) = false := by decide)
    (he : starEach (e :: es) X.env = (false, eval e X.env) :: starEach es X.env := by rfl) (hpl : (backTo pos (starEach es X.env)).any (·.1) = false := by rfl) :
    PE X (.Call (.Name x p) (e :: es) [] pos) (tMkV C n 0 sp gV t tNil) := by
  refine ⟨fun pins s σ H Q I h => ?_⟩
  refine wpAny_Call_Name_kw (ld_glob I hg hm ?_ hdb)
  refine PySem.W.callWith_K (h₀ := X.base) I.ok.mod.kin T.kC (thn (ha.run pos pins s σ H _ I h) fun us s1 ⟨vs, H1, I1, r, l1, _, q⟩ => ⟨I1.kIn, ?_⟩) he hpl
  exact run_mkV (ks := []) (ws := []) (zs := []) T iC tI F hr hb hx I1 r .nil l1 rfl hn q
/-- C() -/
theorem pe_mkV0 (T : OexC X.K C) (iC : PySem.W.findIn X.K (.ref C) "__init__" = some (some (.ref f))) (tI : PySem.W.typeIn X.K (.ref f) = some (.type "function")) (F : FnOk X.prog X.w X.K X.mg X.base CX k f fd ps sp) (hr : Room (k + 1) X.A) (hb : KBn X.K fd ps 1 [] g gV)
    (hx : Passes CX X fun _ _ _ => False) (hg : Gl X x) (hm : X.mg x = some (.ref C)) (hdb : (x == ("__debug__" : Str)) = false := by decide) :
    PE X (.Call (.Name x p) [] [] pos) (tMkV C 0 0 sp gV tNil tNil) := by
  refine ⟨fun pins s σ H Q I h => ?_⟩
  refine wpAny_Call_Name_kw (ld_glob I hg hm ?_ hdb)
  exact PySem.W.callWith_K0 I.kIn T.kC (run_mkV (n := 0) (ks := []) (ws := []) (us := []) (vs := []) (zs := []) T iC tI F hr hb hx I .nil .nil rfl rfl (Nat.zero_le _) h.2.2)
/-- C(k = e, ..) -/
theorem pe_mkVK (T : OexC X.K C) (iC : PySem.W.findIn X.K (.ref C) "__init__" = some (some (.ref f))) (tI : PySem.W.typeIn X.K (.ref f) = some (.type "function")) (F : FnOk X.prog X.w X.K X.mg X.base CX k f fd ps sp) (hr : Room (k + 1) X.A) (hb : KBn X.K fd ps 1 ks g gV)
    (hx : Passes CX X fun _ _ _ => False) (hg : Gl X x) (hm : X.mg x = some (.ref C)) (hkw : PK X kws tk) (hall : (backToKw pos (keywordEach kws X.env)).all (·.1.isSome) = true := by rfl) (hks : (backToKw pos (keywordEach kws X.env)).filterMap (·.1) = ks := by rfl)
    (hdb : (x == ("__debug__" : Str)) = false := by decide) (hpl : ((backTo pos (starEach [] X.env)).any (·.1) || (backToKw pos (keywordEach kws X.env)).any (·.1.isNone)) = false := by rfl) :
    PE X (.Call (.Name x p) [] kws pos) (tMkV C 0 ks.length sp gV tNil tk) := by
  refine ⟨fun pins s σ H Q I h => ?_⟩
  refine wpAny_Call_Name_kw (ld_glob I hg hm ?_ hdb)
  refine PySem.W.callWith_KW0 (h₀ := X.base) I.ok.mod.kin T.kC hall ?_ hpl
  refine thn (hkw.run pos pins s σ H _ I h) fun ws s2 ⟨zs, H2, I2, rz, _, l2, q2⟩ => ⟨I2.kIn, ?_⟩
  rw [hks]
  exact run_mkV (n := 0) (us := []) (vs := []) T iC tI F hr hb hx I2 .nil rz rfl l2 (Nat.zero_le _) q2
end
/-! ### isinstance -/
theorem inst_of {X : Cx} {pins : List (Addr × Obj)} {σ : L2.St} {H : Hp} {s : Shared} {a D d : Addr} {fs : List (Str × V)} (I : Inv X pins σ H s) (e : ErrAt H a D d fs) : ∃ ox od, PySem.W.InstAt s.heap a ox D (some od) ∧ ∃ mA : Str → Option Value, (∀ name, PySem.W.lookIn name od = some (mA name)) ∧ ∀ f, RelO (fs.lookup f) (mA f) := by
  obtain ⟨t1, ho⟩ := exo_at I.hok e.at_
  obtain ⟨mA, hn, rel⟩ := exd_at I.hok e.dict
  obtain ⟨od, hod, hl⟩ := lookIn_ns hn
  exact ⟨_, od, ⟨ho, rfl, rfl, hod⟩, mA, hl, rel⟩
/-- isinstance(e, c) of an error with its dict, or without one -/
def rIsErr (K : PySem.W.Frag) : List V → Hp → VK → Prop := fun xs H Q => ∃ (a D : Addr) (c : V) (cv : Value) (b : Bool), xs = [.ref a, c] ∧ ExcC K D ∧ (H a = some (exo a D none) ∨ ∃ d fs, ErrAt H a D d fs) ∧ (∀ u, RelV c u → u = cv) ∧ PySem.W.kitOne K (.ref D) cv = some b ∧ Q (.bl b) H
theorem call_isErr {X : Cx} : CallR X (.builtin "isinstance") (rIsErr X.K) := by
  intro pins s σ H xs us Q I r h
  obtain ⟨a, D, c, cv, b, rfl, C, ha, hcv, e, q⟩ := h
  obtain ⟨u, w', rfl, rx, rt⟩ := vals2 r
  cases rx
  have ec := hcv _ rt
  subst ec
  rcases ha with ha | ⟨d, fs, ha⟩
  · obtain ⟨t1, ho⟩ := exo_at I.hok ha
    exact PySem.W.kia_one (kit_err (od := none) C) I.kIn ⟨ho, rfl, rfl, trivial⟩ e (fun z => nomatch z) fun tk => ⟨.bl b, H, I.kept (t' := tk) fun _ _ z => z, rfl, q⟩
  · obtain ⟨ox, od, J, _⟩ := inst_of I ha
    exact PySem.W.kia_one (kit_err (od := some od) C) I.kIn J e (fun z => nomatch z) fun tk => ⟨.bl b, H, I.kept (t' := tk) fun _ _ z => z, rfl, q⟩
/-! ### e.f -/
def tErrF (K : PySem.W.Frag) (f : Str) (te : TE) : TE := fun σ H Q => te σ H fun x H1 => ∃ a C d fs v, x = .ref a ∧ ExcC K C ∧ PySem.W.findIn K (.ref C) f = some none ∧ ErrAt H1 a C d fs ∧ fs.lookup f = some v ∧ Q v H1
theorem pe_errF {X : Cx} {e : Expr} {te : TE} {f : Str} {pos : Pos} (he : PE X e te) (hb : attributeBase e f X.env (eval e X.env) = eval e X.env := by rfl) : PE X (.Attribute e f pos) (tErrF X.K f te) := by
  refine ⟨fun pins s σ H Q I h => ?_⟩
  refine attr_of hb (thn (he.run pins s σ H _ I h) fun u s1 ⟨x, H1, I1, rx, a, C, d, fs, v, ex, c, hno, ea, hl, q⟩ => ?_)
  subst ex
  obtain rfl : u = Value.ref a := rx
  obtain ⟨ox, od, J, mA, hlook, rel⟩ := inst_of I1 ea
  obtain ⟨u, hu, ru⟩ := RelO.some_of (v := v) (o := mA f) (by rw [← hl]; exact rel f)
  exact PySem.HandSPX.exc_get I1.kIn J c.hg c.hk c.hs (PySem.W.findObj_own c.hd hno rfl (by rw [hlook, hu])) (handed_of ru) ⟨v, H1, I1.tok _, ru, q⟩
end ErrR

/-! repr of data of any depth; defs that know that no repr runs around them -/
namespace ErrR
open PySem PySem.Spec PyProof.Rows L2
def keyD : Key → PyData
  | .inl i => .int i
  | .inr x => .str x
mutual
/-- what the values at v hold, dicts with keys of ints and texts among them -/
inductive Dx (K : PySem.W.Frag) (H : Hp) : V → PyData → Prop
  | non : Dx K H .non .none
  | bl (b : Bool) : Dx K H (.bl b) (.bool b)
  | int (i : Int) : Dx K H (.int i) (.int i)
  | str (x : Str) : Dx K H (.str x) (.str x)
  | lst {a : Addr} {xs : List V} {ds : List PyData} : SqL K H a xs → a ≠ sysModules → DxAll K H xs ds → Dx K H (.ref a) (.list ds)
  | tup {a : Addr} {xs : List V} {ds : List PyData} : SqT K H a xs → DxAll K H xs ds → Dx K H (.ref a) (.tuple ds)
  | dict {a : Addr} {kvs : List (Key × V)} {ds : List PyData} : H a = some (.dK kvs) → DxAll K H (kvs.map (·.2)) ds → Dx K H (.ref a) (.dict ((kvs.map fun p => keyD p.1).zip ds))
inductive DxAll (K : PySem.W.Frag) (H : Hp) : List V → List PyData → Prop
  | nil : DxAll K H [] []
  | cons {v : V} {vs : List V} {d : PyData} {ds : List PyData} : Dx K H v d → DxAll K H vs ds → DxAll K H (v :: vs) (d :: ds)
end
theorem DxAll.length {K : PySem.W.Frag} {H : Hp} : ∀ {vs : List V} {ds : List PyData}, DxAll K H vs ds → vs.length = ds.length
  | _, _, .nil => rfl
  | _, _, .cons _ r => congrArg Nat.succ r.length
theorem keys_read {P : Program} {w : World} {h : Heap} : ∀ {kvs : List (Key × V)} {vs : List (Key × Value)} {es : List DictEntry}, KV kvs vs → Pairs (mixKind P w) es vs → ReadsAll h (es.map (·.key)) (kvs.map fun p => keyD p.1) []
  | [], _, _, r, p => by
    cases r
    cases p
    exact .nil
  | (k, v) :: kvs, _, _, r, p => by
    cases r with
    | @cons _ q _ qs r1 r2 =>
      cases p with
      | @cons e _ es _ h1 h2 p2 =>
        have ih := keys_read (h := h) r2 p2
        have hk : keyIs k e.key = true := by
          have e0 : k = q.1 := r1.1
          rw [e0]
          exact h1
        have one : Reads h e.key (keyD k) [] := by
          rcases keyIs_shape hk with ⟨i, t, e1, e2⟩ | ⟨x, t, e1, e2⟩
          · rw [e1, e2]
            exact .int i t
          · rw [e1, e2]
            exact .str x t
        exact ReadsAll.cons (as := []) (bs := []) one ih
theorem vals_of {P : Program} {w : World} : ∀ {kvs : List (Key × V)} {vs : List (Key × Value)} {es : List DictEntry}, KV kvs vs → Pairs (mixKind P w) es vs → Vals (kvs.map (·.2)) (es.map (·.val))
  | [], _, _, r, p => by
    cases r
    cases p
    exact .nil
  | (k, v) :: kvs, _, _, r, p => by
    cases r with
    | @cons _ q _ qs r1 r2 =>
      cases p with
      | @cons e _ es _ h1 h2 p2 =>
        refine Paired.cons ?_ (vals_of r2 p2)
        show L2.RelV v e.val
        rw [h2]
        exact r1.2
section
variable {X : Cx} {pins : List (Addr × Obj)} {σ : L2.St} {H : Hp} {s : Shared}
mutual
theorem Dx.reads (I : Inv X pins σ H s) : ∀ (v : V) (d : PyData) (u : Value), Dx X.K H v d → RelV v u → ∃ as, Reads s.heap u d as ∧ sysModules ∉ as
  | _, _, _, .non, r => by
    cases r
    exact ⟨_, Reads.none, by simp⟩
  | _, _, _, .bl b, r => by
    cases r
    exact ⟨_, Reads.bool b, by simp⟩
  | _, _, _, .int i, r => by
    obtain ⟨t, rfl⟩ := r
    exact ⟨_, Reads.int i t, by simp⟩
  | _, _, _, .str x, r => by
    obtain ⟨t, rfl⟩ := r
    exact ⟨_, Reads.str x t, by simp⟩
  | _, _, _, .lst (a := a) hs hn ha, r => by
    cases r
    obtain ⟨its, rv, ⟨o, n, ho, hc, _, hd⟩, _⟩ := I.list hs
    obtain ⟨as, hr, ns⟩ := DxAll.reads I _ _ its ha rv
    exact ⟨_, Reads.list ho hc hd hr, by simp only [List.mem_cons, not_or]; exact ⟨Ne.symm hn, ns⟩⟩
  | _, _, _, .tup hs ha, r => by
    cases r
    obtain ⟨its, rv, ⟨o, ho, hc, n, hd⟩, _⟩ := I.tuple hs
    obtain ⟨as, hr, ns⟩ := DxAll.reads I _ _ its ha rv
    exact ⟨_, Reads.tuple ho hc hd hr, ns⟩
  | _, _, _, .dict (kvs := kvs) (ds := ds) hs ha, r => by
    cases r
    obtain ⟨z, hm, vs, rel, o, es, ep, ho, hex, hd, hk, hp, hnd⟩ := dk_of I.hok hs
    obtain ⟨as, hr, ns⟩ := DxAll.reads I _ _ _ ha (vals_of rel hp)
    have hl : (kvs.map fun p => keyD p.1).length = ds.length := by
      have := ha.length
      simpa using this
    have e1 : ((kvs.map fun p => keyD p.1).zip ds).map (·.1) = kvs.map fun p => keyD p.1 := List.map_fst_zip (by omega)
    have e2 : ((kvs.map fun p => keyD p.1).zip ds).map (·.2) = ds := List.map_snd_zip (by omega)
    refine ⟨_, Reads.dict (as := []) (bs := as) ho hex.1 hd ?_ ?_, ?_⟩
    · rw [e1]
      exact keys_read rel hp
    · rw [e2]
      exact hr
    · simp only [List.mem_cons, List.cons_append, List.nil_append, not_or]
      exact ⟨fun e => by rw [← e] at hm; simp at hm, ns⟩
theorem DxAll.reads (I : Inv X pins σ H s) : ∀ (vs : List V) (ds : List PyData) (us : List Value), DxAll X.K H vs ds → Vals vs us → ∃ as, ReadsAll s.heap us ds as ∧ sysModules ∉ as
  | _, _, _, .nil, r => by
    cases r
    exact ⟨_, ReadsAll.nil, by simp⟩
  | _, _, _, .cons h1 h2, r => by
    cases r with
    | cons r1 r2 =>
      obtain ⟨as, q1, n1⟩ := Dx.reads I _ _ _ h1 r1
      obtain ⟨bs, q2, n2⟩ := DxAll.reads I _ _ _ h2 r2
      exact ⟨_, ReadsAll.cons q1 q2, by simp only [List.mem_append, not_or]; exact ⟨n1, n2⟩⟩
end
end
/-- repr(x), x data -/
def rRepr (K : PySem.W.Frag) : List V → Hp → VK → Prop := fun xs H Q => ∃ x d, xs = [x] ∧ Dx K H x d ∧ d.showable = true ∧ d.depth ≤ 30 ∧ d.shown.length ≤ sizeLine ∧ Q (.str d.shown) H
theorem call_reprD {X : Cx} (hG : X.A.guards = some []) (hu : X.A.units + 64 < cLine) : CallR X (.builtin "repr") (rRepr X.K) := by
  intro pins s σ H xs us Q I r h
  obtain ⟨x, d, rfl, hd, hs, hz, hl, q⟩ := h
  obtain ⟨u, rfl, rx⟩ := vals1 r
  obtain ⟨as, hr, hn⟩ := Dx.reads I x d u hd rx
  cases x with
  | non =>
    cases rx
    cases hd
    exact PySem.P.repr_of_none ⟨.str _, H, I.tok _, ⟨_, rfl⟩, q⟩
  | bl b =>
    cases rx
    cases hd
    exact PySem.P.repr_of_bool ⟨.str _, H, I.tok _, ⟨_, rfl⟩, q⟩
  | int i =>
    obtain ⟨t, rfl⟩ := rx
    cases hd
    exact PySem.P.repr_of_int (of_decide_eq_true hs) ⟨.str _, H, I.tok _, ⟨_, rfl⟩, q⟩
  | str z =>
    obtain ⟨t, rfl⟩ := rx
    cases hd
    exact PySem.P.repr_of_str ⟨.str _, H, I.tok _, ⟨_, rfl⟩, q⟩ hl
  | ref a =>
    cases rx
    exact repr_of_reads' hr hs (fun _ => hn) hG (by omega) (fun _ _ e => e) (fun h' u tk k => ⟨.str _, H, I.kept k, ⟨_, rfl⟩, q⟩) hl
  | _ => cases hd
end ErrR

/-! a def's promise where no repr runs around its call; the law's end for such a def -/
namespace ErrR
open PySem PySem.Spec PyProof.Rows L2
/-- as FnOk, for the calls around which no repr runs -/
structure FnOkG (P : Program) (w : World) (K : PySem.W.Frag) (mg : Str → Option Value) (base : Heap) (CX : CXT) (k : Nat) (f : Addr) (fd : FuncData) (ps : List Str) (sp : Sp) : Prop where
  len : ∀ vs H Q E, sp vs H Q E → vs.length = ps.length
  run : ∀ (A : Around) (outer : List Env) (s : Shared) (H : Hp) (args : Args) (us : List Value) (vs : List V) (Q : VK) (E : XK), A.guards = some [] → Room k A → Env0 P w K mg base A outer s H → BindsTo s fd args (ps.zip us) → Vals vs us →
    sp vs H Q E → codeAny (model P w) A (.call (.ref f) args) (CR CX outer P w H s Q E) s
/-- the rule for such a def -/
theorem fnG {CX : CXT} {P : Program} {w : World} {K : PySem.W.Frag} {mg : Str → Option Value} {base : Heap} {x qual : Str} {params : Arguments} {body : List Stmt} {scope : Scope} {dvs : List V} {kws : List (Str × V)} {f : Addr} {fd : FuncData} {k : Nat} {N ps : List Str} {sp : Sp}
    (D : FunD K x qual params body scope dvs kws f fd) (S : FnScope N ps scope) (len : ∀ vs H Q E, sp vs H Q E → vs.length = ps.length)
    (hbody : ∀ (cdv : Value) (A : Around) (outer : List Env) (s : Shared) (H : Hp) (vs : List V) (Q : VK) (E : XK), (A.deeper (envOfC qual scope s.heap.objs.size f cdv)).guards = some [] → Room k (A.deeper (envOfC qual scope s.heap.objs.size f cdv)) → sp vs H Q E →
      ∃ t, PSs (cxOf CX P w K mg base N qual scope f cdv A outer s H E) body t ∧ t { nx := fun _ H' => Q .non H', rt := Q } (start N vs) H) : FnOkG P w K mg base CX (k + 1) f fd ps sp := by
  obtain ⟨oc, od, dV, kV, doc, pm, an, cdv, ct, osl, rfl, lk, hcd, _, _⟩ := D.ex
  refine ⟨len, fun A outer s H args us vs Q E hg hr e0 hb r hsp => ?_⟩
  have kin : K.In s.heap := e0.mod.kin.keeps fun b o e => (e0.bs b o e).1
  have nol : s.heap.NoLimit := e0.mod.nolimit.keeps fun b o e => (e0.bs b o e).1
  have kinds : ∀ y ∈ ps.zip us, scope.names.lookup y.1 = some .local ∨ (scope.names.lookup y.1 = some .cell ∧ ((cellsFrom (s.heap.objs.size + 1) scope.names []).lookup y.1).isSome = true) := by
    rintro ⟨n, v⟩ hy
    rcases S.par n (List.of_mem_zip hy).1 with q | q
    · exact .inl q
    · exact .inr ⟨q, PySem.W.cellsFrom_some _ _ _ (.inl q)⟩
  refine codeAny_call_function hr.depth (kin _ _ lk) rfl S.co S.gen rfl (PySem.W.codeRec_of kin hcd) (hb _ _ _ _ (wpAny_newFunctionEnv_cells S.kind kinds fun env he s1 z => ?_))
  subst he
  refine ⟨nol.keeps z.toInCall.keep, codeAny_func ?_⟩
  obtain ⟨t, ht, hq⟩ := hbody cdv A outer s H vs Q E hg (hr.deeper _) hsp
  have I : Inv (cxOf CX P w K mg base N qual scope f cdv A outer s H E) [] (start N vs) H s1 := inv_start S hr.hd e0 (len _ _ _ _ hsp) r z
  refine wpAny_mono (ht.run [] s1 (start N vs) H _ I hq) (fun fl s' hs => ?_) fun e s' hs => hs
  cases fl with
  | ret u =>
    obtain ⟨v, σ', H', J, rv, q⟩ := hs
    exact ⟨v, H', J.os, J.bare, J.base, J.hok, rv, q⟩
  | next =>
    obtain ⟨σ', H', J, q⟩ := hs
    exact ⟨V.non, H', J.os, J.bare, J.base, J.hok, rfl, q⟩
  | brk =>
    obtain ⟨_, _, _, q⟩ := hs
    exact q.elim
  | cont =>
    obtain ⟨_, _, _, q⟩ := hs
    exact q.elim
section
variable {X : Cx} {CX : CXT} {k : Nat} {f : Addr} {fd : FuncData} {ps : List Str} {sp : Sp} {dvs : List V} {ds : List Value} {E : XK} {x : Str} {p pos : Pos} {e : Expr} {es : List Expr} {t : TA}
/-- f(e, ..) -/
theorem pe_callG (G : FnOkG X.prog X.w X.K X.mg X.base CX k f fd ps sp) (hG : X.A.guards = some []) (hr : Room k X.A) (hg : Gl X x) (hm : X.mg x = some (.ref f)) (hk : PySem.W.keepIn X.K (.ref f) = true) (hb : Binds X.K fd ps ds) (hd : Vals dvs ds) (hx : Passes CX X E)
    (ha : PA X (e :: es) t) (hdb : (x == ("__debug__" : Str)) = false := by decide) (he : starEach (e :: es) X.env = (false, eval e X.env) :: starEach es X.env := by rfl) (hpl : (backTo pos (starEach es X.env)).any (·.1) = false := by rfl) :
    PE X (.Call (.Name x p) (e :: es) [] pos) (tCall sp dvs E t) := by
  refine ⟨fun pins s σ H Q I h => ?_⟩
  refine wpAny_Call_Name_kw (ld_glob I hg hm ?_ hdb)
  refine PySem.W.callWith_K (h₀ := X.base) I.ok.mod.kin hk (thn (ha.run pos pins s σ H _ I h) fun us s1 ⟨vs, H1, J, r, q⟩ => ⟨J.kIn, ?_⟩) he hpl
  have r2 : Vals (vs ++ dvs) (us ++ ds) := r.append hd
  have hl : (us ++ ds).length = ps.length := r2.length.symm.trans (G.len _ _ _ _ q)
  refine wpAny_call (codeAny_mono (G.run X.A X.stack s1 H1 ⟨us, []⟩ (us ++ ds) (vs ++ dvs) Q E hG hr J.env0 (hb s1 us J.kIn hl) r2 q) fun r s' hq => ?_)
  cases r with
  | error e => exact hx pins σ H1 s1 e s' J hq
  | ok fl =>
    cases fl with
    | ret u => exact J.after hq
    | next => exact hq.elim
    | brk => exact hq.elim
    | cont => exact hq.elim
end
/-- the law's call, by such a promise -/
theorem law_callG {P : Program} {w : World} {K : PySem.W.Frag} {mg mb : Str → Option Value} {CX : CXT} {k : Nat} {fa a : Addr} {fd : FuncData} {x : Str} {sp : Sp} {s₁ : Shared} {vs : List Value} {ns : List Int}
    (KX : K.In s₁.heap) (hns : s₁.heap.Ns mainGlobals mg) (hb : s₁.heap.Ns builtinsNs mb) (hbb : ∀ x : Str, x ≠ "__name__" → mb x = bootBuiltins x) (hlim : s₁.heap.NoLimit) (hg : s₁.gens = #[])
    (ha : s₁.heap.get? a = some { cls := .type "list", data := .seq vs.toArray }) (hi : IntsAre vs ns) (hl : ns.length ≤ sizeLine) (hr : Room k callerA)
    (F : ∀ base : Heap, K.In base → base.Ns mainGlobals mg → FnOkG P w K mg base CX k fa fd [x] sp) (hbind : ∀ (s : Shared) (u : Value), BindsTo s fd ⟨[u], []⟩ [(x, u)])
    (hsp : ∀ H : Hp, Only H → SqL K H a (ns.map V.int) → sp [.ref a] H (fun v _ => v = .bl true) fun _ _ _ => False)
    (hCX : ∀ H e s', CX [] H s₁ (fun _ _ _ => False) e s' → False) :
    codeAny (model P w) callerA (.call (.ref fa) ⟨[.ref a], []⟩) (fun r s' => r = .ok (.ret (.bool true)) ∧ OldK s₁.heap s'.heap ∧ s'.os = s₁.os ∧ AllBare s'.gens) s₁ := by
  have rv := vals_ints hi
  have lenV := hi.length
  let scr : Obj := { cls := .type "list", data := .seq vs.toArray }
  -- what is tracked: the script, locked, or nothing
  have main : ∀ H : Hp, Only H → SqL K H a (ns.map V.int) → HOk P w H s₁.heap → (∀ b, H b ≠ none → b = a) → (H a ≠ none → K.lookup a = none) →
      codeAny (model P w) callerA (.call (.ref fa) ⟨[.ref a], []⟩) (fun r s' => r = .ok (.ret (.bool true)) ∧ OldK s₁.heap s'.heap ∧ s'.os = s₁.os ∧ AllBare s'.gens) s₁ := by
    intro H hO hS hok hA hK
    have free : ∀ {b : Addr} {o : Obj} {es : Array DictEntry} {ep : Nat}, s₁.heap.get? b = some o → o.data = .dict es ep → H b = none := by
      intro b o es ep e d
      cases q : H b with
      | none => rfl
      | some u =>
        obtain rfl : b = a := hA b (by rw [q]; simp)
        rw [ha] at e
        cases e
        cases d
    have nsB : ∀ {b : Addr} {m : Str → Option Value}, s₁.heap.Ns b m → (hidT s₁.heap H).Ns b m := by
      rintro b m ⟨o, es, ep, e, d, r⟩
      exact ⟨o, es, ep, hidT_get e (free e d), d, r⟩
    have kinB : K.In (hidT s₁.heap H) := fun b o e => hidT_get (KX b o e) (by
      cases q : H b with
      | none => rfl
      | some u =>
        obtain rfl : b = a := hA b (by rw [q]; simp)
        rw [hK (by rw [q]; simp)] at e
        cases e)
    have modB : Mod K mg (hidT s₁.heap H) := ⟨kinB, nsB hns, ⟨mb, nsB hb, hbb⟩, let ⟨mc, h1, h2⟩ := hlim; ⟨mc, nsB h1, h2⟩⟩
    have none_in : ∀ b : Addr, ¬ b ∈ ([] : List Addr) := fun b => by simp
    have e0 : Env0 P w K mg (hidT s₁.heap H) callerA [] s₁ H := ⟨rfl, modB, fun b o e => of_hidT e, Nat.le_of_eq (hidT_size _ _), trivial, fun b hb => absurd hb (none_in b), hok, .of_eq hg⟩
    refine codeAny_mono ((F _ kinB (nsB hns)).run callerA [] s₁ H ⟨[.ref a], []⟩ [.ref a] [.ref a] _ _ rfl hr e0 (hbind s₁ (.ref a)) (.cons rfl .nil) (hsp H hO hS)) fun r s' h => ?_
    cases r with
    | error e => exact (hCX H e s' h).elim
    | ok fl =>
      cases fl with
      | next => exact h.elim
      | brk => exact h.elim
      | cont => exact h.elim
      | ret u =>
        obtain ⟨v, H', os, bare, un, hok', r', q⟩ := h
        obtain rfl : v = .bl true := q
        obtain rfl : u = Value.bool true := r'
        refine ⟨rfl, OldK.of_keep fun b o e => ?_, os, bare⟩
        cases q : H b with
        | none => exact un.keep b o e q (none_in b) (by simp)
        | some u =>
          rcases hO b with z | ⟨ob, xs, z⟩
          · rw [q] at z
            cases z
          · obtain ⟨e1, _⟩ := hok b _ z
            obtain ⟨e2, _⟩ := hok' b _ (un.frzs b ob _ z)
            rw [e] at e1
            cases e1
            exact e2
  cases hk : K.lookup a with
  | some o =>
    have e := KX a o hk
    rw [ha] at e
    cases e
    exact main (fun _ => none) (fun _ => .inl rfl) (.inr ⟨_, vs.toArray, _, hk, rfl, rfl, rfl, by rw [List.size_toArray, lenV]; exact hl, by simpa using rv⟩) (fun b u z => by cases (show (none : Option HO) = some u from z)) (fun b z => absurd rfl z) fun z => absurd rfl z
  | none =>
    have at_a : ∀ {b : Addr} {u : HO}, (if b = a then some (HO.frz scr (.lst (ns.map V.int))) else none) = some u → b = a ∧ u = .frz scr (.lst (ns.map V.int)) := by
      intro b u z
      by_cases hb : b = a
      · rw [if_pos hb] at z
        exact ⟨hb, (Option.some.inj z).symm⟩
      · rw [if_neg hb] at z
        cases z
    refine main (fun b => if b = a then some (.frz scr (.lst (ns.map V.int))) else none) (fun b => ?_) (.inl (.inr ⟨scr, if_pos rfl⟩)) (fun b u z => ?_) (fun b z => ?_) fun _ => hk
    · by_cases hb : b = a
      · exact .inr ⟨_, _, if_pos hb⟩
      · exact .inl (if_neg hb)
    · obtain ⟨rfl, rfl⟩ := at_a z
      exact ⟨ha, by rw [List.length_map]; exact hl, vs, _, rv, ha⟩
    · by_cases hb : b = a
      · exact hb
      · exact absurd (if_neg hb) z
theorem walkG {l : PySem.W.OpenLaw} {n k : Nat} {q : Program} {loose : List Str} {XP : (Str → Option Value) → Heap → Prop} {YP : World → Heap → Prop} {d : DefRec} {CX : CXT} {x : Str}
    (hn : l.most = some n) (hn2 : n ≤ sizeLine) (hdf : d.params.defaults = []) (hr : Room k callerA)
    (F : ∀ (w : World) (mg : Str → Option Value) (fa : Addr) (h : Heap), YP w h → h.Ns mainGlobals mg → mg d.name = some (.ref fa) →
      ∃ (K : PySem.W.Frag) (fd : FuncData) (sp : Sp), K.In h ∧ (∀ (s : Shared) (u : Value), BindsTo s fd ⟨[u], []⟩ [(x, u)]) ∧
        (∀ (H : Hp) (a : Addr) (ns : List Int), ns.length ≤ n → Only H → SqL K H a (ns.map V.int) → sp [.ref a] H (fun v _ => v = .bl true) fun _ _ _ => False) ∧
        ∀ base : Heap, K.In base → base.Ns mainGlobals mg → FnOkG l.prog w K mg base CX k fa fd [x] sp)
    (hCX : ∀ (H : Hp) (s : Shared) (e : Value) (s' : Shared), CX [] H s (fun _ _ _ => False) e s' → False) :
    PySem.W.WalkO q loose XP YP l.row.toRowW d [] (fun f vs => PySem.call f vs) := by
  refine Att.attach_call hn hdf fun w s₀ s₁ mg mb fa o pm cd doc a vs ns G Y ho hd hcd hmg hobj hints hlen hg => ?_
  obtain ⟨K, fd, sp, KX, hb, hsp, hF⟩ := F w mg fa _ Y G.T.g hmg
  exact law_callG KX G.T.g G.T.b G.T.builtins G.T.nolimit hg hobj hints (Nat.le_trans hlen hn2) hr hF hb (fun H hO hS => hsp H a ns hlen hO hS) fun H e s' => hCX H s₁ e s'
end ErrR

namespace K01
open PySem PySem.Spec PyProof.Rows L2 ErrR
/-! ### __init__ of the 28 classes -/
def iArgs (q1 q2 q3 : Pos) : Arguments := { posonlyargs := [], args := [{ arg := "self", annotation := none, pos := q1 }, { arg := "value", annotation := none, pos := q2 }], vararg := none, kwonlyargs := [], kw_defaults := [], kwarg := none, defaults := [.Constant .none 0 q3] }
def iBody (p1 p2 p3 p4 : Pos) : List Stmt := [.Assign [.Attribute (.Name "self" p1) "value" p2] (.Name "value" p3) p4]
def iScope : Scope := { kind := .function, names := [(PySem.Str.ofString "self", .local), (PySem.Str.ofString "value", .local)], isGenerator := false, isCoroutine := false, more := [] }
theorem iform : ∀ i : Nat, i < 28 → ∃ p1 p2 p3 p4 q1 q2 q3 : Pos, defArgs (sInit i) = iArgs q1 q2 q3 ∧ defBody (sInit i) = iBody p1 p2 p3 p4 ∧ defScope (sInit i) = iScope := fun i h => match i, h with
  | 0, _ => ⟨_, _, _, _, _, _, _, rfl, rfl, rfl⟩ | 1, _ => ⟨_, _, _, _, _, _, _, rfl, rfl, rfl⟩ | 2, _ => ⟨_, _, _, _, _, _, _, rfl, rfl, rfl⟩ | 3, _ => ⟨_, _, _, _, _, _, _, rfl, rfl, rfl⟩ | 4, _ => ⟨_, _, _, _, _, _, _, rfl, rfl, rfl⟩ | 5, _ => ⟨_, _, _, _, _, _, _, rfl, rfl, rfl⟩ | 6, _ => ⟨_, _, _, _, _, _, _, rfl, rfl, rfl⟩ | 7, _ => ⟨_, _, _, _, _, _, _, rfl, rfl, rfl⟩ | 8, _ => ⟨_, _, _, _, _, _, _, rfl, rfl, rfl⟩ | 9, _ => ⟨_, _, _, _, _, _, _, rfl, rfl, rfl⟩ | 10, _ => ⟨_, _, _, _, _, _, _, rfl, rfl, rfl⟩ | 11, _ => ⟨_, _, _, _, _, _, _, rfl, rfl, rfl⟩ | 12, _ => ⟨_, _, _, _, _, _, _, rfl, rfl, rfl⟩ | 13, _ => ⟨_, _, _, _, _, _, _, rfl, rfl, rfl⟩ | 14, _ => ⟨_, _, _, _, _, _, _, rfl, rfl, rfl⟩ | 15, _ => ⟨_, _, _, _, _, _, _, rfl, rfl, rfl⟩ | 16, _ => ⟨_, _, _, _, _, _, _, rfl, rfl, rfl⟩ | 17, _ => ⟨_, _, _, _, _, _, _, rfl, rfl, rfl⟩ | 18, _ => ⟨_, _, _, _, _, _, _, rfl, rfl, rfl⟩ | 19, _ => ⟨_, _, _, _, _, _, _, rfl, rfl, rfl⟩ | 20, _ => ⟨_, _, _, _, _, _, _, rfl, rfl, rfl⟩ | 21, _ => ⟨_, _, _, _, _, _, _, rfl, rfl, rfl⟩ | 22, _ => ⟨_, _, _, _, _, _, _, rfl, rfl, rfl⟩ | 23, _ => ⟨_, _, _, _, _, _, _, rfl, rfl, rfl⟩ | 24, _ => ⟨_, _, _, _, _, _, _, rfl, rfl, rfl⟩ | 25, _ => ⟨_, _, _, _, _, _, _, rfl, rfl, rfl⟩ | 26, _ => ⟨_, _, _, _, _, _, _, rfl, rfl, rfl⟩ | 27, _ => ⟨_, _, _, _, _, _, _, rfl, rfl, rfl⟩
  | n + 28, h => absurd h (by omega)
theorem scI : FnScope ["self", "value"] ["self", "value"] iScope := ⟨rfl, rfl, rfl, by decide +kernel, rfl, by decide +kernel, by decide +kernel⟩
/-- self is an error that is being made: it gets its dict, with the value -/
def spInit (K : PySem.W.Frag) (C : Addr) : Sp := fun vs H Q _ => ∃ (a : Addr) (v : V), vs = [.ref a, v] ∧ H a = some (exo a C none) ∧ ∀ d, H d = none → d ≠ a → Q .non (upd (upd H d (exd d [("value", v)])) a (exo a C (some d)))
section
variable {P : Program} {w : World} {K : PySem.W.Frag} {mg : Str → Option Value} {base : Heap} {f C : Addr} {fd : FuncData} {qual : Str} {p1 p2 p3 p4 q1 q2 q3 : Pos}
theorem ok_init (D : FunD K "__init__" qual (iArgs q1 q2 q3) (iBody p1 p2 p3 p4) iScope [.non] [] f fd) (T : OexC K C) (no : PySem.W.findIn K (.ref C) "value" = some none) : FnOk P w K mg base CX0 1 f fd ["self", "value"] (spInit K C) := by
  refine D.ok scI (fun vs H Q E h => ?_) (fun cdv A outer s H vs Q E hr h => ⟨tOst K "value" (tVar 0) (tVar 1), PSs.nox ?_, ?_⟩)
  · obtain ⟨a, v, rfl, _⟩ := h
    rfl
  · exact pss_one (ps_ost (pv 0) (pv 1))
  · obtain ⟨a, v, rfl, ha, q⟩ := h
    exact ⟨_, rfl, _, rfl, a, C, rfl, T, no, .inl ⟨ha, fun d n ne => q d n ne⟩⟩
/-- C(e) -/
theorem kb1 (D : FunD K "__init__" qual (iArgs q1 q2 q3) (iBody p1 p2 p3 p4) iScope [.non] [] f fd) : ∃ g, KBn K fd ["self", "value"] 2 [] g (fun vs _ => vs) := by
  obtain ⟨its, h⟩ := D.kbindsD (ps := ["self", "value"]) 2 [] (fun us its ws => us) (by simp) (fun r _ _ => r) (fun T kV doc pm an cdv ct us its ws h1 h2 h3 => match us, h1, its, h2, ws, h3 with
    | [_, _], _, [_], _, [], _ => ⟨_, rfl, rfl⟩)
  exact ⟨_, h⟩
/-- C() -/
theorem kb0 (D : FunD K "__init__" qual (iArgs q1 q2 q3) (iBody p1 p2 p3 p4) iScope [.non] [] f fd) : ∃ g, KBn K fd ["self", "value"] 1 [] g (fun vs _ => vs ++ [.non]) := by
  obtain ⟨its, h⟩ := D.kbindsD (ps := ["self", "value"]) 1 [] (fun us its ws => us ++ its) (by simp) (fun r r2 _ => r.append r2) (fun T kV doc pm an cdv ct us its ws h1 h2 h3 => match us, h1, its, h2, ws, h3 with
    | [_], _, [_], _, [], _ => ⟨_, rfl, rfl⟩)
  exact ⟨_, h⟩
/-- C(value=e) -/
theorem kbK (D : FunD K "__init__" qual (iArgs q1 q2 q3) (iBody p1 p2 p3 p4) iScope [.non] [] f fd) : ∃ g, KBn K fd ["self", "value"] 1 ["value"] g (fun vs zs => vs ++ zs) := by
  obtain ⟨its, h⟩ := D.kbindsD (ps := ["self", "value"]) 1 ["value"] (fun us its ws => us ++ ws) (by simp) (fun r _ r3 => r.append r3) (fun T kV doc pm an cdv ct us its ws h1 h2 h3 => match us, h1, its, h2, ws, h3 with
    | [_], _, [_], _, [_], _ => ⟨_, rfl, rfl⟩)
  exact ⟨_, h⟩
end
/-! ### PostError's own, which NothingToUndo and NothingToRedo have too -/
abbrev sPost : Stmt := inClass (topS 1) 0
theorem scP : FnScope ["self"] ["self"] (defScope sPost) := ⟨rfl, rfl, rfl, by decide +kernel, rfl, by decide +kernel, by decide +kernel⟩
def spPost (K : PySem.W.Frag) : Sp := fun vs H Q _ => ∃ (a C : Addr), vs = [.ref a] ∧ OexC K C ∧ H a = some (exo a C none) ∧ Q .non H
theorem ok_post {P : Program} {w : World} {K : PySem.W.Frag} {mg : Str → Option Value} {base : Heap} {f : Addr} {fd : FuncData} (D : FunD K "__init__" "PostError.__init__" (defArgs sPost) (defBody sPost) (defScope sPost) [] [] f fd) (hm : mg "ValueError" = none)
    (hv : PySem.W.findCls K (.type "ValueError") (.type "type") "__init__" = some (.val (.builtin "ValueError.__init__"))) : FnOk P w K mg base CX0 1 f fd ["self"] (spPost K) := by
  refine D.ok scP (fun vs H Q E h => ?_) (fun cdv A outer s H vs Q E hr h => ⟨_, PSs.nox (pss_one (ps_expr (pe_veinit rfl hm hv (pa_cons (pv 0) pa_nil)))), ?_⟩)
  · obtain ⟨a, C, rfl, _⟩ := h
    rfl
  · obtain ⟨a, C, rfl, T, ha, q⟩ := h
    exact ⟨_, rfl, a, C, [], rfl, (by show 0 ≤ 1000; decide), T, ha, q⟩
end K01

namespace K01
open PySem PySem.Spec PyProof.Rows L2 ErrR
def names30 : List Str := errNames ++ bareNames
def names31 : List Str := errNames ++ bareNames ++ [("PostError" : Str)]
/-- what the top has written: the classes -/
structure Txt (P : Program) (w : World) (K : PySem.W.Frag) (mg : Str → Option Value) (base : Heap) : Prop where
  glo : ∀ x ∈ names31, mg x = some (.ref (He.ga K x))
  oex : ∀ x ∈ names31, OexC K (He.ga K x)
  exc : ∀ x ∈ names31, ExcC K (He.ga K x)
  noV : ∀ x ∈ names31, PySem.W.findIn K (.ref (He.ga K x)) "value" = some none
  ini : ∀ x ∈ names31, PySem.W.findIn K (.ref (He.ga K x)) "__init__" = some (some (.ref (He.ma K (He.ga K x) "__init__")))
  fun_ : ∀ x ∈ names31, PySem.W.typeIn K (.ref (He.ma K (He.ga K x) "__init__")) = some (.type "function")
  nd : (names31.map (He.ga K)).Nodup
  kit : ∀ x ∈ names31, ∀ y ∈ names30, PySem.W.kitOne K (.ref (He.ga K x)) (.ref (He.ga K y)) = some (decide (He.ga K x = He.ga K y))
  kitP : ∀ x ∈ names31, PySem.W.kitOne K (.ref (He.ga K x)) (.ref (He.ga K "PostError")) = some true
  kitV : ∀ x ∈ names31, PySem.W.kitOne K (.ref (He.ga K x)) (.type "ValueError") = some true
  err : ∀ x ∈ errNames, ∃ fd, FnOk P w K mg base CX0 1 (He.ma K (He.ga K x) "__init__") fd ["self", "value"] (spInit K (He.ga K x)) ∧ (∃ g, KBn K fd ["self", "value"] 2 [] g (fun vs _ => vs)) ∧
    (∃ g, KBn K fd ["self", "value"] 1 [] g (fun vs _ => vs ++ [.non])) ∧ ∃ g, KBn K fd ["self", "value"] 1 ["value"] g (fun vs zs => vs ++ zs)
  bare : ∀ x ∈ bareNames ++ [("PostError" : Str)], ∃ fd, FnOk P w K mg base CX0 1 (He.ma K (He.ga K x) "__init__") fd ["self"] (spPost K) ∧ ∃ g, KBn K fd ["self"] 1 [] g (fun vs _ => vs)
theorem in31 {x : Str} (h : x ∈ errNames) : x ∈ names31 := List.mem_append_left _ (List.mem_append_left _ h)
theorem PE.imp {X : Cx} {e : Expr} {t t' : TE} (h : PE X e t) (q : ∀ σ H Q, t' σ H Q → t σ H Q) : PE X e t' := ⟨fun pins s σ H Q I z => h.run pins s σ H Q I (q σ H Q z)⟩
theorem upd_twice {H : Hp} {a d : Addr} {o o' u : HO} : upd (upd (upd H a o) d u) a o' = upd (upd H d u) a o' := by
  funext b
  by_cases hb : b = a
  · subst hb
    rw [upd_same, upd_same]
  · by_cases hd : b = d
    · subst hd
      rw [upd_ne hb, upd_ne hb, upd_same, upd_same]
    · rw [upd_ne hb, upd_ne hb, upd_ne hd, upd_ne hd, upd_ne hb]
/-- a new error of the class at C that keeps v -/
def mkE (C : Addr) (v : V) (H : Hp) (Q : VK) : Prop := ∀ a d, H a = none → H d = none → d ≠ a → Q (.ref a) (upd (upd H d (exd d [("value", v)])) a (exo a C (some d)))
theorem init_of {K : PySem.W.Frag} {C a : Addr} {v : V} {H : Hp} {Q : VK} (ha : H a = none) (h : mkE C v H Q) : spInit K C [.ref a, v] (upd H a (exo a C none)) (fun v H3 => v = .non ∧ Q (.ref a) H3) fun _ _ _ => False :=
  ⟨a, v, rfl, upd_same, fun d hd ne => ⟨rfl, by
    rw [upd_twice]
    exact h a d ha (by rw [upd_ne ne] at hd; exact hd) ne⟩⟩
def tE1 (C : Addr) (i : Nat) : TE := fun σ H Q => ∃ v, σ[i]? = some (some v) ∧ mkE C v H Q
def tE0 (C : Addr) : TE := fun _ H Q => mkE C .non H Q
section
variable {X : Cx} {x : Str} {p pos p2 : Pos} {e : Expr} {i : Nat}
theorem pe_e1 (T : Txt X.prog X.w X.K X.mg X.base) (hr : Room 2 X.A) (he : PE X e (tVar i)) (hx : x ∈ errNames := by decide +kernel) (hg : Gl X x := by rfl) (hdb : (x == ("__debug__" : Str)) = false := by decide +kernel)
    (hs : starEach [e] X.env = (false, eval e X.env) :: starEach [] X.env := by rfl) : PE X (.Call (.Name x p) [e] [] pos) (tE1 (He.ga X.K x) i) := by
  obtain ⟨fd, F, ⟨g, kb⟩, _, _⟩ := T.err x hx
  refine PE.imp (pe_mkV (n := 1) (T.oex x (in31 hx)) (T.ini x (in31 hx)) (T.fun_ x (in31 hx)) F hr kb pass0 hg (T.glo x (in31 hx)) (by decide) (pa_cons he pa_nil hs) hdb hs (by rfl)) fun σ H Q h => ?_
  obtain ⟨v, hv, q⟩ := h
  exact ⟨v, hv, rfl, rfl, fun a ha => init_of ha q⟩
theorem pe_e0 (T : Txt X.prog X.w X.K X.mg X.base) (hr : Room 2 X.A) (hx : x ∈ errNames := by decide +kernel) (hg : Gl X x := by rfl) (hdb : (x == ("__debug__" : Str)) = false := by decide +kernel) : PE X (.Call (.Name x p) [] [] pos) (tE0 (He.ga X.K x)) := by
  obtain ⟨fd, F, _, ⟨g, kb⟩, _⟩ := T.err x hx
  exact PE.imp (pe_mkV0 (T.oex x (in31 hx)) (T.ini x (in31 hx)) (T.fun_ x (in31 hx)) F hr kb pass0 hg (T.glo x (in31 hx)) hdb) fun σ H Q h => ⟨rfl, rfl, fun a ha => init_of ha h⟩
theorem pe_eK (T : Txt X.prog X.w X.K X.mg X.base) (hr : Room 2 X.A) (he : PE X e (tVar i)) (hx : x ∈ errNames := by decide +kernel) (hg : Gl X x := by rfl) (hdb : (x == ("__debug__" : Str)) = false := by decide +kernel) 
    (hall : (backToKw pos (keywordEach [⟨some "value", e, p2⟩] X.env)).all (·.1.isSome) = true := by rfl) (hks : (backToKw pos (keywordEach [⟨some "value", e, p2⟩] X.env)).filterMap (·.1) = [("value" : Str)] := by rfl)
    (hpl : ((backTo pos (starEach [] X.env)).any (·.1) || (backToKw pos (keywordEach [⟨some "value", e, p2⟩] X.env)).any (·.1.isNone)) = false := by rfl) : PE X (.Call (.Name x p) [] [⟨some "value", e, p2⟩] pos) (tE1 (He.ga X.K x) i) := by
  obtain ⟨fd, F, _, _, ⟨g, kb⟩⟩ := T.err x hx
  refine PE.imp (pe_mkVK (T.oex x (in31 hx)) (T.ini x (in31 hx)) (T.fun_ x (in31 hx)) F hr kb pass0 hg (T.glo x (in31 hx)) (pk_cons he pk_nil) hall hks hdb hpl) fun σ H Q h => ?_
  obtain ⟨v, hv, q⟩ := h
  exact ⟨v, hv, rfl, rfl, fun a ha => init_of ha q⟩
/-- the two without a value, and the base -/
def tB0 (C : Addr) : TE := fun _ H Q => ∀ a, H a = none → Q (.ref a) (upd H a (exo a C none))
theorem pe_b0 (T : Txt X.prog X.w X.K X.mg X.base) (hr : Room 2 X.A) (hx : x ∈ bareNames ++ [("PostError" : Str)] := by decide +kernel) (h3 : x ∈ names31 := by decide +kernel) (hg : Gl X x := by rfl) (hdb : (x == ("__debug__" : Str)) = false := by decide +kernel) : PE X (.Call (.Name x p) [] [] pos) (tB0 (He.ga X.K x)) := by
  obtain ⟨fd, F, g, kb⟩ := T.bare x hx
  exact PE.imp (pe_mkV0 (T.oex x h3) (T.ini x h3) (T.fun_ x h3) F hr kb pass0 hg (T.glo x h3) hdb) fun σ H Q h => ⟨rfl, rfl, fun a ha => ⟨a, _, rfl, T.oex x h3, upd_same, rfl, h a ha⟩⟩
end
/-! ### lists of them -/
/-- xs: errors of the classes at Cs, each keeps v -/
inductive ErrsAt (H : Hp) (v : V) : List Addr → List V → Prop
  | nil : ErrsAt H v [] []
  | cons {a d C : Addr} {Cs : List Addr} {xs : List V} : ErrAt H a C d [("value", v)] → ErrsAt H v Cs xs → ErrsAt H v (C :: Cs) (.ref a :: xs)
theorem ErrsAt.same {H H' : Hp} {v : V} (s : Same H H') : ∀ {Cs : List Addr} {xs : List V}, ErrsAt H v Cs xs → ErrsAt H' v Cs xs
  | _, _, .nil => .nil
  | _, _, .cons e r => .cons ⟨s _ _ e.at_, s _ _ e.dict⟩ (r.same s)
theorem ErrsAt.append {H : Hp} {v : V} : ∀ {Cs Ds : List Addr} {xs ys : List V}, ErrsAt H v Cs xs → ErrsAt H v Ds ys → ErrsAt H v (Cs ++ Ds) (xs ++ ys)
  | _, _, _, _, .nil, q => q
  | _, _, _, _, .cons e r, q => .cons e (r.append q)
theorem ErrsAt.length {H : Hp} {v : V} : ∀ {Cs : List Addr} {xs : List V}, ErrsAt H v Cs xs → xs.length = Cs.length
  | _, _, .nil => rfl
  | _, _, .cons e r => congrArg Nat.succ r.length
theorem ErrsAt.get {H : Hp} {v : V} : ∀ {Cs : List Addr} {xs : List V} {i : Nat} {x : V}, ErrsAt H v Cs xs → xs[i]? = some x → ∃ a d C, x = .ref a ∧ Cs[i]? = some C ∧ ErrAt H a C d [("value", v)]
  | _, _, i, x, .nil, h => by simp at h
  | _, _, 0, x, .cons e r, h => ⟨_, _, _, (Option.some.inj h).symm, rfl, e⟩
  | _, _, i + 1, x, .cons e r, h => r.get (i := i) h
theorem same_mk {H : Hp} {a d : Addr} {o u : HO} (ha : H a = none) (hd : H d = none) : Same H (upd (upd H d u) a o) := fun b z q => by
  rw [upd_ne (ne_of_none q ha), upd_ne (ne_of_none q hd)]
  exact q
/-- the display of such calls -/
def tErrs (mk : Addr → TE) : List Addr → TA
  | [] => tNil
  | C :: r => tCons (mk C) (tErrs mk r)
theorem errs_ok {mk : Addr → TE} {σ : L2.St} {v : V} (hm : ∀ C H Q, mkE C v H Q → mk C σ H Q) : ∀ (Cs : List Addr) (H : Hp) (Q : List V → Hp → Prop), (∀ xs H', ErrsAt H' v Cs xs → Same H H' → Q xs H') → tErrs mk Cs σ H Q
  | [], H, Q, h => h [] H .nil (Same.refl H)
  | C :: r, H, Q, h => hm C H _ fun a d ha hd ne => by
    refine errs_ok hm r _ _ fun xs H' E S => h (.ref a :: xs) H' (.cons ⟨S _ _ upd_same, S _ _ ?_⟩ E) ((same_mk ha hd).trans S)
    rw [upd_ne ne, upd_same]
/-- found = [C(..), ..] -/
theorem first_step {mk : Addr → TE} {f : Addr → L2.St} {σ : L2.St} {v : V} {j : Nat} {D : Ends} {Cs : List Addr} {H : Hp} (hm : ∀ C H Q, mkE C v H Q → mk C σ H Q) (hf : ∀ l, σ.set j (some (.ref l)) = f l) (hs : Cs.length ≤ 1000)
    (h : ∀ l xs H', H' l = some (.lst xs) → ErrsAt H' v Cs xs → Same H H' → D.nx (f l) H') : tAsg (tLst (tErrs mk Cs)) (gName j) D σ H :=
  errs_ok hm Cs H _ fun xs H' E S => ⟨by rw [E.length]; exact Nat.le_of_lt (small1000 hs), fun p hp => by
    show D.nx (σ.set j (some (.ref p))) _
    rw [hf p]
    have S2 : Same H' (upd H' p (.lst xs)) := fun b o q => by
      rw [upd_ne (ne_of_none q hp)]
      exact q
    exact h p xs _ upd_same (E.same S2) (S.trans S2)⟩
/-- found = found + [C(..), ..] -/
theorem next_step {mk : Addr → TE} {f : Addr → L2.St} {v : V} {j : Nat} {D : Ends} {Cs Ds : List Addr} {H : Hp} {l : Addr} {xs : List V} (hm : ∀ C H Q, mkE C v H Q → mk C (f l) H Q) (hf : ∀ l', (f l).set j (some (.ref l')) = f l') (hj : (f l)[j]? = some (some (.ref l)))
    (hl : H l = some (.lst xs)) (E : ErrsAt H v Cs xs) (hs : Cs.length + Ds.length ≤ 1000) (h : ∀ l' xs' H', H' l' = some (.lst xs') → ErrsAt H' v (Cs ++ Ds) xs' → Same H H' → D.nx (f l') H') :
    tAsg (tOp rCat (tVar j) (tLst (tErrs mk Ds))) (gName j) D (f l) H :=
  ⟨_, hj, errs_ok hm Ds H _ fun ys H' E2 S => ⟨by rw [E2.length]; exact Nat.le_of_lt (small1000 (by omega)), fun p hp => by
    have S2 : Same H' (upd H' p (.lst ys)) := fun b o q => by
      rw [upd_ne (ne_of_none q hp)]
      exact q
    refine ⟨l, p, xs, ys, rfl, rfl, S2 _ _ (S _ _ hl), upd_same, by rw [E.length, E2.length]; exact Nat.le_of_lt (small1000 hs), fun p2 hp2 => ?_⟩
    show D.nx ((f l).set j (some (.ref p2))) _
    rw [hf p2]
    have S3 : Same (upd H' p (.lst ys)) (upd (upd H' p (.lst ys)) p2 (.lst (xs ++ ys))) := fun b o q => by
      rw [upd_ne (ne_of_none q hp2)]
      exact q
    have S4 := S.trans (S2.trans S3)
    exact h p2 (xs ++ ys) _ upd_same ((E.same S4).append ((E2.same S2).same S3)) S4⟩⟩
end K01

namespace K01
open PySem PySem.Spec PyProof.Rows L2 ErrR
abbrev sFirst : Stmt := topS 39
abbrev sCalled : Stmt := topS 40
abbrev sBare : Stmt := topS 41
abbrev FnP (K : PySem.W.Frag) (x : Str) (st : Stmt) (f : Addr) (fd : FuncData) : Prop := FunD K x x (defArgs st) (defBody st) (defScope st) [] [] f fd
def cls28 (K : PySem.W.Frag) : List Addr := errNames.map (He.ga K)
/-- the 28 errors, each keeps v -/
def spErrs (K : PySem.W.Frag) : Sp := fun vs H Q _ => ∃ v, vs = [v] ∧ ∀ l xs H', H' l = some (.lst xs) → ErrsAt H' v (cls28 K) xs → Same H H' → Q (.ref l) H'
def spBare (K : PySem.W.Frag) : Sp := fun vs H Q _ => vs = [] ∧ ∀ l xs H', H' l = some (.lst xs) → ErrsAt H' .non (cls28 K) xs → Same H H' → Q (.ref l) H'
theorem scFirst : FnScope ["thing", "found"] ["thing"] (defScope sFirst) := ⟨rfl, rfl, rfl, by decide +kernel, rfl, by decide +kernel, by decide +kernel⟩
theorem scCalled : FnScope ["thing", "found"] ["thing"] (defScope sCalled) := ⟨rfl, rfl, rfl, by decide +kernel, rfl, by decide +kernel, by decide +kernel⟩
theorem scBare : FnScope ["found"] [] (defScope sBare) := ⟨rfl, rfl, rfl, by decide +kernel, rfl, by decide +kernel, by decide +kernel⟩
section
variable {P : Program} {w : World} {K : PySem.W.Frag} {mg : Str → Option Value} {base : Heap} {f : Addr} {fd : FuncData}
theorem ok_law_first (D : FnP K "_law_first" sFirst f fd) (T : Txt P w K mg base) : FnOk P w K mg base CX0 3 f fd ["thing"] (spErrs K) := by
  refine D.ok scFirst (fun vs H Q E h => ?_) (fun cdv A outer s H vs Q E hr h => ⟨_, PSs.nox (pss_cons (ps_set (i := 1) scFirst.nd rfl (Or.inl rfl) (pe_lst (pa_cons (pe_e1 T hr (pv 0)) (pa_cons (pe_e1 T hr (pv 0)) (pa_cons (pe_e1 T hr (pv 0)) (pa_cons (pe_e1 T hr (pv 0)) pa_nil)))))) (pss_cons (ps_set (i := 1) scFirst.nd rfl (Or.inl rfl) (pe_op op_cat (pv 1) (pe_lst (pa_cons (pe_e1 T hr (pv 0)) (pa_cons (pe_e1 T hr (pv 0)) (pa_cons (pe_e1 T hr (pv 0)) (pa_cons (pe_e1 T hr (pv 0)) pa_nil))))))) (pss_cons (ps_set (i := 1) scFirst.nd rfl (Or.inl rfl) (pe_op op_cat (pv 1) (pe_lst (pa_cons (pe_e1 T hr (pv 0)) (pa_cons (pe_e1 T hr (pv 0)) (pa_cons (pe_e1 T hr (pv 0)) (pa_cons (pe_e1 T hr (pv 0)) pa_nil))))))) (pss_cons (ps_set (i := 1) scFirst.nd rfl (Or.inl rfl) (pe_op op_cat (pv 1) (pe_lst (pa_cons (pe_e1 T hr (pv 0)) (pa_cons (pe_e1 T hr (pv 0)) (pa_cons (pe_e1 T hr (pv 0)) (pa_cons (pe_e1 T hr (pv 0)) pa_nil))))))) (pss_cons (ps_set (i := 1) scFirst.nd rfl (Or.inl rfl) (pe_op op_cat (pv 1) (pe_lst (pa_cons (pe_e1 T hr (pv 0)) (pa_cons (pe_e1 T hr (pv 0)) (pa_cons (pe_e1 T hr (pv 0)) (pa_cons (pe_e1 T hr (pv 0)) pa_nil))))))) (pss_cons (ps_set (i := 1) scFirst.nd rfl (Or.inl rfl) (pe_op op_cat (pv 1) (pe_lst (pa_cons (pe_e1 T hr (pv 0)) (pa_cons (pe_e1 T hr (pv 0)) (pa_cons (pe_e1 T hr (pv 0)) (pa_cons (pe_e1 T hr (pv 0)) pa_nil))))))) (pss_cons (ps_set (i := 1) scFirst.nd rfl (Or.inl rfl) (pe_op op_cat (pv 1) (pe_lst (pa_cons (pe_e1 T hr (pv 0)) (pa_cons (pe_e1 T hr (pv 0)) (pa_cons (pe_e1 T hr (pv 0)) (pa_cons (pe_e1 T hr (pv 0)) pa_nil))))))) (pss_one (ps_ret (pv 1)))))))))), ?_⟩)
  · obtain ⟨v, rfl, _⟩ := h
    rfl
  obtain ⟨v, rfl, q⟩ := h
  refine first_step (mk := fun C => tE1 C 0) (f := fun l => [some v, some (.ref l)]) (v := v) (Cs := [He.ga K "InvalidRows", He.ga K "InvalidRun", He.ga K "InvalidLetter", He.ga K "InvalidLetters"]) (fun C H Q z => ⟨v, rfl, z⟩) (fun _ => rfl) (Nat.le_of_ble_eq_true rfl) fun l0 xs0 H0 hl0 E0 S0 => ?_
  refine next_step (mk := fun C => tE1 C 0) (f := fun l => [some v, some (.ref l)]) (v := v) (Ds := [He.ga K "InvalidParty", He.ga K "InvalidNames", He.ga K "InvalidEvent", He.ga K "InvalidEvents"]) (fun C H Q z => ⟨v, rfl, z⟩) (fun _ => rfl) rfl hl0 E0 (Nat.le_of_ble_eq_true rfl) fun l1 xs1 H1 hl1 E1 S1 => ?_
  refine next_step (mk := fun C => tE1 C 0) (f := fun l => [some v, some (.ref l)]) (v := v) (Ds := [He.ga K "InvalidFront", He.ga K "InvalidLine", He.ga K "InvalidNumber", He.ga K "InvalidKind"]) (fun C H Q z => ⟨v, rfl, z⟩) (fun _ => rfl) rfl hl1 E1 (Nat.le_of_ble_eq_true rfl) fun l2 xs2 H2 hl2 E2 S2 => ?_
  refine next_step (mk := fun C => tE1 C 0) (f := fun l => [some v, some (.ref l)]) (v := v) (Ds := [He.ga K "InvalidPlace", He.ga K "InvalidMake", He.ga K "InvalidLane", He.ga K "InvalidSlots"]) (fun C H Q z => ⟨v, rfl, z⟩) (fun _ => rfl) rfl hl2 E2 (Nat.le_of_ble_eq_true rfl) fun l3 xs3 H3 hl3 E3 S3 => ?_
  refine next_step (mk := fun C => tE1 C 0) (f := fun l => [some v, some (.ref l)]) (v := v) (Ds := [He.ga K "InvalidLog", He.ga K "InvalidRuns", He.ga K "InvalidPieces", He.ga K "InvalidWays"]) (fun C H Q z => ⟨v, rfl, z⟩) (fun _ => rfl) rfl hl3 E3 (Nat.le_of_ble_eq_true rfl) fun l4 xs4 H4 hl4 E4 S4 => ?_
  refine next_step (mk := fun C => tE1 C 0) (f := fun l => [some v, some (.ref l)]) (v := v) (Ds := [He.ga K "InvalidPlan", He.ga K "InvalidWay", He.ga K "InvalidDesk", He.ga K "InvalidRecord"]) (fun C H Q z => ⟨v, rfl, z⟩) (fun _ => rfl) rfl hl4 E4 (Nat.le_of_ble_eq_true rfl) fun l5 xs5 H5 hl5 E5 S5 => ?_
  refine next_step (mk := fun C => tE1 C 0) (f := fun l => [some v, some (.ref l)]) (v := v) (Ds := [He.ga K "InvalidScript", He.ga K "InvalidText", He.ga K "Lies", He.ga K "Refused"]) (fun C H Q z => ⟨v, rfl, z⟩) (fun _ => rfl) rfl hl5 E5 (Nat.le_of_ble_eq_true rfl) fun l6 xs6 H6 hl6 E6 S6 => ?_
  exact ⟨_, rfl, q l6 xs6 H6 hl6 E6 ((((((S0.trans S1).trans S2).trans S3).trans S4).trans S5).trans S6)⟩
theorem ok_law_called (D : FnP K "_law_called" sCalled f fd) (T : Txt P w K mg base) : FnOk P w K mg base CX0 3 f fd ["thing"] (spErrs K) := by
  refine D.ok scCalled (fun vs H Q E h => ?_) (fun cdv A outer s H vs Q E hr h => ⟨_, PSs.nox (pss_cons (ps_set (i := 1) scCalled.nd rfl (Or.inl rfl) (pe_lst (pa_cons (pe_eK T hr (pv 0)) (pa_cons (pe_eK T hr (pv 0)) (pa_cons (pe_eK T hr (pv 0)) pa_nil))))) (pss_cons (ps_set (i := 1) scCalled.nd rfl (Or.inl rfl) (pe_op op_cat (pv 1) (pe_lst (pa_cons (pe_eK T hr (pv 0)) (pa_cons (pe_eK T hr (pv 0)) (pa_cons (pe_eK T hr (pv 0)) pa_nil)))))) (pss_cons (ps_set (i := 1) scCalled.nd rfl (Or.inl rfl) (pe_op op_cat (pv 1) (pe_lst (pa_cons (pe_eK T hr (pv 0)) (pa_cons (pe_eK T hr (pv 0)) (pa_cons (pe_eK T hr (pv 0)) pa_nil)))))) (pss_cons (ps_set (i := 1) scCalled.nd rfl (Or.inl rfl) (pe_op op_cat (pv 1) (pe_lst (pa_cons (pe_eK T hr (pv 0)) (pa_cons (pe_eK T hr (pv 0)) (pa_cons (pe_eK T hr (pv 0)) pa_nil)))))) (pss_cons (ps_set (i := 1) scCalled.nd rfl (Or.inl rfl) (pe_op op_cat (pv 1) (pe_lst (pa_cons (pe_eK T hr (pv 0)) (pa_cons (pe_eK T hr (pv 0)) (pa_cons (pe_eK T hr (pv 0)) pa_nil)))))) (pss_cons (ps_set (i := 1) scCalled.nd rfl (Or.inl rfl) (pe_op op_cat (pv 1) (pe_lst (pa_cons (pe_eK T hr (pv 0)) (pa_cons (pe_eK T hr (pv 0)) (pa_cons (pe_eK T hr (pv 0)) pa_nil)))))) (pss_cons (ps_set (i := 1) scCalled.nd rfl (Or.inl rfl) (pe_op op_cat (pv 1) (pe_lst (pa_cons (pe_eK T hr (pv 0)) (pa_cons (pe_eK T hr (pv 0)) (pa_cons (pe_eK T hr (pv 0)) pa_nil)))))) (pss_cons (ps_set (i := 1) scCalled.nd rfl (Or.inl rfl) (pe_op op_cat (pv 1) (pe_lst (pa_cons (pe_eK T hr (pv 0)) (pa_cons (pe_eK T hr (pv 0)) (pa_cons (pe_eK T hr (pv 0)) pa_nil)))))) (pss_cons (ps_set (i := 1) scCalled.nd rfl (Or.inl rfl) (pe_op op_cat (pv 1) (pe_lst (pa_cons (pe_eK T hr (pv 0)) (pa_cons (pe_eK T hr (pv 0)) (pa_cons (pe_eK T hr (pv 0)) pa_nil)))))) (pss_cons (ps_set (i := 1) scCalled.nd rfl (Or.inl rfl) (pe_op op_cat (pv 1) (pe_lst (pa_cons (pe_eK T hr (pv 0)) pa_nil)))) (pss_one (ps_ret (pv 1))))))))))))), ?_⟩)
  · obtain ⟨v, rfl, _⟩ := h
    rfl
  obtain ⟨v, rfl, q⟩ := h
  refine first_step (mk := fun C => tE1 C 0) (f := fun l => [some v, some (.ref l)]) (v := v) (Cs := [He.ga K "InvalidRows", He.ga K "InvalidRun", He.ga K "InvalidLetter"]) (fun C H Q z => ⟨v, rfl, z⟩) (fun _ => rfl) (Nat.le_of_ble_eq_true rfl) fun l0 xs0 H0 hl0 E0 S0 => ?_
  refine next_step (mk := fun C => tE1 C 0) (f := fun l => [some v, some (.ref l)]) (v := v) (Ds := [He.ga K "InvalidLetters", He.ga K "InvalidParty", He.ga K "InvalidNames"]) (fun C H Q z => ⟨v, rfl, z⟩) (fun _ => rfl) rfl hl0 E0 (Nat.le_of_ble_eq_true rfl) fun l1 xs1 H1 hl1 E1 S1 => ?_
  refine next_step (mk := fun C => tE1 C 0) (f := fun l => [some v, some (.ref l)]) (v := v) (Ds := [He.ga K "InvalidEvent", He.ga K "InvalidEvents", He.ga K "InvalidFront"]) (fun C H Q z => ⟨v, rfl, z⟩) (fun _ => rfl) rfl hl1 E1 (Nat.le_of_ble_eq_true rfl) fun l2 xs2 H2 hl2 E2 S2 => ?_
  refine next_step (mk := fun C => tE1 C 0) (f := fun l => [some v, some (.ref l)]) (v := v) (Ds := [He.ga K "InvalidLine", He.ga K "InvalidNumber", He.ga K "InvalidKind"]) (fun C H Q z => ⟨v, rfl, z⟩) (fun _ => rfl) rfl hl2 E2 (Nat.le_of_ble_eq_true rfl) fun l3 xs3 H3 hl3 E3 S3 => ?_
  refine next_step (mk := fun C => tE1 C 0) (f := fun l => [some v, some (.ref l)]) (v := v) (Ds := [He.ga K "InvalidPlace", He.ga K "InvalidMake", He.ga K "InvalidLane"]) (fun C H Q z => ⟨v, rfl, z⟩) (fun _ => rfl) rfl hl3 E3 (Nat.le_of_ble_eq_true rfl) fun l4 xs4 H4 hl4 E4 S4 => ?_
  refine next_step (mk := fun C => tE1 C 0) (f := fun l => [some v, some (.ref l)]) (v := v) (Ds := [He.ga K "InvalidSlots", He.ga K "InvalidLog", He.ga K "InvalidRuns"]) (fun C H Q z => ⟨v, rfl, z⟩) (fun _ => rfl) rfl hl4 E4 (Nat.le_of_ble_eq_true rfl) fun l5 xs5 H5 hl5 E5 S5 => ?_
  refine next_step (mk := fun C => tE1 C 0) (f := fun l => [some v, some (.ref l)]) (v := v) (Ds := [He.ga K "InvalidPieces", He.ga K "InvalidWays", He.ga K "InvalidPlan"]) (fun C H Q z => ⟨v, rfl, z⟩) (fun _ => rfl) rfl hl5 E5 (Nat.le_of_ble_eq_true rfl) fun l6 xs6 H6 hl6 E6 S6 => ?_
  refine next_step (mk := fun C => tE1 C 0) (f := fun l => [some v, some (.ref l)]) (v := v) (Ds := [He.ga K "InvalidWay", He.ga K "InvalidDesk", He.ga K "InvalidRecord"]) (fun C H Q z => ⟨v, rfl, z⟩) (fun _ => rfl) rfl hl6 E6 (Nat.le_of_ble_eq_true rfl) fun l7 xs7 H7 hl7 E7 S7 => ?_
  refine next_step (mk := fun C => tE1 C 0) (f := fun l => [some v, some (.ref l)]) (v := v) (Ds := [He.ga K "InvalidScript", He.ga K "InvalidText", He.ga K "Lies"]) (fun C H Q z => ⟨v, rfl, z⟩) (fun _ => rfl) rfl hl7 E7 (Nat.le_of_ble_eq_true rfl) fun l8 xs8 H8 hl8 E8 S8 => ?_
  refine next_step (mk := fun C => tE1 C 0) (f := fun l => [some v, some (.ref l)]) (v := v) (Ds := [He.ga K "Refused"]) (fun C H Q z => ⟨v, rfl, z⟩) (fun _ => rfl) rfl hl8 E8 (Nat.le_of_ble_eq_true rfl) fun l9 xs9 H9 hl9 E9 S9 => ?_
  exact ⟨_, rfl, q l9 xs9 H9 hl9 E9 (((((((((S0.trans S1).trans S2).trans S3).trans S4).trans S5).trans S6).trans S7).trans S8).trans S9)⟩
theorem ok_law_bare (D : FnP K "_law_bare" sBare f fd) (T : Txt P w K mg base) : FnOk P w K mg base CX0 3 f fd [] (spBare K) := by
  refine D.ok scBare (fun vs H Q E h => ?_) (fun cdv A outer s H vs Q E hr h => ⟨_, PSs.nox (pss_cons (ps_set (i := 0) scBare.nd rfl (Or.inl rfl) (pe_lst (pa_cons (pe_e0 T hr) (pa_cons (pe_e0 T hr) (pa_cons (pe_e0 T hr) (pa_cons (pe_e0 T hr) (pa_cons (pe_e0 T hr) (pa_cons (pe_e0 T hr) pa_nil)))))))) (pss_cons (ps_set (i := 0) scBare.nd rfl (Or.inl rfl) (pe_op op_cat (pv 0) (pe_lst (pa_cons (pe_e0 T hr) (pa_cons (pe_e0 T hr) (pa_cons (pe_e0 T hr) (pa_cons (pe_e0 T hr) (pa_cons (pe_e0 T hr) pa_nil)))))))) (pss_cons (ps_set (i := 0) scBare.nd rfl (Or.inl rfl) (pe_op op_cat (pv 0) (pe_lst (pa_cons (pe_e0 T hr) (pa_cons (pe_e0 T hr) (pa_cons (pe_e0 T hr) (pa_cons (pe_e0 T hr) (pa_cons (pe_e0 T hr) (pa_cons (pe_e0 T hr) pa_nil))))))))) (pss_cons (ps_set (i := 0) scBare.nd rfl (Or.inl rfl) (pe_op op_cat (pv 0) (pe_lst (pa_cons (pe_e0 T hr) (pa_cons (pe_e0 T hr) (pa_cons (pe_e0 T hr) (pa_cons (pe_e0 T hr) (pa_cons (pe_e0 T hr) (pa_cons (pe_e0 T hr) pa_nil))))))))) (pss_cons (ps_set (i := 0) scBare.nd rfl (Or.inl rfl) (pe_op op_cat (pv 0) (pe_lst (pa_cons (pe_e0 T hr) (pa_cons (pe_e0 T hr) (pa_cons (pe_e0 T hr) (pa_cons (pe_e0 T hr) (pa_cons (pe_e0 T hr) pa_nil)))))))) (pss_one (ps_ret (pv 0)))))))), ?_⟩)
  · obtain ⟨rfl, _⟩ := h
    rfl
  obtain ⟨rfl, q⟩ := h
  refine first_step (mk := fun C => tE0 C) (f := fun l => [some (.ref l)]) (v := .non) (Cs := [He.ga K "InvalidRows", He.ga K "InvalidRun", He.ga K "InvalidLetter", He.ga K "InvalidLetters", He.ga K "InvalidParty", He.ga K "InvalidNames"]) (fun C H Q z => z) (fun _ => rfl) (Nat.le_of_ble_eq_true rfl) fun l0 xs0 H0 hl0 E0 S0 => ?_
  refine next_step (mk := fun C => tE0 C) (f := fun l => [some (.ref l)]) (v := .non) (Ds := [He.ga K "InvalidEvent", He.ga K "InvalidEvents", He.ga K "InvalidFront", He.ga K "InvalidLine", He.ga K "InvalidNumber"]) (fun C H Q z => z) (fun _ => rfl) rfl hl0 E0 (Nat.le_of_ble_eq_true rfl) fun l1 xs1 H1 hl1 E1 S1 => ?_
  refine next_step (mk := fun C => tE0 C) (f := fun l => [some (.ref l)]) (v := .non) (Ds := [He.ga K "InvalidKind", He.ga K "InvalidPlace", He.ga K "InvalidMake", He.ga K "InvalidLane", He.ga K "InvalidSlots", He.ga K "InvalidLog"]) (fun C H Q z => z) (fun _ => rfl) rfl hl1 E1 (Nat.le_of_ble_eq_true rfl) fun l2 xs2 H2 hl2 E2 S2 => ?_
  refine next_step (mk := fun C => tE0 C) (f := fun l => [some (.ref l)]) (v := .non) (Ds := [He.ga K "InvalidRuns", He.ga K "InvalidPieces", He.ga K "InvalidWays", He.ga K "InvalidPlan", He.ga K "InvalidWay", He.ga K "InvalidDesk"]) (fun C H Q z => z) (fun _ => rfl) rfl hl2 E2 (Nat.le_of_ble_eq_true rfl) fun l3 xs3 H3 hl3 E3 S3 => ?_
  refine next_step (mk := fun C => tE0 C) (f := fun l => [some (.ref l)]) (v := .non) (Ds := [He.ga K "InvalidRecord", He.ga K "InvalidScript", He.ga K "InvalidText", He.ga K "Lies", He.ga K "Refused"]) (fun C H Q z => z) (fun _ => rfl) rfl hl3 E3 (Nat.le_of_ble_eq_true rfl) fun l4 xs4 H4 hl4 E4 S4 => ?_
  exact ⟨_, rfl, q l4 xs4 H4 hl4 E4 ((((S0.trans S1).trans S2).trans S3).trans S4)⟩
end
end K01

namespace K01
open PySem PySem.Spec PyProof.Rows L2 ErrR
abbrev sCode : Stmt := topS 42
abbrev sIsErr : Stmt := topS 43
theorem scCode : FnScope ["error", "found", "at"] ["error"] (defScope sCode) := ⟨rfl, rfl, rfl, by decide +kernel, rfl, by decide +kernel, by decide +kernel⟩
theorem scIsErr : FnScope ["error"] ["error"] (defScope sIsErr) := ⟨rfl, rfl, rfl, by decide +kernel, rfl, by decide +kernel, by decide +kernel⟩
/-- at a stands an error of the class that is called x -/
structure IsErr (K : PySem.W.Frag) (H : Hp) (a : Addr) (x : Str) : Prop where
  name : x ∈ names31
  at_ : H a = some (exo a (He.ga K x) none) ∨ ∃ d fs, ErrAt H a (He.ga K x) d fs
theorem IsErr.same {K : PySem.W.Frag} {H H' : Hp} {a : Addr} {x : Str} (e : IsErr K H a x) (s : Same H H') : IsErr K H' a x := ⟨e.name, e.at_.elim (fun h => .inl (s _ _ h)) fun ⟨d, fs, h⟩ => .inr ⟨d, fs, s _ _ h.at_, s _ _ h.dict⟩⟩
def isB (K : PySem.W.Frag) (x y : Str) : V := .bl (decide (He.ga K x = He.ga K y))
/-- isinstance(error, C) -/
def tIs (K : PySem.W.Frag) (y : Str) : TE := fun σ H Q => ∃ a x, σ[0]? = some (some (.ref a)) ∧ IsErr K H a x ∧ Q (isB K x y) H
def tIss (K : PySem.W.Frag) : List Str → TA
  | [] => tNil
  | y :: r => tCons (tIs K y) (tIss K r)
theorem iss_ok {K : PySem.W.Frag} {σ : L2.St} {a : Addr} {x : Str} {H : Hp} (h : σ[0]? = some (some (.ref a))) (e : IsErr K H a x) : ∀ {ys : List Str} (Q : List V → Hp → Prop), Q (ys.map (isB K x)) H → tIss K ys σ H Q
  | [], Q, q => q
  | y :: r, Q, q => ⟨a, x, h, e, iss_ok h e (ys := r) (fun xs H1 => Q (isB K x y :: xs) H1) q⟩
section
variable {X : Cx} {y : Str} {p p1 p2 pos : Pos} {e : Expr}
theorem pe_is (T : Txt X.prog X.w X.K X.mg X.base) (he : PE X e (tVar 0)) (hI : X.mg "isinstance" = none := by assumption) (hy : y ∈ names30 := by decide +kernel) (hg : Gl X y := by rfl) (hgi : Gl X "isinstance" := by rfl) (hdb : (y == ("__debug__" : Str)) = false := by decide +kernel)
    (hs : starEach [e, .Name y p2] X.env = (false, eval e X.env) :: starEach [.Name y p2] X.env := by rfl) (hs2 : starEach [.Name y p2] X.env = (false, eval (.Name y p2) X.env) :: starEach [] X.env := by rfl) (hpl : (backTo pos (starEach [.Name y p2] X.env)).any (·.1) = false := by rfl) :
    PE X (.Call (.Name "isinstance" p) [e, .Name y p2] [] pos) (tIs X.K y) := by
  have hy31 : y ∈ names31 := List.mem_append_left _ hy
  refine PE.imp (pe_callB call_isErr hgi hI boot_isinstance (pa_cons he (pa_cons (pe_glob (v := .ref (He.ga X.K y)) hg (T.glo y hy31) rfl hdb) pa_nil hs2) hs) (by decide) (by decide) hs hpl) fun σ H Q h => ?_
  obtain ⟨a, x, hv, E, q⟩ := h
  exact ⟨_, hv, a, He.ga X.K x, _, _, _, rfl, T.exc x E.name, E.at_, fun u r => r, T.kit x E.name y hy, q⟩
end
/-- l = [..], what is displayed leaves all as it is -/
theorem lst_pure {t : TA} {f : Addr → L2.St} {σ : L2.St} {ys : List V} {j : Nat} {D : Ends} {H : Hp} (ht : ∀ Q, Q ys H → t σ H Q) (hf : ∀ l, σ.set j (some (.ref l)) = f l) (hs : ys.length ≤ 1000)
    (h : ∀ l H', H' l = some (.lst ys) → Same H H' → D.nx (f l) H') : tAsg (tLst t) (gName j) D σ H :=
  ht _ ⟨Nat.le_of_lt (small1000 hs), fun p hp => by
    show D.nx (σ.set j (some (.ref p))) _
    rw [hf p]
    exact h p _ upd_same fun b o q => by
      rw [upd_ne (ne_of_none q hp)]
      exact q⟩
/-- l = l + [..] -/
theorem cat_pure {t : TA} {f : Addr → L2.St} {xs ys : List V} {j : Nat} {D : Ends} {H : Hp} {l : Addr} (ht : ∀ Q, Q ys H → t (f l) H Q) (hf : ∀ l', (f l).set j (some (.ref l')) = f l') (hj : (f l)[j]? = some (some (.ref l))) (hl : H l = some (.lst xs)) (hs : xs.length + ys.length ≤ 1000)
    (h : ∀ l' H', H' l' = some (.lst (xs ++ ys)) → Same H H' → D.nx (f l') H') : tAsg (tOp rCat (tVar j) (tLst t)) (gName j) D (f l) H :=
  ⟨_, hj, ht _ ⟨Nat.le_of_lt (small1000 (by omega)), fun p hp => by
    have S : Same H (upd H p (.lst ys)) := fun b o q => by
      rw [upd_ne (ne_of_none q hp)]
      exact q
    refine ⟨l, p, xs, ys, rfl, rfl, S _ _ hl, upd_same, Nat.le_of_lt (small1000 hs), fun p2 hp2 => ?_⟩
    show D.nx ((f l).set j (some (.ref p2))) _
    rw [hf p2]
    exact h p2 _ upd_same (S.trans fun b o q => by
      rw [upd_ne (ne_of_none q hp2)]
      exact q)⟩⟩
/-- the places where True stands -/
def posOf (bs : List Bool) (n : Nat) : List Int := ((List.range n).filter fun k => bs.getD k false).map fun (k : Nat) => (k : Int)
theorem posOf_more {bs : List Bool} {n : Nat} : posOf bs (n + 1) = if bs.getD n false = true then posOf bs n ++ [(n : Int)] else posOf bs n := by
  unfold posOf
  rw [List.range_succ, List.filter_append, List.map_append]
  by_cases h : bs.getD n false = true
  · rw [if_pos h]
    simp only [List.filter_cons, List.filter_nil, h, if_true, List.map_cons, List.map_nil]
  · have h2 : bs.getD n false = false := by simpa using h
    rw [if_neg h]
    simp only [List.filter_cons, List.filter_nil, h2, Bool.false_eq_true, if_false, List.map_nil, List.append_nil]
theorem posOf_len (bs : List Bool) (n : Nat) : (posOf bs n).length ≤ n := by
  unfold posOf
  rw [List.length_map]
  exact Nat.le_trans (List.length_filter_le _ _) (by rw [List.length_range]; exact Nat.le_refl _)
/-- [at for at in range(len(found)) if found[at]] -/
theorem code_end {K : PySem.W.Frag} {a l : Addr} {bs : List Bool} {H : Hp} {rt : VK} (hl : H l = some (.lst (bs.map V.bl))) (hn : bs.length ≤ 1000 := by decide) (q : ∀ D H', H' D = some (.lst ((posOf bs bs.length).map V.int)) → Same H H' → rt (.ref D) H') :
    tLc (iRng1 (tCons (tCB (fun xs H Q => ∃ x n, xs = [x] ∧ LenV K x H n ∧ Q (.int n) H) (tCons (tVar 1) tNil)) tNil)) (gName 2) (tB (tOp (rIxL K) (tVar 1) (tVar 2))) (tVar 2) [2] [some (.ref a), some (.ref l), none] H rt := by
  refine ⟨_, rfl, _, _, rfl, .inl ⟨_, .inl (.inl hl), rfl⟩, _, rfl, ?_, ?_, fun D hD => ?_⟩
  · have : (0 : Int) ≤ ((bs.map V.bl).length : Int) := Int.natCast_nonneg _
    omega
  · rw [List.length_map]
    have : ((bs.length : Int)) ≤ 1000 := by exact_mod_cast hn
    omega
  · rw [List.length_map, Int.toNat_natCast]
    refine lc_range (n := bs.length) (fun i H' => H' D = some (.lst ((posOf bs i).map V.int)) ∧ H' l = some (.lst (bs.map V.bl)) ∧ Same H H') ⟨upd_same, by rw [upd_ne (ne_of_none hl hD)]; exact hl, fun b o e => by rw [upd_ne (ne_of_none e hD)]; exact e⟩ ?_ fun H' ⟨h1, _, h3⟩ => q D H' h1 h3
    rintro i H' hi ⟨h1, h2, h3⟩
    have hb : bs[i]? = some (bs.getD i false) := by
      rw [List.getD_eq_getElem?_getD, List.getElem?_eq_getElem hi] <;> rfl
    refine ⟨rfl, ?_⟩
    refine ⟨_, rfl, _, rfl, l, bs.map V.bl, 0 + (i : Int), V.bl (bs.getD i false), rfl, rfl, .inl (.inl h2), ?_, ?_⟩
    · exact at_of (j := i) (by omega) (by rw [List.getElem?_map, hb] <;> rfl)
    · refine ⟨_, rfl, ?_⟩
      refine ite2 (fun c => ?_) fun c => ?_
      · refine ⟨V.int (0 + (i : Int)), rfl, _, h1, by rw [List.length_map]; exact small1000 (Nat.le_trans (posOf_len bs i) (by omega)), ?_, ?_, fun b o e => ?_⟩
        · rw [upd_same, posOf_more, if_pos c, List.map_append]
          simp
        · rw [upd_ne (ne_of_none hl hD)]
          exact h2
        · by_cases hb : b = D
          · subst hb
            rw [hD] at e
            cases e
          · rw [upd_ne hb]
            exact h3 b o e
      · refine ⟨?_, h2, h3⟩
        rw [h1, posOf_more, if_neg c]
end K01

namespace K01
open PySem PySem.Spec PyProof.Rows L2 ErrR
/-- of which classes the error is that is called x -/
def codeB (K : PySem.W.Frag) (x : Str) : List Bool := names30.map fun y => decide (He.ga K x = He.ga K y)
def codeOf (K : PySem.W.Frag) (x : Str) : List Int := posOf (codeB K x) 30
def spCode (K : PySem.W.Frag) : Sp := fun vs H Q _ => ∃ a x, vs = [.ref a] ∧ IsErr K H a x ∧ ∀ D H', H' D = some (.lst ((codeOf K x).map V.int)) → Same H H' → Q (.ref D) H'
def spIsErr (K : PySem.W.Frag) : Sp := fun vs H Q _ => ∃ a x, vs = [.ref a] ∧ IsErr K H a x ∧ Q (.bl true) H
section
variable {P : Program} {w : World} {K : PySem.W.Frag} {mg : Str → Option Value} {base : Heap} {f : Addr} {fd : FuncData}
theorem ok_law_code (D : FnP K "_law_code" sCode f fd) (T : Txt P w K mg base) (hI : mg "isinstance" = none) (hRange : mg "range" = none) (hLen : mg "len" = none) : FnOk P w K mg base CX0 1 f fd ["error"] (spCode K) := by
  refine D.ok scCode (fun vs H Q E h => ?_) (fun cdv A outer s H vs Q E hr h => ⟨_, PSs.nox (pss_cons (ps_set (i := 1) scCode.nd rfl (Or.inr rfl) (pe_lst (pa_cons (pe_is T (pv 0)) (pa_cons (pe_is T (pv 0)) (pa_cons (pe_is T (pv 0)) pa_nil))))) (pss_cons (ps_set (i := 1) scCode.nd rfl (Or.inr rfl) (pe_op op_cat (pv 1) (pe_lst (pa_cons (pe_is T (pv 0)) (pa_cons (pe_is T (pv 0)) pa_nil))))) (pss_cons (ps_set (i := 1) scCode.nd rfl (Or.inr rfl) (pe_op op_cat (pv 1) (pe_lst (pa_cons (pe_is T (pv 0)) (pa_cons (pe_is T (pv 0)) pa_nil))))) (pss_cons (ps_set (i := 1) scCode.nd rfl (Or.inr rfl) (pe_op op_cat (pv 1) (pe_lst (pa_cons (pe_is T (pv 0)) (pa_cons (pe_is T (pv 0)) pa_nil))))) (pss_cons (ps_set (i := 1) scCode.nd rfl (Or.inr rfl) (pe_op op_cat (pv 1) (pe_lst (pa_cons (pe_is T (pv 0)) (pa_cons (pe_is T (pv 0)) pa_nil))))) (pss_cons (ps_set (i := 1) scCode.nd rfl (Or.inr rfl) (pe_op op_cat (pv 1) (pe_lst (pa_cons (pe_is T (pv 0)) (pa_cons (pe_is T (pv 0)) pa_nil))))) (pss_cons (ps_set (i := 1) scCode.nd rfl (Or.inr rfl) (pe_op op_cat (pv 1) (pe_lst (pa_cons (pe_is T (pv 0)) (pa_cons (pe_is T (pv 0)) pa_nil))))) (pss_cons (ps_set (i := 1) scCode.nd rfl (Or.inr rfl) (pe_op op_cat (pv 1) (pe_lst (pa_cons (pe_is T (pv 0)) (pa_cons (pe_is T (pv 0)) pa_nil))))) (pss_cons (ps_set (i := 1) scCode.nd rfl (Or.inr rfl) (pe_op op_cat (pv 1) (pe_lst (pa_cons (pe_is T (pv 0)) (pa_cons (pe_is T (pv 0)) pa_nil))))) (pss_cons (ps_set (i := 1) scCode.nd rfl (Or.inr rfl) (pe_op op_cat (pv 1) (pe_lst (pa_cons (pe_is T (pv 0)) (pa_cons (pe_is T (pv 0)) pa_nil))))) (pss_cons (ps_set (i := 1) scCode.nd rfl (Or.inr rfl) (pe_op op_cat (pv 1) (pe_lst (pa_cons (pe_is T (pv 0)) (pa_cons (pe_is T (pv 0)) pa_nil))))) (pss_cons (ps_set (i := 1) scCode.nd rfl (Or.inr rfl) (pe_op op_cat (pv 1) (pe_lst (pa_cons (pe_is T (pv 0)) (pa_cons (pe_is T (pv 0)) pa_nil))))) (pss_cons (ps_set (i := 1) scCode.nd rfl (Or.inr rfl) (pe_op op_cat (pv 1) (pe_lst (pa_cons (pe_is T (pv 0)) (pa_cons (pe_is T (pv 0)) (pa_cons (pe_is T (pv 0)) pa_nil)))))) (pss_cons (ps_set (i := 1) scCode.nd rfl (Or.inr rfl) (pe_op op_cat (pv 1) (pe_lst (pa_cons (pe_is T (pv 0)) (pa_cons (pe_is T (pv 0)) pa_nil))))) (pss_one (ps_ret (pe_lc (own := [("at", 2)]) (g := gName 2) (tt := tB (tOp (rIxL K) (tVar 1) (tVar 2))) (te := tVar 2) rfl scCode.nd (pi_range1 rfl hRange (pa_cons (pe_callB call_len rfl hLen PySem.boot_len (pa_cons (pv 1) pa_nil)) pa_nil))
    (blkOk_by (N := ["error", "found", "at"]) (sc := defScope sCode) (by decide +kernel)) (fun _ _ _ _ _ => pg_name (i := 2) scCode.nd rfl (Or.inl rfl)) (fun _ _ _ _ _ => pts_one (pt_val (pe_ix ix_list (pv 1) (pv 2) (fun _ _ => rfl)))) (fun _ _ _ _ _ => pv 2)))))))))))))))))), ?_⟩)
  · obtain ⟨a, x, rfl, _⟩ := h
    rfl
  obtain ⟨a, x, rfl, hE, q⟩ := h
  refine lst_pure (f := (fun l => [some (V.ref a), some (V.ref l), none])) (ys := (["InvalidRows", "InvalidRun", "InvalidLetter"] : List Str).map (isB K x)) (iss_ok (ys := ["InvalidRows", "InvalidRun", "InvalidLetter"]) rfl hE) (fun _ => rfl) (Nat.le_of_ble_eq_true rfl) fun l0 H0 hl0 S0 => ?_
  have T0 := S0
  refine cat_pure (f := (fun l => [some (V.ref a), some (V.ref l), none])) (ys := (["InvalidLetters", "InvalidParty"] : List Str).map (isB K x)) (iss_ok (ys := ["InvalidLetters", "InvalidParty"]) rfl (hE.same T0)) (fun _ => rfl) rfl hl0 (Nat.le_of_ble_eq_true rfl) fun l1 H1 hl1 S1 => ?_
  have T1 := T0.trans S1
  refine cat_pure (f := (fun l => [some (V.ref a), some (V.ref l), none])) (ys := (["InvalidNames", "InvalidEvent"] : List Str).map (isB K x)) (iss_ok (ys := ["InvalidNames", "InvalidEvent"]) rfl (hE.same T1)) (fun _ => rfl) rfl hl1 (Nat.le_of_ble_eq_true rfl) fun l2 H2 hl2 S2 => ?_
  have T2 := T1.trans S2
  refine cat_pure (f := (fun l => [some (V.ref a), some (V.ref l), none])) (ys := (["InvalidEvents", "InvalidFront"] : List Str).map (isB K x)) (iss_ok (ys := ["InvalidEvents", "InvalidFront"]) rfl (hE.same T2)) (fun _ => rfl) rfl hl2 (Nat.le_of_ble_eq_true rfl) fun l3 H3 hl3 S3 => ?_
  have T3 := T2.trans S3
  refine cat_pure (f := (fun l => [some (V.ref a), some (V.ref l), none])) (ys := (["InvalidLine", "InvalidNumber"] : List Str).map (isB K x)) (iss_ok (ys := ["InvalidLine", "InvalidNumber"]) rfl (hE.same T3)) (fun _ => rfl) rfl hl3 (Nat.le_of_ble_eq_true rfl) fun l4 H4 hl4 S4 => ?_
  have T4 := T3.trans S4
  refine cat_pure (f := (fun l => [some (V.ref a), some (V.ref l), none])) (ys := (["InvalidKind", "InvalidPlace"] : List Str).map (isB K x)) (iss_ok (ys := ["InvalidKind", "InvalidPlace"]) rfl (hE.same T4)) (fun _ => rfl) rfl hl4 (Nat.le_of_ble_eq_true rfl) fun l5 H5 hl5 S5 => ?_
  have T5 := T4.trans S5
  refine cat_pure (f := (fun l => [some (V.ref a), some (V.ref l), none])) (ys := (["InvalidMake", "InvalidLane"] : List Str).map (isB K x)) (iss_ok (ys := ["InvalidMake", "InvalidLane"]) rfl (hE.same T5)) (fun _ => rfl) rfl hl5 (Nat.le_of_ble_eq_true rfl) fun l6 H6 hl6 S6 => ?_
  have T6 := T5.trans S6
  refine cat_pure (f := (fun l => [some (V.ref a), some (V.ref l), none])) (ys := (["InvalidSlots", "InvalidLog"] : List Str).map (isB K x)) (iss_ok (ys := ["InvalidSlots", "InvalidLog"]) rfl (hE.same T6)) (fun _ => rfl) rfl hl6 (Nat.le_of_ble_eq_true rfl) fun l7 H7 hl7 S7 => ?_
  have T7 := T6.trans S7
  refine cat_pure (f := (fun l => [some (V.ref a), some (V.ref l), none])) (ys := (["InvalidRuns", "InvalidPieces"] : List Str).map (isB K x)) (iss_ok (ys := ["InvalidRuns", "InvalidPieces"]) rfl (hE.same T7)) (fun _ => rfl) rfl hl7 (Nat.le_of_ble_eq_true rfl) fun l8 H8 hl8 S8 => ?_
  have T8 := T7.trans S8
  refine cat_pure (f := (fun l => [some (V.ref a), some (V.ref l), none])) (ys := (["InvalidWays", "InvalidPlan"] : List Str).map (isB K x)) (iss_ok (ys := ["InvalidWays", "InvalidPlan"]) rfl (hE.same T8)) (fun _ => rfl) rfl hl8 (Nat.le_of_ble_eq_true rfl) fun l9 H9 hl9 S9 => ?_
  have T9 := T8.trans S9
  refine cat_pure (f := (fun l => [some (V.ref a), some (V.ref l), none])) (ys := (["InvalidWay", "InvalidDesk"] : List Str).map (isB K x)) (iss_ok (ys := ["InvalidWay", "InvalidDesk"]) rfl (hE.same T9)) (fun _ => rfl) rfl hl9 (Nat.le_of_ble_eq_true rfl) fun l10 H10 hl10 S10 => ?_
  have T10 := T9.trans S10
  refine cat_pure (f := (fun l => [some (V.ref a), some (V.ref l), none])) (ys := (["InvalidRecord", "InvalidScript"] : List Str).map (isB K x)) (iss_ok (ys := ["InvalidRecord", "InvalidScript"]) rfl (hE.same T10)) (fun _ => rfl) rfl hl10 (Nat.le_of_ble_eq_true rfl) fun l11 H11 hl11 S11 => ?_
  have T11 := T10.trans S11
  refine cat_pure (f := (fun l => [some (V.ref a), some (V.ref l), none])) (ys := (["InvalidText", "Lies", "Refused"] : List Str).map (isB K x)) (iss_ok (ys := ["InvalidText", "Lies", "Refused"]) rfl (hE.same T11)) (fun _ => rfl) rfl hl11 (Nat.le_of_ble_eq_true rfl) fun l12 H12 hl12 S12 => ?_
  have T12 := T11.trans S12
  refine cat_pure (f := (fun l => [some (V.ref a), some (V.ref l), none])) (ys := (["NothingToUndo", "NothingToRedo"] : List Str).map (isB K x)) (iss_ok (ys := ["NothingToUndo", "NothingToRedo"]) rfl (hE.same T12)) (fun _ => rfl) rfl hl12 (Nat.le_of_ble_eq_true rfl) fun l13 H13 hl13 S13 => ?_
  have T13 := T12.trans S13
  exact code_end (bs := codeB K x) (l := l13) (H := H13) hl13 (Nat.le_of_ble_eq_true rfl) fun D H2 hD S2 => q D H2 hD (T13.trans S2)
theorem ok_law_is_error (D : FnP K "_law_is_error" sIsErr f fd) (T : Txt P w K mg base) (hI : mg "isinstance" = none) (hV : mg "ValueError" = none) : FnOk P w K mg base CX0 1 f fd ["error"] (spIsErr K) := by
  refine D.ok scIsErr (fun vs H Q E h => ?_) (fun cdv A outer s H vs Q E hr h => ⟨_, PSs.nox (pss_one (ps_ret (pe_and (pe_callB call_isErr rfl hI boot_isinstance (pa_cons (pv 0) (pa_cons (pe_glob (v := .ref (He.ga K "PostError")) rfl (T.glo "PostError" (by decide +kernel)) rfl) pa_nil)))
    (pe_one (pe_callB call_isErr rfl hI boot_isinstance (pa_cons (pv 0) (pa_cons (pe_bltn (v := .ty "ValueError") rfl hV PyProof.Rows.Boot.«ValueError» rfl) pa_nil))))))), ?_⟩)
  · obtain ⟨a, x, rfl, _⟩ := h
    rfl
  obtain ⟨a, x, rfl, hE, q⟩ := h
  exact ⟨_, rfl, a, He.ga K x, _, _, true, rfl, T.exc x hE.name, hE.at_, fun u r => r, T.kitP x hE.name, true, rfl, iteT ⟨_, rfl, a, He.ga K x, _, _, true, rfl, T.exc x hE.name, hE.at_, fun u r => r, T.kitV x hE.name, q⟩⟩
end
/-- an error's class, as a number -/
theorem code_at {P : Program} {w : World} {K : PySem.W.Frag} {mg : Str → Option Value} {base : Heap} (T : Txt P w K mg base) {i : Nat} {x : Str} (hx : names30[i]? = some x) : codeOf K x = [(i : Int)] := by
  have hi : i < names30.length := (List.getElem?_eq_some_iff.mp hx).1
  have h31 : names31[i]? = some x := by
    show (names30 ++ [("PostError" : Str)])[i]? = some x
    rw [List.getElem?_append_left hi, hx]
  have e : codeB K x = (List.range 30).map fun j => decide (i = j) := by
    refine List.ext_getElem? fun j => ?_
    unfold codeB
    rw [List.getElem?_map, List.getElem?_map]
    by_cases hj : j < 30
    · have hj2 : j < names30.length := hj
      rw [List.getElem?_range hj, List.getElem?_eq_getElem hj2]
      refine congrArg some ?_
      show decide (He.ga K x = He.ga K names30[j]) = decide (i = j)
      have hy : names31[j]? = some names30[j] := by
        show (names30 ++ [("PostError" : Str)])[j]? = _
        rw [List.getElem?_append_left hj2, List.getElem?_eq_getElem hj2]
      by_cases q : i = j
      · subst q
        have z : some x = some names30[i] := by rw [← hx, List.getElem?_eq_getElem hi]
        cases z
        simp
      · rw [decide_eq_false q]
        refine decide_eq_false fun z => q ?_
        refine nd_ix T.nd (x := He.ga K x) ?_ ?_
        · rw [List.getElem?_map, h31] <;> rfl
        · rw [List.getElem?_map, hy, z] <;> rfl
    · have n1 : names30[j]? = none := List.getElem?_eq_none (show names30.length ≤ j from Nat.le_of_not_lt hj)
      have n2 : (List.range 30)[j]? = none := List.getElem?_eq_none (by rw [List.length_range]; exact Nat.le_of_not_lt hj)
      rw [n1, n2] <;> rfl
  unfold codeOf
  rw [e]
  have hi30 : i < 30 := hi
  have all : ∀ k, k < 30 → posOf ((List.range 30).map fun j => decide (k = j)) 30 = [(k : Int)] := by decide
  exact all i hi30
theorem code_post {P : Program} {w : World} {K : PySem.W.Frag} {mg : Str → Option Value} {base : Heap} (T : Txt P w K mg base) : codeOf K "PostError" = [] := by
  have e : codeB K "PostError" = (List.range 30).map fun _ => false := by
    refine List.ext_getElem? fun j => ?_
    unfold codeB
    rw [List.getElem?_map, List.getElem?_map]
    by_cases hj : j < 30
    · have hj2 : j < names30.length := hj
      rw [List.getElem?_range hj, List.getElem?_eq_getElem hj2]
      refine congrArg some ?_
      show decide (He.ga K "PostError" = He.ga K names30[j]) = false
      have hy : names31[j]? = some names30[j] := by
        show (names30 ++ [("PostError" : Str)])[j]? = _
        rw [List.getElem?_append_left hj2, List.getElem?_eq_getElem hj2]
      refine decide_eq_false fun z => ?_
      have := nd_ix T.nd (i := 30) (j := j) (x := He.ga K "PostError") rfl (by rw [List.getElem?_map, hy, z] <;> rfl)
      omega
    · have n1 : names30[j]? = none := List.getElem?_eq_none (show names30.length ≤ j from Nat.le_of_not_lt hj)
      have n2 : (List.range 30)[j]? = none := List.getElem?_eq_none (by rw [List.length_range]; exact Nat.le_of_not_lt hj)
      rw [n1, n2] <;> rfl
  unfold codeOf
  rw [e]
  decide
end K01

namespace K01
open PySem PySem.Spec PyProof.Rows L2 ErrR
abbrev sRight : Stmt := topS 44
theorem scRight : FnScope ["some", "noted", "error", "at"] ["some", "noted"] (defScope sRight) := ⟨rfl, rfl, rfl, by decide +kernel, rfl, by decide +kernel, by decide +kernel⟩
/-- ps: lists of one number, 0, 1, .. -/
structure Ones (H : Hp) (D : Addr) (n : Nat) (ps : List Addr) : Prop where
  len : ps.length = n
  at_ : ∀ (k : Nat) (p : Addr), ps[k]? = some p → p ≠ D ∧ H p = some (.lst [.int (k : Int)])
theorem Ones.more {H H' : Hp} {D p : Addr} {n : Nat} {ps : List Addr} (o : Ones H D n ps) (s : ∀ b u, b ≠ D → H b = some u → H' b = some u) (np : p ≠ D) (hp : H' p = some (.lst [.int (n : Int)])) : Ones H' D (n + 1) (ps ++ [p]) := by
  refine ⟨by rw [List.length_append, o.len] <;> rfl, fun k q hk => ?_⟩
  by_cases hlt : k < ps.length
  · rw [List.getElem?_append_left hlt] at hk
    obtain ⟨n1, h1⟩ := o.at_ k q hk
    exact ⟨n1, s _ _ n1 h1⟩
  · rw [List.getElem?_append_right (Nat.le_of_not_lt hlt)] at hk
    have e : k - ps.length = 0 := by
      cases z : k - ps.length with
      | zero => rfl
      | succ m =>
        rw [z] at hk
        simp at hk
    have e2 : k = n := by
      have := o.len
      omega
    rw [e] at hk
    obtain rfl : p = q := Option.some.inj hk
    rw [e2]
    exact ⟨np, hp⟩
theorem Ones.data {K : PySem.W.Frag} {H : Hp} {D : Addr} {n : Nat} {ps : List Addr} (o : Ones H D n ps) : DpAll K H (ps.map V.ref) ((List.range n).map fun (k : Nat) => PyData.list [.int (k : Int)]) := by
  have key : ∀ (qs : List Addr) (m : Nat), (∀ (k : Nat) (p : Addr), qs[k]? = some p → H p = some (.lst [.int ((m + k : Nat) : Int)])) → DpAll K H (qs.map V.ref) ((List.range' m qs.length).map fun (k : Nat) => PyData.list [.int (k : Int)]) := by
    intro qs
    induction qs with
    | nil => exact fun _ _ => .nil
    | cons p r ih =>
      intro m h
      refine .cons (.lst (.inl (.inl (h 0 p rfl))) (.cons (.int _) .nil)) (ih (m + 1) fun k q hk => ?_)
      have z := h (k + 1) q hk
      rw [show m + (k + 1) = m + 1 + k by omega] at z
      exact z
  have z := key ps 0 fun k p hk => by
    rw [Nat.zero_add]
    exact (o.at_ k p hk).2
  rw [o.len, ← List.range_eq_range'] at z
  exact z
theorem if_op {r : R2} {ta tb : TE} {t u v : TS} {D : Ends} {σ : L2.St} {H : Hp} (h : ta σ H fun x H1 => tb σ H1 fun y H2 => r x y H2 fun z H3 => ∃ k, z = .bl k ∧ if k = true then t { D with nx := v D } σ H3 else u { D with nx := v D } σ H3) : tSeq (tIfS (tTest (tOp r ta tb)) t u) v D σ H := h
theorem yes_of {te : TE} {σ : L2.St} {H : Hp} {Q : VK} {R : Hp → Prop} (h : te σ H Q) : tYes σ H (fun b H3 => if b = true then te σ H3 Q else R H3) := by
  show if true = true then te σ H Q else R H
  rw [if_pos rfl]
  exact h
def ones (n : Nat) : PyData := .list ((List.range n).map fun (k : Nat) => PyData.list [.int (k : Int)])
theorem Ones.same {H H' : Hp} {D : Addr} {n : Nat} {ps : List Addr} (o : Ones H D n ps) (s : Same H H') : Ones H' D n ps := ⟨o.len, fun k p h => ⟨(o.at_ k p h).1, s _ _ (o.at_ k p h).2⟩⟩
section
variable {P : Program} {w : World} {K : PySem.W.Frag} {mg : Str → Option Value} {base : Heap} {f : Addr} {fd : FuncData}
/-- [_law_code(error) for error in some] -/
theorem codes_comp (T : Txt P w K mg base) {σ : L2.St} {H : Hp} {Q : VK} {l : Addr} {xs : List V} {v : V} (h0 : σ[0]? = some (some (.ref l))) (h2 : ∀ x, ((wipe σ [2]).set 2 (some x))[2]? = some (some x)) (hw : ∀ x, wipe ((wipe σ [2]).set 2 (some x)) [2] = wipe σ [2])
    (hl : H l = some (.lst xs)) (E : ErrsAt H v (cls28 K) xs) (q : ∀ D ps H', H' D = some (.lst (ps.map V.ref)) → Ones H' D 28 ps → Same H H' → Q (.ref D) H') :
    tLc (iList K (tVar 0)) (gName 2) tYes (tCall (spCode K) [] E0 (tCons (tVar 2) tNil)) [2] σ H Q := by
  refine ⟨_, h0, l, rfl, ⟨xs, .inl (.inl hl)⟩, fun D hD => ?_⟩
  have hlen : xs.length = 28 := E.length
  refine lc_list (K := K) (a := l) (xs := xs) (fun i H' => ∃ ps, H' D = some (.lst (ps.map V.ref)) ∧ Ones H' D i ps ∧ Same H H') ⟨[], upd_same, ⟨rfl, fun k p hk => by simp at hk⟩, fun b o e => by rw [upd_ne (ne_of_none e hD)]; exact e⟩ (fun i H' _ ⟨_, _, _, s⟩ => .inl (.inl (s _ _ hl))) ?_ ?_
  · rintro i x H' hi ⟨ps, hd, o, s⟩
    obtain ⟨a, d, C, rfl, hC, e⟩ := E.get hi
    have hi28 : i < 28 := by
      rw [← hlen]
      exact (List.getElem?_eq_some_iff.mp hi).1
    obtain ⟨y, hy, hCy⟩ : ∃ y, errNames[i]? = some y ∧ C = He.ga K y := by
      unfold cls28 at hC
      rw [List.getElem?_map] at hC
      cases z : errNames[i]? with
      | none =>
        rw [z] at hC
        cases hC
      | some y =>
        rw [z] at hC
        exact ⟨y, rfl, (Option.some.inj hC).symm⟩
    subst hCy
    have hy30 : names30[i]? = some y := by
      show (errNames ++ bareNames)[i]? = some y
      rw [List.getElem?_append_left hi28, hy]
    have hE : IsErr K H' a y := ⟨in31 (List.mem_of_getElem? hy), .inr ⟨d, _, s _ _ e.at_, s _ _ e.dict⟩⟩
    refine ⟨hw _, ?_⟩
    refine yes_of (te := tCall (spCode K) [] E0 (tCons (tVar 2) tNil)) ?_
    refine ⟨_, h2 _, a, y, rfl, hE, fun p H4 hp s4 => ?_⟩
    rw [code_at T hy30] at hp
    have hd4 := s4 _ _ hd
    have np : p ≠ D := fun z => by
      rw [z, hd4] at hp
      have z2 : ps.map V.ref = [V.int (i : Int)] := by
        have := Option.some.inj hp
        injection this
      cases ps with
      | nil => cases z2
      | cons a b => cases z2
    have keep : ∀ b u, b ≠ D → H' b = some u → (upd H4 D (.lst (ps.map V.ref ++ [.ref p]))) b = some u := fun b u hb e => by
      rw [upd_ne hb]
      exact s4 _ _ e
    refine ⟨_, hd4, by rw [List.length_map, o.len]; exact small1000 (by omega), ps ++ [p], by rw [upd_same, List.map_append] <;> rfl, o.more keep np (by rw [upd_ne np]; exact hp), fun b u e => ?_⟩
    refine keep b u (fun z => ?_) (s b u e)
    rw [z, hD] at e
    cases e
  · rintro H' ⟨ps, hd, o, s⟩
    rw [hlen] at o
    exact q D ps H' hd o s
/-- [[at] for at in range(28)] -/
theorem ones_comp {σ : L2.St} {H : Hp} {Q : VK} (h3 : ∀ x, ((wipe σ [3]).set 3 (some x))[3]? = some (some x)) (hw : ∀ x, wipe ((wipe σ [3]).set 3 (some x)) [3] = wipe σ [3])
    (q : ∀ D ps H', H' D = some (.lst (ps.map V.ref)) → Ones H' D 28 ps → Same H H' → Q (.ref D) H') : tLc (iRng1 (tCons (tC (.int 28)) tNil)) (gName 3) tYes (tLst (tCons (tVar 3) tNil)) [3] σ H Q := by
  refine ⟨_, rfl, by decide, by decide, fun D hD => ?_⟩
  refine lc_range (n := 28) (fun i H' => ∃ ps, H' D = some (.lst (ps.map V.ref)) ∧ Ones H' D i ps ∧ Same H H') ⟨[], upd_same, ⟨rfl, fun k p hk => by simp at hk⟩, fun b o e => by rw [upd_ne (ne_of_none e hD)]; exact e⟩ ?_ fun H' ⟨ps, hd, o, s⟩ => q D ps H' hd o s
  rintro i H' hi ⟨ps, hd, o, s⟩
  refine ⟨hw _, ?_⟩
  refine yes_of (te := tLst (tCons (tVar 3) tNil)) ?_
  refine ⟨_, h3 _, by show 1 ≤ sizeLine; exact Nat.le_of_lt (small1000 (by decide)), fun p hp => ?_⟩
  have np : p ≠ D := fun z => by
    rw [z, hd] at hp
    cases hp
  have s4 : Same H' (upd H' p (.lst [.int (0 + (i : Int))])) := fun b u e => by
    rw [upd_ne (ne_of_none e hp)]
    exact e
  have keep : ∀ b u, b ≠ D → H' b = some u → (upd (upd H' p (.lst [.int (0 + (i : Int))])) D (.lst (ps.map V.ref ++ [.ref p]))) b = some u := fun b u hb e => by
    rw [upd_ne hb]
    exact s4 _ _ e
  refine ⟨_, s4 _ _ hd, by rw [List.length_map, o.len]; exact small1000 (by omega), ps ++ [p], by rw [upd_same, List.map_append] <;> rfl, o.more keep np (by rw [upd_ne np, upd_same, Int.zero_add]), fun b u e => ?_⟩
  refine keep b u (fun z => ?_) (s b u e)
  rw [z, hD] at e
  cases e
/-- what some keep is data, told by the text z -/
structure Told (K : PySem.W.Frag) (H : Hp) (v : V) (z : Str) : Prop where
  ex : ∃ d, Dx K H v d ∧ d.showable = true ∧ d.depth ≤ 30 ∧ d.shown.length ≤ sizeLine ∧ z = d.shown
mutual
theorem Dx.same {K : PySem.W.Frag} {H H' : Hp} (s : Same H H') : ∀ {v : V} {d : PyData}, Dx K H v d → Dx K H' v d
  | _, _, .non => .non
  | _, _, .bl b => .bl b
  | _, _, .int i => .int i
  | _, _, .str x => .str x
  | _, _, .lst h n r => .lst (s.seq h) n (DxAll.same s r)
  | _, _, .tup h r => .tup (match h with
    | .inl (.inl e) => .inl (.inl (s _ _ e))
    | .inl (.inr ⟨o, e⟩) => .inl (.inr ⟨o, s _ _ e⟩)
    | .inr e => .inr e) (DxAll.same s r)
  | _, _, .dict e r => .dict (s _ _ e) (DxAll.same s r)
theorem DxAll.same {K : PySem.W.Frag} {H H' : Hp} (s : Same H H') : ∀ {vs : List V} {ds : List PyData}, DxAll K H vs ds → DxAll K H' vs ds
  | _, _, .nil => .nil
  | _, _, .cons h r => .cons (Dx.same s h) (DxAll.same s r)
end
theorem Told.same {K : PySem.W.Frag} {H H' : Hp} {v : V} {z : Str} (t : Told K H v z) (s : Same H H') : Told K H' v z := by
  obtain ⟨d, h1, h2⟩ := t.ex
  exact ⟨d, Dx.same s h1, h2⟩
def spRight (K : PySem.W.Frag) : Sp := fun vs H Q _ => ∃ l xs v z, vs = [.ref l, .str z] ∧ H l = some (.lst xs) ∧ ErrsAt H v (cls28 K) xs ∧ Told K H v z ∧ ∀ H', Same H H' → Q (.bl true) H'
theorem ok_law_right (D : FnP K "_law_right" sRight f fd) (T : Txt P w K mg base) {fC fE : Addr} {fdC fdE : FuncData} (GC : FnOk P w K mg base CX0 1 fC fdC ["error"] (spCode K)) (gC : mg "_law_code" = some (.ref fC)) (kC : PySem.W.keepIn K (.ref fC) = true) (bC : Binds K fdC ["error"] [])
    (GE : FnOk P w K mg base CX0 1 fE fdE ["error"] (spIsErr K)) (gE : mg "_law_is_error" = some (.ref fE)) (kE : PySem.W.keepIn K (.ref fE) = true) (bE : Binds K fdE ["error"] []) (hRange : mg "range" = none) (hRepr : mg "repr" = none) :
    FnOkG P w K mg base CX0 2 f fd ["some", "noted"] (spRight K) := by
  refine fnG D scRight (fun vs H Q E h => ?_) (fun cdv A outer s H vs Q E hG hr h => ⟨_, PSs.nox (pss_cons (ps_if (pt_cmpR (op_neD hr.units)
      (pe_lc (own := [("error", 2)]) (g := gName 2) (tt := tYes) rfl scRight.nd (pi_list (pv 0)) (blkOk_by (N := ["some", "noted", "error", "at"]) (sc := defScope sRight) (by decide +kernel)) (fun _ _ _ _ _ => pg_name (i := 2) scRight.nd rfl (Or.inl rfl)) (fun _ _ _ _ _ => pts_nil)
        (fun _ _ _ _ _ => pe_call GC hr rfl gC kC bC .nil pass0 (pa_cons (pv 2) pa_nil)))
      (pe_lc (own := [("at", 3)]) (g := gName 3) (tt := tYes) rfl scRight.nd (pi_range1 rfl hRange (pa_cons pe_int pa_nil)) (blkOk_by (N := ["some", "noted", "error", "at"]) (sc := defScope sRight) (by decide +kernel)) (fun _ _ _ _ _ => pg_name (i := 3) scRight.nd rfl (Or.inl rfl)) (fun _ _ _ _ _ => pts_nil)
        (fun _ _ _ _ _ => pe_lst (pa_cons (pv 3) pa_nil))) (nomark _)) (pss_one (ps_ret pe_bl)) pss_nil)
    (pss_one (ps_ret (pe_cmpR (op_eqD hr.units)
      (pe_lc (own := [("error", 2)]) (g := gName 2) (tt := tOr (tNot (tB (tCall (spIsErr K) [] E0 (tCons (tVar 2) tNil)))) (tTest (tOp rNe (tCB (rRepr K) (tCons (tErrF K "value" (tVar 2)) tNil)) (tVar 1)))) rfl scRight.nd (pi_list (pv 0)) (blkOk_by (N := ["some", "noted", "error", "at"]) (sc := defScope sRight) (by decide +kernel))
        (fun _ _ _ _ _ => pg_name (i := 2) scRight.nd rfl (Or.inl rfl))
        (fun _ _ _ _ _ => pts_one (PW.pt (pw_or (pt_not (pt_val (pe_call GE hr rfl gE kE bE .nil pass0 (pa_cons (pv 2) pa_nil)))) (pw_or1 (pt_cmpR op_ne (pe_callB (call_reprD hG hr.units) rfl hRepr PyProof.Rows.boot_repr (pa_cons (pe_errF (pv 2)) pa_nil)) (pv 1) (nomark _))))))
        (fun _ _ _ _ _ => pv 2)) (pe_lst pa_nil) (nomark _))))), ?_⟩)
  · obtain ⟨l, xs, v, z, rfl, _⟩ := h
    rfl
  obtain ⟨l, xs, v, z, rfl, hl, E1, hT, q⟩ := h
  refine if_op ?_
  refine codes_comp T (σ := [some (.ref l), some (.str z), none, none]) (l := l) (xs := xs) (v := v) rfl (fun _ => rfl) (fun _ => rfl) hl E1 fun D1 ps H1 hd1 o1 s1 => ?_
  refine ones_comp (σ := [some (.ref l), some (.str z), none, none]) (fun _ => rfl) (fun _ => rfl) fun D2 ps2 H2 hd2 o2 s2 => ?_
  refine ⟨ones 28, ones 28, .lst (.inl (.inl (s2 _ _ hd1))) (o1.same s2).data, .lst (.inl (.inl hd2)) o2.data, by decide +kernel, by decide +kernel, _, rfl, ?_⟩
  have e : (!PyData.eqv (ones 28) (ones 28)) = false := by decide +kernel
  rw [e]
  refine iteF ?_
  have s12 := s1.trans s2
  have hl2 := s12 _ _ hl
  have E2 := E1.same s12
  have T2 := hT.same s12
  refine ⟨_, rfl, l, rfl, ⟨xs, .inl (.inl hl2)⟩, fun D3 hD3 => ?_⟩
  refine lc_list (K := K) (a := l) (xs := xs) (fun i H' => H' D3 = some (.lst []) ∧ Same H2 H') ⟨upd_same, fun b o e => by rw [upd_ne (ne_of_none e hD3)]; exact e⟩ (fun i H' _ ⟨_, s⟩ => .inl (.inl (s _ _ hl2))) ?_ ?_
  · rintro i x H' hi ⟨hd, s⟩
    obtain ⟨a, d, C, rfl, hC, e⟩ := E2.get hi
    obtain ⟨y, hy, hCy⟩ : ∃ y, y ∈ errNames ∧ He.ga K y = C := by
      unfold cls28 at hC
      exact List.mem_map.mp (List.mem_of_getElem? hC)
    subst hCy
    have e' : ErrAt H' a (He.ga K y) d [("value", v)] := ⟨s _ _ e.at_, s _ _ e.dict⟩
    have hE : IsErr K H' a y := ⟨in31 hy, .inr ⟨d, _, e'⟩⟩
    obtain ⟨dd, x1, x2, x3, x4, x5⟩ := (T2.same s).ex
    refine ⟨rfl, ?_⟩
    refine ⟨_, rfl, a, y, rfl, hE, true, rfl, ?_⟩
    refine iteF ?_
    refine ⟨_, rfl, a, _, d, _, v, rfl, T.exc y (in31 hy), T.noV y (in31 hy), e', rfl, v, dd, rfl, x1, x2, x3, x4, _, rfl, rfl, _, rfl, ?_⟩
    rw [x5]
    have e2 : (!decide (V.str dd.shown = V.str dd.shown)) = false := by simp
    rw [e2]
    exact iteF ⟨hd, s⟩
  · rintro H' ⟨hd, s⟩
    refine ⟨by show 0 ≤ sizeLine; exact Nat.zero_le _, fun p hp => ?_⟩
    have s3 : Same H' (upd H' p (.lst [])) := fun b u e => by
      rw [upd_ne (ne_of_none e hp)]
      exact e
    refine ⟨.list [], .list [], .lst (.inl (.inl (s3 _ _ hd))) .nil, .lst (.inl (.inl upd_same)) .nil, by decide +kernel, by decide +kernel, ?_⟩
    have e3 : PyData.eqv (.list []) (.list []) = true := by decide +kernel
    rw [e3]
    exact q _ (s12.trans (s.trans s3))
end
end K01

/-! the dice: a list of four numbers, from which small numbers are drawn -/
namespace K01
open PySem PySem.Spec PyProof.Rows L2 ErrR
abbrev sMixed : Stmt := topS 33
abbrev sDraw : Stmt := topS 34
abbrev sOneOf : Stmt := topS 35
theorem scMixed : FnScope ["seed", "spin", "at", "mixed"] ["seed", "spin", "at"] (defScope sMixed) := ⟨rfl, rfl, rfl, by decide +kernel, rfl, by decide +kernel, by decide +kernel⟩
theorem scDraw : FnScope ["dice", "many", "drawn", "found", "piece"] ["dice", "many"] (defScope sDraw) := ⟨rfl, rfl, rfl, by decide +kernel, rfl, by decide +kernel, by decide +kernel⟩
theorem scOneOf : FnScope ["dice", "some"] ["dice", "some"] (defScope sOneOf) := ⟨rfl, rfl, rfl, by decide +kernel, rfl, by decide +kernel, by decide +kernel⟩
/-- some number below the last modulus -/
def spMixed : Sp := fun vs H Q _ => ∃ a b c : Int, vs = [.int a, .int b, .int c] ∧ -(2 ^ 64) < b ∧ b < 2 ^ 64 ∧ ∀ r : Int, 0 ≤ r → r < 2147483587 → Q (.int r) H
/-- the dice stand at p; at most n draws went to the mill -/
structure Dice (H : Hp) (p : Addr) (n : Nat) : Prop where
  ex : ∃ d0 d1 d2 d3 : Int, H p = some (.lst [.int d0, .int d1, .int d2, .int d3]) ∧ 0 ≤ d0 ∧ 0 ≤ d2 ∧ d2 ≤ n ∧ 0 ≤ d1 ∧ d1 < 2147483629
/-- all but p is as it was -/
def But (p : Addr) (H H' : Hp) : Prop := ∀ b o, b ≠ p → H b = some o → H' b = some o
theorem But.refl {p : Addr} {H : Hp} : But p H H := fun _ _ _ h => h
theorem But.trans {p : Addr} {H H1 H2 : Hp} (a : But p H H1) (b : But p H1 H2) : But p H H2 := fun c o n h => b c o n (a c o n h)
theorem But.of_same {p : Addr} {H H' : Hp} (s : Same H H') : But p H H' := fun b o _ h => s b o h
/-- a number from 0 to many - 1 -/
def spDraw : Sp := fun vs H Q _ => ∃ (p : Addr) (m : Int) (n : Nat), vs = [.ref p, .int m] ∧ Dice H p n ∧ n ≤ 1000000 ∧ 1 ≤ m ∧ m ≤ 100000 ∧ ∀ (r : Int) (H' : Hp), 0 ≤ r → r < m → Dice H' p (n + 1) → (∀ b, b ≠ p → H' b = H b) → Q (.int r) H'
/-- an item of a list -/
def spOneOf (K : PySem.W.Frag) : Sp := fun vs H Q _ => ∃ (p q : Addr) (xs : List V) (n : Nat), vs = [.ref p, .ref q] ∧ Dice H p n ∧ n ≤ 1000000 ∧ H q = some (.lst xs) ∧ q ≠ p ∧ 0 < xs.length ∧ xs.length ≤ 1000 ∧
  ∀ (x : V) (H' : Hp), x ∈ xs → Dice H' p (n + 1) → (∀ b, b ≠ p → H' b = H b) → Q x H'
section
variable {P : Program} {w : World} {K : PySem.W.Frag} {mg : Str → Option Value} {base : Heap} {f : Addr} {fd : FuncData}
theorem ok_mixed (D : FnP K "_law_mixed" sMixed f fd) (hInt : mg "int" = none) : FnOk P w K mg base CX0 1 f fd ["seed", "spin", "at"] spMixed := by
  refine D.ok scMixed (fun vs H Q E h => ?_) (fun cdv A outer s H vs Q E hr h => ⟨_, PSs.nox (pss_cons (ps_set (i := 3) scMixed.nd rfl (Or.inl rfl) (pe_op op_add (pe_op op_mul (pv 0) pe_int) (pe_op op_mul (pe_op op_mul pe_int (pv 1)) (pv 1))))
    (pss_cons (ps_set (i := 3) scMixed.nd rfl (Or.inl rfl) (pe_op op_mod (pe_callTy call_int1 rfl hInt PyProof.Rows.boot_int (pa_cons (pe_op op_add (pe_op op_add (pv 3) (pe_op op_mul pe_int (pv 2))) (pv 1)) pa_nil)) pe_int))
    (pss_cons (ps_set (i := 3) scMixed.nd rfl (Or.inl rfl) (pe_op op_mod (pe_callTy call_int1 rfl hInt PyProof.Rows.boot_int (pa_cons (pe_op op_add (pe_op op_mul (pv 3) (pv 3)) pe_int) pa_nil)) pe_int))
    (pss_one (ps_ret (pe_op op_mod (pe_callTy call_int1 rfl hInt PyProof.Rows.boot_int (pa_cons (pe_op op_mul (pv 3) pe_int) pa_nil)) pe_int)))))), ?_⟩)
  · obtain ⟨a, b, c, rfl, _⟩ := h
    rfl
  obtain ⟨a, b, c, rfl, b1, b2, q⟩ := h
  refine ⟨_, rfl, _, _, rfl, rfl, .inr (by decide), _, rfl, _, _, rfl, rfl, .inl (by decide), _, rfl, _, _, rfl, rfl, .inr ⟨b1, b2⟩, _, _, rfl, rfl, ?_⟩
  refine ⟨_, rfl, _, rfl, _, _, rfl, rfl, .inl (by decide), _, _, rfl, rfl, _, rfl, _, _, rfl, rfl, .inl ⟨_, rfl, _, _, rfl, rfl, (by show (0 : Int) < 2147483647; decide), ?_⟩⟩
  have m0 := Int.emod_nonneg (a * 69069 + 104729 * b * b + 7919 * c + b) (b := 2147483647) (by decide)
  have m1 := Int.emod_lt_of_pos (a * 69069 + 104729 * b * b + 7919 * c + b) (b := 2147483647) (by decide)
  have small : -(2 ^ 64) < (a * 69069 + 104729 * b * b + 7919 * c + b) % 2147483647 ∧ (a * 69069 + 104729 * b * b + 7919 * c + b) % 2147483647 < 2 ^ 64 := ⟨by omega, by omega⟩
  refine ⟨_, rfl, _, rfl, _, _, rfl, rfl, .inl small, _, _, rfl, rfl, .inl ⟨_, rfl, _, _, rfl, rfl, (by show (0 : Int) < 2147483629; decide), ?_⟩⟩
  refine ⟨_, rfl, _, _, rfl, rfl, .inr (by decide), .inl ⟨_, rfl, _, _, rfl, rfl, (by show (0 : Int) < 2147483587; decide), ?_⟩⟩
  exact q _ (Int.emod_nonneg _ (by decide)) (Int.emod_lt_of_pos _ (by decide))
theorem bits_small {m : Int} (h1 : 1 ≤ m) (h2 : m ≤ 100000) : ((Builtin.Int.intBits m : Nat) : Int) / 28 = 0 := by
  have h := PyProof.Rows.intBits_le (a := m) (k := 17) (by omega)
  omega
theorem ok_draw (D : FnP K "_law_draw" sDraw f fd) {fM : Addr} {fdM : FuncData} (GM : FnOk P w K mg base CX0 1 fM fdM ["seed", "spin", "at"] spMixed) (gM : mg "_law_mixed" = some (.ref fM)) (kM : PySem.W.keepIn K (.ref fM) = true) (bM : Binds K fdM ["seed", "spin", "at"] [])
    (hInt : mg "int" = none) (hRange : mg "range" = none) : FnOk P w K mg base CX0 2 f fd ["dice", "many"] spDraw := by
  refine D.ok scDraw (fun vs H Q E h => ?_) (fun cdv A outer s H vs Q E hr h => ⟨_, PSs.nox (pss_cons (ps_if (pt_cmpR op_gt (pe_ix ix_list (pv 0) pe_int (fun _ _ => rfl)) pe_int (nomark _))
      (pss_cons (ps_set (i := 2) scDraw.nd rfl (Or.inl rfl) (pe_op op_mod (pe_callTy call_int1 rfl hInt PyProof.Rows.boot_int (pa_cons (pe_ix ix_list (pv 0) pe_int (fun _ _ => rfl)) pa_nil)) (pv 1)))
      (pss_cons (ps_asg (pe_op op_fdiv (pe_ix ix_list (pv 0) pe_int (fun _ _ => rfl)) (pv 1)) (pg_sub (pv 0) pe_int set_list))
      (pss_one (ps_ret (pv 2))))) pss_nil)
    (pss_cons (ps_set (i := 3) scDraw.nd rfl (Or.inl rfl) pe_int)
    (pss_cons (ps_for PassesOwn.never rfl (pi_range1 rfl hRange (pa_cons (pe_op op_add pe_int (pe_op op_fdiv (pe_bits (pv 1)) pe_int)) pa_nil)) (pg_name (i := 4) scDraw.nd rfl (Or.inl rfl))
      (pss_cons (ps_asg (pe_op op_add (pe_ix ix_list (pv 0) pe_int (fun _ _ => rfl)) pe_int) (pg_sub (pv 0) pe_int set_list))
      (pss_one (ps_set (i := 3) scDraw.nd rfl (Or.inl rfl) (pe_op op_add (pe_op op_mul (pv 3) pe_int) (pe_call GM hr rfl gM kM bM .nil pass0
        (pa_cons (pe_ix ix_list (pv 0) pe_int (fun _ _ => rfl)) (pa_cons (pe_ix ix_list (pv 0) pe_int (fun _ _ => rfl)) (pa_cons (pe_ix ix_list (pv 0) pe_int (fun _ _ => rfl)) pa_nil)))))))))
    (pss_one (ps_ret (pe_op op_mod (pe_callTy call_int1 rfl hInt PyProof.Rows.boot_int (pa_cons (pv 3) pa_nil)) (pv 1))))))), ?_⟩)
  · obtain ⟨p, m, n, rfl, _⟩ := h
    rfl
  obtain ⟨p, m, n, rfl, ⟨d0, d1, d2, d3, hp, e0, e2, e2n, e1l, e1h⟩, hn, m1, m2, q⟩ := h
  have hs : ∀ {xs : List V} {H' : Hp}, H' p = some (.lst xs) → SqL K H' p xs := fun h => .inl (.inl h)
  refine ⟨_, rfl, p, _, 0, _, rfl, rfl, hs hp, rfl, _, _, rfl, rfl, _, rfl, ?_⟩
  refine ite2 (fun c => ?_) (fun c => ?_)
  · have c0 : 0 < d0 := of_decide_eq_true c
    refine ⟨_, rfl, p, _, 0, _, rfl, rfl, hs hp, rfl, .inl ⟨_, rfl, _, rfl, _, _, rfl, rfl, by omega, ?_⟩⟩
    refine ⟨_, rfl, p, _, 0, _, rfl, rfl, hs hp, rfl, _, rfl, _, _, rfl, rfl, ⟨by omega, by omega⟩, _, rfl, p, _, 0, 0, rfl, rfl, hp, rfl, ?_⟩
    refine ⟨_, rfl, q _ _ (Int.emod_nonneg _ (by omega)) (Int.emod_lt_of_pos _ (by omega)) ⟨d0 / m, d1, d2, d3, upd_same, Int.ediv_nonneg (by omega) (by omega), e2, by omega, e1l, e1h⟩ fun b hb => upd_ne hb⟩
  · have c0 : ¬ 0 < d0 := fun z => c (decide_eq_true z)
    have e1 : (1 : Int) + ((Builtin.Int.intBits m : Nat) : Int) / 28 = 1 := by
      rw [bits_small m1 m2]
      rfl
    refine ⟨_, rfl, _, rfl, _, _, rfl, rfl, ⟨by show (0 : Int) < 28; decide, by show (28 : Int) < 1073741824; decide⟩, _, _, rfl, rfl, _, rfl, ?_⟩
    rw [e1]
    refine ⟨by decide, by decide, ?_⟩
    refine for_range (lo := 0) (n := 1) (fun i σ' H' => (i = 0 ∧ σ' = [some (.ref p), some (.int m), none, some (.int 0), none] ∧ H' = H) ∨
      (i = 1 ∧ ∃ r : Int, σ' = [some (.ref p), some (.int m), none, some (.int r), some (.int 0)] ∧ H' = upd H p (.lst [.int d0, .int d1, .int (d2 + 1), .int d3]))) (.inl ⟨rfl, rfl, rfl⟩) ?_ ?_
    · rintro i σ' H' hi (⟨rfl, rfl, rfl⟩ | ⟨rfl, _⟩)
      · refine ⟨_, rfl, p, _, 2, _, rfl, rfl, hs hp, rfl, _, _, rfl, rfl, _, rfl, p, _, 2, 2, rfl, rfl, hp, rfl, ?_⟩
        have h2 : (upd H' p (.lst [.int d0, .int d1, .int (d2 + 1), .int d3])) p = some (.lst [.int d0, .int d1, .int (d2 + 1), .int d3]) := upd_same
        refine ⟨_, rfl, _, _, rfl, rfl, .inr (by decide), _, rfl, p, _, 1, _, rfl, rfl, hs h2, rfl, _, rfl, p, _, 2, _, rfl, rfl, hs h2, rfl, _, rfl, p, _, 3, _, rfl, rfl, hs h2, rfl, d1, d2 + 1, d3, rfl, by omega, by omega, fun r r0 r1 => ?_⟩
        exact ⟨_, _, rfl, rfl, .inr ⟨rfl, _, rfl, rfl⟩⟩
      · omega
    · rintro σ' H' (⟨z, _⟩ | ⟨_, r, rfl, rfl⟩)
      · omega
      · refine ⟨_, rfl, .inl ⟨_, rfl, _, rfl, _, _, rfl, rfl, by omega, ?_⟩⟩
        exact q _ _ (Int.emod_nonneg _ (by omega)) (Int.emod_lt_of_pos _ (by omega)) ⟨d0, d1, d2 + 1, d3, upd_same, e0, by omega, by omega, e1l, e1h⟩ fun b hb => upd_ne hb
theorem ok_one_of (D : FnP K "_law_one_of" sOneOf f fd) {fM : Addr} {fdM : FuncData} (GM : FnOk P w K mg base CX0 2 fM fdM ["dice", "many"] spDraw) (gM : mg "_law_draw" = some (.ref fM)) (kM : PySem.W.keepIn K (.ref fM) = true) (bM : Binds K fdM ["dice", "many"] []) (hLen : mg "len" = none) :
    FnOk P w K mg base CX0 3 f fd ["dice", "some"] (spOneOf K) := by
  refine D.ok scOneOf (fun vs H Q E h => ?_) (fun cdv A outer s H vs Q E hr h => ⟨_, PSs.nox (pss_one (ps_ret (pe_ix ix_list (pv 1) (pe_call GM hr rfl gM kM bM .nil pass0 (pa_cons (pv 0) (pa_cons (pe_callB call_len rfl hLen PySem.boot_len (pa_cons (pv 1) pa_nil)) pa_nil))) (fun _ _ => rfl)))), ?_⟩)
  · obtain ⟨p, q, xs, n, rfl, _⟩ := h
    rfl
  obtain ⟨p, q, xs, n, rfl, dd, hn, hq, ne, l1, l2, k⟩ := h
  refine ⟨_, rfl, _, rfl, _, rfl, _, _, rfl, .inl ⟨_, .inl (.inl hq), rfl⟩, p, (xs.length : Int), n, rfl, dd, hn, by omega, by omega, fun r H' r0 r1 d' s' => ?_⟩
  have hr' : r.toNat < xs.length := by omega
  refine ⟨q, xs, r, xs[r.toNat], rfl, rfl, .inl (.inl (by rw [s' q ne]; exact hq)), at_of (j := r.toNat) (by omega) (List.getElem?_eq_getElem hr'), k _ H' (List.getElem_mem hr') d' s'⟩
end
end K01

/-! words that are drawn -/
namespace K01
open PySem PySem.Spec PyProof.Rows L2 ErrR
abbrev sWord : Stmt := topS 36
theorem scWord : FnScope ["dice", "size", "spin"] ["dice"] (defScope sWord) := ⟨rfl, rfl, rfl, by decide +kernel, rfl, by decide +kernel, by decide +kernel⟩
def lower (l : List Nat) : Prop := ∀ c ∈ l, 97 ≤ c ∧ c ≤ 122
/-- one to eight letters from a to z -/
structure IsWord (z : Str) : Prop where
  few : 1 ≤ (TL.tl z).length ∧ (TL.tl z).length ≤ 8
  low : lower (TL.tl z)
theorem joined_nil : ∀ ls : List (List Nat), TL.joinL [] ls = ls.flatten
  | [] => rfl
  | [p] => by simp [TL.joinL]
  | p :: q :: r => by
    show p ++ ([] ++ TL.joinL [] (q :: r)) = _
    rw [joined_nil (q :: r)]
    simp
/-- single letters -/
structure Ones1 (ys : List Str) : Prop where
  one : ∀ y ∈ ys, (TL.tl y).length = 1 ∧ lower (TL.tl y)
theorem Ones1.word {ys : List Str} (o : Ones1 ys) (h1 : 1 ≤ ys.length) (h8 : ys.length ≤ 8) : IsWord (Txt.join (⟨#[]⟩ : Str) ys) := by
  have e : TL.tl (Txt.join (⟨#[]⟩ : Str) ys) = (ys.map TL.tl).flatten := by
    rw [TL.join_eq, TL.tl_join]
    exact joined_nil _
  have len : ∀ zs : List Str, (∀ y ∈ zs, (TL.tl y).length = 1) → ((zs.map TL.tl).flatten).length = zs.length := by
    intro zs
    induction zs with
    | nil => intro _; rfl
    | cons a r ih =>
      intro h
      rw [List.map_cons, List.flatten_cons, List.length_append, h a (List.mem_cons_self ..), ih fun y hy => h y (List.mem_cons_of_mem _ hy), List.length_cons]
      omega
  have l := len ys fun y hy => (o.one y hy).1
  refine ⟨by rw [e, l]; exact ⟨h1, h8⟩, fun c hc => ?_⟩
  rw [e] at hc
  obtain ⟨p, hp, hc2⟩ := List.mem_flatten.mp hc
  obtain ⟨y, hy, rfl⟩ := List.mem_map.mp hp
  exact (o.one y hy).2 c hc2
theorem Ones1.sum : ∀ {ys : List Str}, Ones1 ys → (ys.map (·.length)).sum = ys.length
  | [], _ => rfl
  | y :: r, o => by
    have ih := Ones1.sum (ys := r) ⟨fun z hz => o.one z (List.mem_cons_of_mem _ hz)⟩
    have h1 : y.length = 1 := (o.one y (List.mem_cons_self ..)).1
    rw [List.map_cons, List.sum_cons, ih, h1, List.length_cons]
    omega
theorem at_any {α : Type} {xs : List α} {z : Int} {j : Nat} {v : α} (e : z = (j : Int)) (h : xs[j]? = some v) : atI xs z = some v := by
  rw [e]
  exact atI_nat h
theorem five_words {x : V} (h : x ∈ ([.str "send", .str "take", .str "lie", .str "to", .str "from"] : List V)) : ∃ z, x = .str z ∧ IsWord z := by
  simp only [List.mem_cons, List.not_mem_nil, or_false] at h
  rcases h with rfl | rfl | rfl | rfl | rfl <;> exact ⟨_, rfl, ⟨by decide +kernel, by decide +kernel⟩, fun c hc => by revert c; decide +kernel⟩
theorem abc_at {c : Nat} : c ∈ TL.tl ("abcdefghijklmnopqrstuvwxyz" : Str) → 97 ≤ c ∧ c ≤ 122 := by
  revert c
  decide +kernel
/-- a word; the dice have gone on -/
def spWord : Sp := fun vs H Q _ => ∃ (p : Addr) (n : Nat), vs = [.ref p] ∧ Dice H p n ∧ n ≤ 900000 ∧ ∀ (z : Str) (H' : Hp), IsWord z → Dice H' p (n + 11) → But p H H' → Q (.str z) H'
theorem Dice.more {H : Hp} {p : Addr} {n m : Nat} (d : Dice H p n) (h : n ≤ m) : Dice H p m := by
  obtain ⟨d0, d1, d2, d3, a, b, c, e, e2⟩ := d.ex
  exact ⟨d0, d1, d2, d3, a, b, c, by omega, e2⟩
theorem Dice.same {H H' : Hp} {p : Addr} {n : Nat} (d : Dice H p n) (s : Same H H') : Dice H' p n := by
  obtain ⟨d0, d1, d2, d3, a, b⟩ := d.ex
  exact ⟨d0, d1, d2, d3, s _ _ a, b⟩
theorem Dice.there {H : Hp} {p : Addr} {n : Nat} (d : Dice H p n) : ∃ xs, H p = some (.lst xs) := by
  obtain ⟨d0, d1, d2, d3, a, b⟩ := d.ex
  exact ⟨_, a⟩
theorem But.of_eq {p : Addr} {H H' : Hp} (s : ∀ b, b ≠ p → H' b = H b) : But p H H' := fun b o n h => by rw [s b n]; exact h
section
variable {P : Program} {w : World} {K : PySem.W.Frag} {mg : Str → Option Value} {base : Heap} {f : Addr} {fd : FuncData}
theorem ok_word (D : FnP K "_law_word" sWord f fd) {fM fO : Addr} {fdM fdO : FuncData} (GM : FnOk P w K mg base CX0 2 fM fdM ["dice", "many"] spDraw) (gM : mg "_law_draw" = some (.ref fM)) (kM : PySem.W.keepIn K (.ref fM) = true) (bM : Binds K fdM ["dice", "many"] [])
    (GO : FnOk P w K mg base CX0 3 fO fdO ["dice", "some"] (spOneOf K)) (gO : mg "_law_one_of" = some (.ref fO)) (kO : PySem.W.keepIn K (.ref fO) = true) (bO : Binds K fdO ["dice", "some"] []) (hRange : mg "range" = none) :
    FnOk P w K mg base CX0 4 f fd ["dice"] spWord := by
  refine D.ok scWord (fun vs H Q E h => ?_) (fun cdv A outer s H vs Q E hr h => ⟨_, PSs.nox (pss_cons
    (ps_if (pt_cmpR op_eq (pe_call GM (hr.mono (by decide)) rfl gM kM bM .nil pass0 (pa_cons (pv 0) (pa_cons pe_int pa_nil))) pe_int (nomark _)) (pss_one (ps_ret (pe_call GO hr rfl gO kO bO .nil pass0 (pa_cons (pv 0) (pa_cons (pe_lst (pa_cons pe_str (pa_cons pe_str (pa_cons pe_str (pa_cons pe_str (pa_cons pe_str pa_nil)))))) pa_nil))))) pss_nil)
    (pss_cons (ps_set (i := 1) scWord.nd rfl (Or.inl rfl) (pe_op op_add pe_int (pe_call GM (hr.mono (by decide)) rfl gM kM bM .nil pass0 (pa_cons (pv 0) (pa_cons (pe_ifExp (pt_cmpR op_eq (pe_call GM (hr.mono (by decide)) rfl gM kM bM .nil pass0 (pa_cons (pv 0) (pa_cons pe_int pa_nil))) pe_int (nomark _)) pe_int pe_int) pa_nil)))))
    (pss_one (ps_ret (pe_join pe_str (pe_lc (own := [("spin", 2)]) (g := gName 2) (tt := tYes) rfl scWord.nd (pi_range1 rfl hRange (pa_cons (pv 1) pa_nil)) (blkOk_by (N := ["dice", "size", "spin"]) (sc := defScope sWord) (by decide +kernel)) (fun _ _ _ _ _ => pg_name (i := 2) scWord.nd rfl (Or.inl rfl)) (fun _ _ _ _ _ => pts_nil) (fun _ _ _ _ _ => pe_ix ix_str pe_str (pe_call GM (hr.mono (by decide)) rfl gM kM bM .nil pass0 (pa_cons (pv 0) (pa_cons pe_int pa_nil))) (fun _ _ => rfl)))))))), ?_⟩)
  · obtain ⟨p, n, rfl, _⟩ := h
    rfl
  obtain ⟨p, n, rfl, dd, hn, k⟩ := h
  refine if_op ?_
  refine ⟨_, rfl, p, 8, n, rfl, dd, by omega, by decide, by decide, fun r H1 r0 r1 d1 s1 => ?_⟩
  refine ⟨rfl, _, rfl, ?_⟩
  refine ite2 (fun _ => ?_) (fun _ => ?_)
  · refine ⟨_, rfl, (by show 5 ≤ sizeLine; exact Nat.le_of_lt (small1000 (by decide))), fun q hq => ?_⟩
    have s2 : Same H1 (upd H1 q (.lst [.str "send", .str "take", .str "lie", .str "to", .str "from"])) := fun b o e => by
      rw [upd_ne (ne_of_none e hq)]
      exact e
    have ne : q ≠ p := by
      obtain ⟨xs, e⟩ := d1.there
      exact Ne.symm (ne_of_none e hq)
    refine ⟨p, q, _, n + 1, rfl, d1.same s2, by omega, upd_same, ne, by decide, by decide, fun x H3 hx d3 s3 => ?_⟩
    obtain ⟨z, rfl, hz⟩ := five_words hx
    exact k z H3 hz (d3.more (by omega)) ((But.of_eq s1).trans ((But.of_same s2).trans (But.of_eq s3)))
  · -- the size
    have rest : ∀ (m : Int) (H2 : Hp), 3 ≤ m → m ≤ 8 → Dice H2 p (n + 2) → But p H1 H2 → spDraw [.ref p, .int m] H2 (fun y H3 => ∃ i j : Int, V.int 1 = .int i ∧ y = .int j ∧ gName 1 (.int (i + j)) [some (.ref p), none, none] H3
        (tRet (tM1 (fun x xs H Q => ∃ a p, ∃ ys : List Str, x = .str a ∧ xs = [.ref p] ∧ (SqL K H p (ys.map V.str) ∨ SqT K H p (ys.map V.str)) ∧ (ys.map (·.length)).sum + ys.length * a.length ≤ 16777216 ∧ Q (.str (Txt.join a ys)) H) (tC (.str (Str.ofString "")))
          (tLc (iRng1 (tCons (tVar 1) tNil)) (gName 2) tYes (tOp rIxS (tC (.str "abcdefghijklmnopqrstuvwxyz")) (tCall spDraw [] E0 (tCons (tVar 0) (tCons (tC (.int 26)) tNil)))) [2])) { nx := fun _ H' => Q .non H', rt := Q })) E0 := by
      intro m H2 m3 m8 d2 b2
      refine ⟨p, m, n + 2, rfl, d2, by omega, by omega, by omega, fun r H3 r0 r1 d3 s3 => ⟨1, r, rfl, rfl, ?_⟩⟩
      refine ⟨⟨_, rfl⟩, _, rfl, _, rfl, by omega, by omega, fun L hL => ?_⟩
      have b3 : But p H H3 := (But.of_eq s1).trans (b2.trans (But.of_eq s3))
      have ne : L ≠ p := by
        obtain ⟨xs, e⟩ := d3.there
        exact Ne.symm (ne_of_none e hL)
      have hLH : H L = none := by
        cases z : H L with
        | none => rfl
        | some o =>
          rw [b3 L o ne z] at hL
          cases hL
      refine lc_range (n := (1 + r).toNat) (fun i H' => ∃ ys : List Str, H' L = some (.lst (ys.map V.str)) ∧ ys.length = i ∧ Ones1 ys ∧ Dice H' p (n + 3 + i) ∧ But p H H') ⟨[], upd_same, rfl, ⟨fun y hy => by simp at hy⟩, d3.same (fun b o e => by rw [upd_ne (ne_of_none e hL)]; exact e),
        b3.trans (fun b o _ e => by rw [upd_ne (ne_of_none e hL)]; exact e)⟩ ?_ ?_
      · rintro i H' hi ⟨ys, hl, hy, o, d, b⟩
        refine ⟨rfl, ?_⟩
        refine yes_of (te := tOp rIxS (tC (.str "abcdefghijklmnopqrstuvwxyz")) (tCall spDraw [] E0 (tCons (tVar 0) (tCons (tC (.int 26)) tNil)))) ?_
        refine ⟨_, rfl, p, 26, n + 3 + i, rfl, d, by omega, by decide, by decide, fun c H4 c0 c1 d4 s4 => ?_⟩
        have hc : c.toNat < (TL.tl ("abcdefghijklmnopqrstuvwxyz" : Str)).length := by
          have : (TL.tl ("abcdefghijklmnopqrstuvwxyz" : Str)).length = 26 := by decide +kernel
          omega
        have hl4 : H4 L = some (.lst (ys.map V.str)) := by
          rw [s4 L ne]
          exact hl
        refine ⟨_, c, (TL.tl ("abcdefghijklmnopqrstuvwxyz" : Str))[c.toNat], rfl, rfl, by show ("abcdefghijklmnopqrstuvwxyz" : Str).length ≤ sizeLine; exact Nat.le_of_lt (small1000 (by decide +kernel)), ?_, _, hl4, by rw [List.length_map]; exact small1000 (by omega), ?_⟩
        · exact at_any (j := c.toNat) (by omega) (List.getElem?_eq_getElem hc)
        · refine ⟨ys ++ [⟨#[(TL.tl ("abcdefghijklmnopqrstuvwxyz" : Str))[c.toNat]]⟩], by rw [upd_same, List.map_append] <;> rfl, by rw [List.length_append, hy] <;> rfl, ⟨fun y hy2 => ?_⟩, ?_, ?_⟩
          · rcases List.mem_append.mp hy2 with h | h
            · exact o.one y h
            · obtain rfl := List.mem_singleton.mp h
              refine ⟨rfl, fun c2 hc2 => ?_⟩
              obtain rfl : c2 = _ := List.mem_singleton.mp hc2
              exact abc_at (List.getElem_mem hc)
          · obtain ⟨e0, e1, e2, e3, h4, h5, h6, h7⟩ := d4.ex
            exact ⟨e0, e1, e2, e3, by rw [upd_ne (Ne.symm ne)]; exact h4, h5, h6, h7⟩
          · exact fun b0 o0 nb e => by
              rw [upd_ne (ne_of_none e hLH)]
              exact But.of_eq s4 b0 o0 nb (b b0 o0 nb e)
      · rintro H' ⟨ys, hl, hy, o, d, b⟩
        refine ⟨_, L, ys, rfl, rfl, .inl (.inl (.inl hl)), ?_, ?_⟩
        · have e0 : (Str.ofString "").length = 0 := by decide +kernel
          have e1 := o.sum
          rw [e0, e1]
          omega
        · exact k _ H' (o.word (by omega) (by omega)) (d.more (by omega)) b
    refine ⟨_, rfl, _, rfl, p, 3, n + 1, rfl, d1, by omega, by decide, by decide, fun r2 H2 _ _ d2 s2 => ⟨rfl, _, rfl, ?_⟩⟩
    refine ite2 (fun _ => ?_) (fun _ => ?_)
    · exact rest 8 H2 (by decide) (by decide) d2 (But.of_eq s2)
    · exact rest 3 H2 (by decide) (by decide) d2 (But.of_eq s2)
end
end K01

/-! the dice are made of the script's first number -/
namespace K01
open PySem PySem.Spec PyProof.Rows L2 ErrR
abbrev sPurse : Stmt := topS 37
abbrev sPurses : Stmt := topS 38
theorem scPurse : FnScope ["script", "at", "seed"] ["script", "at"] (defScope sPurse) := ⟨rfl, rfl, rfl, by decide +kernel, rfl, by decide +kernel, by decide +kernel⟩
theorem scPurses : FnScope ["script", "few", "at"] ["script", "few"] (defScope sPurses) := ⟨rfl, rfl, rfl, by decide +kernel, rfl, by decide +kernel, by decide +kernel⟩
def CPowW (i j : Int) : Prop := 0 ≤ j ∧ (Builtin.Int.intBits i : Int) * j ≤ 2 ^ 27
theorem op_powW {X : Cx} : OpR X (binaryOp .Pow) (rI CPowW fun i j => .int (i ^ j.toNat)) := opI fun _ _ _ _ _ _ _ hc q => PyProof.Rows.pow_int hc.1 hc.2 q
/-- new dice -/
def spPurse (K : PySem.W.Frag) : Sp := fun vs H Q _ => ∃ (a : Addr) (ns : List Int) (t : Int), vs = [.ref a, .int t] ∧ SqL K H a (ns.map V.int) ∧ ∀ (p : Addr) (H' : Hp), H p = none → Dice H' p 0 → Same H H' → Q (.ref p) H'
def spPurses (K : PySem.W.Frag) : Sp := fun vs H Q _ => ∃ (a : Addr) (ns : List Int), vs = [.ref a, .int 1] ∧ SqL K H a (ns.map V.int) ∧ ns.length ≤ 1000 ∧ ∀ (l p : Addr) (H' : Hp), H' l = some (.lst [.ref p]) → Dice H' p 0 → Same H H' → Q (.ref l) H'
theorem same_new {H : Hp} {p : Addr} {o : HO} (h : H p = none) : Same H (upd H p o) := fun b u e => by
  rw [upd_ne (ne_of_none e h)]
  exact e
section
variable {P : Program} {w : World} {K : PySem.W.Frag} {mg : Str → Option Value} {base : Heap} {f : Addr} {fd : FuncData}
theorem ok_purse (D : FnP K "_law_purse" sPurse f fd) (hSum : mg "sum" = none) (hInt : mg "int" = none) (hMax : mg "max" = none) : FnOk P w K mg base CX0 1 f fd ["script", "at"] (spPurse K) := by
  refine D.ok scPurse (fun vs H Q E h => ?_) (fun cdv A outer s H vs Q E hr h => ⟨_, PSs.nox (pss_cons
    (ps_set (i := 2) scPurse.nd rfl (Or.inl rfl) (pe_callB (cr_sum rfl) rfl hSum PyProof.Rows.boot_sum (pa_cons (pe_slice sl_list (pv 0) (po_some (pv 1)) (po_some (pe_op op_add (pv 1) pe_int))) pa_nil)))
    (pss_one (ps_ret (pe_lst (pa_cons (pe_op op_mod (pe_callTy call_int1 rfl hInt PyProof.Rows.boot_int (pa_cons (pe_callB (call_max2 rfl) rfl hMax PyProof.Rows.boot_max (pa_cons (pe_op op_sub (pv 2) (pe_op op_pow pe_int pe_int)) (pa_cons pe_int pa_nil))) pa_nil)) (pe_op op_powW (pe_op op_pow pe_int pe_int) pe_int))
      (pa_cons (pe_op op_mod (pe_callTy call_int1 rfl hInt PyProof.Rows.boot_int (pa_cons (pv 2) pa_nil)) pe_int) (pa_cons pe_int (pa_cons (pv 1) pa_nil)))))))), ?_⟩)
  · obtain ⟨a, ns, t, rfl, _⟩ := h
    rfl
  obtain ⟨a, ns, t, rfl, hs, k⟩ := h
  refine ⟨_, rfl, _, rfl, t, rfl, _, rfl, _, _, rfl, rfl, _, rfl, a, _, rfl, hs, fun c hc => ?_⟩
  refine ⟨c, (ns.drop (HT.sIx ns.length 0 (some t))).take (HT.sIx ns.length ns.length (some (t + 1)) - HT.sIx ns.length 0 (some t)), rfl, .inl (.inl ?_), ?_⟩
  · rw [upd_same]
    unfold cutV
    rw [List.map_take, List.map_drop, List.length_map] <;> rfl
  generalize ((ns.drop (HT.sIx ns.length 0 (some t))).take (HT.sIx ns.length ns.length (some (t + 1)) - HT.sIx ns.length 0 (some t))).sum = seed
  refine ⟨_, rfl, _, _, rfl, rfl, ⟨by decide, by decide, by decide⟩, _, _, rfl, rfl, _, _, rfl, .inl ⟨_, rfl, _, _, rfl, rfl, ⟨by decide, by decide, by decide⟩, _, _, rfl, rfl, ⟨by decide, by decide +kernel⟩, _, _, rfl, rfl, (by show (0 : Int) < ((10 : Int) ^ (60 : Int).toNat) ^ (8 : Int).toNat; decide +kernel), ?_⟩⟩
  refine ⟨_, rfl, .inl ⟨_, rfl, _, _, rfl, rfl, (by show (0 : Int) < 2147483629; decide), _, rfl, ?_⟩⟩
  refine ⟨by show 4 ≤ sizeLine; exact Nat.le_of_lt (small1000 (by decide)), fun p hp => ?_⟩
  have np : H p = none := (same_new hc).free hp
  exact k p _ np ⟨_, _, _, _, upd_same, Int.emod_nonneg _ (by decide +kernel), by decide, by decide, Int.emod_nonneg _ (by decide), Int.emod_lt_of_pos _ (by decide)⟩ ((same_new hc).trans (same_new hp))
theorem ok_purses (D : FnP K "_law_purses" sPurses f fd) {fM : Addr} {fdM : FuncData} (GM : FnOk P w K mg base CX0 1 fM fdM ["script", "at"] (spPurse K)) (gM : mg "_law_purse" = some (.ref fM)) (kM : PySem.W.keepIn K (.ref fM) = true) (bM : Binds K fdM ["script", "at"] [])
    (hLen : mg "len" = none) (hMin : mg "min" = none) (hMax : mg "max" = none) (hRange : mg "range" = none) : FnOk P w K mg base CX0 2 f fd ["script", "few"] (spPurses K) := by
  refine D.ok scPurses (fun vs H Q E h => ?_) (fun cdv A outer s H vs Q E hr h => ⟨_, PSs.nox (pss_one (ps_ret
    (pe_lc (own := [("at", 2)]) (g := gName 2) (tt := tYes) rfl scPurses.nd (pi_range1 rfl hRange (pa_cons (pe_callB (call_max2 rfl) rfl hMax PyProof.Rows.boot_max (pa_cons pe_int (pa_cons (pe_callB (call_min2 rfl) rfl hMin PyProof.Rows.boot_min
        (pa_cons (pv 1) (pa_cons (pe_callB call_len rfl hLen PySem.boot_len (pa_cons (pv 0) pa_nil)) pa_nil))) pa_nil))) pa_nil))
      (blkOk_by (N := ["script", "few", "at"]) (sc := defScope sPurses) (by decide +kernel)) (fun _ _ _ _ _ => pg_name (i := 2) scPurses.nd rfl (Or.inl rfl)) (fun _ _ _ _ _ => pts_nil) (fun _ _ _ _ _ => pe_call GM hr rfl gM kM bM .nil pass0 (pa_cons (pv 0) (pa_cons (pv 2) pa_nil)))))), ?_⟩)
  · obtain ⟨a, ns, rfl, _⟩ := h
    rfl
  obtain ⟨a, ns, rfl, hs, hl, k⟩ := h
  refine ⟨_, rfl, _, rfl, _, _, rfl, .inl ⟨_, hs, rfl⟩, _, _, rfl, _, _, rfl, _, rfl, ?_⟩
  have e : ∀ L : Int, (if (if L < 1 then L else 1) > 1 then (if L < 1 then L else 1) else (1 : Int)) = 1 := fun L => by
    by_cases h : L < 1
    · rw [if_pos h, if_neg (by omega)]
    · rw [if_neg h, if_neg (by decide)]
  rw [e]
  refine ⟨by decide, by decide, fun D hD => ?_⟩
  refine lc_range (n := 1) (fun i H' => (i = 0 ∧ H' D = some (.lst []) ∧ Same H H') ∨ (i = 1 ∧ ∃ p, H' D = some (.lst [.ref p]) ∧ Dice H' p 0 ∧ Same H H')) (.inl ⟨rfl, upd_same, same_new hD⟩) ?_ ?_
  · rintro i H' hi (⟨rfl, h1, h2⟩ | ⟨rfl, _⟩)
    · refine ⟨rfl, ?_⟩
      refine yes_of (te := tCall (spPurse K) [] E0 (tCons (tVar 0) (tCons (tVar 2) tNil))) ?_
      refine ⟨_, rfl, _, rfl, a, ns, _, rfl, h2.seq hs, fun p H4 hp d4 s4 => ?_⟩
      have h4 := s4 _ _ h1
      have ne : p ≠ D := fun z => by
        rw [z, h1] at hp
        cases hp
      refine ⟨_, h4, small1000 (by decide), .inr ⟨rfl, p, upd_same, ?_, fun b o e => ?_⟩⟩
      · obtain ⟨d0, d1, d2, d3, x1, x2⟩ := d4.ex
        exact ⟨d0, d1, d2, d3, by rw [upd_ne ne]; exact x1, x2⟩
      · rw [upd_ne (ne_of_none e hD)]
        exact s4 _ _ (h2 _ _ e)
    · omega
  · rintro H' (⟨z, _⟩ | ⟨_, p, h1, h2, h3⟩)
    · omega
    · exact k D p H' h1 h2 h3
end
end K01

/-! the things that the errors keep -/
namespace K01
open PySem PySem.Spec PyProof.Rows L2 ErrR
/-- data that is told in a short text -/
structure Brief (d : PyData) (h w : Nat) : Prop where
  show_ : d.showable = true
  deep : d.depth ≤ h
  short : d.leavesShort 13 = true
  light : d.weight ≤ w
structure BriefL (ds : List PyData) (h w : Nat) : Prop where
  show_ : PyData.showableAll ds = true
  deep : PyData.depthAll ds ≤ h
  short : PyData.leavesShortAll 13 ds = true
  light : PyData.weightAll ds ≤ w
theorem Brief.shown {d : PyData} {h w : Nat} (b : Brief d h w) (hw : w ≤ 100000) : d.shown.length ≤ sizeLine := by
  have z := PyData.shown_le 13 (by decide) d b.short
  have := b.light
  rw [sizeLine_eq]
  omega
theorem brief_none : Brief .none 0 0 := ⟨rfl, Nat.le_refl _, rfl, Nat.le_refl _⟩
theorem brief_bool (b : Bool) : Brief (.bool b) 0 0 := ⟨rfl, Nat.le_refl _, rfl, Nat.le_refl _⟩
theorem brief_int {i : Int} (h : i.natAbs < 10 ^ 12) : Brief (.int i) 0 100 := by
  have l : i.natAbs.log2 < 40 := by
    by_cases z : i.natAbs = 0
    · rw [z]
      decide
    · exact (Nat.log2_lt z).2 (Nat.lt_trans h (by decide))
  refine ⟨decide_eq_true (by omega), Nat.le_refl _, decide_eq_true (PyData.shown_int_le h), ?_⟩
  simp only [PyData.weight]
  split <;> omega
theorem brief_str {z : Str} (h : ∀ c ∈ z.cps.toList, c < 16 ^ 8) (n : Nat) (hn : z.cps.size ≤ n) : Brief (.str z) 0 n :=
  ⟨rfl, Nat.le_refl _, List.all_eq_true.mpr fun c hc => decide_eq_true (h c hc), hn⟩
theorem brief_word {z : Str} (h : IsWord z) : Brief (.str z) 0 8 := brief_str (fun c hc => by
  have := (h.low c hc).2
  omega) 8 h.few.2
theorem briefL_nil : BriefL [] 0 0 := ⟨rfl, Nat.le_refl _, rfl, Nat.le_refl _⟩
theorem briefL_cons {d : PyData} {ds : List PyData} {h1 h2 w1 w2 : Nat} (a : Brief d h1 w1) (b : BriefL ds h2 w2) : BriefL (d :: ds) (max h1 h2) (w1 + 1 + w2) := by
  refine ⟨?_, ?_, ?_, ?_⟩
  · simp only [PyData.showableAll, a.show_, b.show_, Bool.and_true]
  · simp only [PyData.depthAll]
    have := a.deep
    have := b.deep
    omega
  · simp only [PyData.leavesShortAll, a.short, b.short, Bool.and_true]
  · simp only [PyData.weightAll]
    have := a.light
    have := b.light
    omega
theorem brief_list {ds : List PyData} {h w : Nat} (b : BriefL ds h w) : Brief (.list ds) (h + 1) w := by
  refine ⟨?_, ?_, ?_, ?_⟩
  · simp only [PyData.showable, b.show_]
  · simp only [PyData.depth]
    have := b.deep
    omega
  · simp only [PyData.leavesShort, b.short]
  · simp only [PyData.weight]
    exact b.light
theorem brief_tuple {ds : List PyData} {h w : Nat} (b : BriefL ds h w) : Brief (.tuple ds) (h + 1) w := by
  refine ⟨?_, ?_, ?_, ?_⟩
  · simp only [PyData.showable, b.show_]
  · simp only [PyData.depth]
    have := b.deep
    omega
  · simp only [PyData.leavesShort, b.short]
  · simp only [PyData.weight]
    exact b.light
structure BriefK (kvs : List (PyData × PyData)) (h w : Nat) : Prop where
  show_ : PyData.showableKv kvs = true
  deep : PyData.depthKv kvs ≤ h
  short : PyData.leavesShortKv 13 kvs = true
  light : PyData.weightKv kvs ≤ w
theorem briefK_nil : BriefK [] 0 0 := ⟨rfl, Nat.le_refl _, rfl, Nat.le_refl _⟩
theorem briefK_cons {k d : PyData} {r : List (PyData × PyData)} {h0 h1 h2 w0 w1 w2 : Nat} (c : Brief k h0 w0) (a : Brief d h1 w1) (b : BriefK r h2 w2) : BriefK ((k, d) :: r) (max (max h0 h1) h2) (w0 + w1 + 2 + w2) := by
  refine ⟨?_, ?_, ?_, ?_⟩
  · simp only [PyData.showableKv, c.show_, a.show_, b.show_, Bool.and_true]
  · simp only [PyData.depthKv]
    have := a.deep
    have := b.deep
    have := c.deep
    omega
  · simp only [PyData.leavesShortKv, c.short, a.short, b.short, Bool.and_true]
  · simp only [PyData.weightKv]
    have := a.light
    have := b.light
    have := c.light
    omega
theorem brief_dict {kvs : List (PyData × PyData)} {h w : Nat} (b : BriefK kvs h w) : Brief (.dict kvs) (h + 1) w := by
  refine ⟨?_, ?_, ?_, ?_⟩
  · simp only [PyData.showable, b.show_]
  · simp only [PyData.depth]
    have := b.deep
    omega
  · simp only [PyData.leavesShort, b.short]
  · simp only [PyData.weight]
    exact b.light
theorem told_of {K : PySem.W.Frag} {H : Hp} {x : V} {d : PyData} {h w : Nat} (q : Dx K H x d) (b : Brief d h w) (hh : h ≤ 30 := by decide) (hw : w ≤ 100000 := by decide) : Told K H x d.shown :=
  ⟨d, q, b.show_, Nat.le_trans b.deep hh, b.shown hw, rfl⟩
/-- one of the things; z the word; H0 the heap ahead of its making; dn: has it been changed -/
inductive Thing (H0 H : Hp) (z : Str) (dn : Bool) : V → Prop
  | non : Thing H0 H z dn .non
  | bl (b : Bool) : Thing H0 H z dn (.bl b)
  | int (i : Int) (h : i.natAbs < 10 ^ 12) : Thing H0 H z dn (.int i)
  | str : Thing H0 H z dn (.str z)
  | says {t : Addr} (h : H t = some (.tup [.str "says", .str z, .int 1, .int 2])) : Thing H0 H z dn (.ref t)
  | pair {t l : Addr} {more : List V} (ht : H t = some (.tup [.str z, .ref l])) (hl : H l = some (.lst (.str z :: more))) (nl : H0 l = none) (sl : l ≠ sysModules) (hm : dn = false ∧ more = [] ∨ dn = true ∧ more = [.str "later"]) : Thing H0 H z dn (.ref t)
  | dict {t l : Addr} {more : List V} {rest : List (Key × V)} (ht : H t = some (.dK ((.inr z, .ref l) :: rest))) (hl : H l = some (.lst (.str z :: more))) (nt : H0 t = none) (nl : H0 l = none) (sl : l ≠ sysModules)
      (hm : dn = false ∧ more = [] ∧ rest = [] ∨ dn = true ∧ more = [.str "later"] ∧ rest = [(.inr "LATER", .int 1)]) : Thing H0 H z dn (.ref t)
  | one {t : Addr} {more : List V} (ht : H t = some (.lst (.str z :: more))) (nt : H0 t = none) (st : t ≠ sysModules) (hm : dn = false ∧ more = [] ∨ dn = true ∧ more = [.str "later"]) : Thing H0 H z dn (.ref t)
  | two {t l d : Addr} {more : List V} (ht : H t = some (.lst (.ref l :: .ref d :: more))) (hl : H l = some (.lst [.str z])) (hd : H d = some (.dK [(.inr "odd", .str z)])) (nt : H0 t = none) (st : t ≠ sysModules) (sl : l ≠ sysModules)
      (hm : dn = false ∧ more = [] ∨ dn = true ∧ more = [.str "later"]) : Thing H0 H z dn (.ref t)
theorem brief_later : Brief (.str "later") 0 8 := brief_str (by decide +kernel) 8 (by decide +kernel)
theorem thing_told {K : PySem.W.Frag} {H0 H : Hp} {z : Str} {x : V} (hz : IsWord z) {dn : Bool} (t : Thing H0 H z dn x) : ∃ y, Told K H x y := by
  cases t with
  | non => exact ⟨_, told_of .non brief_none⟩
  | bl b => exact ⟨_, told_of (.bl b) (brief_bool b)⟩
  | int i h => exact ⟨_, told_of (.int i) (brief_int h)⟩
  | str => exact ⟨_, told_of (.str z) (brief_word hz)⟩
  | says h =>
    exact ⟨_, told_of (.tup (.inl (.inl h)) (.cons (.str _) (.cons (.str _) (.cons (.int _) (.cons (.int _) .nil))))) (brief_tuple (briefL_cons (brief_str (by decide +kernel) 8 (by decide +kernel)) (briefL_cons (brief_word hz) (briefL_cons (brief_int (by decide)) (briefL_cons (brief_int (by decide)) briefL_nil)))))⟩
  | pair ht hl nl sl hm =>
    rcases hm with ⟨_, rfl⟩ | ⟨_, rfl⟩
    · exact ⟨_, told_of (.tup (.inl (.inl ht)) (.cons (.str _) (.cons (.lst (.inl (.inl hl)) sl (.cons (.str _) .nil)) .nil))) (brief_tuple (briefL_cons (brief_word hz) (briefL_cons (brief_list (briefL_cons (brief_word hz) briefL_nil)) briefL_nil)))⟩
    · exact ⟨_, told_of (.tup (.inl (.inl ht)) (.cons (.str _) (.cons (.lst (.inl (.inl hl)) sl (.cons (.str _) (.cons (.str _) .nil))) .nil))) (brief_tuple (briefL_cons (brief_word hz) (briefL_cons (brief_list (briefL_cons (brief_word hz) (briefL_cons brief_later briefL_nil))) briefL_nil)))⟩
  | dict ht hl nt nl sl hm =>
    rcases hm with ⟨_, rfl, rfl⟩ | ⟨_, rfl, rfl⟩
    · exact ⟨_, told_of (.dict ht (.cons (.lst (.inl (.inl hl)) sl (.cons (.str _) .nil)) .nil)) (brief_dict (briefK_cons (brief_word hz) (brief_list (briefL_cons (brief_word hz) briefL_nil)) briefK_nil))⟩
    · exact ⟨_, told_of (.dict ht (.cons (.lst (.inl (.inl hl)) sl (.cons (.str _) (.cons (.str _) .nil))) (.cons (.int _) .nil)))
        (brief_dict (briefK_cons (brief_word hz) (brief_list (briefL_cons (brief_word hz) (briefL_cons brief_later briefL_nil))) (briefK_cons (brief_str (by decide +kernel) 8 (by decide +kernel)) (brief_int (by decide)) briefK_nil)))⟩
  | one ht nt st hm =>
    rcases hm with ⟨_, rfl⟩ | ⟨_, rfl⟩
    · exact ⟨_, told_of (.lst (.inl (.inl ht)) st (.cons (.str _) .nil)) (brief_list (briefL_cons (brief_word hz) briefL_nil))⟩
    · exact ⟨_, told_of (.lst (.inl (.inl ht)) st (.cons (.str _) (.cons (.str _) .nil))) (brief_list (briefL_cons (brief_word hz) (briefL_cons brief_later briefL_nil)))⟩
  | two ht hl hd nt st sl hm =>
    rcases hm with ⟨_, rfl⟩ | ⟨_, rfl⟩
    · exact ⟨_, told_of (.lst (.inl (.inl ht)) st (.cons (.lst (.inl (.inl hl)) sl (.cons (.str _) .nil)) (.cons (.dict hd (.cons (.str _) .nil)) .nil)))
        (brief_list (briefL_cons (brief_list (briefL_cons (brief_word hz) briefL_nil)) (briefL_cons (brief_dict (briefK_cons (brief_str (by decide +kernel) 8 (by decide +kernel)) (brief_word hz) briefK_nil)) briefL_nil)))⟩
    · exact ⟨_, told_of (.lst (.inl (.inl ht)) st (.cons (.lst (.inl (.inl hl)) sl (.cons (.str _) .nil)) (.cons (.dict hd (.cons (.str _) .nil)) (.cons (.str _) .nil))))
        (brief_list (briefL_cons (brief_list (briefL_cons (brief_word hz) briefL_nil)) (briefL_cons (brief_dict (briefK_cons (brief_str (by decide +kernel) 8 (by decide +kernel)) (brief_word hz) briefK_nil)) (briefL_cons brief_later briefL_nil))))⟩
theorem Thing.same {H0 H H' : Hp} {z : Str} {dn : Bool} {x : V} (s : Same H H') (t : Thing H0 H z dn x) : Thing H0 H' z dn x := by
  cases t with
  | non => exact .non
  | bl b => exact .bl b
  | int i h => exact .int i h
  | str => exact .str
  | says h => exact .says (s _ _ h)
  | pair a b c d e => exact .pair (s _ _ a) (s _ _ b) c d e
  | dict a b c d e f => exact .dict (s _ _ a) (s _ _ b) c d e f
  | one a b c d => exact .one (s _ _ a) b c d
  | two a b c d e f g => exact .two (s _ _ a) (s _ _ b) (s _ _ c) d e f g
/-! ### it is changed -/
/-- what is no short list and no dict, or stood there before, is as it was -/
def Pres (H0 H H' : Hp) : Prop := ∀ b o, H b = some o → (H0 b ≠ none ∨ (∃ ys, o = .lst ys ∧ 3 ≤ ys.length) ∨ ∃ φ, o = .ext φ) → H' b = some o
theorem Pres.trans {H0 H H1 H2 : Hp} (a : Pres H0 H H1) (b : Pres H0 H1 H2) : Pres H0 H H2 := fun c o h k => b c o (a c o h k) k
theorem Pres.refl {H0 H : Hp} : Pres H0 H H := fun _ _ h _ => h
theorem pres_lst {H0 H : Hp} {m : Addr} {ys : List V} {o : HO} (h : H m = some (.lst ys)) (n : H0 m = none) (hy : ys.length ≤ 2) : Pres H0 H (upd H m o) := fun b u e k => by
  have ne : b ≠ m := fun z => by
    rw [z, h] at e
    obtain rfl := Option.some.inj e
    rcases k with k | ⟨zs, q, hz⟩ | ⟨φ, q⟩
    · exact k (by rw [z]; exact n)
    · cases q
      omega
    · cases q
  rw [upd_ne ne]
  exact e
theorem pres_dict {H0 H : Hp} {m : Addr} {kvs : List (Key × V)} {o : HO} (h : H m = some (.dK kvs)) (n : H0 m = none) : Pres H0 H (upd H m o) := fun b u e k => by
  have ne : b ≠ m := fun z => by
    rw [z, h] at e
    obtain rfl := Option.some.inj e
    rcases k with k | ⟨zs, q, hz⟩ | ⟨φ, q⟩
    · exact k (by rw [z]; exact n)
    · cases q
    · cases q
  rw [upd_ne ne]
  exact e
theorem ErrsAt.pres {H0 H H' : Hp} {v : V} (s : Pres H0 H H') : ∀ {Cs : List Addr} {xs : List V}, ErrsAt H v Cs xs → ErrsAt H' v Cs xs
  | _, _, .nil => .nil
  | _, _, .cons e r => .cons ⟨s _ _ e.at_ (.inr (.inr ⟨_, rfl⟩)), s _ _ e.dict (.inr (.inr ⟨_, rfl⟩))⟩ (r.pres s)
/-- if isinstance(thing, T): .. -/
theorem if_isi {K : PySem.W.Frag} {tn n : String} {r : Bool} {t u v : TS} {D : Ends} {σ : L2.St} {H : Hp} {x : V} (hx : σ[4]? = some (some x)) (ty : TyX K H x (.type tn)) (hk : PySem.W.kitOne K (.type tn) (.type n) = some r)
    (h : if r = true then t { D with nx := v D } σ H else u { D with nx := v D } σ H) : tSeq (tIfS (tB (tCB (rIsi K) (tCons (tVar 4) (tCons (tC (.ty n)) tNil)))) t u) v D σ H :=
  ⟨_, hx, _, _, _, _, r, rfl, .ty n, ty, hk, r, rfl, h⟩
/-- x.append('later') -/
def tApp (K : PySem.W.Frag) (to : TE) : TS := tDrop (tBM K "list" rAppend to (tCons (tC (.str "later")) tNil))
theorem app_ok {K : PySem.W.Frag} {to : TE} {D : Ends} {σ : L2.St} {H : Hp} {m : Addr} {ys : List V} (h : H m = some (.lst ys)) (hy : ys.length ≤ 2) (ho : ∀ Q : VK, Q (.ref m) H → to σ H Q) (k : D.nx σ (upd H m (.lst (ys ++ [.str "later"])))) : tApp K to D σ H :=
  ho _ ⟨.inl ⟨rfl, _, .inl (.inl h)⟩, m, ys, _, rfl, rfl, h, small1000 (by omega), k⟩
/-- the three changes -/
def tMut (K : PySem.W.Frag) (last : TS) : TS :=
  tSeq (tIfS (tB (tCB (rIsi K) (tCons (tVar 4) (tCons (tC (.ty "list")) tNil)))) (tApp K (tVar 4)) tNext)
  (tSeq (tIfS (tB (tCB (rIsi K) (tCons (tVar 4) (tCons (tC (.ty "dict")) tNil)))) (tSeq (tApp K (tDGet (tVar 4) (tVar 2))) (sDPut (tVar 4) (tC (.str "LATER")) (tC (.int 1)))) tNext)
  (tSeq (tIfS (tAnd (tB (tCB (rIsi K) (tCons (tVar 4) (tCons (tC (.ty "tuple")) tNil)))) (tB (tCB (rIsi K) (tCons (tOp (rIxT K) (tVar 4) (tC (.int 1))) (tCons (tC (.ty "list")) tNil))))) (tApp K (tOp (rIxT K) (tVar 4) (tC (.int 1)))) tNext) last))
theorem if_tup {K : PySem.W.Frag} {t u v : TS} {D : Ends} {σ : L2.St} {H : Hp} {x : V} {tn : String} (hx : σ[4]? = some (some x)) (ty : TyX K H x (.type tn)) (hk : PySem.W.kitOne K (.type tn) (.type "tuple") = some false) (h : u { D with nx := v D } σ H) :
    tSeq (tIfS (tAnd (tB (tCB (rIsi K) (tCons (tVar 4) (tCons (tC (.ty "tuple")) tNil)))) (tB (tCB (rIsi K) (tCons (tOp (rIxT K) (tVar 4) (tC (.int 1))) (tCons (tC (.ty "list")) tNil))))) t u) v D σ H := by
  refine ⟨_, hx, _, _, _, _, false, rfl, .ty _, ty, hk, false, rfl, ?_⟩
  refine iteF ?_
  exact iteF h
theorem if_tup2 {K : PySem.W.Frag} {t u v : TS} {D : Ends} {σ : L2.St} {H : Hp} {p : Addr} {xs : List V} {y : V} {tn : String} {r : Bool} (hx : σ[4]? = some (some (.ref p))) (hp : H p = some (.tup xs)) (hy : atI xs 1 = some y) (ty : TyX K H y (.type tn)) (hk : PySem.W.kitOne K (.type tn) (.type "list") = some r)
    (h : if r = true then t { D with nx := v D } σ H else u { D with nx := v D } σ H) :
    tSeq (tIfS (tAnd (tB (tCB (rIsi K) (tCons (tVar 4) (tCons (tC (.ty "tuple")) tNil)))) (tB (tCB (rIsi K) (tCons (tOp (rIxT K) (tVar 4) (tC (.int 1))) (tCons (tC (.ty "list")) tNil))))) t u) v D σ H := by
  refine ⟨_, hx, _, _, _, _, true, rfl, .ty _, .base (.tup hp), kit_ty (by decide +kernel), true, rfl, ?_⟩
  refine iteT ?_
  exact ⟨_, hx, p, xs, 1, y, rfl, rfl, .inl (.inl hp), hy, _, _, _, _, r, rfl, .ty _, ty, hk, r, rfl, h⟩
theorem mut_ok {K : PySem.W.Frag} {last : TS} {D : Ends} {σ : L2.St} {H0 H : Hp} {x : V} {z : Str} (hz : IsWord z) (h4 : σ[4]? = some (some x)) (h2 : σ[2]? = some (some (.str z))) (t : Thing H0 H z false x)
    (k : ∀ H', Thing H0 H' z true x → Pres H0 H H' → last D σ H') : tMut K last D σ H := by
  have flat : ∀ {tn : String}, TyX K H x (.type tn) → PySem.W.kitOne K (.type tn) (.type "list") = some false → PySem.W.kitOne K (.type tn) (.type "dict") = some false → PySem.W.kitOne K (.type tn) (.type "tuple") = some false → last D σ H → tMut K last D σ H := by
    intro tn ty k1 k2 k3 h
    refine if_isi h4 ty k1 ?_
    refine iteF ?_
    refine if_isi h4 ty k2 ?_
    refine iteF ?_
    exact if_tup h4 ty k3 h
  cases t with
  | non => exact flat (.base .non) (kit_ty (by decide +kernel)) (kit_ty (by decide +kernel)) (kit_ty (by decide +kernel)) (k H .non Pres.refl)
  | bl b => exact flat (.base (.bl b)) (kit_ty (by decide +kernel)) (kit_ty (by decide +kernel)) (kit_ty (by decide +kernel)) (k H (.bl b) Pres.refl)
  | int i hi => exact flat (.base (.int i)) (kit_ty (by decide +kernel)) (kit_ty (by decide +kernel)) (kit_ty (by decide +kernel)) (k H (.int i hi) Pres.refl)
  | str => exact flat (.base (.str z)) (kit_ty (by decide +kernel)) (kit_ty (by decide +kernel)) (kit_ty (by decide +kernel)) (k H .str Pres.refl)
  | says h =>
    refine if_isi h4 (.base (.tup h)) (kit_ty (by decide +kernel) (r := false)) ?_
    refine iteF ?_
    refine if_isi h4 (.base (.tup h)) (kit_ty (by decide +kernel) (r := false)) ?_
    refine iteF ?_
    refine if_tup2 h4 h rfl (.base (.str z)) (kit_ty (by decide +kernel) (r := false)) ?_
    refine iteF ?_
    exact k H (.says h) Pres.refl
  | @pair t l more ht hl nl sl hm =>
    obtain ⟨_, rfl⟩ : false = false ∧ more = [] := hm.resolve_right fun z => nomatch z.1
    refine if_isi h4 (.base (.tup ht)) (kit_ty (by decide +kernel) (r := false)) ?_
    refine iteF ?_
    refine if_isi h4 (.base (.tup ht)) (kit_ty (by decide +kernel) (r := false)) ?_
    refine iteF ?_
    refine if_tup2 h4 ht rfl (.base (.lst hl)) (kit_ty (by decide +kernel) (r := true)) ?_
    refine iteT ?_
    have ne : t ≠ l := ne_of ht hl (by intro z; cases z)
    refine app_ok hl (Nat.le_of_ble_eq_true rfl) (fun Q q => ⟨_, h4, t, _, 1, _, rfl, rfl, .inl (.inl ht), rfl, q⟩) ?_
    exact k _ (.pair (by rw [upd_ne ne]; exact ht) upd_same nl sl (.inr ⟨rfl, rfl⟩)) (pres_lst hl nl (Nat.le_of_ble_eq_true rfl))
  | @dict t l more rest ht hl nt nl sl hm =>
    obtain ⟨_, rfl, rfl⟩ : false = false ∧ more = [] ∧ rest = [] := hm.resolve_right fun z => nomatch z.1
    refine if_isi h4 (.base (.dK ht)) (kit_ty (by decide +kernel) (r := false)) ?_
    refine iteF ?_
    refine if_isi h4 (.base (.dK ht)) (kit_ty (by decide +kernel) (r := true)) ?_
    refine iteT ?_
    have ne : t ≠ l := ne_of ht hl (by intro z; cases z)
    have v1 : valV [((Sum.inr z : Key), V.ref l)] (Sum.inr z) = some (.ref l) := valV_pos rfl
    refine app_ok (D := _) hl (Nat.le_of_ble_eq_true rfl) (fun Q q => ⟨_, h4, _, h2, t, .ref l, rfl, by rw [← v1]; exact DGet.k (k := Sum.inr z) ht, q⟩) ?_
    have ht2 : (upd H l (.lst ([.str z] ++ [.str "later"]))) t = some (.dK [(.inr z, .ref l)]) := by
      rw [upd_ne ne]
      exact ht
    have nk : ¬ (Sum.inr z : Key) = Sum.inr ("LATER" : Str) := fun e => by
      have e2 : z = ("LATER" : Str) := Sum.inr.inj e
      have h := hz.low 76 (by rw [e2]; decide +kernel)
      omega
    have pk : putK [((Sum.inr z : Key), V.ref l)] (Sum.inr ("LATER" : Str)) (V.int 1) = [(.inr z, .ref l), (.inr "LATER", .int 1)] := by
      unfold putK
      simp only [List.any_cons, List.any_nil, decide_eq_false nk, Bool.or_false, Bool.false_eq_true, if_false, List.cons_append, List.nil_append]
    refine ⟨_, h4, t, _, rfl, DPut.k (k := Sum.inr ("LATER" : Str)) ht2 (small1000 (Nat.le_of_ble_eq_true rfl)), ?_⟩
    have ht3 : (upd (upd H l (.lst ([.str z] ++ [.str "later"]))) t (.dK (putK [((Sum.inr z : Key), V.ref l)] (Sum.inr ("LATER" : Str)) (V.int 1)))) t = some (.dK [(.inr z, .ref l), (.inr "LATER", .int 1)]) := by
      rw [upd_same, pk]
    refine if_tup h4 (.base (.dK ht3)) (kit_ty (by decide +kernel)) ?_
    exact k _ (.dict ht3 (by rw [upd_ne (Ne.symm ne), upd_same] <;> rfl) nt nl sl (.inr ⟨rfl, rfl, rfl⟩)) ((pres_lst hl nl (Nat.le_of_ble_eq_true rfl)).trans (pres_dict ht2 nt))
  | @one t more ht nt st hm =>
    obtain ⟨_, rfl⟩ : false = false ∧ more = [] := hm.resolve_right fun z => nomatch z.1
    refine if_isi h4 (.base (.lst ht)) (kit_ty (by decide +kernel) (r := true)) ?_
    refine iteT ?_
    refine app_ok ht (Nat.le_of_ble_eq_true rfl) (fun Q q => ⟨_, h4, q⟩) ?_
    refine if_isi h4 (.base (.lst upd_same)) (kit_ty (by decide +kernel) (r := false)) ?_
    refine iteF ?_
    refine if_tup h4 (.base (.lst upd_same)) (kit_ty (by decide +kernel)) ?_
    exact k _ (.one upd_same nt st (.inr ⟨rfl, rfl⟩)) (pres_lst ht nt (Nat.le_of_ble_eq_true rfl))
  | @two t l d more ht hl hd nt st sl hm =>
    obtain ⟨_, rfl⟩ : false = false ∧ more = [] := hm.resolve_right fun z => nomatch z.1
    refine if_isi h4 (.base (.lst ht)) (kit_ty (by decide +kernel) (r := true)) ?_
    refine iteT ?_
    have n1 : l ≠ t := ne_of hl ht (by intro z; cases z)
    have n2 : d ≠ t := ne_of hd ht (by intro z; cases z)
    refine app_ok ht (Nat.le_of_ble_eq_true rfl) (fun Q q => ⟨_, h4, q⟩) ?_
    refine if_isi h4 (.base (.lst upd_same)) (kit_ty (by decide +kernel) (r := false)) ?_
    refine iteF ?_
    refine if_tup h4 (.base (.lst upd_same)) (kit_ty (by decide +kernel)) ?_
    exact k _ (.two upd_same (by rw [upd_ne n1]; exact hl) (by rw [upd_ne n2]; exact hd) nt st sl (.inr ⟨rfl, rfl⟩)) (pres_lst ht nt (Nat.le_of_ble_eq_true rfl))
end K01

/-! the law itself -/
namespace K01
open PySem PySem.Spec PyProof.Rows L2 ErrR
abbrev sLaw : Stmt := topS 45
def lawN : List Str := ["script", "purse", "word", "plain", "thing", "noted", "some", "called", "later", "rest", "error"]
theorem scLaw : FnScope ["script", "purse", "word", "plain", "thing", "noted", "some", "called", "later", "rest", "error"] ["script"] (defScope sLaw) := ⟨rfl, rfl, rfl, by decide +kernel, rfl, by decide +kernel, by decide +kernel⟩
/-- [..], the new list no module's table -/
def tLstB (t : TA) : TE := fun σ H Q => t σ H fun xs H1 => xs.length ≤ sizeLine ∧ ∀ p, H1 p = none → p ≠ sysModules → Q (.ref p) (upd H1 p (.lst xs))
theorem pe_lstB {X : Cx} {es : List Expr} {t : TA} {pos : Pos} (h : PA X es t) : PE X (.List es pos) (tLstB t) := by
  refine ⟨fun pins s σ H Q I hq => ?_⟩
  refine wpAny_List_spliced (thn (h.run pos pins s σ H _ I hq) fun us s1 ⟨xs, H1, I1, r, z, q⟩ => ⟨by rw [← r.length]; exact z, ?_⟩)
  have new : H1 s1.heap.objs.size = none := I1.hok.fresh (Nat.le_refl _)
  refine ⟨.ref s1.heap.objs.size, upd H1 s1.heap.objs.size (.lst xs), I1.laid (t' := s1.toks) (fun b u e => Heap.get?_push_of_some _ e) (Nat.le_refl _) ⟨z, us, 0, r, Heap.get?_push_size _ rfl⟩, rfl, q _ new (Nat.ne_of_gt I1.big)⟩
theorem le4 : 4 ≤ sizeLine := Nat.le_of_lt (small1000 (by decide))
theorem le2 : 2 ≤ sizeLine := Nat.le_of_lt (small1000 (by decide))
theorem le1 : 1 ≤ sizeLine := Nat.le_of_lt (small1000 (by decide))
theorem le9 : 9 ≤ sizeLine := Nat.le_of_lt (small1000 (by decide))
theorem le11 : 9 + 2 ≤ sizeLine := Nat.le_of_lt (small1000 (by decide))
theorem new_obj {H : Hp} {p : Addr} (o : HO) (hp : H p = none) : ∃ H', upd H p o = H' ∧ H' p = some o ∧ Same H H' := ⟨_, rfl, upd_same, same_new hp⟩
theorem disp_one {H : Hp} {t l : Addr} {o : HO} {kvs : List (Key × V)} (ht : H t = none) (hl : (upd H t (.dK [])) l = none) : l ≠ t ∧ (upd (upd H t (.dK [])) l o) t = some (.dK []) ∧ ∃ H', upd (upd (upd H t (.dK [])) l o) t (.dK kvs) = H' ∧ H' t = some (.dK kvs) ∧ H' l = some o ∧ Same H H' := by
  have ne : l ≠ t := Ne.symm (ne_of_none (upd_same (H := H) (a := t) (o := .dK [])) hl)
  refine ⟨ne, by rw [upd_ne (Ne.symm ne), upd_same], _, rfl, upd_same, by rw [upd_ne ne, upd_same], fun b u e => ?_⟩
  have n1 := ne_of_none e ht
  have n2 : b ≠ l := fun z => by
    rw [z] at e n1
    rw [upd_ne n1] at hl
    rw [hl] at e
    cases e
  rw [upd_ne n1, upd_ne n2, upd_ne n1]
  exact e
theorem disp_two {H : Hp} {t : Addr} {kvs : List (Key × V)} (ht : H t = none) : ∃ H', upd (upd H t (.dK [])) t (.dK kvs) = H' ∧ H' t = some (.dK kvs) ∧ Same H H' :=
  ⟨_, rfl, upd_same, fun b u e => by
    have n1 := ne_of_none e ht
    rw [upd_ne n1, upd_ne n1]
    exact e⟩
/-- rest = [C(), D()] -/
theorem rest_ok {C1 C2 : Addr} {D : Ends} {f : Addr → L2.St} {σ : L2.St} {H : Hp} (hf : ∀ l, σ.set 9 (some (.ref l)) = f l) (h : ∀ e1 e2 l H', H' e1 = some (exo e1 C1 none) → H' e2 = some (exo e2 C2 none) → H' l = some (.lst [.ref e1, .ref e2]) → D.nx (f l) H') :
    tAsg (tLst (tCons (tB0 C1) (tCons (tB0 C2) tNil))) (gName 9) D σ H := by
  refine fun e1 he1 => ?_
  refine fun e2 he2 => ?_
  refine ⟨le2, fun rl hrl => ?_⟩
  have r2 := same_new (o := exo e2 C2 none) he2
  have r3 := same_new (o := HO.lst [.ref e1, .ref e2]) hrl
  show D.nx (σ.set 9 (some (.ref rl))) _
  rw [hf rl]
  exact h e1 e2 rl _ (r3 _ _ (r2 _ _ upd_same)) (r3 _ _ upd_same) upd_same
/-- rest.append(C()) -/
theorem app_b0 {K : PySem.W.Frag} {C rl : Addr} {D : Ends} {σ : L2.St} {H : Hp} {ys : List V} (h9 : σ[9]? = some (some (.ref rl))) (hl : H rl = some (.lst ys)) (hy : ys.length ≤ 100)
    (k : ∀ e H', H' e = some (exo e C none) → H' rl = some (.lst (ys ++ [.ref e])) → (∀ b o, b ≠ rl → H b = some o → H' b = some o) → D.nx σ H') : tDrop (tBM K "list" rAppend (tVar 9) (tCons (tB0 C) tNil)) D σ H := by
  refine ⟨_, h9, .inl ⟨rfl, _, .inl (.inl hl)⟩, fun e he => ?_⟩
  have r := same_new (o := exo e C none) he
  have ne : e ≠ rl := Ne.symm (ne_of_none hl he)
  refine ⟨rl, _, _, rfl, rfl, r _ _ hl, small1000 (by omega), ?_⟩
  exact k e _ (by rw [upd_ne ne, upd_same]) upd_same fun b o n h => by rw [upd_ne n]; exact r _ _ h
/-- [_law_code(error) for error in l] -/
theorem codes_list {K : PySem.W.Frag} {σ : L2.St} {H : Hp} {Q : VK} {l : Addr} {es : List (Addr × Str)} (h0 : σ[9]? = some (some (.ref l))) (h2 : ∀ x, ((wipe σ [10]).set 10 (some x))[10]? = some (some x)) (hw : ∀ x, wipe ((wipe σ [10]).set 10 (some x)) [10] = wipe σ [10])
    (hl : H l = some (.lst (es.map fun e => V.ref e.1))) (hE : ∀ e ∈ es, IsErr K H e.1 e.2 ∧ codeOf K e.2 ≠ []) (hn : es.length ≤ 100)
    (q : ∀ (D : Addr) (ps : List Addr) (H' : Hp), H' D = some (.lst (ps.map V.ref)) → ps.length = es.length → (∀ (k : Nat) (p : Addr) (e : Addr × Str), ps[k]? = some p → es[k]? = some e → H' p = some (.lst ((codeOf K e.2).map V.int))) → Same H H' → Q (.ref D) H') :
    tLc (iList K (tVar 9)) (gName 10) tYes (tCall (spCode K) [] E0 (tCons (tVar 10) tNil)) [10] σ H Q := by
  refine ⟨_, h0, l, rfl, ⟨_, .inl (.inl hl)⟩, fun D hD => ?_⟩
  refine lc_list (K := K) (a := l) (xs := es.map fun e => V.ref e.1) (fun i H' => ∃ ps : List Addr, H' D = some (.lst (ps.map V.ref)) ∧ ps.length = i ∧ (∀ (k : Nat) (p : Addr) (e : Addr × Str), ps[k]? = some p → es[k]? = some e → p ≠ D ∧ H' p = some (.lst ((codeOf K e.2).map V.int))) ∧ Same H H')
    ⟨[], upd_same, rfl, fun k p e hk => by simp at hk, fun b o e => by rw [upd_ne (ne_of_none e hD)]; exact e⟩ (fun i H' _ ⟨_, _, _, _, s⟩ => .inl (.inl (s _ _ hl))) ?_ ?_
  · rintro i x H' hi ⟨ps, hd, hlen, hps, s⟩
    rw [List.getElem?_map] at hi
    cases he : es[i]? with
    | none =>
      rw [he] at hi
      cases hi
    | some e =>
      rw [he] at hi
      obtain rfl : V.ref e.1 = x := Option.some.inj hi
      obtain ⟨hE1, hne⟩ := hE e (List.mem_of_getElem? he)
      refine ⟨hw _, ?_⟩
      refine yes_of (te := tCall (spCode K) [] E0 (tCons (tVar 10) tNil)) ?_
      refine ⟨_, h2 _, e.1, e.2, rfl, hE1.same s, fun p H4 hp s4 => ?_⟩
      have hd4 := s4 _ _ hd
      have np : p ≠ D := fun z => by
        rw [z, hd4] at hp
        have z2 : ps.map V.ref = (codeOf K e.2).map V.int := by
          have := Option.some.inj hp
          injection this
        cases ps with
        | nil =>
          cases hc : codeOf K e.2 with
          | nil => exact hne hc
          | cons a r =>
            rw [hc] at z2
            cases z2
        | cons b r =>
          cases hc : codeOf K e.2 with
          | nil => exact hne hc
          | cons a r2 =>
            rw [hc] at z2
            cases z2
      have hi2 : i < es.length := (List.getElem?_eq_some_iff.mp he).1
      refine ⟨_, hd4, by rw [List.length_map, hlen]; exact small1000 (by omega), ps ++ [p], by rw [upd_same, List.map_append] <;> rfl, by rw [List.length_append, hlen] <;> rfl, fun k p2 e2 hk hk2 => ?_, fun b u eb => ?_⟩
      · by_cases hlt : k < ps.length
        · rw [List.getElem?_append_left hlt] at hk
          obtain ⟨n1, g1⟩ := hps k p2 e2 hk hk2
          exact ⟨n1, by rw [upd_ne n1]; exact s4 _ _ g1⟩
        · rw [List.getElem?_append_right (Nat.le_of_not_lt hlt)] at hk
          have ek : k - ps.length = 0 := by
            cases w1 : k - ps.length with
            | zero => rfl
            | succ m =>
              rw [w1] at hk
              simp at hk
          have e3 : k = i := by omega
          rw [ek] at hk
          obtain rfl : p = p2 := Option.some.inj hk
          rw [e3, he] at hk2
          obtain rfl : e = e2 := Option.some.inj hk2
          exact ⟨np, by rw [upd_ne np]; exact hp⟩
      · rw [upd_ne (ne_of_none eb hD)]
        exact s4 _ _ (s _ _ eb)
  · rintro H' ⟨ps, hd, hlen, hps, s⟩
    rw [List.length_map] at hlen
    exact q D ps H' hd hlen (fun k p e h1 h2 => (hps k p e h1 h2).2) s
/-- a def of the law that is called -/
structure CallOk (P : Program) (w : World) (K : PySem.W.Frag) (mg : Str → Option Value) (base : Heap) (x : Str) (k : Nat) (ps : List Str) (sp : Sp) : Prop where
  ex : ∃ f fd, mg x = some (.ref f) ∧ PySem.W.keepIn K (.ref f) = true ∧ Binds K fd ps [] ∧ FnOk P w K mg base CX0 k f fd ps sp
structure CallOkG (P : Program) (w : World) (K : PySem.W.Frag) (mg : Str → Option Value) (base : Heap) (x : Str) (k : Nat) (ps : List Str) (sp : Sp) : Prop where
  ex : ∃ f fd, mg x = some (.ref f) ∧ PySem.W.keepIn K (.ref f) = true ∧ Binds K fd ps [] ∧ FnOkG P w K mg base CX0 k f fd ps sp
structure LawC (P : Program) (w : World) (K : PySem.W.Frag) (mg : Str → Option Value) (base : Heap) : Prop where
  txt : Txt P w K mg base
  purses : CallOk P w K mg base "_law_purses" 2 ["script", "few"] (spPurses K)
  word : CallOk P w K mg base "_law_word" 4 ["dice"] spWord
  oneOf : CallOk P w K mg base "_law_one_of" 3 ["dice", "some"] (spOneOf K)
  first : CallOk P w K mg base "_law_first" 3 ["thing"] (spErrs K)
  called : CallOk P w K mg base "_law_called" 3 ["thing"] (spErrs K)
  bare : CallOk P w K mg base "_law_bare" 3 [] (spBare K)
  code : CallOk P w K mg base "_law_code" 1 ["error"] (spCode K)
  isErr : CallOk P w K mg base "_law_is_error" 1 ["error"] (spIsErr K)
  right : CallOkG P w K mg base "_law_right" 2 ["some", "noted"] (spRight K)
  repr_ : mg "repr" = none
  isinst : mg "isinstance" = none
  list_ : mg "list" = none
  dict_ : mg "dict" = none
  tuple_ : mg "tuple" = none
  all_ : mg "all" = none
def spLaw (K : PySem.W.Frag) : Sp := fun vs H Q _ => ∃ (a : Addr) (ns : List Int), vs = [.ref a] ∧ SqL K H a (ns.map V.int) ∧ ns.length ≤ 1000 ∧ ∀ H', Q (.bl true) H'
theorem ok_law {P : Program} {w : World} {K : PySem.W.Frag} {mg : Str → Option Value} {base : Heap} {f : Addr} {fd : FuncData} (D : FnP K "law" sLaw f fd) (T : LawC P w K mg base) : FnOkG P w K mg base CX0 5 f fd ["script"] (spLaw K) := by
  obtain ⟨fP, dP, gP, kP, bP, GP⟩ := T.purses.ex
  obtain ⟨fW, dW, gW, kW, bW, GW⟩ := T.word.ex
  obtain ⟨fO, dO, gO, kO, bO, GO⟩ := T.oneOf.ex
  obtain ⟨fF, dF, gF, kF, bF, GF⟩ := T.first.ex
  obtain ⟨fC, dC, gC, kC, bC, GC⟩ := T.called.ex
  obtain ⟨fB, dB, gB, kB, bB, GB⟩ := T.bare.ex
  obtain ⟨fD, dD, gD, kD, bD, GD⟩ := T.code.ex
  obtain ⟨fE, dE, gE, kE, bE, GE⟩ := T.isErr.ex
  obtain ⟨fR, dR, gR, kR, bR, GR⟩ := T.right.ex
  have hIsi := T.isinst
  have nd := scLaw.nd
  refine fnG D scLaw (fun vs H Q E h => ?_) (fun cdv A outer s H vs Q E hG hr h => ⟨_, PSs.nox (pss_cons (ps_for PassesOwn.never rfl (pi_list (pe_call GP (hr.mono (by decide)) rfl gP kP bP .nil pass0 (pa_cons (pv 0) (pa_cons pe_int pa_nil)))) (pg_name (i := 1) nd rfl (Or.inl rfl)) (pss_cons (ps_set (i := 2) nd rfl (Or.inl rfl) (pe_call GW (hr.mono (by decide)) rfl gW kW bW .nil pass0 (pa_cons (pv 1) pa_nil))) (pss_cons (ps_set (i := 3) nd rfl (Or.inl rfl) (pe_lst (pa_cons pe_non (pa_cons pe_bl (pa_cons pe_bl (pa_cons pe_int (pa_cons (pv 2) (pa_cons (pe_un un_neg (pe_ix ix_list (pv 1) pe_int (fun _ _ => rfl))) (pa_cons (pe_tup (pa_cons pe_str (pa_cons (pv 2) (pa_cons pe_int (pa_cons pe_int pa_nil))))) (pa_cons (pe_tup (pa_cons (pv 2) (pa_cons (pe_lstB (pa_cons (pv 2) pa_nil)) pa_nil))) (pa_cons (pe_disp (pps_cons (pv 2) (pe_lstB (pa_cons (pv 2) pa_nil)) pps_nil) rfl rfl (by simp) (by decide)) pa_nil))))))))))) (pss_cons (ps_set (i := 4) nd rfl (Or.inl rfl) (pe_call GO (hr.mono (by decide)) rfl gO kO bO .nil pass0 (pa_cons (pv 1) (pa_cons (pe_op op_cat (pv 3) (pe_lst (pa_cons (pe_lstB (pa_cons (pv 2) pa_nil)) (pa_cons (pe_lstB (pa_cons (pe_lstB (pa_cons (pv 2) pa_nil)) (pa_cons (pe_disp (pps_cons pe_str (pv 2) pps_nil) rfl rfl (by simp) (by decide)) pa_nil))) pa_nil)))) pa_nil)))) (pss_cons (ps_set (i := 5) nd rfl (Or.inl rfl) (pe_callB (call_reprD hG hr.units) rfl T.repr_ PyProof.Rows.boot_repr (pa_cons (pv 4) pa_nil))) (pss_cons (ps_par3 (i := 6) (j := 7) (l := 8) rfl nd rfl rfl rfl (by decide) (by decide) (by decide) rfl rfl rfl (pa_cons (pe_call GF (hr.mono (by decide)) rfl gF kF bF .nil pass0 (pa_cons (pv 4) pa_nil)) (pa_cons (pe_call GC (hr.mono (by decide)) rfl gC kC bC .nil pass0 (pa_cons (pv 4) pa_nil)) (pa_cons (pe_call GF (hr.mono (by decide)) rfl gF kF bF .nil pass0 (pa_cons (pe_tup (pa_cons pe_str (pa_cons (pv 2) pa_nil))) pa_nil)) pa_nil))) rfl) (pss_cons (ps_if (PW.pt (pw_or (pt_not (pt_val (pe_callG GR hG (hr.mono (by decide)) rfl gR kR bR .nil pass0 (pa_cons (pe_call0 GB (hr.mono (by decide)) rfl gB kB bB .nil pass0) (pa_cons pe_str pa_nil))))) (pw_or1 (pt_not (pt_val (pe_callG GR hG (hr.mono (by decide)) rfl gR kR bR .nil pass0 (pa_cons (pv 8) (pa_cons (pe_callB (call_reprD hG hr.units) rfl T.repr_ PyProof.Rows.boot_repr (pa_cons (pe_tup (pa_cons pe_str (pa_cons (pv 2) pa_nil))) pa_nil)) pa_nil)))))))) (pss_one (ps_ret pe_bl)) pss_nil) (pss_cons (ps_if (PW.pt (pw_or (pt_not (pt_val (pe_callG GR hG (hr.mono (by decide)) rfl gR kR bR .nil pass0 (pa_cons (pv 6) (pa_cons (pv 5) pa_nil))))) (pw_or1 (pt_not (pt_val (pe_callG GR hG (hr.mono (by decide)) rfl gR kR bR .nil pass0 (pa_cons (pv 7) (pa_cons (pv 5) pa_nil)))))))) (pss_one (ps_ret pe_bl)) pss_nil) (pss_cons (ps_if (pt_val (pe_callB call_isi rfl hIsi boot_isinstance (pa_cons (pv 4) (pa_cons (pe_bltn (v := .ty "list") rfl T.list_ PyProof.Rows.boot_list rfl) pa_nil)))) (pss_one (ps_expr (pe_bm PySem.F.plainAttrs_list PySem.F.slot_list_append PySem.F.type_list_append mt_append (pv 4) (pa_cons pe_str pa_nil)))) pss_nil) (pss_cons (ps_if (pt_val (pe_callB call_isi rfl hIsi boot_isinstance (pa_cons (pv 4) (pa_cons (pe_bltn (v := .ty "dict") rfl T.dict_ PyProof.Rows.boot_dict rfl) pa_nil)))) (pss_cons (ps_expr (pe_bm PySem.F.plainAttrs_list PySem.F.slot_list_append PySem.F.type_list_append mt_append (pe_dget (hu_of hr) (pv 4) (pv 2) (fun _ _ => rfl)) (pa_cons pe_str pa_nil))) (pss_one (ps_dput (hu_of hr) (pv 4) pe_str pe_int rfl))) pss_nil) (pss_cons (ps_if (PW.pt (pw_and (pt_val (pe_callB call_isi rfl hIsi boot_isinstance (pa_cons (pv 4) (pa_cons (pe_bltn (v := .ty "tuple") rfl T.tuple_ PyProof.Rows.boot_tuple rfl) pa_nil)))) (pw_and1 (pt_val (pe_callB call_isi rfl hIsi boot_isinstance (pa_cons (pe_ix ix_tup (pv 4) pe_int (fun _ _ => rfl)) (pa_cons (pe_bltn (v := .ty "list") rfl T.list_ PyProof.Rows.boot_list rfl) pa_nil))))))) (pss_one (ps_expr (pe_bm PySem.F.plainAttrs_list PySem.F.slot_list_append PySem.F.type_list_append mt_append (pe_ix ix_tup (pv 4) pe_int (fun _ _ => rfl)) (pa_cons pe_str pa_nil)))) pss_nil) (pss_one (ps_if (PW.pt (pw_or (pt_not (pt_val (pe_callG GR hG (hr.mono (by decide)) rfl gR kR bR .nil pass0 (pa_cons (pv 6) (pa_cons (pe_callB (call_reprD hG hr.units) rfl T.repr_ PyProof.Rows.boot_repr (pa_cons (pv 4) pa_nil)) pa_nil))))) (pw_or1 (pt_not (pt_val (pe_callG GR hG (hr.mono (by decide)) rfl gR kR bR .nil pass0 (pa_cons (pv 7) (pa_cons (pe_callB (call_reprD hG hr.units) rfl T.repr_ PyProof.Rows.boot_repr (pa_cons (pv 4) pa_nil)) pa_nil)))))))) (pss_one (ps_ret pe_bl)) pss_nil))))))))))))) (pss_cons (ps_set (i := 9) nd rfl (Or.inl rfl) (pe_lst (pa_cons (pe_b0 T.txt (hr.mono (by decide))) (pa_cons (pe_b0 T.txt (hr.mono (by decide))) pa_nil)))) (pss_cons (ps_if (pt_cmpR (op_neD hr.units) (pe_lc (own := [("error", 10)]) (g := gName 10) (tt := tYes) rfl nd (pi_list (pv 9)) (blkOk_by (N := ["script", "purse", "word", "plain", "thing", "noted", "some", "called", "later", "rest", "error"]) (sc := defScope sLaw) (by decide +kernel)) (fun _ _ _ _ _ => pg_name (i := 10) nd rfl (Or.inl rfl)) (fun _ _ _ _ _ => pts_nil) (fun _ _ _ _ _ => (pe_call GD (hr.mono (by decide)) rfl gD kD bD .nil pass0 (pa_cons (pv 10) pa_nil)))) (pe_lst (pa_cons (pe_lst (pa_cons pe_int pa_nil)) (pa_cons (pe_lst (pa_cons pe_int pa_nil)) pa_nil))) (nomark _)) (pss_one (ps_ret pe_bl)) pss_nil) (pss_cons (ps_expr (pe_bm PySem.F.plainAttrs_list PySem.F.slot_list_append PySem.F.type_list_append mt_append (pv 9) (pa_cons (pe_b0 T.txt (hr.mono (by decide))) pa_nil))) (pss_one (ps_ret (pe_and (pe_callB (cr_all rfl) rfl T.all_ PyProof.Rows.boot_all (pa_cons (pe_lc (own := [("error", 10)]) (g := gName 10) (tt := tYes) rfl nd (pi_list (pv 9)) (blkOk_by (N := ["script", "purse", "word", "plain", "thing", "noted", "some", "called", "later", "rest", "error"]) (sc := defScope sLaw) (by decide +kernel)) (fun _ _ _ _ _ => pg_name (i := 10) nd rfl (Or.inl rfl)) (fun _ _ _ _ _ => pts_nil) (fun _ _ _ _ _ => (pe_call GE (hr.mono (by decide)) rfl gE kE bE .nil pass0 (pa_cons (pv 10) pa_nil)))) pa_nil)) (pe_one (pe_cmpR (op_eqD hr.units) (pe_call GD (hr.mono (by decide)) rfl gD kD bD .nil pass0 (pa_cons (pe_ix ix_list (pv 9) pe_int (fun _ _ => rfl)) pa_nil)) (pe_lst pa_nil) (nomark _)))))))))), ?_⟩)
  · obtain ⟨a, ns, rfl, _⟩ := h
    rfl
  obtain ⟨a, ns, rfl, hs, hl, q⟩ := h
  refine ⟨_, rfl, a, ns, rfl, hs, hl, fun l p H1 h1 d1 s1 => ⟨l, rfl, ⟨_, .inl (.inl h1)⟩, ?_⟩⟩
  refine for_list (K := K) (a := l) (xs := [.ref p]) (fun i σ' H' => H' l = some (.lst [.ref p]) ∧ ((i = 0 ∧ σ' = [some (.ref a), none, none, none, none, none, none, none, none, none, none] ∧ H' = H1) ∨
    (i = 1 ∧ ∃ v1 v2 v3 v4 v5 v6 v7 v8 v9 v10, σ' = [some (.ref a), v1, v2, v3, v4, v5, v6, v7, v8, v9, v10]))) ⟨h1, .inl ⟨rfl, rfl, rfl⟩⟩ (fun i σ' H' _ ⟨z, _⟩ => .inl (.inl z)) ?_ ?_
  · rintro i y σ' H' hi ⟨_, ⟨rfl, rfl, rfl⟩ | ⟨rfl, _⟩⟩
    · obtain rfl : y = .ref p := (Option.some.inj hi).symm
      have lp : l ≠ p := fun z => by
        obtain ⟨e0, e1, e2, e3, e4, _⟩ := d1.ex
        rw [← z, h1] at e4
        cases e4
      -- word = _law_word(purse)
      refine ⟨_, rfl, p, 0, rfl, d1, by decide, fun z H2 hz d2 b2 => ?_⟩
      obtain ⟨d20, d21, d22, d23, hp2, _, _, _, d21l, d21h⟩ := d2.ex
      -- plain = [..]
      refine ⟨_, rfl, _, rfl, p, _, 1, _, rfl, rfl, .inl (.inl hp2), rfl, _, rfl, _, rfl, le4, fun t1 ht1 => ?_⟩
      obtain ⟨H3, e3, h3, s3⟩ := new_obj (.tup [.str "says", .str z, .int 1, .int 2]) ht1
      rw [e3]
      clear e3
      refine ⟨_, rfl, _, rfl, le1, fun l2 hl2 sl2 => ?_⟩
      obtain ⟨H4, e4, h4, s4⟩ := new_obj (.lst [.str z]) hl2
      rw [e4]
      clear e4
      refine ⟨le2, fun t2 ht2 => ?_⟩
      obtain ⟨H5, e5, h5, s5⟩ := new_obj (.tup [.str z, .ref l2]) ht2
      rw [e5]
      clear e5
      refine fun t3 ht3 => ⟨_, rfl, _, rfl, le1, fun l3 hl3 sl3 => ?_⟩
      obtain ⟨n3, k3, H8, e8, h8t, h8l, s8⟩ := disp_one (o := .lst [.str z]) (kvs := mergeK [] [(.inr z, .ref l3)]) ht3 hl3
      refine ⟨k3, [(.inr z, .ref l3)], rfl, (by show 1 ≤ 15; decide), ?_⟩
      rw [e8]
      clear e8
      refine ⟨le9, fun pl hpl => ?_⟩
      obtain ⟨H9, e9, h9, s9⟩ := new_obj (.lst [.non, .bl true, .bl false, .int 0, .str z, .int (-d21), .ref t1, .ref t2, .ref t3]) hpl
      rw [e9]
      clear e9
      -- thing = _law_one_of(purse, plain + [..])
      refine ⟨_, rfl, _, rfl, _, rfl, le1, fun l4 hl4 sl4 => ?_⟩
      obtain ⟨H10, e10, h10, s10⟩ := new_obj (.lst [.str z]) hl4
      rw [e10]
      clear e10
      refine ⟨_, rfl, le1, fun l5 hl5 sl5 => ?_⟩
      obtain ⟨H11, e11, h11, s11⟩ := new_obj (.lst [.str z]) hl5
      rw [e11]
      clear e11
      refine fun d5 hd5 => ⟨_, rfl, upd_same, [(.inr "odd", .str z)], rfl, (by show 1 ≤ 15; decide), ?_⟩
      obtain ⟨H12, e12, h12, s12⟩ := disp_two (kvs := mergeK [] [(.inr "odd", .str z)]) hd5
      rw [e12]
      clear e12
      refine ⟨le2, fun t5 ht5 st5 => ?_⟩
      obtain ⟨H13, e13, h13, s13⟩ := new_obj (.lst [.ref l5, .ref d5]) ht5
      rw [e13]
      clear e13
      refine ⟨le2, fun q2 hq2 => ?_⟩
      obtain ⟨H14, e14, h14, s14⟩ := new_obj (.lst [.ref l4, .ref t5]) hq2
      rw [e14]
      clear e14
      have s10_14 : Same H9 H14 := s10.trans (s11.trans (s12.trans (s13.trans s14)))
      refine ⟨pl, q2, _, _, rfl, rfl, s10_14 _ _ h9, h14, le11, fun q3 hq3 => ?_⟩
      obtain ⟨H15, e15, h15, s15⟩ := new_obj (.lst ([.non, .bl true, .bl false, .int 0, .str z, .int (-d21), .ref t1, .ref t2, .ref t3] ++ [.ref l4, .ref t5])) hq3
      rw [e15]
      clear e15
      have b15 : Same H2 H15 := s3.trans (s4.trans (s5.trans (s8.trans (s9.trans (s10_14.trans s15)))))
      have np : ∀ {Hk : Hp} {b : Addr}, Same H2 Hk → Hk b = none → b ≠ p ∧ H' b = none := fun {Hk b} s n => by
        have n1 : b ≠ p := Ne.symm (ne_of_none (s _ _ hp2) n)
        refine ⟨n1, ?_⟩
        cases w1 : H' b with
        | none => rfl
        | some o =>
          rw [s b o (b2 b o n1 w1)] at n
          cases n
      have q3p : q3 ≠ p := (np (s3.trans (s4.trans (s5.trans (s8.trans (s9.trans s10_14))))) hq3).1
      refine ⟨p, q3, _, 11, rfl, d2.same b15, by decide, h15, q3p, Nat.le_of_ble_eq_true rfl, Nat.le_of_ble_eq_true rfl, fun x H16 hx d16 s16 => ?_⟩
      have k16 : ∀ {b : Addr} {o : HO}, b ≠ p → H15 b = some o → H16 b = some o := fun {b o} n e => by
        rw [s16 _ n]
        exact e
      have c34 := s3.trans s4
      have c35 := c34.trans s5
      have c38 := c35.trans s8
      have c39 := c38.trans s9
      have m9 := s10_14.trans s15
      have m8 := s9.trans m9
      have m5 := s8.trans m8
      have m4 := s5.trans m5
      have m3 := s4.trans m4
      have m10 := s11.trans (s12.trans (s13.trans (s14.trans s15)))
      have m11 := s12.trans (s13.trans (s14.trans s15))
      have m12 := s13.trans (s14.trans s15)
      have m13 := s14.trans s15
      have hl3' : H5 l3 = none := by
        rw [upd_ne n3] at hl3
        exact hl3
      have hT : Thing H' H16 z false x := by
        simp only [List.cons_append, List.nil_append, List.mem_cons, List.not_mem_nil, or_false] at hx
        rcases hx with rfl | rfl | rfl | rfl | rfl | rfl | rfl | rfl | rfl | rfl | rfl
        · exact .non
        · exact .bl true
        · exact .bl false
        · exact .int 0 (by decide)
        · exact .str
        · exact .int _ (by omega)
        · exact .says (k16 (np (Same.refl H2) ht1).1 (m3 _ _ h3))
        · exact .pair (k16 (np c34 ht2).1 (m5 _ _ h5)) (k16 (np s3 hl2).1 (m4 _ _ h4)) (np s3 hl2).2 sl2 (.inl ⟨rfl, rfl⟩)
        · exact .dict (k16 (np c35 ht3).1 (m8 _ _ h8t)) (k16 (np c35 hl3').1 (m8 _ _ h8l)) (np c35 ht3).2 (np c35 hl3').2 sl3 (.inl ⟨rfl, rfl, rfl⟩)
        · exact .one (k16 (np c39 hl4).1 (m10 _ _ h10)) (np c39 hl4).2 sl4 (.inl ⟨rfl, rfl⟩)
        · exact .two (k16 (np (c39.trans (s10.trans (s11.trans s12))) ht5).1 (m13 _ _ h13)) (k16 (np (c39.trans s10) hl5).1 (m11 _ _ h11)) (k16 (np (c39.trans (s10.trans s11)) hd5).1 (m12 _ _ h12)) (np (c39.trans (s10.trans (s11.trans s12))) ht5).2 st5 sl5 (.inl ⟨rfl, rfl⟩)
      have bb : But p H' H16 := b2.trans ((But.of_same b15).trans (But.of_eq s16))
      clear hx
      -- noted = repr(thing)
      obtain ⟨y, hTold⟩ := thing_told (K := K) hz hT
      obtain ⟨dd, x1, x2, x3, x4, rfl⟩ := hTold.ex
      refine ⟨_, rfl, x, dd, rfl, x1, x2, x3, x4, ?_⟩
      -- some, called, later = ..
      refine ⟨_, rfl, x, rfl, fun ls xs1 H17 hls E1 s17 => ?_⟩
      refine ⟨_, rfl, x, rfl, fun lc xs2 H18 hlc E2 s18 => ?_⟩
      refine ⟨_, rfl, le2, fun tl htl => ?_⟩
      obtain ⟨H19, e19, h19, s19⟩ := new_obj (.tup [.str "later", .str z]) htl
      rw [e19]
      clear e19
      refine ⟨.ref tl, rfl, fun ll xs3 H20 hll E3 s20 => ?_⟩
      refine ⟨_, _, _, rfl, ?_⟩
      -- the two tests of the bare ones and the later ones
      refine ⟨rfl, fun lb xb H21 hlb Eb s21 => ?_⟩
      refine ⟨lb, xb, .non, "None", rfl, hlb, Eb, told_of .non brief_none, fun H22 s22 => ⟨true, rfl, ?_⟩⟩
      refine iteF ?_
      refine ⟨_, rfl, _, rfl, le2, fun t6 ht6 => ?_⟩
      obtain ⟨H23, e23, h23, s23⟩ := new_obj (.tup [.str "later", .str z]) ht6
      rw [e23]
      clear e23
      have bt : Brief (.tuple [.str "later", .str z]) 1 18 := brief_tuple (briefL_cons brief_later (briefL_cons (brief_word hz) briefL_nil))
      have dx : ∀ {Hk : Hp} {t : Addr}, Hk t = some (.tup [.str "later", .str z]) → Dx K Hk (.ref t) (.tuple [.str "later", .str z]) := fun h => .tup (.inl (.inl h)) (.cons (.str _) (.cons (.str _) .nil))
      have c19_23 : Same H19 H23 := s20.trans (s21.trans (s22.trans s23))
      refine ⟨.ref t6, _, rfl, dx h23, bt.show_, Nat.le_trans bt.deep (by decide), bt.shown (by decide), ?_⟩
      refine ⟨ll, xs3, .ref tl, _, rfl, (s21.trans (s22.trans s23)) _ _ hll, E3.same (s21.trans (s22.trans s23)), told_of (dx (c19_23 _ _ h19)) bt, fun H24 s24 => ⟨true, rfl, ?_⟩⟩
      refine iteF ?_
      -- the two tests of some and called
      have c18_24 : Same H18 H24 := s19.trans (c19_23.trans s24)
      have c17_24 : Same H17 H24 := s18.trans c18_24
      have c16_24 : Same H16 H24 := s17.trans c17_24
      refine ⟨_, rfl, _, rfl, ls, xs1, x, _, rfl, c17_24 _ _ hls, E1.same c17_24, hTold.same c16_24, fun H25 s25 => ⟨true, rfl, ?_⟩⟩
      refine iteF ?_
      refine ⟨_, rfl, _, rfl, lc, xs2, x, _, rfl, s25 _ _ (c18_24 _ _ hlc), E2.same (c18_24.trans s25), hTold.same (c16_24.trans s25), fun H26 s26 => ⟨true, rfl, ?_⟩⟩
      refine iteF ?_
      have c17_26 : Same H17 H26 := c17_24.trans (s25.trans s26)
      have c18_26 : Same H18 H26 := c18_24.trans (s25.trans s26)
      have c16_26 : Same H16 H26 := s17.trans c17_26
      -- the thing is changed
      refine mut_ok (K := K) (H0 := H') hz rfl rfl (hT.same c16_26) fun H27 hT2 pr => ?_
      have E1b := (E1.same c17_26).pres pr
      have E2b := (E2.same c18_26).pres pr
      have hls2 : H27 ls = some (.lst xs1) := pr _ _ (c17_26 _ _ hls) (.inr (.inl ⟨_, rfl, by rw [E1.length]; exact Nat.le_of_ble_eq_true rfl⟩))
      have hlc2 : H27 lc = some (.lst xs2) := pr _ _ (c18_26 _ _ hlc) (.inr (.inl ⟨_, rfl, by rw [E2.length]; exact Nat.le_of_ble_eq_true rfl⟩))
      have hl2' : H27 l = some (.lst [.ref p]) := pr _ _ (c16_26 _ _ (bb l _ lp h1)) (.inl (by rw [h1]; simp))
      obtain ⟨y2, hTold2⟩ := thing_told (K := K) hz hT2
      obtain ⟨d2', y1, y2, y3, y4, rfl⟩ := hTold2.ex
      refine ⟨_, rfl, _, rfl, x, d2', rfl, y1, y2, y3, y4, ls, xs1, x, _, rfl, hls2, E1b, hTold2, fun H28 s28 => ⟨true, rfl, ?_⟩⟩
      refine iteF ?_
      have hTold3 := hTold2.same s28
      obtain ⟨d3', w1, w2, w3, w4, w5⟩ := hTold3.ex
      refine ⟨_, rfl, _, rfl, x, d3', rfl, w1, w2, w3, w4, lc, xs2, x, _, rfl, s28 _ _ hlc2, E2b.same s28, ⟨d3', w1, w2, w3, w4, rfl⟩, fun H29 s29 => ⟨true, rfl, ?_⟩⟩
      refine iteF ?_
      exact ⟨s29 _ _ (s28 _ _ hl2'), .inr ⟨rfl, _, _, _, _, _, _, _, _, _, _, rfl⟩⟩
    · simp at hi
  · rintro σ' H' ⟨hl1, ⟨z, _⟩ | ⟨_, v1, v2, v3, v4, v5, v6, v7, v8, v9, v10, rfl⟩⟩
    · cases z
    · -- rest = [NothingToUndo(), NothingToRedo()]
      refine rest_ok (C1 := He.ga K "NothingToUndo") (C2 := He.ga K "NothingToRedo") (f := fun rl => [some (.ref a), v1, v2, v3, v4, v5, v6, v7, v8, some (.ref rl), v10]) (fun _ => rfl) fun e1 e2 rl G3 g1 g2 g3 => ?_
      have i1 : IsErr K G3 e1 "NothingToUndo" := ⟨by decide +kernel, .inl g1⟩
      have i2 : IsErr K G3 e2 "NothingToRedo" := ⟨by decide +kernel, .inl g2⟩
      have c1 : codeOf K "NothingToUndo" = [28] := code_at T.txt (i := 28) (by decide +kernel)
      have c2 : codeOf K "NothingToRedo" = [29] := code_at T.txt (i := 29) (by decide +kernel)
      dsimp only
      refine if_op ?_
      refine codes_list (K := K) (σ := [some (.ref a), v1, v2, v3, v4, v5, v6, v7, v8, some (.ref rl), v10]) (l := rl) (es := [(e1, "NothingToUndo"), (e2, "NothingToRedo")]) rfl (fun _ => rfl) (fun _ => rfl) g3 (fun e he => ?_) (Nat.le_of_ble_eq_true rfl) fun D1 ps G4 hD1 hps hat r4 => ?_
      · simp only [List.mem_cons, List.not_mem_nil, or_false] at he
        rcases he with rfl | rfl
        · exact ⟨i1, by rw [c1]; simp⟩
        · exact ⟨i2, by rw [c2]; simp⟩
      obtain ⟨p1, p2, rfl⟩ : ∃ p1 p2, ps = [p1, p2] := by
        match ps, hps with
        | [x1, x2], _ => exact ⟨x1, x2, rfl⟩
      have a1 := hat 0 p1 _ rfl rfl
      have a2 := hat 1 p2 _ rfl rfl
      rw [c1] at a1
      rw [c2] at a2
      refine ⟨le1, fun u1 hu1 => ?_⟩
      obtain ⟨G5, f5, g5, r5⟩ := new_obj (.lst [.int 28]) hu1
      rw [f5]
      clear f5
      refine ⟨le1, fun u2 hu2 => ?_⟩
      obtain ⟨G6, f6, g6, r6⟩ := new_obj (.lst [.int 29]) hu2
      rw [f6]
      clear f6
      refine ⟨le2, fun u3 hu3 => ?_⟩
      obtain ⟨G7, f7, g7, r7⟩ := new_obj (.lst [.ref u1, .ref u2]) hu3
      rw [f7]
      clear f7
      have r47 : Same G4 G7 := r5.trans (r6.trans r7)
      refine ⟨.list [.list [.int 28], .list [.int 29]], .list [.list [.int 28], .list [.int 29]], .lst (.inl (.inl (r47 _ _ hD1))) (.cons (.lst (.inl (.inl (r47 _ _ a1))) (.cons (.int 28) .nil)) (.cons (.lst (.inl (.inl (r47 _ _ a2))) (.cons (.int 29) .nil)) .nil)),
        .lst (.inl (.inl g7)) (.cons (.lst (.inl (.inl (r7 _ _ (r6 _ _ g5)))) (.cons (.int 28) .nil)) (.cons (.lst (.inl (.inl (r7 _ _ g6))) (.cons (.int 29) .nil)) .nil)), by decide +kernel, by decide +kernel, _, rfl, ?_⟩
      have ev : (!PyData.eqv (.list [.list [.int 28], .list [.int 29]]) (.list [.list [.int 28], .list [.int 29]])) = false := by decide +kernel
      rw [ev]
      refine iteF ?_
      -- rest.append(PostError())
      have r37 : Same G3 G7 := r4.trans r47
      refine app_b0 (K := K) (C := He.ga K "PostError") (rl := rl) rfl (r37 _ _ g3) (Nat.le_of_ble_eq_true rfl) fun e3 G9 g8 l9 keep => ?_
      have nl : ∀ {b : Addr} {C : Addr}, G3 b = some (exo b C none) → b ≠ rl := fun h => ne_of h g3 (by intro w0; cases (show HO.ext _ = HO.lst _ from w0))
      have E1 : IsErr K G9 e1 "NothingToUndo" := ⟨by decide +kernel, .inl (keep _ _ (nl g1) (r37 _ _ g1))⟩
      have E2 : IsErr K G9 e2 "NothingToRedo" := ⟨by decide +kernel, .inl (keep _ _ (nl g2) (r37 _ _ g2))⟩
      have E3 : IsErr K G9 e3 "PostError" := ⟨by decide +kernel, .inl g8⟩
      -- all of them are errors, the base of no class
      refine ⟨_, rfl, rl, rfl, ⟨_, .inl (.inl l9)⟩, fun D2 hD2 => ?_⟩
      refine lc_list (K := K) (a := rl) (xs := [.ref e1, .ref e2, .ref e3]) (fun i H' => H' D2 = some (.lst ((List.replicate i true).map V.bl)) ∧ Same G9 H') ⟨upd_same, same_new hD2⟩ (fun i H' _ ⟨_, s⟩ => .inl (.inl (s _ _ l9))) ?_ ?_
      · rintro i x H' hi ⟨hd, s⟩
        have hx : ∃ e n, x = .ref e ∧ IsErr K G9 e n := by
          match i, hi with
          | 0, hi => exact ⟨e1, _, (Option.some.inj hi).symm, E1⟩
          | 1, hi => exact ⟨e2, _, (Option.some.inj hi).symm, E2⟩
          | 2, hi => exact ⟨e3, _, (Option.some.inj hi).symm, E3⟩
        obtain ⟨e, n, rfl, hE⟩ := hx
        have hi3 : i < 3 := (List.getElem?_eq_some_iff.mp hi).1
        refine ⟨rfl, ?_⟩
        refine yes_of (te := tCall (spIsErr K) [] E0 (tCons (tVar 10) tNil)) ?_
        refine ⟨_, rfl, e, n, rfl, hE.same s, _, hd, by rw [List.length_map, List.length_replicate]; exact small1000 (by omega), ?_, fun b o eb => ?_⟩
        · rw [upd_same, List.replicate_succ', List.map_append] <;> rfl
        · rw [upd_ne (ne_of_none eb hD2)]
          exact s _ _ eb
      · rintro H' ⟨hd, s⟩
        refine ⟨D2, [true, true, true], rfl, .inl (.inl hd), true, rfl, ?_⟩
        refine iteT ?_
        refine ⟨_, rfl, rl, _, 2, .ref e3, rfl, rfl, .inl (.inl (s _ _ l9)), rfl, e3, "PostError", rfl, E3.same s, fun D3 H2 hD3 s2 => ?_⟩
        rw [code_post T.txt] at hD3
        refine ⟨Nat.zero_le _, fun u4 hu4 => ?_⟩
        refine ⟨.list [], .list [], .lst (.inl (.inl (same_new hu4 _ _ hD3))) .nil, .lst (.inl (.inl upd_same)) .nil, by decide +kernel, by decide +kernel, ?_⟩
        have ev2 : PyData.eqv (.list []) (.list []) = true := by decide +kernel
        rw [ev2]
        exact q _
end K01

/-! what the top leaves makes all of these facts true -/
namespace K01
open PySem PySem.Spec PyProof.Rows L2 ErrR
section
variable {P : Program} {w : World} {K : PySem.W.Frag} {h base : Heap} {mg : Str → Option Value}
theorem kbP {x qual : Str} {body : List Stmt} {scope : Scope} {f : Addr} {fd : FuncData} (D : FunD K x qual (defArgs sPost) body scope [] [] f fd) : KBn K fd ["self"] 1 [] (fun us _ => us) (fun vs _ => vs) :=
  ⟨fun s us ws X h1 h2 => D.bindsA (ps := ["self"]) (fun kV doc pm an cdv ct us hl => match us, hl with | [_], _ => rfl) s us h1, fun r _ => r⟩
theorem mem_zip {x : Str} (hx : x ∈ errNames) : ∃ i, i < 28 ∧ (x, i) ∈ errNames.zipIdx := by
  obtain ⟨i, hi, e⟩ := List.mem_iff_getElem.mp hx
  refine ⟨i, hi, ?_⟩
  rw [List.mem_iff_getElem]
  exact ⟨i, by rw [List.length_zipIdx]; exact hi, by rw [List.getElem_zipIdx, e, Nat.zero_add]⟩
theorem txt_of (X : K.In h) (G : h.Ns mainGlobals mg) (c : He.SaysX fa fn [] [] exK w h K) : Txt P w K mg base := by
  have cd := c.t.d
  have ex := c.more
  obtain ⟨e0, ex⟩ := He.ba ex
  obtain ⟨u0, u1⟩ := He.ba e0
  obtain ⟨e1, ex⟩ := He.ba ex
  obtain ⟨e2, ex⟩ := He.ba ex
  obtain ⟨e3, ex⟩ := He.ba ex
  obtain ⟨e4, ex⟩ := He.ba ex
  obtain ⟨e5, e6⟩ := He.ba ex
  have err : ∀ x ∈ names31, errB K (He.ga K x) = true := fun x hx => List.all_eq_true.mp e3 x hx
  have mth : ∀ x ∈ names31, Meth K (He.ga K x) "__init__" (He.ma K (He.ga K x) "__init__") := fun x hx => He.meth_ok (cd.facts (f := .meth x "__init__") (by
    unfold fa
    refine List.mem_append_left _ (List.mem_append_right _ ?_)
    exact List.mem_map.mpr ⟨x, hx, rfl⟩))
  have oex : ∀ x ∈ names31, OexC K (He.ga K x) := fun x hx => by
    obtain ⟨a, b⟩ := He.ba (err x hx)
    obtain ⟨b, _⟩ := He.ba b
    exact oexC_of a b
  have noV : ∀ x ∈ names31, PySem.W.findIn K (.ref (He.ga K x)) "value" = some none := fun x hx => by
    obtain ⟨_, b⟩ := He.ba (err x hx)
    obtain ⟨_, b⟩ := He.ba b
    obtain ⟨_, b⟩ := He.ba b
    exact He.eqO_ok b
  have free : ∀ x ∈ (["len", "range", "int", "isinstance", "repr", "sum", "max", "min", "all", "ValueError", "list", "dict", "tuple"] : List Str), mg x = none := fun x hx => He.free_ok X G (cd.facts (f := .free x) (by
    unfold fa
    exact List.mem_append_right _ (List.mem_map.mpr ⟨x, hx, rfl⟩)))
  have hv : PySem.W.findCls K (.type "ValueError") (.type "type") "__init__" = some (.val (.builtin "ValueError.__init__")) := by
    unfold veB at e1
    split at e1
    · rename_i n q
      have := of_decide_eq_true e1
      rw [q, this]
    · cases e1
  obtain ⟨fdP, FP⟩ := cd.defs (d := postD) (List.mem_append_right _ (List.mem_append_right _ (List.mem_singleton.mpr rfl)))
  have FP' : FunD K "__init__" "PostError.__init__" (defArgs sPost) (defBody sPost) (defScope sPost) [] [] (He.ma K (He.ga K "PostError") "__init__") fdP := FP
  have post : FnOk P w K mg base CX0 1 (He.ma K (He.ga K "PostError") "__init__") fdP ["self"] (spPost K) := ok_post FP' (free _ (by decide +kernel)) hv
  exact {
    glo := fun x hx => He.glo_ok X G (cd.facts (f := .glo x) (by
      unfold fa
      exact List.mem_append_left _ (List.mem_append_left _ (List.mem_append_right _ (List.mem_map.mpr ⟨x, hx, rfl⟩)))))
    oex := oex
    exc := fun x hx => by
      obtain ⟨_, b⟩ := He.ba (err x hx)
      obtain ⟨_, b⟩ := He.ba b
      obtain ⟨b, _⟩ := He.ba b
      exact excC_of b
    noV := noV
    ini := fun x hx => (mth x hx).at_
    fun_ := fun x hx => beq_iff_eq.mp (mth x hx).fn
    nd := of_decide_eq_true e2
    kit := fun x hx y hy => of_decide_eq_true (List.all_eq_true.mp (List.all_eq_true.mp e4 (He.ga K x) (List.mem_map.mpr ⟨x, hx, rfl⟩)) (He.ga K y) (List.mem_map.mpr ⟨y, hy, rfl⟩))
    kitP := fun x hx => of_decide_eq_true (List.all_eq_true.mp e5 (He.ga K x) (List.mem_map.mpr ⟨x, hx, rfl⟩))
    kitV := fun x hx => of_decide_eq_true (List.all_eq_true.mp e6 (He.ga K x) (List.mem_map.mpr ⟨x, hx, rfl⟩))
    err := fun x hx => by
      obtain ⟨i, hi, hm⟩ := mem_zip hx
      obtain ⟨fd, F⟩ := cd.defs (d := initD x i) (by
        unfold fn
        exact List.mem_append_right _ (List.mem_append_left _ (List.mem_map.mpr ⟨(x, i), hm, rfl⟩)))
      obtain ⟨p1, p2, p3, p4, q1, q2, q3, ea, eb, es⟩ := iform i hi
      have F' : FunD K "__init__" (x ++ (".__init__" : Str)) (defArgs (sInit i)) (defBody (sInit i)) (defScope (sInit i)) [.non] [] (He.ma K (He.ga K x) "__init__") fd := F
      rw [ea, eb, es] at F'
      exact ⟨fd, ok_init F' (oex x (in31 hx)) (noV x (in31 hx)), kb1 F', kb0 F', kbK F'⟩
    bare := fun x hx => by
      have e : He.ma K (He.ga K x) "__init__" = He.ma K (He.ga K "PostError") "__init__" := by
        have hx' : x = "NothingToUndo" ∨ x = "NothingToRedo" ∨ x = "PostError" := by
          have z : x ∈ (["NothingToUndo", "NothingToRedo", "PostError"] : List Str) := hx
          simpa using z
        rcases hx' with rfl | rfl | rfl
        · exact of_decide_eq_true u0
        · exact of_decide_eq_true u1
        · rfl
      rw [e]
      exact ⟨fdP, post, _, kbP FP'⟩ }
theorem facts (X : K.In h) (G : h.Ns mainGlobals mg) (c : He.SaysX fa fn [] [] exK w h K) {f : Addr} (hf : mg ("law" : Str) = some (.ref f)) :
    ∃ fd : FuncData, (∀ (s : Shared) (u : Value), BindsTo s fd ⟨[u], []⟩ [("script", u)]) ∧ ∀ base : Heap, FnOkG P w K mg base CX0 5 f fd ["script"] (spLaw K) := by
  have cd := c.t.d
  have free : ∀ x ∈ (["len", "range", "int", "isinstance", "repr", "sum", "max", "min", "all", "ValueError", "list", "dict", "tuple"] : List Str), mg x = none := fun x hx => He.free_ok X G (cd.facts (f := .free x) (by
    unfold fa
    exact List.mem_append_right _ (List.mem_map.mpr ⟨x, hx, rfl⟩)))
  have glo : ∀ x ∈ lawNames, mg x = some (.ref (He.ga K x)) := fun x hx => He.glo_ok X G (cd.facts (f := .glo x) (by
    unfold fa
    exact List.mem_append_left _ (List.mem_append_left _ (List.mem_append_left _ (List.mem_map.mpr ⟨x, hx, rfl⟩)))))
  have get : ∀ (i : Nat) (x : Str), lawNames[i]? = some x → ∃ fd, FnP K x (topS (33 + i)) (He.ga K x) fd := fun i x hx => by
    obtain ⟨fd, F⟩ := cd.defs (d := defD x (33 + i)) (by
      unfold fn
      refine List.mem_append_left _ (List.mem_map.mpr ⟨(x, i), ?_, rfl⟩)
      rw [List.mem_iff_getElem]
      obtain ⟨hi, e⟩ := List.getElem?_eq_some_iff.mp hx
      exact ⟨i, by rw [List.length_zipIdx]; exact hi, by rw [List.getElem_zipIdx, e, Nat.zero_add]⟩)
    exact ⟨fd, F⟩
  have hLen := free "len" (by decide +kernel)
  have hRange := free "range" (by decide +kernel)
  have hInt := free "int" (by decide +kernel)
  have hIsi := free "isinstance" (by decide +kernel)
  obtain ⟨f0, F0⟩ := get 0 "_law_mixed" (by decide +kernel)
  obtain ⟨f1, F1⟩ := get 1 "_law_draw" (by decide +kernel)
  obtain ⟨f2, F2⟩ := get 2 "_law_one_of" (by decide +kernel)
  obtain ⟨f3, F3⟩ := get 3 "_law_word" (by decide +kernel)
  obtain ⟨f4, F4⟩ := get 4 "_law_purse" (by decide +kernel)
  obtain ⟨f5, F5⟩ := get 5 "_law_purses" (by decide +kernel)
  obtain ⟨f6, F6⟩ := get 6 "_law_first" (by decide +kernel)
  obtain ⟨f7, F7⟩ := get 7 "_law_called" (by decide +kernel)
  obtain ⟨f8, F8⟩ := get 8 "_law_bare" (by decide +kernel)
  obtain ⟨f9, F9⟩ := get 9 "_law_code" (by decide +kernel)
  obtain ⟨f10, F10⟩ := get 10 "_law_is_error" (by decide +kernel)
  obtain ⟨f11, F11⟩ := get 11 "_law_right" (by decide +kernel)
  obtain ⟨f12, F12⟩ := get 12 "law" (by decide +kernel)
  have e := hf.symm.trans (glo "law" (by decide +kernel))
  cases e
  have b0 : Binds K f0 ["seed", "spin", "at"] [] := F0.bindsN fun _ _ _ _ _ _ us hl => match us, hl with | [_, _, _], _ => rfl
  have b1 : Binds K f1 ["dice", "many"] [] := F1.bindsN fun _ _ _ _ _ _ us hl => match us, hl with | [_, _], _ => rfl
  have b2 : Binds K f2 ["dice", "some"] [] := F2.bindsN fun _ _ _ _ _ _ us hl => match us, hl with | [_, _], _ => rfl
  have b3 : Binds K f3 ["dice"] [] := F3.bindsN fun _ _ _ _ _ _ us hl => match us, hl with | [_], _ => rfl
  have b4 : Binds K f4 ["script", "at"] [] := F4.bindsN fun _ _ _ _ _ _ us hl => match us, hl with | [_, _], _ => rfl
  have b5 : Binds K f5 ["script", "few"] [] := F5.bindsN fun _ _ _ _ _ _ us hl => match us, hl with | [_, _], _ => rfl
  have b6 : Binds K f6 ["thing"] [] := F6.bindsN fun _ _ _ _ _ _ us hl => match us, hl with | [_], _ => rfl
  have b7 : Binds K f7 ["thing"] [] := F7.bindsN fun _ _ _ _ _ _ us hl => match us, hl with | [_], _ => rfl
  have b8 : Binds K f8 [] [] := F8.bindsN fun _ _ _ _ _ _ us hl => match us, hl with | [], _ => rfl
  have b9 : Binds K f9 ["error"] [] := F9.bindsN fun _ _ _ _ _ _ us hl => match us, hl with | [_], _ => rfl
  have b10 : Binds K f10 ["error"] [] := F10.bindsN fun _ _ _ _ _ _ us hl => match us, hl with | [_], _ => rfl
  have b11 : Binds K f11 ["some", "noted"] [] := F11.bindsN fun _ _ _ _ _ _ us hl => match us, hl with | [_, _], _ => rfl
  have b12 := F12.bindsA (ps := ["script"]) fun _ _ _ _ _ _ us hl => match us, hl with | [_], _ => rfl
  refine ⟨f12, fun s u => b12 s [u] rfl, fun base => ?_⟩
  have T : Txt P w K mg base := txt_of X G c
  have G0 := ok_mixed (P := P) (w := w) (mg := mg) (base := base) F0 hInt
  have G1 := ok_draw F1 G0 (glo "_law_mixed" (by decide +kernel)) F0.kp b0 hInt hRange
  have G2 := ok_one_of F2 G1 (glo "_law_draw" (by decide +kernel)) F1.kp b1 hLen
  have G3 := ok_word F3 G1 (glo "_law_draw" (by decide +kernel)) F1.kp b1 G2 (glo "_law_one_of" (by decide +kernel)) F2.kp b2 hRange
  have G4 := ok_purse (P := P) (w := w) (mg := mg) (base := base) F4 (free "sum" (by decide +kernel)) hInt (free "max" (by decide +kernel))
  have G5 := ok_purses F5 G4 (glo "_law_purse" (by decide +kernel)) F4.kp b4 hLen (free "min" (by decide +kernel)) (free "max" (by decide +kernel)) hRange
  have G6 := ok_law_first F6 T
  have G7 := ok_law_called F7 T
  have G8 := ok_law_bare F8 T
  have G9 := ok_law_code F9 T hIsi hRange hLen
  have G10 := ok_law_is_error F10 T hIsi (free "ValueError" (by decide +kernel))
  have G11 := ok_law_right F11 T G9 (glo "_law_code" (by decide +kernel)) F9.kp b9 G10 (glo "_law_is_error" (by decide +kernel)) F10.kp b10 hRange (free "repr" (by decide +kernel))
  have L : LawC P w K mg base := {
    txt := T
    purses := ⟨_, f5, glo "_law_purses" (by decide +kernel), F5.kp, b5, G5⟩
    word := ⟨_, f3, glo "_law_word" (by decide +kernel), F3.kp, b3, G3⟩
    oneOf := ⟨_, f2, glo "_law_one_of" (by decide +kernel), F2.kp, b2, G2⟩
    first := ⟨_, f6, glo "_law_first" (by decide +kernel), F6.kp, b6, G6⟩
    called := ⟨_, f7, glo "_law_called" (by decide +kernel), F7.kp, b7, G7⟩
    bare := ⟨_, f8, glo "_law_bare" (by decide +kernel), F8.kp, b8, G8⟩
    code := ⟨_, f9, glo "_law_code" (by decide +kernel), F9.kp, b9, G9⟩
    isErr := ⟨_, f10, glo "_law_is_error" (by decide +kernel), F10.kp, b10, G10⟩
    right := ⟨_, f11, glo "_law_right" (by decide +kernel), F11.kp, b11, G11⟩
    repr_ := free "repr" (by decide +kernel)
    isinst := hIsi
    list_ := free "list" (by decide +kernel)
    dict_ := free "dict" (by decide +kernel)
    tuple_ := free "tuple" (by decide +kernel)
    all_ := free "all" (by decide +kernel) }
  exact ok_law F12 L
end
end K01
open PySem PySem.W PySem.Calls PyProof.Rows
set_option maxHeartbeats 0 in
theorem PySem.Challenge.cw_postways_k01_errors_made_holds : PySem.Challenge.rw_postways_k01_errors_made.Holds := by
  w_on; o_law
  refine HandSHeadRun.head_any (r := OpenLaw.row PySem.Challenge.rw_postways_k01_errors_made) (q := view (OpenLaw.row PySem.Challenge.rw_postways_k01_errors_made).prog [45]) (H := K01.hk) (ob := K01.ob) (M := 9000) (loose := K01.loose) (d := HandSHeadRun.topDef (OpenLaw.row PySem.Challenge.rw_postways_k01_errors_made).prog 45) (kwd := []) K01.ob_eq
    (by kernel_rfl) (fun s => by kernel_rfl) K01.run (by kernel_rfl) (by kernel_rfl) (by kernel_rfl) (by rfl) (by first | assumption | decide +kernel) (by decide +kernel) ⟨rfl, rfl, rfl, rfl, rfl, by decide +kernel⟩ ?hw ?hc
  case hw => w_witness2
  case hc =>
    refine ErrR.walkG (l := PySem.Challenge.rw_postways_k01_errors_made) (n := 63) (k := 5) (x := "script") (CX := L2.CX0) rfl (by decide) (by kernel_rfl) ⟨rfl, by decide, by decide⟩ ?F (fun _ _ _ _ z => z)
    intro w mg fa h Y G hmg0
    obtain ⟨K, KX, c⟩ := Y
    have hmg : mg ("law" : PySem.Str) = some (.ref fa) := by
      have e : (HandSHeadRun.topDef (OpenLaw.row PySem.Challenge.rw_postways_k01_errors_made).prog 45).name = ("law" : PySem.Str) := by kernel_rfl
      rw [← e]
      exact hmg0
    obtain ⟨fd, hb, hF⟩ := K01.facts (P := (PySem.Challenge.rw_postways_k01_errors_made).prog) (w := w) KX G c hmg
    refine ⟨K, fd, K01.spLaw K, KX, hb, fun H a ns hl _ hS => ⟨a, ns, rfl, hS, Nat.le_trans hl (by decide), fun _ => rfl⟩, fun base _ _ => hF base⟩

