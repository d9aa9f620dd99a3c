import PyProof.Rows.All
import Wide.All
import OpenK.AllK
import Wide.FinOn
import KE.KStateDown
import KE.KExcInit
import HandS.ForExc
import HandS.ForMost
import HandS.Defaults
import HandS.ExcInit
import HandS.ExcIs
import HandS.IsInst
import HandS.Wide
import HandS.WideBits
import HandS.HeadEnd
import HandS.HeadHook1
import HandS.HeadHook2
import HandS.Head0
import HandS.Head1
import HandS.Head2
import HandS.ExcValue
import HandS.Walk
import HandS.Text
import KE.KxText
import PyProof.ReprLen
import PyProof.StrLawsRepr
import HandS.Style
import HandS.Codes
import PySem.Challenge.RW_shiftfolds_k01_errors_made
set_option Elab.async false
set_option linter.all false
set_option maxRecDepth 100000
set_option maxHeartbeats 0
namespace K01
open PySem PySem.Spec PyProof.Rows L2
def top (i : Nat) : Stmt := PySem.Challenge.pw_shiftfolds_k01_errors_made.main.body.getD i (.Pass ⟨0, 0, 0, 0⟩)
def c_ (n : String) (r : Nat) : Str × Str × Nat := (Str.ofString n, Str.ofString (n ++ ".__init__"), r)
/-- the classes with a field: name, qualified name of its __init__, the row of its def -/
def cls : List (Str × Str × Nat) := [
  c_ "InvalidValue" 6,
  c_ "InvalidOperation" 10,
  c_ "InvalidLikeness" 14,
  c_ "InvalidKind" 18,
  c_ "InvalidTable" 22,
  c_ "InvalidKinds" 26,
  c_ "InvalidHolding" 30,
  c_ "InvalidTyping" 34,
  c_ "InvalidFolding" 38,
  c_ "InvalidMap" 42,
  c_ "InvalidTriples" 46,
  c_ "InvalidBase" 50,
  c_ "InvalidWord" 54,
  c_ "InvalidRow" 58,
  c_ "InvalidGrouping" 62,
  c_ "InvalidBlock" 66,
  c_ "InvalidBlocks" 70,
  c_ "InvalidCut" 74,
  c_ "InvalidDeed" 78,
  c_ "InvalidInputs" 82,
  c_ "InvalidPrices" 86,
  c_ "InvalidWeights" 90,
  c_ "InvalidHands" 94,
  c_ "InvalidLosses" 98,
  c_ "InvalidCount" 102,
  c_ "InvalidProgram" 106,
  c_ "InvalidName" 110,
  c_ "InvalidPlan" 114,
  c_ "InvalidChange" 118,
  c_ "InvalidChanges" 122,
  c_ "InvalidWorks" 126,
  c_ "InvalidSpot" 130,
  c_ "InvalidScript" 134,
  c_ "InvalidText" 138,
  c_ "InvalidLog" 142,
  c_ "Unlike" 146,
  c_ "Unsettled" 150,
  c_ "Apart" 154,
  c_ "Refused" 158]
def bases : List Str := ["FoldError", "NothingToUndo", "NothingToRedo"]
abbrev sPurse : Stmt := top 44
abbrev sMixed : Stmt := top 45
abbrev sDraw : Stmt := top 46
abbrev sPurses : Stmt := top 47
abbrev sOneof : Stmt := top 48
abbrev sWord : Stmt := top 49
abbrev sFirst : Stmt := top 50
abbrev sCalled : Stmt := top 51
abbrev sBare : Stmt := top 52
abbrev sCode : Stmt := top 53
abbrev sIserror : Stmt := top 54
abbrev sRight : Stmt := top 55
abbrev sLaw : Stmt := top 56
def iA (r : Nat) : Arguments := { posonlyargs := [], args := [{ arg := "self", annotation := none, pos := ⟨r, 17, r, 21⟩ }, { arg := "value", annotation := none, pos := ⟨r, 23, r, 28⟩ }], vararg := none, kwonlyargs := [], kw_defaults := [], kwarg := none, defaults := [.Constant .none 0 ⟨r, 29, r, 33⟩] }
def iB (r : Nat) : List Stmt := [.Assign [.Attribute (.Name "self" ⟨r, 8, r, 12⟩) "value" ⟨r, 8, r, 18⟩] (.Name "value" ⟨r, 21, r, 26⟩) ⟨r, 8, r, 26⟩]
def iS : Scope := { kind := .function, names := [(PySem.Str.ofString "self", .local), (PySem.Str.ofString "value", .local)], isGenerator := false, isCoroutine := false, more := [] }
def dI (p : Str × Str × Nat) : He.DefD := ⟨(p.1, some "__init__"), "__init__", p.2.1, iA p.2.2, iB (p.2.2 + 1), iS, [.non], []⟩
def dPurse : He.DefD := ⟨("_law_purse", none), "_law_purse", "_law_purse", defArgs sPurse, defBody sPurse, defScope sPurse, [], []⟩
def dMixed : He.DefD := ⟨("_law_mixed", none), "_law_mixed", "_law_mixed", defArgs sMixed, defBody sMixed, defScope sMixed, [], []⟩
def dDraw : He.DefD := ⟨("_law_draw", none), "_law_draw", "_law_draw", defArgs sDraw, defBody sDraw, defScope sDraw, [], []⟩
def dPurses : He.DefD := ⟨("_law_purses", none), "_law_purses", "_law_purses", defArgs sPurses, defBody sPurses, defScope sPurses, [], []⟩
def dOneof : He.DefD := ⟨("_law_one_of", none), "_law_one_of", "_law_one_of", defArgs sOneof, defBody sOneof, defScope sOneof, [], []⟩
def dWord : He.DefD := ⟨("_law_word", none), "_law_word", "_law_word", defArgs sWord, defBody sWord, defScope sWord, [], []⟩
def dFirst : He.DefD := ⟨("_law_first", none), "_law_first", "_law_first", defArgs sFirst, defBody sFirst, defScope sFirst, [], []⟩
def dCalled : He.DefD := ⟨("_law_called", none), "_law_called", "_law_called", defArgs sCalled, defBody sCalled, defScope sCalled, [], []⟩
def dBare : He.DefD := ⟨("_law_bare", none), "_law_bare", "_law_bare", defArgs sBare, defBody sBare, defScope sBare, [], []⟩
def dCode : He.DefD := ⟨("_law_code", none), "_law_code", "_law_code", defArgs sCode, defBody sCode, defScope sCode, [], []⟩
def dIserror : He.DefD := ⟨("_law_is_error", none), "_law_is_error", "_law_is_error", defArgs sIserror, defBody sIserror, defScope sIserror, [], []⟩
def dRight : He.DefD := ⟨("_law_right", none), "_law_right", "_law_right", defArgs sRight, defBody sRight, defScope sRight, [], []⟩
def dLaw : He.DefD := ⟨("law", none), "law", "law", defArgs sLaw, defBody sLaw, defScope sLaw, [], []⟩
def fn : List He.DefD := [dPurse, dMixed, dDraw, dPurses, dOneof, dWord, dFirst, dCalled, dBare, dCode, dIserror, dRight, dLaw] ++ cls.map dI
def fa : List He.Fa := [.glo "_law_purse", .glo "_law_mixed", .glo "_law_draw", .glo "_law_purses", .glo "_law_one_of", .glo "_law_word", .glo "_law_first", .glo "_law_called", .glo "_law_bare", .glo "_law_code", .glo "_law_is_error", .glo "_law_right", .glo "law", .free "sum", .free "int", .free "max", .free "min", .free "range", .free "len", .free "isinstance", .free "repr", .free "all", .free "list", .free "dict", .free "tuple", .free "ValueError"]
/-- an exception class as it stands behind the top -/
def oexB (K : PySem.W.Frag) (C : Addr) : Bool := match K.lookup C with
  | some ⟨.type "type", _, .cls cd, sl⟩ => (match cd.mro, sl.toList with
    | .ref C' :: bm, [_, _, _, _, some (.builtin n), _] => C' == C && (n == "ValueError.__new__" && (!cd.hasDel && (cd.hasDict && PySem.HandSPX.refsVE bm)))
    | _, _ => false)
  | _ => false
def eqOO (a b : Option (Option Value)) : Bool := decide (a = b)
def excB (K : PySem.W.Frag) (C : Addr) : Bool :=
  He.eqO (PySem.W.findIn K (.ref C) "__setattr__") (some (some (.builtin "object.__setattr__"))) &&
  (He.eqO (PySem.W.findIn K (.ref C) "__getattribute__") (some (some (.builtin "BaseException.__getattribute__"))) &&
  (He.eqO (PySem.W.findIn K (.ref C) "__getattr__") (some none) &&
  (He.eqO (PySem.W.findIn K (.ref C) "__class__") (some (some (.builtin "object.__class__"))) &&
  (He.eqO (PySem.W.findIn K (.ref C) "value") (some none) &&
  (PySem.W.keepIn K (.ref C) && oexB K C)))))
def iniB (K : PySem.W.Frag) (C : Addr) : Bool :=
  He.eqO (PySem.W.findIn K (.ref C) "__init__") (some (some (.ref (He.ma K C "__init__")))) && decide (PySem.W.typeIn K (.ref (He.ma K C "__init__")) = some (.type "function"))
/-- its line of bases -/
def mroB (K : PySem.W.Frag) (C : Addr) (l : List Value) : Bool := match PySem.W.clsIn K C with
  | some cd => decide (cd.mro = l)
  | none => false
def ve : List Value := [.type "ValueError", .type "Exception", .type "BaseException", .type "object"]
def globB (K : PySem.W.Frag) (x : Str) : Bool := He.eqO (PySem.W.nsIn K mainGlobals x) (some (some (.ref (He.ga K x))))
def names41 : List Str := cls.map (·.1) ++ (["NothingToUndo", "NothingToRedo"] : List Str)
def names42 : List Str := names41 ++ (["FoldError"] : List Str)
def lastNames : List Str := ["NothingToUndo", "NothingToRedo", "FoldError"]
def chk (K : PySem.W.Frag) : Bool :=
  (names42.all fun x => globB K x && excB K (He.ga K x)) &&
  ((cls.all fun p => iniB K (He.ga K p.1)) &&
  ((names41.all fun x => mroB K (He.ga K x) (.ref (He.ga K x) :: .ref (He.ga K "FoldError") :: ve)) &&
  (mroB K (He.ga K "FoldError") (.ref (He.ga K "FoldError") :: ve) &&
  ((lastNames.all fun x => PySem.W.excIn K (He.ga K x) ve "ValueError.__new__") &&
  (decide ((names42.map (He.ga K)).Nodup) &&
  (He.eqO (PySem.W.specialIn K (.builtin "object.__class__") "__get__") (some (some (.builtin "getset_descriptor.__get__"))) &&
  (decide (PySem.W.takesIn K (.builtin "object.__class__") = some true))))))))
abbrev Alx : Type := He.AlD × Bool
def obsX (K : PySem.W.Frag) : Alx := (He.obsD fa fn K, chk K)
def valX : Alx := (He.valD fn, true)
def hk : PySem.W.Hook where
  α := Alx
  obs := fun s => obsX (He.frG s.heap.get? (He.asD s.heap.get? 4))
  val := fun _ => valX
  says := fun _ h => ∃ K : PySem.W.Frag, K.In h ∧ obsX K = valX
  of := fun _ _ e => ⟨_, He.frG_in, e⟩
  keeps := fun _ _ _ ⟨K, hK, c⟩ k => ⟨K, PySem.W.Frag.In.keeps hK k, c⟩
def ob (s : PySem.W.SharedT) : Alx := obsX (He.frG (HandSHeadRun.getT s) (He.asD (HandSHeadRun.getT s) 4))
theorem ob_eq (s : PySem.W.SharedT) : ob s = hk.obs s.abs := by
  have e : HandSHeadRun.getT s = s.abs.heap.get? := funext (HandSHeadRun.getT_eq s)
  unfold ob
  rw [e] <;> rfl
def loose1 : List Str := ["FoldError", "InvalidValue", "InvalidOperation", "InvalidLikeness", "InvalidKind", "InvalidTable", "InvalidKinds", "InvalidHolding", "InvalidTyping", "InvalidFolding", "InvalidMap", "InvalidTriples", "InvalidBase", "InvalidWord", "InvalidRow", "InvalidGrouping", "InvalidBlock", "InvalidBlocks", "InvalidCut", "InvalidDeed", "InvalidInputs", "InvalidPrices", "InvalidWeights", "InvalidHands", "InvalidLosses", "InvalidCount", "InvalidProgram", "InvalidName", "InvalidPlan", "InvalidChange"]
def loose2 : List Str := ["InvalidChanges", "InvalidWorks", "InvalidSpot", "InvalidScript", "InvalidText", "InvalidLog", "Unlike", "Unsettled", "Apart", "Refused", "NothingToUndo", "NothingToRedo", "_law_purse", "_law_mixed", "_law_draw", "_law_purses", "_law_one_of", "_law_word", "_law_first", "_law_called", "_law_bare", "_law_code", "_law_is_error", "_law_right"]
def loose : List Str := loose1 ++ loose2
abbrev R : PySem.W.OpenRow := PySem.W.OpenLaw.row PySem.Challenge.rw_shiftfolds_k01_errors_made
theorem run (w : World) : HandSHeadRun.RunEq R (PySem.W.view R.prog [56]) hk ob 12000 loose w := by
  intro os
  kernel_rfl
end K01
/-! An own exception class over ValueError called with one keyword: __new__ forgets it, the own __init__ gets it. -/
namespace K01
open PySem PySem.W PySem.Calls PyProof.Rows Builtin Builtin.ObjectAttr
section
variable {prog : Program} {w : World} {A : Around} {E : Value → Shared → Prop} {R : Result → Shared → Prop} {h : Heap} {g : Array GenState} {d : Drawn} {t : Nat} {os : OsState}
variable {nm q : Str} {C N : Addr} {bs bm bmB : List Value} {hdct : Bool} {sn : List Str} {sub : List Value} {ab : Bool} {col : Option Bool} {dd : Option Addr} {k0 k1 k2 k3 k5 : Option Value} {B newId initId : String}
theorem kwTypeCheck {M : Model} {kn : Str} {kv : Value} {Q : Unit → Shared → Prop} (hC : h.get? C = some (excClassObj nm q C N bs bm hdct sn sub ab col dd k0 k1 k2 k3 k5 newId))
    (hq : Q () ⟨h, g, d, t, os⟩) : wpAny M A (checkBuiltinCall "type.__call__" ⟨[.ref C], [(kn, kv)]⟩) Q E ⟨h, g, d, t, os⟩ := by
  have f3 := tc_sub
  have hT : (⟨h, g, d, t, os⟩ : Shared).TypeIs (.ref C) "type" := ⟨_, hC, rfl⟩
  simp only [checkBuiltinCall, tc_kind, tc_split]
  repeat (any_goals (first | assumption | with_reducible refine wpAny_loadPart_at hC ?_ | with_reducible refine wpAny_onRaise ?_ | with_reducible refine wpAny_map ?_ | wp_step))
theorem kwNewCheck {M : Model} (F : ExcBaseFacts B newId initId bmB) (hT : ∀ X : String, bm.contains (.type X) = bmB.contains (.type X)) {kn : Str} {kv : Value} {Q : Unit → Shared → Prop}
    (hC : h.get? C = some (excClassObj nm q C N bs bm hdct sn sub ab col dd k0 k1 k2 k3 k5 newId)) (hq : Q () ⟨h, g, d, t, os⟩) : wpAny M A (checkBuiltinCall newId ⟨[.ref C], [(kn, kv)]⟩) Q E ⟨h, g, d, t, os⟩ := by
  have has : (Value.ref C :: bm).contains (.type B) = true := by
    rw [List.contains_cons, hT, F.hasB, Bool.or_true]
  have nostar := F.noStar
  simp only [checkBuiltinCall, F.newKind, F.newSplit, F.newRow]
  repeat (first
    | refine wpAny_loadPart_at hC ?_
    | (refine wpAny_isSubtype_exc hC ?_; rw [has])
    | refine wpAny_staticBase_exc hC ?_
    | refine wpAny_madeBy_exc hC ?_
    | simp only [bne_self_eq_false, Bool.false_eq_true, if_false]
    | wp_step)
  exact hq
theorem kwNew (F : ExcBaseFacts B newId initId bmB) (hT : ∀ X : String, bm.contains (.type X) = bmB.contains (.type X)) {kn : Str} {kv : Value}
    (hC : h.get? C = some (excClassObj nm q C N bs bm hdct sn sub ab col dd k0 k1 k2 k3 k5 newId))
    (hq : R (.ok (.ret (.ref (h.objs.size + 1)))) ⟨(h.push (kdv_tup [])).push (HandSPX.excO C h.objs.size), g, d, t, os⟩) :
    codeAny (model prog w) A (.builtin newId ⟨[.ref C], [(kn, kv)]⟩) R ⟨h, g, d, t, os⟩ := by
  have en := F.ends
  have c1 : (Value.ref C :: bm).contains (.type B) = true := by
    rw [List.contains_cons, hT, F.hasB, Bool.or_true]
  have c2 : (Value.ref C :: bm).contains (.type "AttributeError") = false := by
    rw [List.contains_cons, hT, F.noAttr]
    rfl
  have c3 : (Value.ref C :: bm).contains (.type "NameError") = false := by
    rw [List.contains_cons, hT, F.noName]
    rfl
  have hz : ([] : List Value).length ≤ sizeLine := Nat.zero_le _
  refine codeAny_builtinAt F.entry ?_
  unfold Builtin.«BaseException.__new__»
  refine PySem.wpAt_bind ?_
  show PySem.wpAt _ _ _ (stack >>= _) _ _ _
  refine PySem.wpAt_bind (PySem.wpAt_stack fun p below => PySem.wpAt_of_wpAny ?_)
  wp_walk
  refine PySem.wpAt_of_wpAny ?_
  rw [F.owner]
  repeat (first
    | with_reducible refine wpAny_madeHere_exc F.canon hC ?_
    | with_reducible refine wpAny_loadPart_at hC ?_
    | (with_reducible refine wpAny_isSubtype_exc hC ?_; first | rw [c1] | rw [c2] | rw [c3])
    | wp_step)
  show R _ _
  rw [Heap.size_push]
  exact hq
theorem kwCall (F : ExcBaseFacts B newId initId bmB) (hT : ∀ X : String, bm.contains (.type X) = bmB.contains (.type X)) {kn : Str} {kv : Value} {fI : Addr}
    (hC : h.get? C = some (excClassObj nm q C N bs bm hdct sn sub ab col dd k0 k1 k2 k3 k5 newId))
    (hi : W.Looks (model prog w) h (typeLookup (.ref C) "__init__") (some (.ref fI))) (hb : ∀ self, W.Looks (model prog w) h (bindSpecial (.ref fI) self) (.ref fI, [self]))
    (hq : codeAny (model prog w) (A.under (.builtin "type.__call__" ⟨[.ref C], [(kn, kv)]⟩)) (.call (.ref fI) ⟨[.ref (h.objs.size + 1)], [(kn, kv)]⟩) (W.InitBack (h.objs.size + 1) R)
      ⟨(h.push (kdv_tup [])).push (HandSPX.excO C h.objs.size), g, d, t, os⟩) :
    codeAny (model prog w) A (.call (.ref C) ⟨[], [(kn, kv)]⟩) R ⟨h, g, d, t, os⟩ := by
  have f1 := tc_lookup
  have f2 := tc_bind (.ref C)
  have hTy : (⟨h, g, d, t, os⟩ : Shared).TypeIs (.ref C) "type" := ⟨_, hC, rfl⟩
  refine codeAny_of_tree ?_
  show wpAny _ _ (callAny (.ref C) _) _ _ _
  repeat (any_goals (first | assumption | with_reducible refine wpAny_loadPart_at hC ?_ | wp_step))
  refine ⟨rfl, ?_⟩
  refine codeAny_call_builtin_at (Code.quiet_builtin _ (by decide +kernel)) entry_typeCall (kwTypeCheck hC ?_)
  repeat (first | with_reducible refine wpAny_loadPart_at hC ?_ | with_reducible refine wpAny_madeBy_exc hC ?_ | wp_step)
  refine codeAny_call_builtin_code (Code.quiet_builtin _ F.quiet) (kwNewCheck F hT hC ?_)
  refine kwNew F hT hC ?_
  show wpAny _ _ _ _ _ _
  have k : ∀ b o, h.get? b = some o → ((h.push (W.kdv_tup [])).push (HandSPX.excO C h.objs.size)).get? b = some o :=
    fun b o e => Heap.get?_push_of_some _ (Heap.get?_push_of_some _ e)
  have hC1 := k _ _ hC
  have hg1 : ((h.push (W.kdv_tup [])).push (HandSPX.excO C h.objs.size)).get? (h.objs.size + 1) = some (HandSPX.excO C h.objs.size) := by heap_get
  have hself : (Value.ref C :: bm).contains (.ref C) = true := by simp
  have i1 := hi.keeps k
  have b1 := (hb (.ref (h.objs.size + 1))).keeps k
  unfold isInstance
  repeat (first | with_reducible refine wpAny_loadPart_at hg1 ?_ | (with_reducible refine wpAny_isSubtype_exc hC1 ?_; rw [hself]) | wp_step)
  show wpAny _ _ (typeLookup (.ref C) _) _ _ _
  refine i1.at ?_
  refine wpAny_holding (wpAny_bind (b1.at ?_))
  refine wpAny_bind (wpAny_call (codeAny_mono hq fun r s' z => ?_))
  rcases r with e | (v | _ | _ | _) <;> first | exact z | exact z.elim | skip
  obtain ⟨rfl, z⟩ := z
  first
    | exact wpAny_pure (wpAny_pure z)
    | (wp_walk; exact z)
end
end K01
/-! Own exceptions as values: made (by place, by name, bare), asked for their class, their field read. -/
namespace K01
open PySem PySem.Spec PyProof.Rows L2
theorem oexB_ok {K : PySem.W.Frag} {C : Addr} (h : oexB K C = true) : ∃ nm q N bs bm sn sub ab col dd k0 k1 k2 k3 k5,
    K.lookup C = some (excClassObj nm q C N bs bm true sn sub ab col dd k0 k1 k2 k3 k5 "ValueError.__new__") ∧ PySem.HandSPX.refsVE bm = true := by
  unfold oexB at h
  split at h
  · rename_i dd cd sl lk
    split at h
    · rename_i C' bm k0 k1 k2 k3 n k5 hm hs
      simp only [Bool.and_eq_true, beq_iff_eq, Bool.not_eq_true'] at h
      obtain ⟨rfl, rfl, nodel, hasd, tail⟩ := h
      obtain ⟨nm, bs, mro, ns, qn, hd, sn, sub, ab, col, dl⟩ := cd
      dsimp only at hm nodel hasd
      subst hm nodel hasd
      obtain ⟨l⟩ := sl
      dsimp only at hs
      subst hs
      exact ⟨nm, qn, ns, bs, bm, sn, sub, ab, col, dd, k0, k1, k2, k3, k5, lk, tail⟩
    · cases h
  · cases h
/-- an exception class of the text -/
structure ET (K : PySem.W.Frag) (C : Addr) : Prop where
  oex : OexC K C
  exc : ExcC K C
  nov : PySem.W.findIn K (.ref C) "value" = some none
theorem excB_ok {K : PySem.W.Frag} {C : Addr} (h : excB K C = true) (hn : PySem.W.specialIn K (.builtin "object.__class__") "__get__" = some (some (.builtin "getset_descriptor.__get__")))
    (ht : PySem.W.takesIn K (.builtin "object.__class__") = some true) : ET K C := by
  obtain ⟨h1, h⟩ := He.ba h
  obtain ⟨h2, h⟩ := He.ba h
  obtain ⟨h3, h⟩ := He.ba h
  obtain ⟨h4, h⟩ := He.ba h
  obtain ⟨h5, h⟩ := He.ba h
  obtain ⟨h6, h7⟩ := He.ba h
  obtain ⟨nm, q, N, bs, bm, sn, sub, ab, col, dd, k0, k1, k2, k3, k5, lk, tl⟩ := oexB_ok h7
  have hcl : PySem.W.clsIn K C = some { name := nm, bases := bs, mro := .ref C :: bm, ns := N, qualname := q, hasDict := true, slotNames := sn, subclasses := sub, abstract := ab, collection := col, hasDel := false } := by
    unfold PySem.W.clsIn
    rw [lk] <;> rfl
  have hmr : ∀ T : String, PySem.W.mroIn K C (.type T) = some (PySem.HandSPX.veTail.contains (.type T)) := fun T => by
    unfold PySem.W.mroIn
    rw [hcl]
    show (if (Value.ref C :: bm).isEmpty = true then none else some ((Value.ref C :: bm).contains (.type T))) = _
    rw [if_neg (by simp), List.contains_cons, PySem.HandSPX.refsVE_contains T bm tl]
    rfl
  have hb : PySem.W.subIn K (.ref C) (.type "BaseException") = some true := (hmr "BaseException").trans (by decide +kernel)
  have hd : PySem.W.hasDictIn K C = true := by
    unfold PySem.W.hasDictIn
    rw [hcl]
    rfl
  have hty : PySem.W.typeIn K (.ref C) = some (.type "type") := by
    show (K.lookup C).map (·.cls) = _
    rw [lk]
    rfl
  exact ⟨⟨⟨nm, q, N, bs, bm, sn, sub, ab, col, dd, k0, k1, k2, k3, k5, lk, tl⟩, He.eqO_ok h1, hb, hty, h6⟩,
    ⟨He.eqO_ok h2, He.eqO_ok h3, hb, hd, He.eqO_ok h4, hn, ht, (hmr "object").trans (by decide +kernel)⟩, He.eqO_ok h5⟩

/-- the promise of each __init__(self, value): the field is laid -/
def spI (C : Addr) : Sp := fun vs H Q _ => ∃ (a : Addr) (v : V), vs = [.ref a, v] ∧ H a = some (exo a C none) ∧
  ∀ dx, H dx = none → dx ≠ a → Q .non (upd (upd H dx (exd dx [(("value" : Str), v)])) a (exo a C (some dx)))
theorem scI : FnScope ["self", "value"] ["self", "value"] iS := ⟨rfl, rfl, rfl, by decide +kernel, rfl, by decide +kernel, by decide +kernel⟩
theorem ok_init {P : Program} {w : World} {K : PySem.W.Frag} {mg : Str → Option Value} {base : Heap} {C f : Addr} {fd : FuncData} {qual : Str} {r r' : Nat} {dvs : List V}
    (T : ET K C) (F : FunD K "__init__" qual (iA r) (iB r') iS dvs [] f fd) : FnOk P w K mg base CX0 1 f fd ["self", "value"] (spI C) := by
  refine F.ok scI (fun vs H Q E h => ?_) (fun cdv A outer s H vs Q E hr h => ⟨_, pss_one (ps_ost (pv 0) (pv 1)), ?_⟩)
  · obtain ⟨a, v, rfl, _⟩ := h
    rfl
  · obtain ⟨a, v, rfl, ha, k⟩ := h
    exact ⟨v, rfl, .ref a, rfl, a, C, rfl, T.oex, T.nov, .inl ⟨ha, k⟩⟩
/-- what is known of an exception class with its own __init__ -/
structure EI (P : Program) (w : World) (K : PySem.W.Frag) (mg : Str → Option Value) (base : Heap) (C : Addr) : Prop where
  et : ET K C
  fn : ∃ (fI : Addr) (fd : FuncData), PySem.W.findIn K (.ref C) "__init__" = some (some (.ref fI)) ∧ PySem.W.typeIn K (.ref fI) = some (.type "function") ∧ FnOk P w K mg base CX0 1 fI fd ["self", "value"] (spI C) ∧
    (∀ (s : Shared) (a u : Value), K.In s.heap → BindsTo s fd ⟨[a, u], []⟩ [("self", a), ("value", u)]) ∧
    (∀ (s : Shared) (a : Value), K.In s.heap → BindsTo s fd ⟨[a], []⟩ [("self", a), ("value", .none)]) ∧
    (∀ (s : Shared) (a u : Value), K.In s.heap → BindsTo s fd ⟨[a], [(("value" : Str), u)]⟩ [("self", a), ("value", u)])
theorem ei_of {P : Program} {w : World} {K : PySem.W.Frag} {mg : Str → Option Value} {base : Heap} {C f : Addr} {fd : FuncData} {qual : Str} {r r' : Nat} (T : ET K C)
    (F : FunD K "__init__" qual (iA r) (iB r') iS [.non] [] f fd) (hi : PySem.W.findIn K (.ref C) "__init__" = some (some (.ref f))) (ht : PySem.W.typeIn K (.ref f) = some (.type "function")) : EI P w K mg base C := by
  refine ⟨T, f, fd, hi, ht, ok_init T F, ?_⟩
  obtain ⟨oc, od, dV, kV, doc, pm, an, cdv, ct, osl, rfl, lk, hcd, hD, hK⟩ := F.ex
  rcases hD with ⟨e, _⟩ | ⟨_, T', o, its, m, rfl, lT, oT, rT⟩
  · cases e
  · cases rT with
    | cons r1 r2 =>
      cases r2
      cases r1
      refine ⟨fun s a u X => ?_, fun s a X => ?_, fun s a u X => ?_⟩
      · exact BindsTo.of_looks fun M => looks_items X lT oT (.of_pure rfl)
      · exact BindsTo.of_looks fun M => looks_items X lT oT (.of_pure rfl)
      · exact BindsTo.of_looks fun M => looks_items X lT oT (.of_pure rfl)
section
variable {X : Cx} {pins : List (Addr × Obj)} {σ : L2.St} {H : Hp} {s : Shared} {C : Addr} {Q : VK}
theorem upd_swap {H : Hp} {a d : Addr} {o u v : HO} (h : d ≠ a) : upd (upd (upd H a o) d u) a v = upd (upd H d u) a v := by
  funext b
  unfold upd
  by_cases h1 : b = a
  · simp only [if_pos h1]
  · by_cases h2 : b = d
    · simp only [if_neg h1, if_pos h2]
    · simp only [if_neg h1, if_neg h2]
/-- the three ways to make one, by what is bound -/
theorem run_mk {us : List Value} {kw : List (Str × Value)} {u : Value} {v : V} (T : EI X.prog X.w X.K X.mg X.base C) (hr : Room 2 X.A) (I : Inv X pins σ H s) (ru : RelV v u)
    (hcase : (us = [u] ∧ kw = []) ∨ (us = [] ∧ kw = [] ∧ u = .none) ∨ (us = [] ∧ kw = [(("value" : Str), u)]))
    (h : ∀ a dx, H a = none → H dx = none → dx ≠ a → Q (.ref a) (upd (upd H dx (exd dx [(("value" : Str), v)])) a (exo a C (some dx)))) :
    wpAny (model X.prog X.w) X.A (call (.ref C) us kw) (EP X pins σ Q) X.xe s := by
  obtain ⟨fI, fd, hi, ht, F, b1, b2, b3⟩ := T.fn
  obtain ⟨nm, q, N, bs, bm, sn, sub, ab, col, dd, k0, k1, k2, k3, k5, hC, hbm⟩ := T.et.oex.cls
  obtain ⟨hp, g, dr, tk, os⟩ := s
  have hsz : hp.objs.size ≤ hp.objs.size + 1 := Nat.le_succ _
  have hn : H (hp.objs.size + 1) = none := I.hok.fresh hsz
  have kk : ∀ (l : List Value) b o, hp.get? b = some o → ((hp.push (PySem.W.kdv_tup l)).push (PySem.HandSPX.excO C hp.objs.size)).get? b = some o :=
    fun l b o e => Heap.get?_push_of_some _ (Heap.get?_push_of_some _ e)
  have hget : ∀ l : List Value, ((hp.push (PySem.W.kdv_tup l)).push (PySem.HandSPX.excO C hp.objs.size)).get? (hp.objs.size + 1) = some (PySem.HandSPX.excO C hp.objs.size) := fun l => by heap_get
  have I2 : ∀ l : List Value, Inv X pins σ (upd H (hp.objs.size + 1) (exo (hp.objs.size + 1) C none)) ⟨(hp.push (PySem.W.kdv_tup l)).push (PySem.HandSPX.excO C hp.objs.size), g, dr, tk, os⟩ := fun l =>
    I.laid (t' := tk) (a := hp.objs.size + 1) (o := exo (hp.objs.size + 1) C none) (h' := (hp.push (PySem.W.kdv_tup l)).push (PySem.HandSPX.excO C hp.objs.size)) (kk l) hsz (exo_ok (hget l))
  have hsp : spI C [.ref (hp.objs.size + 1), v] (upd H (hp.objs.size + 1) (exo (hp.objs.size + 1) C none)) (fun z H2 => z = .non ∧ Q (.ref (hp.objs.size + 1)) H2) (fun _ _ _ => False) := by
    refine ⟨_, v, rfl, upd_same, fun dx hd hne => ⟨rfl, ?_⟩⟩
    rw [upd_ne hne] at hd
    rw [upd_swap hne]
    exact h _ dx hn hd hne
  have rr : Vals [V.ref (hp.objs.size + 1), v] [Value.ref (hp.objs.size + 1), u] := .cons rfl (.cons ru .nil)
  have fin : ∀ (l : List Value) (r : Result) (s' : Shared), CR CX0 X.stack X.prog X.w (upd H (hp.objs.size + 1) (exo (hp.objs.size + 1) C none))
      ⟨(hp.push (PySem.W.kdv_tup l)).push (PySem.HandSPX.excO C hp.objs.size), g, dr, tk, os⟩ (fun z H2 => z = .non ∧ Q (.ref (hp.objs.size + 1)) H2) (fun _ _ _ => False) r s' →
      PySem.W.InitBack (hp.objs.size + 1) (fun r s' => match r with | .ok (.ret z) => EP X pins σ Q z s' | .ok _ => False | .error e => X.xe e s') r s' := fun l r s' hq => by
    cases r with
    | error er => exact False.elim hq
    | ok fl =>
      cases fl with
      | ret z =>
        obtain ⟨v', H2, o2, bare2, un2, hok2, rv, ev, q2⟩ := hq
        subst ev
        have J := (I2 l).after (Q := fun _ H3 => Q (.ref (hp.objs.size + 1)) H3) (u := z) (s' := s') ⟨.non, H2, o2, bare2, un2, hok2, rv, q2⟩
        obtain ⟨v2, H3, J3, r3, q3⟩ := J
        exact ⟨rv, .ref (hp.objs.size + 1), H3, J3, rfl, q3⟩
      | next => exact False.elim hq
      | brk => exact False.elim hq
      | cont => exact False.elim hq
  have e0 : ∀ l, X.K.In ((hp.push (PySem.W.kdv_tup l)).push (PySem.HandSPX.excO C hp.objs.size)) := fun l => (I2 l).kIn
  rcases hcase with ⟨rfl, rfl⟩ | ⟨rfl, rfl, rfl⟩ | ⟨rfl, rfl⟩
  · refine wpAny_call (PySem.HandSPX.call_own PySem.F.excBase_ValueError (fun Y => PySem.HandSPX.refsVE_contains Y bm hbm) (I.kIn _ _ hC) (PySem.W.looks_findIn I.kIn hi) (fun self => PySem.W.bind_fn I.kIn self ht) (by rw [sizeLine_eq]; show 1 ≤ 16777216; decide) ?_)
    exact codeAny_mono (F.run _ X.stack _ _ _ [_, u] _ _ (fun _ _ _ => False) (hr.make C _ _) ((I2 _).env0.make C _ _) (b1 _ _ u (I2 _).kIn) rr hsp) (fin _)
  · refine wpAny_call (PySem.HandSPX.call_own PySem.F.excBase_ValueError (fun Y => PySem.HandSPX.refsVE_contains Y bm hbm) (I.kIn _ _ hC) (PySem.W.looks_findIn I.kIn hi) (fun self => PySem.W.bind_fn I.kIn self ht) (Nat.zero_le _) ?_)
    exact codeAny_mono (F.run _ X.stack _ _ _ [_, .none] _ _ (fun _ _ _ => False) (hr.make C _ _) ((I2 _).env0.make C _ _) (b2 _ _ (I2 _).kIn) rr hsp) (fin _)
  · refine wpAny_call (kwCall PySem.F.excBase_ValueError (fun Y => PySem.HandSPX.refsVE_contains Y bm hbm) (I.kIn _ _ hC) (PySem.W.looks_findIn I.kIn hi) (fun self => PySem.W.bind_fn I.kIn self ht) ?_)
    exact codeAny_mono (F.run _ X.stack _ _ _ [_, u] _ _ (fun _ _ _ => False) (hr.make C _ _) ((I2 _).env0.make C _ _) (b3 _ _ u (I2 _).kIn) rr hsp) (fin _)
end
/-- what is left of C(v) -/
def mkQ (C : Addr) (v : V) (H : Hp) (Q : VK) : Prop := ∀ a dx, H a = none → H dx = none → dx ≠ a → Q (.ref a) (upd (upd H dx (exd dx [(("value" : Str), v)])) a (exo a C (some dx)))
def tMk1 (C : Addr) (te : TE) : TE := fun σ H Q => tCons te tNil σ H fun vs H1 => ∃ v, vs = [v] ∧ mkQ C v H1 Q
section
variable {X : Cx} {C : Addr} {x : Str} {p pos : Pos} {e : Expr} {te : TE}
theorem pe_mk1 (T : EI X.prog X.w X.K X.mg X.base C) (hr : Room 2 X.A) (hg : Gl X x) (hm : X.mg x = some (.ref C)) (he : PE X e te) (hdb : (x == ("__debug__" : Str)) = false := by decide)
    (hs : starEach (e :: []) X.env = (false, eval e X.env) :: starEach [] X.env := by rfl) (hpl : (backTo pos (starEach [] X.env)).any (·.1) = false := by rfl) :
    PE X (.Call (.Name x p) [e] [] pos) (tMk1 C te) := by
  have ha : PA X [e] (tCons te tNil) := pa_cons he pa_nil hs
  refine ⟨fun pins s σ H Q I h => ?_⟩
  refine wpAny_Call_Name_kw (ld_glob I hg hm ?_ hdb)
  refine PySem.W.callWith_K (h₀ := X.base) I.ok.mod.kin T.et.oex.kC (thn (ha.run pos pins s σ H (fun vs H1 => ∃ v, vs = [v] ∧ mkQ C v H1 Q) I h) fun us s1 hh => ?_) hs hpl
  · obtain ⟨vs, H1, I1, r1, v, ev, q1⟩ := hh
    subst ev
    cases r1 with
    | cons rv rn =>
      cases rn
      exact ⟨I1.kIn, run_mk T hr I1 rv (.inl ⟨rfl, rfl⟩) q1⟩
theorem pe_mk0 (T : EI X.prog X.w X.K X.mg X.base C) (hr : Room 2 X.A) (hg : Gl X x) (hm : X.mg x = some (.ref C)) (hdb : (x == ("__debug__" : Str)) = false := by decide) :
    PE X (.Call (.Name x p) [] [] pos) (fun _ H Q => mkQ C .non H Q) := by
  refine ⟨fun pins s σ H Q I h => ?_⟩
  refine wpAny_Call_Name_kw (ld_glob I hg hm ?_ hdb)
  exact PySem.W.callWith_K0 I.kIn T.et.oex.kC (run_mk (us := []) T hr I (u := .none) (v := .non) rfl (.inr (.inl ⟨rfl, rfl, rfl⟩)) h)
theorem pe_mkK {kws : List Keyword} {tk : TA} (T : EI X.prog X.w X.K X.mg X.base C) (hr : Room 2 X.A) (hg : Gl X x) (hm : X.mg x = some (.ref C)) (hkw : PK X kws tk)
    (hall : (backToKw pos (keywordEach kws X.env)).all (·.1.isSome) = true := by rfl) (hks : (backToKw pos (keywordEach kws X.env)).filterMap (·.1) = [("value" : Str)] := by rfl) (hdb : (x == ("__debug__" : Str)) = false := by decide)
    (hpl : ((backTo pos (starEach [] X.env)).any (·.1) || (backToKw pos (keywordEach kws X.env)).any (·.1.isNone)) = false := by rfl) :
    PE X (.Call (.Name x p) [] kws pos) (fun σ H Q => tk σ H fun zs H1 => ∃ v, zs = [v] ∧ mkQ C v H1 Q) := by
  refine ⟨fun pins s σ H Q I h => ?_⟩
  refine wpAny_Call_Name_kw (ld_glob I hg hm ?_ hdb)
  refine PySem.W.callWith_KW0 (h₀ := X.base) I.ok.mod.kin T.et.oex.kC hall ?_ hpl
  refine thn (hkw.run pos pins s σ H _ I h) fun ws s2 ⟨zs, H2, I2, rz, v, ev, q2⟩ => ⟨I2.kIn, ?_⟩
  subst ev
  rw [hks]
  cases rz with
  | cons rv rn =>
    cases rn
    exact run_mk (us := []) T hr I2 rv (.inr (.inr ⟨rfl, rfl⟩)) q2
end
end K01
/-! Own exceptions as values: bare ones, isinstance, the field. -/
namespace PySem.W
open PySem PySem.Spec PySem.Calls PyProof.Rows
section
variable {prog : Program} {w : World} {A : Around} {E : Value → Shared → Prop} {s : Shared} {K : Frag} {x D : Addr} {ox : Obj} {od : Option Obj}
theorem k01_find {C : Addr} {name : Str} {a g : Value} (hc : (clsIn K C).isSome = true) (ha : findIn K (.ref C) name = some (some a)) (hg : specialIn K a "__get__" = some (some g)) (ht : takesIn K a = some true) : findObj K C od name = some (.bind g a) := by
  obtain ⟨cd, hc⟩ := Option.isSome_iff_exists.mp hc
  simp [findObj, hc, ha, hg, ht]
theorem k01_class {Q : Option Value → Shared → Prop} (c : L2.ExcC K D) (X : K.In s.heap) (I : InstAt s.heap x ox D od) (h : Q (some (.ref D)) { s with toks := s.toks + 1 }) :
    wpAny (model prog w) A (getAttr? (.ref x) "__class__") Q E s := by
  have hf : findObj K D od "__class__" = some (.bind (.builtin "getset_descriptor.__get__") (.builtin "object.__class__")) :=
    k01_find (by obtain ⟨cd, hc, _⟩ := any_some c.hd; rw [hc]; rfl) c.ha c.hn c.ht
  obtain ⟨hp, g, d, t, os⟩ := s
  have T0 := I.type (M := model prog w)
  have T1 := looks_findIn (M := model prog w) X c.hg
  have T2 := looks_findIn (M := model prog w) X c.hk
  have T3 := looks_find (M := model prog w) X I hf
  have over : Looks (model prog w) hp (isInstance (.ref x) (.type "BaseException")) true := T0.andThen (looks_subIn X c.hs)
  have n1 : (false && onTheHeap (Value.builtin "BaseException.__getattribute__")) = false := rfl
  have n2 : (Value.builtin "BaseException.__getattribute__" == Value.builtin "object.__getattribute__") = false := by decide +kernel
  have n3 : (onTheHeap (Value.ref D) && Value.builtin "BaseException.__getattribute__" == Value.builtin "object.__getattribute__") = false := by
    rw [n2]
    rfl
  unfold getAttr? getAttrBy? getAttrBy
  refine wpAny_bind (wpAny_mkText (wpAny_bind (wpAny_attempt (wpAny_holding (wpAny_bind (T0.at (wpAny_bind (T1.at ?_))))))))
  show wpAny _ _ (if (onTheHeap (Value.ref D) && Value.builtin "BaseException.__getattribute__" == Value.builtin "object.__getattribute__") = true then _ else _) _ _ _
  rw [n3, if_neg Bool.false_ne_true]
  unfold getAttrByItsOwn hookBefore
  refine wpAny_bind ?_
  rw [if_pos (show onTheHeap (Value.ref D) = true from rfl)]
  refine T2.at (wpAny_bind (wpAny_attempt (wpAny_holding ?_)))
  unfold callGetattribute
  rw [n1, if_neg Bool.false_ne_true]
  unfold boundAndCalled
  rw [PySem.F.excAttr_ValueError.ga.bind (.ref x)]
  refine wpAny_bind (wpAny_pure ?_)
  show wpAny _ _ (call (.builtin "BaseException.__getattribute__") [.ref x, .str "__class__" t]) _ _ _
  refine wpAny_call (codeAny_call_builtin PySem.F.excAttr_ValueError.ga.plain PySem.F.entry_bexc_ga ?_)
  refine @check_slot (model prog w) _ _ ⟨hp, g, d, t + 1, os⟩ "BaseException.__getattribute__" "BaseException" "__getattribute__" (.ref x)
    [.str "__class__" t] [] _ (by decide +kernel) (by decide +kernel) over (PySem.F.args_bexc_ga (.ref x) (.str "__class__" t)) ?_
  unfold Builtin.«object.__getattribute__»
  refine wpAny_bind (wpAny_of_eq (a := ((Value.ref x : Value), [Value.str "__class__" t])) (by first | rfl | (simp only [slotArgs]; rfl)) ?_)
  refine wpAny_bind (wpAny_pure (wpAny_bind (T0.at (wpAny_bind (T3.at ?_)))))
  show wpAny _ _ (holding [Value.builtin "object.__class__"] (call (.builtin "getset_descriptor.__get__") [.builtin "object.__class__", .ref x, .ref D]) >>= ret) _ _ _
  refine wpAny_bind (wpAny_holding (wpAny_call (class_get (s := ⟨hp, g, d, t + 1, os⟩) (ox := ox) (od := od) X I c.hm ?_)))
  refine wpAny_pure ?_
  show wpAny _ _ (handedOut (.ref D)) _ _ _
  rw [handedOut_of (v := .ref D) rfl]
  first
    | exact wpAny_pure (wpAny_pure h)
    | exact wpAny_pure h
    | exact wpAny_pure (wpAny_bind (wpAny_pure (wpAny_pure h)))
theorem k01_notup {its : List Value} {n : Nat} {sl : Array (Option Value)} {dd : Option Addr} {h : Heap} {tp : Addr} (hd : hasDictIn K D = true) (X : K.In h) (htp : h.get? tp = some ⟨.type "tuple", dd, .seq its.toArray n, sl⟩) : (Value.ref D == .ref tp) = false := by
  obtain ⟨cd, hc, _⟩ := any_some hd
  unfold clsIn at hc
  split at hc
  · rename_i c' d' cd' sl' lk
    refine Bool.eq_false_iff.mpr fun q => ?_
    obtain rfl : D = tp := Value.ref.inj (beq_iff_eq.mp q)
    have z := (X _ _ lk).symm.trans htp
    cases z
  · cases hc
theorem k01_istype {M : Model} {h : Heap} (hd : hasDictIn K D = true) (X : K.In h) : Looks M h (isType (.ref D)) true := by
  obtain ⟨cd, hc, _⟩ := any_some hd
  unfold clsIn at hc
  split at hc
  · rename_i c' d' cd' sl' lk
    intro A' Q' E' s' k q
    unfold isType loadHead
    exact wpAny_bind (wpAny_loadPart (k _ _ (X _ _ lk)) (wpAny_pure q))
  · cases hc
theorem k01_kit (c : L2.ExcC K D) : KitX K (.ref x) (.ref D) (fun h => InstAt h x ox D od) where
  ty := fun _ _ _ I => I.type
  it := fun _ _ X _ => k01_istype c.hd X
  ne := fun _ _ _ _ _ _ X htp => k01_notup c.hd X htp
  ca := fun X I k => k01_class c X I k
end
end PySem.W
namespace K01
open PySem PySem.Spec PyProof.Rows L2
/-- an exception of the class at C stands at a, its dict (where it has one) at d -/
def ExAt (H : Hp) (a C : Addr) (d : Option Addr) : Prop := H a = some (exo a C d) ∧ ∀ dx, d = some dx → ∃ fs, H dx = some (exd dx fs)
theorem ExAt.inst {P : Program} {w : World} {H : Hp} {h : Heap} {a C : Addr} {d : Option Addr} (ok : HOk P w H h) (e : ExAt H a C d) : ∃ ox od, PySem.W.InstAt h a ox C od := by
  obtain ⟨e1, e2⟩ := e
  obtain ⟨t1, ho⟩ := exo_at ok e1
  cases d with
  | none => exact ⟨_, none, ho, rfl, rfl, trivial⟩
  | some dx =>
    obtain ⟨fs, e3⟩ := e2 dx rfl
    obtain ⟨mA, ⟨oD, es, ep, hD, _⟩, _⟩ := exd_at ok e3
    exact ⟨_, some oD, ho, rfl, rfl, hD⟩
/-- isinstance(e, c), e an exception that was made -/
def rIsX (K : PySem.W.Frag) : List V → Hp → VK → Prop := fun xs H Q => ∃ (a C : Addr) (d : Option Addr) (c : V) (cv : Value) (b : Bool), xs = [.ref a, c] ∧ ExAt H a C d ∧ ET K C ∧ ClsV c cv ∧ PySem.W.kitOne K (.ref C) cv = some b ∧ Q (.bl b) H
theorem call_isX {X : Cx} : CallR X (.builtin "isinstance") (rIsX X.K) := by
  intro pins s σ H xs us Q I r h
  obtain ⟨a, C, d, c, cv, b, rfl, e, T, k, ek, q⟩ := h
  obtain ⟨u1, u2, rfl, r1, r2⟩ := vals2 r
  cases r1
  have e2 := k.eq r2
  subst e2
  obtain ⟨ox, od, J⟩ := e.inst I.hok
  exact PySem.W.kia_one (PySem.W.k01_kit T.exc) I.kIn J ek (fun z => nomatch z) fun tk => ⟨.bl b, H, I.tok tk, rfl, q⟩
/-- e.value -/
def tVal (K : PySem.W.Frag) (te : TE) : TE := fun σ H Q => te σ H fun x H1 => ∃ (a C dx : Addr) (v : V), x = .ref a ∧ ET K C ∧ H1 a = some (exo a C (some dx)) ∧ H1 dx = some (exd dx [(("value" : Str), v)]) ∧ Q v H1
theorem pe_val {X : Cx} {e : Expr} {te : TE} {pos : Pos} (he : PE X e te) (hb : attributeBase e "value" X.env (eval e X.env) = eval e X.env := by rfl) : PE X (.Attribute e "value" pos) (tVal X.K te) := by
  refine ⟨fun pins s σ H Q I h => ?_⟩
  refine attr_of hb (thn (he.run pins s σ H _ I h) fun u s1 hh => ?_)
  obtain ⟨x, H1, I1, rx, a, C, dx, v, rfl, T, e1, e2, q⟩ := hh
  obtain rfl : u = Value.ref a := rx
  obtain ⟨t1, ho⟩ := exo_at I1.hok e1
  obtain ⟨mA, hns, rel⟩ := exd_at I1.hok e2
  obtain ⟨od, hD, hl⟩ := lookIn_ns hns
  have l : List.lookup ("value" : Str) [(("value" : Str), v)] = some v := by simp [List.lookup]
  obtain ⟨u, hu, ru⟩ := RelO.some_of (v := v) (o := mA "value") (by rw [← l]; exact rel "value")
  have J : PySem.W.InstAt s1.heap a { cls := .ref C, dict := some dx, data := .fields #[.ref t1, .none, .none, .none, .bool false, .none] } C (some od) := ⟨ho, rfl, rfl, hD⟩
  exact PySem.HandSPX.exc_get I1.kIn J T.exc.hg T.exc.hk T.exc.hs (PySem.W.findObj_own T.exc.hd T.nov rfl (by rw [hl, hu])) (handed_of ru) ⟨v, H1, I1.tok _, ru, q⟩
/-- C(), C without an __init__ of its own -/
theorem pe_bare {X : Cx} {C : Addr} {x : Str} {p pos : Pos} (T : ET X.K C) (q : PySem.W.excIn X.K C ve "ValueError.__new__" = true) (hg : Gl X x) (hm : X.mg x = some (.ref C)) (hdb : (x == ("__debug__" : Str)) = false := by decide) :
    PE X (.Call (.Name x p) [] [] pos) (fun _ H Q => ∀ a, H a = none → Q (.ref a) (upd H a (exo a C none))) := by
  refine ⟨fun pins s σ H Q I h => ?_⟩
  refine wpAny_Call_Name_kw (ld_glob I hg hm ?_ hdb)
  refine PySem.W.callWith_K0 I.kIn T.oex.kC ?_
  show wpAny _ _ (call (.ref C) []) _ _ _
  obtain ⟨bm, N, nm, qn, bs, hdct, sn, sub, ab, col, dd, k0, k1, k2, k3, k5, mN, hC, hN, hni, TT⟩ := exc_obj I.kIn q
  refine wpAny_call_exc_subT PySem.F.excBase_ValueError TT hC hN hni (fun h' a hm => ?_) (Nat.zero_le _)
  have hn : H a = none := I.hok.gone hm.new
  obtain ⟨t, ht, _, _⟩ := hm.there
  exact ⟨.ref a, upd H a (exo a C none), I.laidN hm.keeps hm.new hn (exo_ok ht), rfl, h a hn⟩
/-- what an exception class says of another one -/
theorem kit_mro {K : PySem.W.Frag} {C D : Addr} {l : List Value} (h : mroB K C l = true) (TD : ET K D) (hl : l.isEmpty = false) (hd : l.contains (.ref D) = true → l.contains (.ref D) = true) (hself : l.contains (.ref C) = true) :
    PySem.W.kitOne K (.ref C) (.ref D) = some (l.contains (.ref D)) := by
  unfold mroB at h
  split at h
  · rename_i cd hc
    have e : cd.mro = l := of_decide_eq_true h
    have s1 : PySem.W.subIn K (.ref C) (.ref D) = some (l.contains (.ref D)) := by
      show PySem.W.mroIn K C (.ref D) = _
      unfold PySem.W.mroIn
      rw [hc]
      show (if cd.mro.isEmpty = true then none else some (cd.mro.contains (.ref D))) = _
      rw [e, if_neg (by rw [hl]; exact Bool.false_ne_true)]
    unfold PySem.W.kitOne PySem.W.kitCls
    by_cases z : (Value.ref C == Value.ref D) = true
    · rw [if_pos z]
      obtain rfl : C = D := Value.ref.inj (beq_iff_eq.mp z)
      rw [hself]
    · rw [if_neg z]
      obtain ⟨cd2, hc2, _⟩ := PySem.W.any_some TD.exc.hd
      have ok : ((PySem.W.clsIn K D).isSome && PySem.W.typeIn K (.ref D) == some (.type "type")) = true := by
        rw [hc2, TD.oex.tyC]
        rfl
      show (if ((PySem.W.clsIn K D).isSome && PySem.W.typeIn K (.ref D) == some (.type "type")) = true then PySem.W.subIn K (.ref C) (.ref D) else none) = _
      rw [if_pos ok, s1]
  · cases h
theorem kit_ve {K : PySem.W.Frag} {C : Addr} {l : List Value} (h : mroB K C l = true) (hl : l.isEmpty = false) (hv : l.contains (.type "ValueError") = true) : PySem.W.kitOne K (.ref C) (.type "ValueError") = some true := by
  unfold mroB at h
  split at h
  · rename_i cd hc
    have e : cd.mro = l := of_decide_eq_true h
    unfold PySem.W.kitOne PySem.W.kitCls
    rw [if_neg (by simp)]
    show (if PySem.W.kitMeta "ValueError" = true then PySem.W.subIn K (.ref C) (.type "ValueError") else none) = _
    rw [if_pos (by decide +kernel)]
    show PySem.W.mroIn K C (.type "ValueError") = _
    unfold PySem.W.mroIn
    rw [hc]
    show (if cd.mro.isEmpty = true then none else some (cd.mro.contains (.type "ValueError"))) = _
    rw [e, if_neg (by rw [hl]; exact Bool.false_ne_true), hv]
  · cases h
end K01
/-! repr of data over the abstract heap; defs that are run where no repr is running. -/
namespace K01
open PySem PySem.Spec PyProof.Rows L2
/-- a list display, its place told apart from sys.modules -/
def tLstS (t : TA) : TE := fun σ H Q => t σ H fun xs H1 => xs.length ≤ sizeLine ∧ ∀ p, H1 p = none → (p == sysModules) = false → Q (.ref p) (upd H1 p (.lst xs))
theorem pe_lstS {X : Cx} {es : List Expr} {t : TA} {pos : Pos} (h : PA X es t) : PE X (.List es pos) (tLstS t) := by
  refine ⟨fun pins s σ H Q I hq => ?_⟩
  refine wpAny_List_spliced (thn (h.run pos pins s σ H _ I hq) fun us s1 hh => ?_)
  obtain ⟨xs, H1, I1, r, z, q⟩ := hh
  have gone : H1 s1.heap.objs.size = none := I1.hok.fresh (Nat.le_refl _)
  have big := I1.big
  have apart : (s1.heap.objs.size == sysModules) = false := beq_eq_false_iff_ne.mpr (Nat.ne_of_gt big)
  refine ⟨by rw [← r.length]; exact z, .ref s1.heap.objs.size, upd H1 s1.heap.objs.size (.lst xs), ?_, rfl, q _ gone apart⟩
  refine I1.laid (t' := s1.toks) (fun b u e => Heap.get?_push_of_some _ e) (Nat.le_refl _) ?_
  exact ⟨z, us, 0, r, Heap.get?_push_size _ rfl⟩
mutual
/-- what a value shows -/
inductive Dt (H : Hp) : V → PyData → Prop
  | non : Dt H .non .none
  | bl (b : Bool) : Dt H (.bl b) (.bool b)
  | int (i : Int) : Dt H (.int i) (.int i)
  | str (x : Str) : Dt H (.str x) (.str x)
  | lst {a : Addr} {xs : List V} {ds : List PyData} : H a = some (.lst xs) → (a == sysModules) = false → DtL H xs ds → Dt H (.ref a) (.list ds)
  | tup {a : Addr} {xs : List V} {ds : List PyData} : H a = some (.tup xs) → DtL H xs ds → Dt H (.ref a) (.tuple ds)
  | dic {a : Addr} {kvs : List (Key × V)} {ds : List (PyData × PyData)} : H a = some (.dK kvs) → DtL H (kvs.map fun p => kV p.1) (ds.map (·.1)) → DtL H (kvs.map (·.2)) (ds.map (·.2)) → Dt H (.ref a) (.dict ds)
inductive DtL (H : Hp) : List V → List PyData → Prop
  | nil : DtL H [] []
  | cons {x : V} {d : PyData} {xs : List V} {ds : List PyData} : Dt H x d → DtL H xs ds → DtL H (x :: xs) (d :: ds)
end
theorem pairs_keys {P : Program} {w : World} : ∀ {es : List DictEntry} {kvs : List (Key × V)} {vs : List (Key × Value)}, KV kvs vs → Pairs (mixKind P w) es vs → Vals (kvs.map fun p => kV p.1) (es.map (·.key)) ∧ Vals (kvs.map (·.2)) (es.map (·.val))
  | _, _, _, .nil, .nil => ⟨.nil, .nil⟩
  | _, _, _, .cons r rs, .cons k v ps => by
    obtain ⟨h1, h2⟩ := pairs_keys rs ps
    obtain ⟨e, rv⟩ := r
    refine ⟨.cons ?_ h1, .cons (by dsimp only; rw [v]; exact rv) h2⟩
    rw [← e] at k
    dsimp only
    rcases keyIs_shape (show keyIs _ _ = true from k) with ⟨i, t, e1, e2⟩ | ⟨x, t, e1, e2⟩
    · rw [e1, e2]
      exact ⟨t, rfl⟩
    · rw [e1, e2]
      exact ⟨t, rfl⟩
mutual
theorem Dt.reads {P : Program} {w : World} {H : Hp} {h : Heap} (ok : HOk P w H h) : ∀ {x : V} {u : Value} {d : PyData}, Dt H x d → RelV x u → ∃ as, Reads h u d as ∧ sysModules ∉ as
  | _, _, _, .non, r => by
    cases r
    exact ⟨[], .none, by simp⟩
  | _, _, _, .bl b, r => by
    cases r
    exact ⟨[], .bool b, by simp⟩
  | _, _, _, .int i, r => by
    obtain ⟨t, rfl⟩ := r
    exact ⟨[], .int i t, by simp⟩
  | _, _, _, .str x, r => by
    obtain ⟨t, rfl⟩ := r
    exact ⟨[], .str x t, by simp⟩
  | _, _, _, .lst (a := a) (xs := xs) e ns k, r => by
    cases r
    obtain ⟨_, its, n, rv, eo⟩ := (show ObjOk P w H h a (.lst xs) from ok a _ e)
    obtain ⟨as, h1, h2⟩ := DtL.reads ok k rv
    refine ⟨a :: as, .list (vs := its.toArray) eo rfl rfl h1, fun z => ?_⟩
    rcases List.mem_cons.mp z with z | z
    · exact beq_eq_false_iff_ne.mp ns z.symm
    · exact h2 z
  | _, _, _, .tup (a := a) (xs := xs) e k, r => by
    cases r
    obtain ⟨_, its, rv, o, eo, ec, n, ed⟩ := (show ObjOk P w H h a (.tup xs) from ok a _ e)
    obtain ⟨as, h1, h2⟩ := DtL.reads ok k rv
    exact ⟨as, .tuple (vs := its.toArray) eo ec ed h1, h2⟩
  | _, _, _, .dic (a := a) (kvs := kvs) e k1 k2, r => by
    cases r
    obtain ⟨_, hs, vs, rel, o, es, ep, eo, ex, ed, _, ps, _⟩ := (show ObjOk P w H h a (.dK kvs) from ok a _ e)
    obtain ⟨r1, r2⟩ := pairs_keys rel ps
    obtain ⟨as, h1, h2⟩ := DtL.reads ok k1 r1
    obtain ⟨bs, h3, h4⟩ := DtL.reads ok k2 r2
    refine ⟨a :: as ++ bs, .dict eo ex.1 ed h1 h3, fun z => ?_⟩
    rcases List.mem_append.mp z with z | z
    · rcases List.mem_cons.mp z with z | z
      · exact beq_eq_false_iff_ne.mp hs z.symm
      · exact h2 z
    · exact h4 z
theorem DtL.reads {P : Program} {w : World} {H : Hp} {h : Heap} (ok : HOk P w H h) : ∀ {xs : List V} {us : List Value} {ds : List PyData}, DtL H xs ds → Vals xs us → ∃ as, ReadsAll h us ds as ∧ sysModules ∉ as
  | _, _, _, .nil, .nil => ⟨[], .nil, by simp⟩
  | _, _, _, .cons k ks, .cons r rs => by
    obtain ⟨as, h1, h2⟩ := Dt.reads ok k r
    obtain ⟨bs, h3, h4⟩ := DtL.reads ok ks rs
    refine ⟨as ++ bs, .cons h1 h3, fun z => ?_⟩
    rcases List.mem_append.mp z with z | z
    · exact h2 z
    · exact h4 z
end
/-- repr(x) -/
def rRepr : List V → Hp → VK → Prop := fun xs H Q => ∃ (x : V) (d : PyData), xs = [x] ∧ Dt H x d ∧ d.showable = true ∧ d.depth ≤ 20 ∧ d.shown.length ≤ sizeLine ∧ Q (.str d.shown) H
theorem call_repr {X : Cx} (hg : X.A.guards = some []) (hr : Room 0 X.A) : CallR X (.builtin "repr") rRepr := by
  intro pins s σ H xs us Q I r h
  obtain ⟨x, d, rfl, k, hs, hd, hz, q⟩ := h
  obtain ⟨u, rfl, ru⟩ := vals1 r
  have room := hr.un
  have fin : ∀ (h' : Heap) (t : Tok) (tk : Nat), (∀ b o, s.heap.get? b = some o → h'.get? b = some o) → EP X pins σ Q (.str d.shown t) { s with heap := h', toks := tk } := fun h' t tk kk =>
    ⟨.str d.shown, H, I.kept (t' := tk) kk, ⟨t, rfl⟩, q⟩
  obtain ⟨as, rd, ns⟩ := k.reads I.hok ru
  cases rd with
  | none => exact PySem.P.repr_of_none (fin _ _ _ fun _ _ e => e)
  | bool b => exact PySem.P.repr_of_bool (fin _ _ _ fun _ _ e => e)
  | int i t => exact PySem.P.repr_of_int (of_decide_eq_true hs) (fin _ _ _ fun _ _ e => e)
  | str y t => exact PySem.P.repr_of_str (fin _ _ _ fun _ _ e => e) hz
  | list h1 h2 h3 h4 => exact PySem.repr_of_reads' (.list h1 h2 h3 h4) hs (fun _ => ns) hg (by omega) (fun _ _ e => e) (fun h' t tk kk => fin h' t tk kk) hz
  | tuple h1 h2 h3 h4 => exact PySem.repr_of_reads' (.tuple h1 h2 h3 h4) hs (fun _ => ns) hg (by omega) (fun _ _ e => e) (fun h' t tk kk => fin h' t tk kk) hz
  | dict h1 h2 h3 h4 h5 => exact PySem.repr_of_reads' (.dict h1 h2 h3 h4 h5) hs (fun _ => ns) hg (by omega) (fun _ _ e => e) (fun h' t tk kk => fin h' t tk kk) hz
theorem blk_guards {X : Cx} {s : Shared} {H : Hp} {sc : Scope} {e : Env} {fp : List Addr} (h : X.A.guards = some []) : (X.blk s H sc e fp).A.guards = some [] := h
/-- a def's promise where no repr is running -/
structure FnG (P : Program) (w : World) (K : PySem.W.Frag) (mg : Str → Option Value) (base : Heap) (CX : CXT) (k : Nat) (f : Addr) (fd : FuncData) (ps : List Str) (sp : Sp) : Prop where
  len : ∀ vs H Q E, sp vs H Q E → vs.length = ps.length
  run : ∀ (A : Around) (outer : List Env) (s : Shared) (H : Hp) (args : Args) (us : List Value) (vs : List V) (Q : VK) (E : XK), A.guards = some [] → Room k A → Env0 P w K mg base A outer s H →
    BindsTo s fd args (ps.zip us) → Vals vs us → sp vs H Q E → codeAny (model P w) A (.call (.ref f) args) (CR CX outer P w H s Q E) s
theorem fnG_of {P : Program} {w : World} {K : PySem.W.Frag} {mg : Str → Option Value} {base : Heap} {x qual : Str} {params : Arguments} {body : List Stmt} {scope : Scope} {dvs : List V} {kws : List (Str × V)} {f : Addr} {fd : FuncData}
    {CX : CXT} {N ps : List Str} {k : Nat} {sp : Sp} (F : FunD K x qual params body scope dvs kws f fd) (S : FnScope N ps scope) (len : ∀ vs H Q E, sp vs H Q E → vs.length = ps.length)
    (walk : ∀ (cdv : Value) (A : Around) (outer : List Env) (s : Shared) (H : Hp) (vs : List V) (Q : VK) (E : XK), (A.deeper (envOfC qual scope s.heap.objs.size f cdv)).guards = some [] → Room k (A.deeper (envOfC qual scope s.heap.objs.size f cdv)) → sp vs H Q E →
      ∃ t, PSs (cxOf CX P w K mg base N qual scope f cdv A outer s H E) body t ∧ t { nx := fun _ H' => Q .non H', rt := Q } (start N vs) H) : FnG P w K mg base CX (k + 1) f fd ps sp := by
  obtain ⟨oc, od, dV, kV, doc, pm, an, cdv, ct, osl, rfl, lk, hcd, _, _⟩ := F.ex
  refine ⟨len, fun A outer s H args us vs Q E hgd hr e0 hb r hsp => ?_⟩
  have hl := len _ _ _ _ hsp
  have keeps : ∀ b o, base.get? b = some o → s.heap.get? b = some o := fun b o e => (e0.bs b o e).1
  have KX : K.In s.heap := e0.mod.kin.keeps keeps
  have lim : s.heap.NoLimit := e0.mod.nolimit.keeps keeps
  have kinds : ∀ y ∈ ps.zip us, scope.names.lookup y.1 = some .local ∨ (scope.names.lookup y.1 = some .cell ∧ ((cellsFrom (s.heap.objs.size + 1) scope.names []).lookup y.1).isSome = true) := by
    rintro ⟨n, v⟩ hy
    rcases S.par n (List.of_mem_zip hy).1 with q | q
    · exact .inl q
    · exact .inr ⟨q, PySem.W.cellsFrom_some _ _ _ (.inl q)⟩
  refine codeAny_call_function hr.depth (KX _ _ lk) rfl S.co S.gen rfl (PySem.W.codeRec_of KX hcd) (hb _ _ _ _ ?_)
  refine wpAny_newFunctionEnv_cells S.kind kinds fun env he s1 x => ?_
  subst he
  refine ⟨lim.keeps x.toInCall.keep, codeAny_func ?_⟩
  obtain ⟨t, ht, hq⟩ := walk cdv A outer s H vs Q E hgd (hr.deeper _) hsp
  have I : Inv (cxOf CX P w K mg base N qual scope f cdv A outer s H E) [] (start N vs) H s1 := inv_start S hr.hd e0 hl r x
  refine wpAny_mono (ht.run [] s1 (start N vs) H _ I hq) (fun fl s' hs => ?_) fun e s' hs => hs
  have fin : ∀ {σ' : L2.St} {H' : Hp} {v : V} {u : Value}, Inv (cxOf CX P w K mg base N qual scope f cdv A outer s H E) [] σ' H' s' → RelV v u → Q v H' → CE outer P w H s Q u s' := by
    intro σ' H' v u J rv q
    exact ⟨v, H', J.os, J.bare, J.base, J.hok, rv, q⟩
  cases fl with
  | ret u =>
    obtain ⟨v, σ', H', J, rv, q⟩ := hs
    exact fin J rv q
  | next =>
    obtain ⟨σ', H', J, q⟩ := hs
    exact fin (v := V.non) (u := Value.none) J rfl q
  | brk =>
    obtain ⟨_, _, _, q⟩ := hs
    exact False.elim q
  | cont =>
    obtain ⟨_, _, _, q⟩ := hs
    exact False.elim q
section
variable {X : Cx} {CX : CXT} {k : Nat} {f : Addr} {fd : FuncData} {ps : List Str} {sp : Sp} {E : XK} {x : Str} {p pos : Pos} {e : Expr} {es : List Expr} {t : TA}
theorem pe_callG (hgd : X.A.guards = some []) (F : FnG X.prog X.w X.K X.mg X.base CX k f fd ps sp) (hr : Room k X.A) (hg : Gl X x) (hm : X.mg x = some (.ref f)) (hk : PySem.W.keepIn X.K (.ref f) = true) (hb : Binds X.K fd ps []) (hx : Passes CX X E)
    (ha : PA X (e :: es) t) (hdb : (x == ("__debug__" : Str)) = false := by decide) (he : starEach (e :: es) X.env = (false, eval e X.env) :: starEach es X.env := by rfl) (hpl : (backTo pos (starEach es X.env)).any (·.1) = false := by rfl) :
    PE X (.Call (.Name x p) (e :: es) [] pos) (tCall sp [] E t) := by
  refine ⟨fun pins s σ H Q I h => ?_⟩
  refine wpAny_Call_Name_kw (ld_glob I hg hm ?_ hdb)
  refine PySem.W.callWith_K (h₀ := X.base) I.ok.mod.kin hk (thn (ha.run pos pins s σ H _ I h) fun us s1 hh => ?_) he hpl
  obtain ⟨vs, H1, I1, r, q⟩ := hh
  refine ⟨I1.kIn, ?_⟩
  have q' : sp vs H1 Q E := by
    have q0 : sp (vs ++ []) H1 Q E := q
    rwa [List.append_nil] at q0
  have hl : (us ++ ([] : List Value)).length = ps.length := by
    rw [List.append_nil, ← r.length]
    exact F.len _ _ _ _ q'
  have bb := hb s1 us I1.kIn hl
  rw [List.append_nil] at bb
  refine wpAny_call (codeAny_mono (F.run X.A X.stack s1 H1 ⟨us, []⟩ us vs Q E hgd hr I1.env0 bb r q') fun r s' hq => ?_)
  cases r with
  | error e => exact hx pins σ H1 s1 e s' I1 hq
  | ok fl =>
    cases fl with
    | ret u => exact I1.after hq
    | next => exact False.elim hq
    | brk => exact False.elim hq
    | cont => exact False.elim hq
end
section
variable {P : Program} {w : World} {K : PySem.W.Frag} {mg mb : Str → Option Value} {CX : CXT} {k : Nat} {fa a : Addr} {fd : FuncData} {x : Str} {sp : Sp} {s₁ : Shared} {vs : List Value} {ns : List Int}
/-- what the caller of a law wants -/
def Ends1 (s₁ : Shared) (r : Result) (s' : Shared) : Prop := r = .ok (.ret (.bool true)) ∧ OldK s₁.heap s'.heap ∧ s'.os = s₁.os ∧ AllBare s'.gens
theorem law_from (KX : K.In s₁.heap) (hns : s₁.heap.Ns mainGlobals mg) (hb : s₁.heap.Ns builtinsNs mb) (hbb : ∀ x : Str, x ≠ "__name__" → mb x = bootBuiltins x) (hlim : s₁.heap.NoLimit) (hg : s₁.gens = #[])
    (ha : s₁.heap.get? a = some { cls := .type "list", data := .seq vs.toArray }) (hr : Room k callerA) (F : ∀ base : Heap, K.In base → base.Ns mainGlobals mg → FnG P w K mg base CX k fa fd [x] sp)
    (hbind : ∀ (s : Shared) (u : Value), BindsTo s fd ⟨[u], []⟩ [(x, u)]) (hCX : ∀ H e s', CX [] H s₁ (fun _ _ _ => False) e s' → False)
    (H : Hp) (hO : Only H) (hsp : sp [.ref a] H (fun v _ => v = .bl true) fun _ _ _ => False) (hok : HOk P w H s₁.heap) (hA : ∀ b, H b ≠ none → b = a) (hK : H a ≠ none → K.lookup a = none) :
    codeAny (model P w) callerA (.call (.ref fa) ⟨[.ref a], []⟩) (Ends1 s₁) s₁ := by
  have hid : ∀ {b : Addr} {o : Obj}, s₁.heap.get? b = some o → H b = none → (hidT s₁.heap H).get? b = some o := fun e n => hidT_get e n
  have undict : ∀ {b : Addr} {o : Obj} {es : Array DictEntry} {ep : Nat}, s₁.heap.get? b = some o → o.data = .dict es ep → H b = none := by
    intro b o es ep e d
    cases q : H b with
    | none => rfl
    | some u =>
      obtain rfl : b = a := hA b (by rw [q]; simp)
      rw [ha] at e
      cases e
      cases (show Data.seq vs.toArray _ = Data.dict es ep from d)
  have nsK : ∀ {b : Addr} {m : Str → Option Value}, s₁.heap.Ns b m → (hidT s₁.heap H).Ns b m := by
    rintro b m ⟨o, es, ep, e, d, r⟩
    exact ⟨o, es, ep, hid e (undict e d), d, r⟩
  have inK : K.In (hidT s₁.heap H) := by
    intro b o e
    refine hid (KX b o e) ?_
    cases q : H b with
    | none => rfl
    | some u =>
      obtain rfl : b = a := hA b (by rw [q]; simp)
      rw [hK (by rw [q]; simp)] at e
      cases e
  have lim : (hidT s₁.heap H).NoLimit := by
    obtain ⟨mc, h1, h2⟩ := hlim
    exact ⟨mc, nsK h1, h2⟩
  have hM : Mod K mg (hidT s₁.heap H) := ⟨inK, nsK hns, ⟨mb, nsK hb, hbb⟩, lim⟩
  have none0 : ∀ b ∈ frs ([] : List Env), H b = none := fun b hb => absurd (show b ∈ ([] : List Addr) from hb) (by simp)
  have e0 : Env0 P w K mg (hidT s₁.heap H) callerA [] s₁ H :=
    ⟨rfl, hM, fun b o e => of_hidT e, Nat.le_of_eq (hidT_size _ _), trivial, none0, hok, .of_eq hg⟩
  have go := (F _ inK (nsK hns)).run callerA [] s₁ H ⟨[.ref a], []⟩ [.ref a] [.ref a] _ _ rfl hr e0 (hbind s₁ (.ref a)) (.cons rfl .nil) hsp
  refine codeAny_mono go fun r s' h => ?_
  cases r with
  | error e => exact (hCX H e s' h).elim
  | ok fl =>
    cases fl with
    | next => exact False.elim h
    | brk => exact False.elim h
    | cont => exact False.elim h
    | ret u =>
      obtain ⟨v, H', os, bare, un, hok', r', q⟩ := h
      obtain rfl : v = .bl true := q
      obtain rfl : u = Value.bool true := r'
      refine ⟨rfl, OldK.of_keep fun b o e => ?_, os, bare⟩
      cases q : H b with
      | none => exact un.keep b o e q (by intro z; exact absurd (show b ∈ ([] : List Addr) from z) (by simp)) (by simp)
      | some u =>
        rcases hO b with z | ⟨ob, xs, z⟩
        · rw [q] at z
          cases z
        · obtain ⟨e1, _⟩ := hok b _ z
          obtain ⟨e2, _⟩ := hok' b _ (un.frzs b ob _ z)
          rw [e] at e1
          cases e1
          exact e2
theorem law_callG (KX : K.In s₁.heap) (hns : s₁.heap.Ns mainGlobals mg) (hb : s₁.heap.Ns builtinsNs mb) (hbb : ∀ x : Str, x ≠ "__name__" → mb x = bootBuiltins x) (hlim : s₁.heap.NoLimit) (hg : s₁.gens = #[])
    (ha : s₁.heap.get? a = some { cls := .type "list", data := .seq vs.toArray }) (hi : IntsAre vs ns) (hl : ns.length ≤ sizeLine) (hr : Room k callerA) (F : ∀ base : Heap, K.In base → base.Ns mainGlobals mg → FnG P w K mg base CX k fa fd [x] sp)
    (hbind : ∀ (s : Shared) (u : Value), BindsTo s fd ⟨[u], []⟩ [(x, u)]) (hCX : ∀ H e s', CX [] H s₁ (fun _ _ _ => False) e s' → False)
    (hsp : ∀ H : Hp, Only H → SqL K H a (ns.map V.int) → sp [.ref a] H (fun v _ => v = .bl true) fun _ _ _ => False) :
    codeAny (model P w) callerA (.call (.ref fa) ⟨[.ref a], []⟩) (Ends1 s₁) s₁ := by
  have rv := vals_ints hi
  have lenV := hi.length
  cases hk : K.lookup a with
  | some o =>
    have e := KX a o hk
    rw [ha] at e
    cases e
    have O0 : Only (fun _ => none) := fun _ => .inl rfl
    refine law_from KX hns hb hbb hlim hg ha hr F hbind hCX (fun _ => none) O0 (hsp _ O0 ?_) (fun b u z => ?_) (fun b z => absurd rfl z) (fun z => absurd rfl z)
    · exact .inr ⟨_, vs.toArray, _, hk, rfl, rfl, rfl, by rw [List.size_toArray, lenV]; exact hl, by simpa using rv⟩
    · have z' : (none : Option HO) = some u := z
      cases z'
  | none =>
    have O1 : Only (fun b => if b = a then some (.frz { cls := .type "list", data := .seq vs.toArray } (.lst (ns.map V.int))) else none) := by
      intro b
      by_cases q : b = a
      · exact .inr ⟨_, _, if_pos q⟩
      · exact .inl (if_neg q)
    refine law_from KX hns hb hbb hlim hg ha hr F hbind hCX _ O1 (hsp _ O1 (.inl (.inr ⟨{ cls := .type "list", data := .seq vs.toArray }, if_pos rfl⟩))) (fun b u z => ?_) (fun b z => ?_) (fun _ => hk)
    · by_cases q : b = a
      · have z' := (if_pos q).symm.trans z
        cases z'
        subst q
        exact ⟨ha, by rw [List.length_map]; exact hl, vs, _, rv, ha⟩
      · have z' := (if_neg q).symm.trans z
        cases z'
    · by_cases q : b = a
      · exact q
      · exact absurd (if_neg q) z
end
/-- a law's end where no repr runs ahead of it -/
theorem walk_G {l : PySem.W.OpenLaw} {n k : Nat} {q : Program} {loose : List Str} {XP : (Str → Option Value) → Heap → Prop} {YP : World → Heap → Prop} {d : DefRec} {CX : CXT} {x : Str}
    (hn : l.most = some n) (hn2 : n ≤ sizeLine) (hdf : d.params.defaults = []) (hr : Room k callerA)
    (F : ∀ (w : World) (mg : Str → Option Value) (fa : Addr) (h : Heap), YP w h → h.Ns mainGlobals mg → mg d.name = some (.ref fa) →
      ∃ (K : PySem.W.Frag) (fd : FuncData) (sp : Sp), K.In h ∧ (∀ (s : Shared) (u : Value), BindsTo s fd ⟨[u], []⟩ [(x, u)]) ∧
        (∀ (H : Hp) (a : Addr) (ns : List Int), ns.length ≤ n → Only H → SqL K H a (ns.map V.int) → sp [.ref a] H (fun v _ => v = .bl true) fun _ _ _ => False) ∧
        ∀ base : Heap, K.In base → base.Ns mainGlobals mg → FnG l.prog w K mg base CX k fa fd [x] sp)
    (hCX : ∀ (H : Hp) (s : Shared) (e : Value) (s' : Shared), CX [] H s (fun _ _ _ => False) e s' → False) :
    PySem.W.WalkO q loose XP YP l.row.toRowW d [] (fun f vs => PySem.call f vs) := by
  refine Att.attach_call hn hdf fun w s₀ s₁ mg mb fa o pm cd doc a vs ns G Y ho hd hcd hmg hobj hints hlen hg => ?_
  obtain ⟨K, fd, sp, KX, hb, hsp, hF⟩ := F w mg fa _ Y G.T.g hmg
  exact law_callG KX G.T.g G.T.b G.T.builtins G.T.nolimit hg hobj hints (Nat.le_trans hlen hn2) hr hF hb (fun H e s' => hCX H s₁ e s') fun H hO hS => hsp H a ns hlen hO hS
end K01
/-! The purse: drawing numbers, words, one of some. -/
namespace K01
open PySem PySem.Spec PyProof.Rows L2
def CPowB (i j : Int) : Prop := 0 ≤ j ∧ (Builtin.Int.intBits i : Int) * j ≤ 2 ^ 27
theorem op_powB {X : Cx} : OpR X (binaryOp .Pow) (rI CPowB fun i j => .int (i ^ j.toNat)) := opI fun _ _ _ _ _ _ _ hc q => pow_int hc.1 hc.2 q
/-- the modulus of a purse's first number -/
abbrev big : Int := 10 ^ 480
/-- a purse at p, so many turns taken at most -/
def Pu (H : Hp) (p : Addr) (t : Int) : Prop := ∃ a b tt c : Int, H p = some (.lst [.int a, .int b, .int tt, .int c]) ∧ 0 ≤ a ∧ a < big ∧ 0 ≤ b ∧ b < 2147483629 ∧ 0 ≤ tt ∧ tt ≤ t ∧ 0 ≤ c ∧ c ≤ 63
/-- all but p stands -/
def Sb (p : Addr) (H H' : Hp) : Prop := ∀ b o, b ≠ p → H b = some o → H' b = some o
theorem Sb.refl {p : Addr} {H : Hp} : Sb p H H := fun _ _ _ e => e
theorem Sb.trans {p : Addr} {H1 H2 H3 : Hp} (a : Sb p H1 H2) (b : Sb p H2 H3) : Sb p H1 H3 := fun x o n e => b x o n (a x o n e)
theorem Sb.upd {p q : Addr} {H : Hp} {o : HO} (h : H q = none ∨ q = p) : Sb p H (upd H q o) := fun b u n e => by
  rcases h with h | h
  · rw [upd_ne (ne_of_none e h)]
    exact e
  · rw [upd_ne (by rw [h]; exact n)]
    exact e
theorem Pu.mono {H : Hp} {p : Addr} {t t' : Int} (h : Pu H p t) (l : t ≤ t') : Pu H p t' := by
  obtain ⟨a, b, tt, c, e, h1, h2, h3, h4, h5, h6, h7, h8⟩ := h
  exact ⟨a, b, tt, c, e, h1, h2, h3, h4, h5, by omega, h7, h8⟩
theorem Pu.keep {H H' : Hp} {p : Addr} {t : Int} (h : Pu H p t) (k : Same H H') : Pu H' p t := by
  obtain ⟨a, b, tt, c, e, r⟩ := h
  exact ⟨a, b, tt, c, k _ _ e, r⟩
abbrev FnP (K : PySem.W.Frag) (d : He.DefD) (f : Addr) (fd : FuncData) : Prop := FunD K d.name d.qual d.params d.body d.scope [] [] f fd

theorem itT {c : Bool} {A B : Prop} (h : c = true) (a : A) : if c = true then A else B := by
  rw [if_pos h]
  exact a
theorem itF {c : Bool} {A B : Prop} (h : c = false) (b : B) : if c = true then A else B := by
  rw [if_neg (by rw [h]; exact Bool.false_ne_true)]
  exact b
/-! ### _law_mixed -/
def spMixed : Sp := fun vs H Q _ => ∃ s t a : Int, vs = [.int s, .int t, .int a] ∧ 0 ≤ s ∧ s < 2147483629 ∧ 0 ≤ t ∧ t < 2 ^ 62 ∧ 0 ≤ a ∧ a ≤ 63 ∧ ∀ d : Int, 0 ≤ d → d < 2147483587 → Q (.int d) H
theorem scMixed : FnScope ["_law_seed", "_law_turn", "_law_at", "_law_mixed_here"] ["_law_seed", "_law_turn", "_law_at"] (defScope sMixed) := ⟨rfl, rfl, rfl, by decide +kernel, rfl, by decide +kernel, by decide +kernel⟩
section
variable {P : Program} {w : World} {K : PySem.W.Frag} {mg : Str → Option Value} {base : Heap} {f : Addr} {fd : FuncData}
theorem ok_mixed (F : FnP K dMixed f fd) (gI : mg "int" = none) : FnOk P w K mg base CX0 1 f fd ["_law_seed", "_law_turn", "_law_at"] spMixed := by
  refine F.ok scMixed (fun vs H Q E h => ?_) (fun cdv A outer s H vs Q E hr h => ⟨_,
    pss_cons (ps_set (i := 3) scMixed.nd rfl (.inl rfl) (pe_op op_add (pe_op op_mul (pv 0) pe_int) (pe_op op_mul (pe_op op_mul pe_int (pv 1)) (pv 1))))
    (pss_cons (ps_set (i := 3) scMixed.nd rfl (.inl rfl) (pe_op op_mod (pe_callTy call_int1 rfl gI (by decide +kernel) (pa_cons (pe_op op_add (pe_op op_add (pv 3) (pe_op op_mul pe_int (pv 2))) (pv 1)) pa_nil)) pe_int))
    (pss_cons (ps_set (i := 3) scMixed.nd rfl (.inl rfl) (pe_op op_mod (pe_callTy call_int1 rfl gI (by decide +kernel) (pa_cons (pe_op op_add (pe_op op_mul (pv 3) (pv 3)) pe_int) pa_nil)) pe_int))
    (pss_one (ps_ret (pe_op op_mod (pe_callTy call_int1 rfl gI (by decide +kernel) (pa_cons (pe_op op_mul (pv 3) pe_int) pa_nil)) pe_int))))), ?_⟩)
  · obtain ⟨s, t, a, rfl, _⟩ := h
    rfl
  · obtain ⟨s, t, a, rfl, s0, s1, t0, t1, a0, a1, k⟩ := h
    have m0 : ∀ x : Int, 0 ≤ x % 2147483647 ∧ x % 2147483647 < 2147483647 := fun x => ⟨Int.emod_nonneg _ (by decide), Int.emod_lt_of_pos _ (by decide)⟩
    refine ⟨_, rfl, s, _, rfl, rfl, .inr ⟨by decide, by decide⟩, ?_⟩
    refine ⟨_, rfl, _, t, rfl, rfl, .inl ⟨by decide, by decide⟩, _, rfl, _, t, rfl, rfl, .inr ⟨by omega, by omega⟩, _, _, rfl, rfl, ?_⟩
    refine ⟨_, rfl, _, rfl, _, a, rfl, rfl, .inl ⟨by decide, by decide⟩, _, _, rfl, rfl, _, rfl, _, t, rfl, rfl, .inl ⟨_, rfl, ?_⟩⟩
    refine ⟨_, _, rfl, rfl, (by show (0 : Int) < 2147483647; decide), ?_⟩
    have b := m0 (s * 69069 + 104729 * t * t + 7919 * a + t)
    refine ⟨_, rfl, _, rfl, _, _, rfl, rfl, .inl ⟨?_, ?_⟩, _, _, rfl, rfl, .inl ⟨_, rfl, _, _, rfl, rfl, (by show (0 : Int) < 2147483629; decide), ?_⟩⟩
    · exact Int.lt_of_lt_of_le (by decide) b.1
    · exact Int.lt_trans b.2 (by decide)
    refine ⟨_, rfl, _, _, rfl, rfl, .inr ⟨by decide, by decide⟩, .inl ⟨_, rfl, _, _, rfl, rfl, (by show (0 : Int) < 2147483587; decide), ?_⟩⟩
    exact k _ (Int.emod_nonneg _ (by decide)) (Int.emod_lt_of_pos _ (by decide))
end
/-! ### _law_draw -/
def spDraw : Sp := fun vs H Q _ => ∃ (p : Addr) (t m : Int), vs = [.ref p, .int m] ∧ Pu H p t ∧ t ≤ 2 ^ 40 ∧ 0 < m ∧ m < 2 ^ 27 ∧ ∀ (d : Int) (H' : Hp), 0 ≤ d → d < m → Sb p H H' → Pu H' p (t + 1) → Q (.int d) H'
theorem scDraw : FnScope ["_law_purse_here", "_law_many", "_law_drawn", "_law_found", "_law_piece"] ["_law_purse_here", "_law_many"] (defScope sDraw) := ⟨rfl, rfl, rfl, by decide +kernel, rfl, by decide +kernel, by decide +kernel⟩
theorem bits27 {m : Int} (h0 : 0 < m) (h : m < 2 ^ 27) : ((Builtin.Int.intBits m : Nat) : Int) / 28 = 0 := by
  have b : Builtin.Int.intBits m ≤ 27 := by
    unfold Builtin.Int.intBits
    split
    · omega
    · have : m.natAbs.log2 < 27 := (Nat.log2_lt (by omega)).mpr (by omega)
      omega
  omega
section
variable {P : Program} {w : World} {K : PySem.W.Frag} {mg : Str → Option Value} {base : Heap} {f fM : Addr} {fd fdM : FuncData}
theorem ok_draw (F : FnP K dDraw f fd) (FM : FnP K dMixed fM fdM) (gM : mg "_law_mixed" = some (.ref fM)) (gI : mg "int" = none) (gR : mg "range" = none) : FnOk P w K mg base CX0 2 f fd ["_law_purse_here", "_law_many"] spDraw := by
  have GM : FnOk P w K mg base CX0 1 fM fdM ["_law_seed", "_law_turn", "_law_at"] spMixed := ok_mixed FM gI
  have bM : Binds K fdM ["_law_seed", "_law_turn", "_law_at"] [] := FM.bindsN fun _ _ _ _ _ _ us hl => match us, hl with | [_, _, _], _ => rfl
  refine F.ok scDraw (fun vs H Q E h => ?_) (fun cdv A outer s H vs Q E hr h => ⟨_, PSs.nox (
    pss_cons (ps_if (pt_cmpR op_gt (pe_ix ix_list (pv 0) pe_int (fun _ _ => rfl)) pe_int (nomark _))
      (pss_cons (ps_set (i := 2) scDraw.nd rfl (.inl rfl) (pe_op op_mod (pe_callTy call_int1 rfl gI (by decide +kernel) (pa_cons (pe_ix ix_list (pv 0) pe_int (fun _ _ => rfl)) pa_nil)) (pv 1)))
      (pss_cons (ps_asg (pe_op op_fdiv (pe_ix ix_list (pv 0) pe_int (fun _ _ => rfl)) (pv 1)) (pg_sub (pv 0) pe_int set_list))
      (pss_one (ps_ret (pv 2))))) pss_nil)
    (pss_cons (ps_set (i := 3) scDraw.nd rfl (.inl rfl) pe_int)
    (pss_cons (ps_for PassesOwn.never rfl (pi_range1 rfl gR (pa_cons (pe_op op_add pe_int (pe_op op_fdiv (pe_bits (pv 1)) pe_int)) pa_nil)) (pg_name (i := 4) scDraw.nd rfl (.inl rfl))
      (pss_cons (ps_asg (pe_op op_add (pe_ix ix_list (pv 0) pe_int (fun _ _ => rfl)) pe_int) (pg_sub (pv 0) pe_int set_list))
      (pss_one (ps_set (i := 3) scDraw.nd rfl (.inl rfl) (pe_op op_add (pe_op op_mul (pv 3) pe_int)
        (pe_call GM hr rfl gM FM.kp bM .nil pass0 (pa_cons (pe_ix ix_list (pv 0) pe_int (fun _ _ => rfl)) (pa_cons (pe_ix ix_list (pv 0) pe_int (fun _ _ => rfl)) (pa_cons (pe_ix ix_list (pv 0) pe_int (fun _ _ => rfl)) pa_nil))))))))) 
    (pss_one (ps_ret (pe_op op_mod (pe_callTy call_int1 rfl gI (by decide +kernel) (pa_cons (pv 3) pa_nil)) (pv 1))))))), ?_⟩)
  · obtain ⟨p, t, m, rfl, _⟩ := h
    rfl
  · obtain ⟨p, t, m, rfl, pu, tle, m0, m1, k⟩ := h
    obtain ⟨a, b, tt, c, e, a0, a1, b0, b1, t0, t1, c0, c1⟩ := pu
    refine ⟨_, rfl, p, _, 0, _, rfl, rfl, SqL.of e, rfl, _, _, rfl, rfl, _, rfl, ?_⟩
    by_cases pos : 0 < a
    · refine itT (decide_eq_true pos) ?_
      refine ⟨_, rfl, p, _, 0, _, rfl, rfl, SqL.of e, rfl, .inl ⟨_, rfl, ?_⟩⟩
      refine ⟨_, rfl, a, m, rfl, rfl, m0, ?_⟩
      refine ⟨_, rfl, p, _, 0, _, rfl, rfl, SqL.of e, rfl, ?_⟩
      refine ⟨_, rfl, a, m, rfl, rfl, ⟨m0, by omega⟩, ?_⟩
      refine ⟨_, rfl, p, _, 0, 0, rfl, rfl, e, rfl, ?_⟩
      refine ⟨_, rfl, k _ _ (Int.emod_nonneg _ (by omega)) (Int.emod_lt_of_pos _ m0) (.upd (.inr rfl)) ⟨a / m, b, tt, c, upd_same, Int.ediv_nonneg a0 (by omega), ?_, b0, b1, t0, by omega, c0, c1⟩⟩
      exact Int.lt_of_le_of_lt (Int.ediv_le_self _ a0) a1
    · refine itF (decide_eq_false pos) ?_
      refine ⟨_, rfl, m, rfl, _, _, rfl, rfl, ⟨by decide, by decide⟩, _, _, rfl, rfl, (1 : Int), by rw [bits27 m0 m1]; rfl, by decide, by decide, ?_⟩
      refine for_range (lo := 0) (n := 1) (fun i σ H' => ∃ (fo : Int) (v : Option V), σ = [some (.ref p), some (.int m), none, some (.int fo), v] ∧ H' p = some (.lst [.int a, .int b, .int (tt + i), .int c]) ∧ Sb p H H') ?_ ?_ ?_
      · exact ⟨0, none, rfl, by rw [e]; simp, .refl⟩
      · rintro i σ H' hi ⟨fo, v, rfl, e', sb⟩
        refine ⟨_, rfl, p, _, 2, _, rfl, rfl, SqL.of e', rfl, _, _, rfl, rfl, ?_⟩
        refine ⟨_, rfl, p, _, 2, 2, rfl, rfl, e', rfl, ?_⟩
        refine ⟨_, rfl, fo, _, rfl, rfl, .inr ⟨by decide, by decide⟩, ?_⟩
        refine ⟨_, rfl, p, _, 1, _, rfl, rfl, SqL.of upd_same, rfl, ?_⟩
        refine ⟨_, rfl, p, _, 2, _, rfl, rfl, SqL.of upd_same, rfl, ?_⟩
        refine ⟨_, rfl, p, _, 3, _, rfl, rfl, SqL.of upd_same, rfl, ?_⟩
        refine ⟨b, _, c, rfl, b0, b1, ?_, ?_, c0, c1, fun d d0 d1 => ⟨_, _, rfl, rfl, ?_⟩⟩
        · omega
        · have hi' : (i : Int) < 1 := by exact_mod_cast hi
          omega
        · refine ⟨_, some (.int (0 + i)), rfl, ?_, sb.trans (.upd (.inr rfl))⟩
          rw [upd_same]
          have z : tt + (i : Int) + 1 = tt + ((i + 1 : Nat) : Int) := by omega
          rw [← z]
          rfl
      · rintro σ H' ⟨fo, v, rfl, e', sb⟩
        refine ⟨_, rfl, .inl ⟨_, rfl, _, rfl, fo, m, rfl, rfl, m0, ?_⟩⟩
        exact k _ _ (Int.emod_nonneg _ (by omega)) (Int.emod_lt_of_pos _ m0) sb ⟨a, b, tt + (1 : Nat), c, e', a0, a1, b0, b1, by omega, by omega, c0, c1⟩
end
end K01
namespace K01
open PySem PySem.Spec PyProof.Rows L2
/-! ### _law_purse, _law_purses -/
def spPurse (K : PySem.W.Frag) : Sp := fun vs H Q _ => ∃ (a : Addr) (ns : List Int) (i : Nat), vs = [.ref a, .int i] ∧ SqL K H a (ns.map V.int) ∧ i ≤ 63 ∧
  ∀ (p : Addr) (H' : Hp), H p = none → Same H H' → Pu H' p 0 → Q (.ref p) H'
theorem scPurse : FnScope ["_law_script", "_law_at", "_law_seed"] ["_law_script", "_law_at"] (defScope sPurse) := ⟨rfl, rfl, rfl, by decide +kernel, rfl, by decide +kernel, by decide +kernel⟩
theorem cut_map (ns : List Int) (lo hi : Option Int) : ∃ ms : List Int, cutV (ns.map V.int) lo hi = ms.map V.int := by
  unfold cutV
  rw [← List.map_drop, ← List.map_take]
  exact ⟨_, rfl⟩
theorem modpos : (0 : Int) < ((10 : Int) ^ (60 : Int).toNat) ^ (8 : Int).toNat := by decide +kernel
theorem modbig : ((10 : Int) ^ (60 : Int).toNat) ^ (8 : Int).toNat = big := by decide +kernel
theorem pow_bits : (Builtin.Int.intBits ((10 : Int) ^ (60 : Int).toNat) : Int) * 8 ≤ 2 ^ 27 := by decide +kernel
section
variable {P : Program} {w : World} {K : PySem.W.Frag} {mg : Str → Option Value} {base : Heap} {f fP : Addr} {fd fdP : FuncData}
theorem ok_purse (F : FnP K dPurse f fd) (gS : mg "sum" = none) (gI : mg "int" = none) (gM : mg "max" = none) : FnOk P w K mg base CX0 1 f fd ["_law_script", "_law_at"] (spPurse K) := by
  refine F.ok scPurse (fun vs H Q E h => ?_) (fun cdv A outer s H vs Q E hr h => ⟨_, PSs.nox (
    pss_cons (ps_set (i := 2) scPurse.nd rfl (.inl rfl) (pe_callB (cr_sum rfl) rfl gS (by decide +kernel) (pa_cons (pe_slice sl_list (pv 0) (po_some (pv 1)) (po_some (pe_op op_add (pv 1) pe_int))) pa_nil)))
    (pss_one (ps_ret (pe_lst (pa_cons (pe_op op_mod (pe_callTy call_int1 rfl gI (by decide +kernel) (pa_cons (pe_callB (call_max2 rfl) rfl gM (by decide +kernel) (pa_cons (pe_op op_sub (pv 2) (pe_op op_pow pe_int pe_int)) (pa_cons pe_int pa_nil))) pa_nil))
        (pe_op op_powB (pe_op op_pow pe_int pe_int) pe_int))
      (pa_cons (pe_op op_mod (pe_callTy call_int1 rfl gI (by decide +kernel) (pa_cons (pv 2) pa_nil)) pe_int) (pa_cons pe_int (pa_cons (pv 1) pa_nil)))))))), ?_⟩)
  · obtain ⟨a, ns, i, rfl, _⟩ := h
    rfl
  · obtain ⟨a, ns, i, rfl, hS, hi, k⟩ := h
    obtain ⟨ms, em⟩ := cut_map ns (some (i : Int)) (some ((i : Int) + 1))
    refine ⟨_, rfl, .int i, rfl, _, rfl, _, rfl, _, _, rfl, rfl, _, rfl, a, _, rfl, hS, fun q hq => ?_⟩
    refine ⟨q, ms, rfl, SqL.of (by rw [upd_same, em]), ?_⟩
    refine ⟨_, rfl, _, _, rfl, rfl, ⟨by decide, by decide, by decide⟩, _, _, rfl, rfl, _, _, rfl, .inl ⟨_, rfl, ?_⟩⟩
    refine ⟨_, _, rfl, rfl, ⟨by decide, by decide, by decide⟩, _, _, rfl, rfl, ⟨by decide, pow_bits⟩, _, _, rfl, rfl, modpos, ?_⟩
    refine ⟨_, rfl, .inl ⟨_, rfl, _, _, rfl, rfl, (by show (0 : Int) < 2147483629; decide), _, rfl, (by show 4 ≤ sizeLine; rw [sizeLine_eq]; decide), fun p hp => ?_⟩⟩
    have np : p ≠ q := fun z => by
      rw [z, upd_same] at hp
      cases hp
    have hp0 : H p = none := by rwa [upd_ne np] at hp
    have keep : Same H (upd H q (.lst (cutV (ns.map V.int) (some (i : Int)) (some ((i : Int) + 1))))) := fun b o e => by
      rw [upd_ne (ne_of_none e hq)]
      exact e
    refine k p _ hp0 (fun b o e => ?_) ⟨_, _, 0, i, upd_same, ?_, ?_, ?_, ?_, by decide, by decide, by omega, by omega⟩
    · rw [upd_ne (ne_of_none e hp0)]
      exact keep b o e
    · exact Int.emod_nonneg _ (Int.ne_of_gt modpos)
    · have z := Int.emod_lt_of_pos (if (0 : Int) > ms.sum - 10 ^ (18 : Int).toNat then 0 else ms.sum - 10 ^ (18 : Int).toNat) modpos
      exact Int.lt_of_lt_of_le z (Int.le_of_eq modbig)
    · exact Int.emod_nonneg _ (by decide)
    · exact Int.emod_lt_of_pos _ (by decide)
end
/-! ### _law_one_of -/
def spOne (K : PySem.W.Frag) : Sp := fun vs H Q _ => ∃ (p l : Addr) (t : Int) (xs : List V), vs = [.ref p, .ref l] ∧ Pu H p t ∧ t ≤ 2 ^ 40 ∧ SqL K H l xs ∧ l ≠ p ∧ 0 < xs.length ∧ xs.length < 2 ^ 27 ∧ H l = some (.lst xs) ∧
  ∀ (i : Nat) (x : V) (H' : Hp), xs[i]? = some x → Sb p H H' → Pu H' p (t + 1) → Q x H'
theorem scOne : FnScope ["_law_purse_here", "_law_some"] ["_law_purse_here", "_law_some"] (defScope sOneof) := ⟨rfl, rfl, rfl, by decide +kernel, rfl, by decide +kernel, by decide +kernel⟩
section
variable {P : Program} {w : World} {K : PySem.W.Frag} {mg : Str → Option Value} {base : Heap} {f fD : Addr} {fd fdD : FuncData}
theorem ok_one (F : FnP K dOneof f fd) (GD : FnOk P w K mg base CX0 2 fD fdD ["_law_purse_here", "_law_many"] spDraw) (FD : FnP K dDraw fD fdD) (gD : mg "_law_draw" = some (.ref fD)) (gL : mg "len" = none) : FnOk P w K mg base CX0 3 f fd ["_law_purse_here", "_law_some"] (spOne K) := by
  have bD : Binds K fdD ["_law_purse_here", "_law_many"] [] := FD.bindsN fun _ _ _ _ _ _ us hl => match us, hl with | [_, _], _ => rfl
  refine F.ok scOne (fun vs H Q E h => ?_) (fun cdv A outer s H vs Q E hr h => ⟨_, PSs.nox (
    pss_one (ps_ret (pe_ix ix_list (pv 1) (pe_call GD hr rfl gD FD.kp bD .nil pass0 (pa_cons (pv 0) (pa_cons (pe_callB call_len_seq rfl gL (by decide +kernel) (pa_cons (pv 1) pa_nil)) pa_nil))) (fun _ _ => rfl)))), ?_⟩)
  · obtain ⟨p, l, t, xs, rfl, _⟩ := h
    rfl
  · obtain ⟨p, l, t, xs, rfl, pu, tle, hS, ne, h0, h1, hl, k⟩ := h
    refine ⟨_, rfl, _, rfl, _, rfl, l, xs, rfl, .inl hS, p, t, _, rfl, pu, tle, by omega, by omega, fun d H' d0 d1 sb pu' => ?_⟩
    obtain ⟨j, rfl⟩ : ∃ j : Nat, d = (j : Int) := ⟨d.toNat, by omega⟩
    have hd : j < xs.length := by omega
    exact ⟨l, xs, j, _, rfl, rfl, SqL.of (sb l _ ne hl), atI_nat (List.getElem?_eq_getElem hd), k j _ H' (List.getElem?_eq_getElem hd) sb pu'⟩
end
/-! ### _law_word -/
/-- a word: few signs, all of them small -/
def Wd (z : Str) : Prop := z.length ≤ 8 ∧ ∀ c ∈ z.cps.toList, c < 128
def spWord : Sp := fun vs H Q _ => ∃ (p : Addr) (t : Int), vs = [.ref p] ∧ Pu H p t ∧ t ≤ 2 ^ 30 ∧ ∀ (z : Str) (H' : Hp), Wd z → Sb p H H' → Pu H' p (t + 10) → Q (.str z) H'
theorem scWord : FnScope ["_law_purse_here", "_law_size", "_law_turn"] ["_law_purse_here"] (defScope sWord) := ⟨rfl, rfl, rfl, by decide +kernel, rfl, by decide +kernel, by decide +kernel⟩
section
variable {P : Program} {w : World} {K : PySem.W.Frag} {mg : Str → Option Value} {base : Heap} {f fD : Addr} {fd fdD : FuncData}
theorem join_small : ∀ {l : List Str}, (∀ y ∈ l, ∀ c ∈ y.cps.toList, c < 128) → ∀ c ∈ (Str.join "" l).cps.toList, c < 128
  | [], _, c, hc => absurd hc (by decide +revert)
  | [x], h, c, hc => h x (List.mem_cons_self ..) c hc
  | x :: y :: r, h, c, hc => by
    have e : (Str.join "" (x :: y :: r)).cps.toList = x.cps.toList ++ (Str.join "" (y :: r)).cps.toList := by
      show ((x.cps ++ ("" : Str).cps) ++ (Str.join "" (y :: r)).cps).toList = _
      have z : ("" : Str).cps = #[] := by decide
      rw [z, Array.append_empty, Array.toList_append]
    rw [e] at hc
    rcases List.mem_append.mp hc with q | q
    · exact h x (List.mem_cons_self ..) c q
    · exact join_small (l := y :: r) (fun z hz => h z (List.mem_cons_of_mem _ hz)) c q
theorem sum_ones : ∀ {l : List Str}, (∀ y ∈ l, y.length = 1) → (l.map (·.length)).sum = l.length
  | [], _ => rfl
  | x :: r, h => by
    have ih := sum_ones (l := r) fun y hy => h y (List.mem_cons_of_mem _ hy)
    have hx := h x (List.mem_cons_self ..)
    rw [List.map_cons, List.sum_cons, List.length_cons, ih]
    show x.length + r.length = _
    omega
theorem wd_join {l : List Str} (h1 : ∀ y ∈ l, y.length = 1) (h2 : ∀ y ∈ l, ∀ c ∈ y.cps.toList, c < 128) (hl : l.length ≤ 8) : Wd (Txt.join "" l) := by
  have e : Txt.join "" l = Str.join "" l := by
    show Builtin.Str.glued (PySem.Str.ofString "") l = _
    rw [StrLaws.glued_eq_join]
  refine ⟨?_, ?_⟩
  · have z : (PySem.Txt.join (PySem.Str.ofString "") l).length = l.length := PySem.W.KT.join_ones l h1
    omega
  · rw [e]
    exact join_small h2
theorem abc_at : ∀ n : Nat, n < 26 → ∃ c, ("abcdefghijklmnopqrstuvwxyz" : Str).cps[n]? = some c ∧ c < 128 := by decide +kernel
theorem ok_word (F : FnP K dWord f fd) (GD : FnOk P w K mg base CX0 2 fD fdD ["_law_purse_here", "_law_many"] spDraw) (FD : FnP K dDraw fD fdD) (gD : mg "_law_draw" = some (.ref fD)) (gR : mg "range" = none) : FnOk P w K mg base CX0 3 f fd ["_law_purse_here"] spWord := by
  have bD : Binds K fdD ["_law_purse_here", "_law_many"] [] := FD.bindsN fun _ _ _ _ _ _ us hl => match us, hl with | [_, _], _ => rfl
  refine F.ok scWord (fun vs H Q E h => ?_) (fun cdv A outer s H vs Q E hr h => ⟨_, PSs.nox (
    pss_cons (ps_set (i := 1) scWord.nd rfl (.inl rfl) (pe_op op_add pe_int (pe_call GD hr rfl gD FD.kp bD .nil pass0 (pa_cons (pv 0) (pa_cons
      (pe_ifExp (pt_cmpR op_eq (pe_call GD hr rfl gD FD.kp bD .nil pass0 (pa_cons (pv 0) (pa_cons pe_int pa_nil))) pe_int (nomark _)) pe_int pe_int) pa_nil)))))
    (pss_one (ps_ret (pe_join pe_str (pe_lc (own := [("_law_turn", 2)]) (g := gName 2) (tt := tYes) rfl scWord.nd (pi_range1 rfl gR (pa_cons (pv 1) pa_nil)) (blkOk_by (N := ["_law_purse_here", "_law_size", "_law_turn"]) (sc := defScope sWord) (by decide +kernel))
      (fun _ _ _ _ _ => pg_name (i := 2) scWord.nd rfl (.inl rfl)) (fun _ _ _ _ _ => pts_nil)
      (fun _ _ _ _ _ => pe_item_str pe_str (pe_call GD hr rfl gD FD.kp bD .nil pass0 (pa_cons (pv 0) (pa_cons pe_int pa_nil))) (fun _ _ => rfl))))))), ?_⟩)
  · obtain ⟨p, t, rfl, _⟩ := h
    rfl
  · obtain ⟨p, t, rfl, pu, tle, k⟩ := h
    refine ⟨_, rfl, _, rfl, p, t, 3, rfl, pu, by omega, by omega, by omega, fun d H1 d0 d1 sb1 pu1 => ⟨rfl, _, rfl, ?_⟩⟩
    have rest : ∀ (d2 : Int) (H2 : Hp), 0 ≤ d2 → d2 < 8 → Sb p H1 H2 → Pu H2 p (t + 1 + 1) → ∃ j : Int, [V.int (1 + d2)] = [V.int j] ∧ -(2 ^ 62) ≤ j ∧ j < 2 ^ 62 ∧ 1 ≤ j.toNat ∧ j.toNat ≤ 8 := fun d2 H2 e0 e1 _ _ => ⟨1 + d2, rfl, by omega, by omega, by omega, by omega⟩
    refine ite2 (fun _ => ?_) (fun _ => ?_)
    all_goals
      refine ⟨p, t + 1, _, rfl, pu1, by omega, by omega, by omega, fun d2 H2 e0 e1 sb2 pu2 => ?_⟩
      refine ⟨_, _, rfl, rfl, ?_⟩
      obtain ⟨j, ej, j1, j2, j3, j4⟩ := rest d2 H2 e0 (by omega) sb2 pu2
      refine ⟨⟨_, rfl⟩, _, rfl, j, ej, j1, j2, fun D hD => ?_⟩
      refine lc_it walk_range (fun i H' => ∃ ys : List Str, H' D = some (.lst (ys.map V.str)) ∧ ys.length = i ∧ (∀ y ∈ ys, y.length = 1) ∧ (∀ y ∈ ys, ∀ c ∈ y.cps.toList, c < 128) ∧ Sb p H H' ∧ Pu H' p (t + 2 + i)) ?_ (fun _ _ _ _ => trivial) ?_ ?_
      · refine ⟨[], upd_same, rfl, by simp, by simp, (sb1.trans sb2).trans (.upd (.inl hD)), ?_⟩
        refine (pu2.keep fun b o e => ?_).mono (by omega)
        rw [upd_ne (ne_of_none e hD)]
        exact e
      · rintro i x H3 H' hi ⟨ys, e, hl, o1, o2, sb, pu3⟩ ⟨rfl, rfl⟩
        refine ⟨rfl, ?_⟩
        refine ⟨_, rfl, p, t + 2 + i, 26, rfl, pu3, by omega, by omega, by omega, fun d3 H4 f0 f1 sb3 pu4 => ?_⟩
        obtain ⟨c, hc, hc2⟩ := abc_at d3.toNat (by omega)
        have nD : D ≠ p := fun z => by
          obtain ⟨a, b, tt, cc, ep, _⟩ := pu3
          rw [← z, e] at ep
          have z2 := HO.lst.inj (Option.some.inj ep)
          cases ys with
          | nil => cases z2
          | cons y r => cases (List.cons.inj z2).1
        refine ⟨_, d3, c, rfl, rfl, f0, by omega, (by show d3 < 26; exact f1), hc, ys.map V.str, sb3 D _ nD e, (by rw [List.length_map, sizeLine_eq]; omega), ys ++ [⟨#[c]⟩], ?_, ?_, ?_, ?_, ?_, ?_⟩
        · rw [upd_same, List.map_append]
          rfl
        · rw [List.length_append, hl]
          rfl
        · intro y hy
          rcases List.mem_append.mp hy with q | q
          · exact o1 y q
          · rw [List.mem_singleton.mp q]
            rfl
        · intro y hy c' hc'
          rcases List.mem_append.mp hy with q | q
          · exact o2 y q c' hc'
          · rw [List.mem_singleton.mp q] at hc'
            rw [List.mem_singleton.mp (show c' ∈ [c] from hc')]
            exact hc2
        · intro b o n eb
          have q := (sb.trans sb3) b o n eb
          rw [upd_ne (ne_of_none ((sb1.trans sb2) b o n eb) hD)]
          exact q
        · obtain ⟨a, b, tt, cc, ep, r1, r2, r3, r4, r5, r6, r7⟩ := pu4
          exact ⟨a, b, tt, cc, by rw [upd_ne (Ne.symm nD)]; exact ep, r1, r2, r3, r4, r5, by omega, r7⟩
      · rintro H' ⟨ys, e, hl, o1, o2, sb, pu3⟩
        refine ⟨_, D, ys, rfl, rfl, .inl (SqL.of e), ?_, ?_⟩
        · rw [sum_ones o1]
          show ys.length + ys.length * 0 ≤ 16777216
          omega
        · exact k _ H' (wd_join o1 o2 (by omega)) sb (pu3.mono (by omega))
end
end K01
namespace K01
open PySem PySem.Spec PyProof.Rows L2
/-! ### lists of things that are made one by one -/
/-- the class at a place of the list -/
def cA (K : PySem.W.Frag) (i : Nat) : Addr := He.ga K (names42.getD i "")
def tConsL : List TE → TA
  | [] => tNil
  | t :: ts => tCons t (tConsL ts)
/-- t makes an error of the class at C that holds v -/
def MkT (v : V) (σ : L2.St) (t : TE) (C : Addr) : Prop := ∀ H Q, mkQ C v H Q → t σ H Q
theorem mkT1 {v : V} {σ : L2.St} {C : Addr} {i : Nat} (h : σ[i]? = some (some v)) : MkT v σ (tMk1 C (tVar i)) C := fun H Q q => ⟨v, h, v, rfl, q⟩
theorem mkT0 {σ : L2.St} {C : Addr} : MkT .non σ (fun _ H Q => mkQ C .non H Q) C := fun H Q q => q
theorem mkTK {v : V} {σ : L2.St} {C : Addr} {i : Nat} (h : σ[i]? = some (some v)) : MkT v σ (fun σ H Q => tCons (tVar i) tNil σ H fun zs H1 => ∃ v, zs = [v] ∧ mkQ C v H1 Q) C := fun H Q q => ⟨v, h, v, rfl, q⟩
/-- errors of these classes at these places, holding v -/
def Er (H : Hp) (v : V) (C a : Addr) : Prop := ∃ dx, H a = some (exo a C (some dx)) ∧ H dx = some (exd dx [(("value" : Str), v)])
abbrev Errs (H : Hp) (v : V) : List Addr → List Addr → Prop := Paired (Er H v)
theorem Er.keep {H H' : Hp} {v : V} {C a : Addr} (s : Same H H') (e : Er H v C a) : Er H' v C a := by
  obtain ⟨dx, e1, e2⟩ := e
  exact ⟨dx, s _ _ e1, s _ _ e2⟩
theorem Errs.keep {H H' : Hp} {v : V} (s : Same H H') : ∀ {Cs as : List Addr}, Errs H v Cs as → Errs H' v Cs as
  | _, _, .nil => .nil
  | _, _, .cons e r => .cons (e.keep s) (Errs.keep s r)
theorem Errs.append {H : Hp} {v : V} : ∀ {Cs as Ds bs : List Addr}, Errs H v Cs as → Errs H v Ds bs → Errs H v (Cs ++ Ds) (as ++ bs)
  | _, _, _, _, .nil, s => s
  | _, _, _, _, .cons e r, s => .cons e (Errs.append r s)
theorem same_mk {H : Hp} {a dx : Addr} {o u : HO} (ha : H a = none) (hd : H dx = none) : Same H (upd (upd H dx o) a u) := fun b x e => by
  rw [upd_ne (ne_of_none e ha), upd_ne (ne_of_none e hd)]
  exact e
theorem same_new {H : Hp} {a : Addr} {o : HO} (ha : H a = none) : Same H (upd H a o) := fun b x e => by
  rw [upd_ne (ne_of_none e ha)]
  exact e
theorem mk_list {v : V} {σ : L2.St} : ∀ {ts : List TE} {Cs : List Addr}, Paired (MkT v σ) ts Cs → ∀ (H : Hp) (Q : List V → Hp → Prop), (∀ as H', Same H H' → Errs H' v Cs as → Q (as.map V.ref) H') → tConsL ts σ H Q
  | _, _, .nil, H, Q, h => h [] H (Same.refl H) .nil
  | _, _, .cons m r, H, Q, h => by
    refine m H _ fun a dx ha hd ne => ?_
    refine mk_list r _ _ fun as H' s e => ?_
    refine h (a :: as) H' (Same.trans (same_mk ha hd) s) (.cons ⟨dx, s _ _ upd_same, s _ _ ?_⟩ e)
    rw [upd_ne ne, upd_same]
/-- t tells b while G holds -/
def BoT (G : Hp → Prop) (σ : L2.St) (t : TE) (b : Bool) : Prop := ∀ H Q, G H → Q (.bl b) H → t σ H Q
theorem bo_list {G : Hp → Prop} {σ : L2.St} : ∀ {ts : List TE} {bs : List Bool}, Paired (BoT G σ) ts bs → ∀ (H : Hp) (Q : List V → Hp → Prop), G H → Q (bs.map V.bl) H → tConsL ts σ H Q
  | _, _, .nil, H, Q, g, h => h
  | _, _, .cons m r, H, Q, g, h => m H _ g (bo_list r H _ g h)
/-- a list of such things, laid anew or put behind another one -/
theorem errs_first {v : V} {σ : L2.St} {ts : List TE} {Cs : List Addr} {H : Hp} {j : Nat} {D : Ends} (m : Paired (MkT v σ) ts Cs) (hl : Cs.length ≤ 1000)
    (k : ∀ l as H', Same H H' → H' l = some (.lst (as.map V.ref)) → Errs H' v Cs as → D.nx (σ.set j (some (.ref l))) H') : tAsg (tLst (tConsL ts)) (gName j) D σ H := by
  refine mk_list m _ _ fun as H' s e => ⟨?_, fun p hp => ?_⟩
  · rw [List.length_map, ← Paired.length e, sizeLine_eq]
    omega
  · exact k p as _ (Same.trans s (same_new hp)) upd_same (e.keep (same_new hp))
theorem errs_more {v : V} {σ : L2.St} {ts : List TE} {Cs Ds as : List Addr} {H : Hp} {j : Nat} {l : Addr} {D : Ends} (hj : σ[j]? = some (some (.ref l))) (e0 : H l = some (.lst (as.map V.ref))) (E0 : Errs H v Cs as) (m : Paired (MkT v σ) ts Ds) (hl : Cs.length + Ds.length ≤ 1000)
    (k : ∀ l as H', Same H H' → H' l = some (.lst (as.map V.ref)) → Errs H' v (Cs ++ Ds) as → D.nx (σ.set j (some (.ref l))) H') : tAsg (tOp rCat (tVar j) (tLst (tConsL ts))) (gName j) D σ H := by
  refine ⟨_, hj, mk_list m _ _ fun bs H' s e => ⟨?_, fun p hp => ?_⟩⟩
  · rw [List.length_map, ← Paired.length e, sizeLine_eq]
    omega
  · refine ⟨l, p, as.map V.ref, bs.map V.ref, rfl, rfl, (same_new hp) _ _ (s _ _ e0), upd_same, ?_, fun q hq => ?_⟩
    · rw [List.length_map, List.length_map, ← Paired.length e, ← Paired.length E0, sizeLine_eq]
      omega
    · have s2 := Same.trans s (Same.trans (same_new hp (o := .lst (bs.map V.ref))) (same_new hq (o := .lst (as.map V.ref ++ bs.map V.ref))))
      refine k q (as ++ bs) _ s2 (by rw [upd_same, List.map_append]) ?_
      exact Errs.append (E0.keep s2) (e.keep (Same.trans (same_new hp) (same_new hq)))
theorem bos_first {G : Hp → Prop} {σ : L2.St} {ts : List TE} {bs : List Bool} {H : Hp} {j : Nat} {D : Ends} {σ2 : Addr → L2.St} (hσ : ∀ l, σ.set j (some (.ref l)) = σ2 l) (hG : ∀ H H', G H → Same H H' → G H') (g : G H) (m : Paired (BoT G σ) ts bs) (hl : bs.length ≤ 1000)
    (k : ∀ l H', Same H H' → G H' → H' l = some (.lst (bs.map V.bl)) → D.nx (σ2 l) H') : tAsg (tLst (tConsL ts)) (gName j) D σ H := by
  refine bo_list m _ _ g ⟨?_, fun p hp => ?_⟩
  · rw [List.length_map, sizeLine_eq]
    omega
  · have z := k p _ (same_new hp) (hG _ _ g (same_new hp)) upd_same
    rw [← hσ] at z
    exact z
theorem bos_more {G : Hp → Prop} {σ : L2.St} {ts : List TE} {bs cs es : List Bool} {H : Hp} {j : Nat} {l : Addr} {D : Ends} {σ2 : Addr → L2.St} (hσ : ∀ l, σ.set j (some (.ref l)) = σ2 l) (hG : ∀ H H', G H → Same H H' → G H') (g : G H) (hj : σ[j]? = some (some (.ref l))) (e0 : H l = some (.lst (bs.map V.bl))) (m : Paired (BoT G σ) ts cs) (he : bs ++ cs = es) (hl : es.length ≤ 1000)
    (k : ∀ l H', Same H H' → G H' → H' l = some (.lst (es.map V.bl)) → D.nx (σ2 l) H') : tAsg (tOp rCat (tVar j) (tLst (tConsL ts))) (gName j) D σ H := by
  have hl2 : bs.length + cs.length ≤ 1000 := by
    rw [← List.length_append, he]
    exact hl
  refine ⟨_, hj, bo_list m _ _ g ⟨?_, fun p hp => ?_⟩⟩
  · rw [List.length_map, sizeLine_eq]
    omega
  · refine ⟨l, p, bs.map V.bl, cs.map V.bl, rfl, rfl, (same_new hp) _ _ e0, upd_same, ?_, fun q hq => ?_⟩
    · rw [List.length_map, List.length_map, sizeLine_eq]
      omega
    · have s2 := Same.trans (same_new hp (o := .lst (cs.map V.bl))) (same_new hq (o := .lst (bs.map V.bl ++ cs.map V.bl)))
      have z := k q _ s2 (hG _ _ g s2) (by rw [upd_same, ← List.map_append, he])
      rw [← hσ] at z
      exact z
/-- _law_purses(script, 1) -/
def spPurses (K : PySem.W.Frag) : Sp := fun vs H Q _ => ∃ (a : Addr) (ns : List Int), vs = [.ref a, .int 1] ∧ SqL K H a (ns.map V.int) ∧ ns.length ≤ 63 ∧
  ∀ (l p : Addr) (H' : Hp), Same H H' → H' l = some (.lst [.ref p]) → Pu H' p 0 → Q (.ref l) H'
theorem scPurses : FnScope ["_law_script", "_law_few", "_law_at"] ["_law_script", "_law_few"] (defScope sPurses) := ⟨rfl, rfl, rfl, by decide +kernel, rfl, by decide +kernel, by decide +kernel⟩
section
variable {P : Program} {w : World} {K : PySem.W.Frag} {mg : Str → Option Value} {base : Heap} {f fP : Addr} {fd fdP : FuncData}
theorem ok_purses (F : FnP K dPurses f fd) (GP : FnOk P w K mg base CX0 1 fP fdP ["_law_script", "_law_at"] (spPurse K)) (FP : FnP K dPurse fP fdP) (gP : mg "_law_purse" = some (.ref fP)) (gR : mg "range" = none) (gX : mg "max" = none) (gN : mg "min" = none) (gL : mg "len" = none) :
    FnOk P w K mg base CX0 2 f fd ["_law_script", "_law_few"] (spPurses K) := by
  have bP : Binds K fdP ["_law_script", "_law_at"] [] := FP.bindsN fun _ _ _ _ _ _ us hl => match us, hl with | [_, _], _ => rfl
  refine F.ok scPurses (fun vs H Q E h => ?_) (fun cdv A outer s H vs Q E hr h => ⟨_, PSs.nox (
    pss_one (ps_ret (pe_lc (own := [("_law_at", 2)]) (g := gName 2) (tt := tYes) rfl scPurses.nd
      (pi_range1 rfl gR (pa_cons (pe_callB (call_max2 rfl) rfl gX (by decide +kernel) (pa_cons pe_int (pa_cons (pe_callB (call_min2 rfl) rfl gN (by decide +kernel) (pa_cons (pv 1) (pa_cons (pe_callB call_len_seq rfl gL (by decide +kernel) (pa_cons (pv 0) pa_nil)) pa_nil))) pa_nil))) pa_nil))
      (blkOk_by (N := ["_law_script", "_law_few", "_law_at"]) (sc := defScope sPurses) (by decide +kernel))
      (fun _ _ _ _ _ => pg_name (i := 2) scPurses.nd rfl (.inl rfl)) (fun _ _ _ _ _ => pts_nil)
      (fun _ _ _ _ _ => pe_call GP hr rfl gP FP.kp bP .nil pass0 (pa_cons (pv 0) (pa_cons (pv 2) pa_nil)))))), ?_⟩)
  · obtain ⟨a, ns, rfl, _⟩ := h
    rfl
  · obtain ⟨a, ns, rfl, hS, hn, k⟩ := h
    refine ⟨_, rfl, _, rfl, a, _, rfl, .inl hS, 1, _, rfl, 1, _, rfl, 1, ?_, by decide, by decide, fun D hD => ?_⟩
    · have e1 : (if (if ((ns.map V.int).length : Int) < 1 then ((ns.map V.int).length : Int) else 1) > 1 then (if ((ns.map V.int).length : Int) < 1 then ((ns.map V.int).length : Int) else 1) else (1 : Int)) = 1 := by
        split <;> split at * <;> omega
      rw [e1]
    · refine lc_it (n := 1) walk_range (fun i H' => (i = 0 ∧ H' = upd H D (.lst [])) ∨ (i = 1 ∧ ∃ p, H' D = some (.lst [.ref p]) ∧ Pu H' p 0 ∧ Same H H')) (.inl ⟨rfl, rfl⟩) (fun _ _ _ _ => trivial) ?_ ?_
      · rintro i x H3 H' hi p0 ⟨rfl, rfl⟩
        rcases p0 with ⟨rfl, rfl⟩ | ⟨rfl, _⟩
        · refine ⟨rfl, _, rfl, _, rfl, a, ns, 0, rfl, Same.seq (same_new hD) hS, by decide, fun p H4 hp s4 pu => ?_⟩
          have nD : p ≠ D := fun z => by
            rw [z, upd_same] at hp
            cases hp
          refine ⟨[], s4 _ _ upd_same, (by rw [sizeLine_eq]; decide), .inr ⟨rfl, p, upd_same, ?_, fun b o e => ?_⟩⟩
          · obtain ⟨x1, x2, x3, x4, e, r⟩ := pu
            exact ⟨x1, x2, x3, x4, by rw [upd_ne nD]; exact e, r⟩
          · rw [upd_ne (ne_of_none e hD)]
            exact s4 _ _ ((same_new hD) _ _ e)
        · omega
      · rintro H' (⟨h0, _⟩ | ⟨_, p, e, pu, s⟩)
        · cases h0
        · exact k D p H' s e pu
end
end K01
namespace K01
open PySem PySem.Spec PyProof.Rows L2
/-- the places of the classes with a field -/
def C39 (K : PySem.W.Frag) : List Addr := (List.range 39).map (cA K)
def spMade (K : PySem.W.Frag) : Sp := fun vs H Q _ => ∃ v : V, vs = [v] ∧ ∀ (l : Addr) (as : List Addr) (H' : Hp), Same H H' → H' l = some (.lst (as.map V.ref)) → Errs H' v (C39 K) as → Q (.ref l) H'
def spBare (K : PySem.W.Frag) : Sp := fun vs H Q _ => vs = [] ∧ ∀ (l : Addr) (as : List Addr) (H' : Hp), Same H H' → H' l = some (.lst (as.map V.ref)) → Errs H' .non (C39 K) as → Q (.ref l) H'
theorem scFirst : FnScope ["_law_thing", "_law_found"] ["_law_thing"] (defScope sFirst) := ⟨rfl, rfl, rfl, by decide +kernel, rfl, by decide +kernel, by decide +kernel⟩
theorem scCalled : FnScope ["_law_thing", "_law_found"] ["_law_thing"] (defScope sCalled) := ⟨rfl, rfl, rfl, by decide +kernel, rfl, by decide +kernel, by decide +kernel⟩
theorem scBare : FnScope ["_law_found"] [] (defScope sBare) := ⟨rfl, rfl, rfl, by decide +kernel, rfl, by decide +kernel, by decide +kernel⟩
theorem scCode : FnScope ["_law_error", "_law_found", "_law_at"] ["_law_error"] (defScope sCode) := ⟨rfl, rfl, rfl, by decide +kernel, rfl, by decide +kernel, by decide +kernel⟩
/-- what the classes with a field say -/
def TTs (P : Program) (w : World) (K : PySem.W.Frag) (mg : Str → Option Value) (base : Heap) : Prop := ∀ (i : Nat) (x : Str), (cls.map (·.1))[i]? = some x → EI P w K mg base (cA K i) ∧ mg x = some (.ref (cA K i))
/-- all classes' names -/
def TGs (K : PySem.W.Frag) (mg : Str → Option Value) : Prop := ∀ (i : Nat) (x : Str), names42[i]? = some x → mg x = some (.ref (cA K i))
section
variable {P : Program} {w : World} {K : PySem.W.Frag} {mg : Str → Option Value} {base : Heap} {f : Addr} {fd : FuncData}
theorem ok_first (F : FnP K dFirst f fd) (TT : TTs P w K mg base) : FnOk P w K mg base CX0 3 f fd ["_law_thing"] (spMade K) := by
  refine F.ok scFirst (fun vs H Q E h => ?_) (fun cdv A outer s H vs Q E hr h => ⟨_, pss_cons (ps_set (i := 1) scFirst.nd rfl (.inl rfl) (pe_lst (pa_cons (pe_mk1 (TT 0 "InvalidValue" rfl).1 hr rfl (TT 0 "InvalidValue" rfl).2 (pv 0)) (pa_cons (pe_mk1 (TT 1 "InvalidOperation" rfl).1 hr rfl (TT 1 "InvalidOperation" rfl).2 (pv 0)) (pa_cons (pe_mk1 (TT 2 "InvalidLikeness" rfl).1 hr rfl (TT 2 "InvalidLikeness" rfl).2 (pv 0)) (pa_cons (pe_mk1 (TT 3 "InvalidKind" rfl).1 hr rfl (TT 3 "InvalidKind" rfl).2 (pv 0)) pa_nil))))))
    (pss_cons (ps_set (i := 1) scFirst.nd rfl (.inl rfl) (pe_op op_cat (pv 1) (pe_lst (pa_cons (pe_mk1 (TT 4 "InvalidTable" rfl).1 hr rfl (TT 4 "InvalidTable" rfl).2 (pv 0)) (pa_cons (pe_mk1 (TT 5 "InvalidKinds" rfl).1 hr rfl (TT 5 "InvalidKinds" rfl).2 (pv 0)) (pa_cons (pe_mk1 (TT 6 "InvalidHolding" rfl).1 hr rfl (TT 6 "InvalidHolding" rfl).2 (pv 0)) (pa_cons (pe_mk1 (TT 7 "InvalidTyping" rfl).1 hr rfl (TT 7 "InvalidTyping" rfl).2 (pv 0)) pa_nil)))))))
    (pss_cons (ps_set (i := 1) scFirst.nd rfl (.inl rfl) (pe_op op_cat (pv 1) (pe_lst (pa_cons (pe_mk1 (TT 8 "InvalidFolding" rfl).1 hr rfl (TT 8 "InvalidFolding" rfl).2 (pv 0)) (pa_cons (pe_mk1 (TT 9 "InvalidMap" rfl).1 hr rfl (TT 9 "InvalidMap" rfl).2 (pv 0)) (pa_cons (pe_mk1 (TT 10 "InvalidTriples" rfl).1 hr rfl (TT 10 "InvalidTriples" rfl).2 (pv 0)) (pa_cons (pe_mk1 (TT 11 "InvalidBase" rfl).1 hr rfl (TT 11 "InvalidBase" rfl).2 (pv 0)) pa_nil)))))))
    (pss_cons (ps_set (i := 1) scFirst.nd rfl (.inl rfl) (pe_op op_cat (pv 1) (pe_lst (pa_cons (pe_mk1 (TT 12 "InvalidWord" rfl).1 hr rfl (TT 12 "InvalidWord" rfl).2 (pv 0)) (pa_cons (pe_mk1 (TT 13 "InvalidRow" rfl).1 hr rfl (TT 13 "InvalidRow" rfl).2 (pv 0)) (pa_cons (pe_mk1 (TT 14 "InvalidGrouping" rfl).1 hr rfl (TT 14 "InvalidGrouping" rfl).2 (pv 0)) (pa_cons (pe_mk1 (TT 15 "InvalidBlock" rfl).1 hr rfl (TT 15 "InvalidBlock" rfl).2 (pv 0)) pa_nil)))))))
    (pss_cons (ps_set (i := 1) scFirst.nd rfl (.inl rfl) (pe_op op_cat (pv 1) (pe_lst (pa_cons (pe_mk1 (TT 16 "InvalidBlocks" rfl).1 hr rfl (TT 16 "InvalidBlocks" rfl).2 (pv 0)) (pa_cons (pe_mk1 (TT 17 "InvalidCut" rfl).1 hr rfl (TT 17 "InvalidCut" rfl).2 (pv 0)) (pa_cons (pe_mk1 (TT 18 "InvalidDeed" rfl).1 hr rfl (TT 18 "InvalidDeed" rfl).2 (pv 0)) (pa_cons (pe_mk1 (TT 19 "InvalidInputs" rfl).1 hr rfl (TT 19 "InvalidInputs" rfl).2 (pv 0)) pa_nil)))))))
    (pss_cons (ps_set (i := 1) scFirst.nd rfl (.inl rfl) (pe_op op_cat (pv 1) (pe_lst (pa_cons (pe_mk1 (TT 20 "InvalidPrices" rfl).1 hr rfl (TT 20 "InvalidPrices" rfl).2 (pv 0)) (pa_cons (pe_mk1 (TT 21 "InvalidWeights" rfl).1 hr rfl (TT 21 "InvalidWeights" rfl).2 (pv 0)) (pa_cons (pe_mk1 (TT 22 "InvalidHands" rfl).1 hr rfl (TT 22 "InvalidHands" rfl).2 (pv 0)) (pa_cons (pe_mk1 (TT 23 "InvalidLosses" rfl).1 hr rfl (TT 23 "InvalidLosses" rfl).2 (pv 0)) pa_nil)))))))
    (pss_cons (ps_set (i := 1) scFirst.nd rfl (.inl rfl) (pe_op op_cat (pv 1) (pe_lst (pa_cons (pe_mk1 (TT 24 "InvalidCount" rfl).1 hr rfl (TT 24 "InvalidCount" rfl).2 (pv 0)) (pa_cons (pe_mk1 (TT 25 "InvalidProgram" rfl).1 hr rfl (TT 25 "InvalidProgram" rfl).2 (pv 0)) (pa_cons (pe_mk1 (TT 26 "InvalidName" rfl).1 hr rfl (TT 26 "InvalidName" rfl).2 (pv 0)) (pa_cons (pe_mk1 (TT 27 "InvalidPlan" rfl).1 hr rfl (TT 27 "InvalidPlan" rfl).2 (pv 0)) pa_nil)))))))
    (pss_cons (ps_set (i := 1) scFirst.nd rfl (.inl rfl) (pe_op op_cat (pv 1) (pe_lst (pa_cons (pe_mk1 (TT 28 "InvalidChange" rfl).1 hr rfl (TT 28 "InvalidChange" rfl).2 (pv 0)) (pa_cons (pe_mk1 (TT 29 "InvalidChanges" rfl).1 hr rfl (TT 29 "InvalidChanges" rfl).2 (pv 0)) (pa_cons (pe_mk1 (TT 30 "InvalidWorks" rfl).1 hr rfl (TT 30 "InvalidWorks" rfl).2 (pv 0)) (pa_cons (pe_mk1 (TT 31 "InvalidSpot" rfl).1 hr rfl (TT 31 "InvalidSpot" rfl).2 (pv 0)) pa_nil)))))))
    (pss_cons (ps_set (i := 1) scFirst.nd rfl (.inl rfl) (pe_op op_cat (pv 1) (pe_lst (pa_cons (pe_mk1 (TT 32 "InvalidScript" rfl).1 hr rfl (TT 32 "InvalidScript" rfl).2 (pv 0)) (pa_cons (pe_mk1 (TT 33 "InvalidText" rfl).1 hr rfl (TT 33 "InvalidText" rfl).2 (pv 0)) (pa_cons (pe_mk1 (TT 34 "InvalidLog" rfl).1 hr rfl (TT 34 "InvalidLog" rfl).2 (pv 0)) (pa_cons (pe_mk1 (TT 35 "Unlike" rfl).1 hr rfl (TT 35 "Unlike" rfl).2 (pv 0)) (pa_cons (pe_mk1 (TT 36 "Unsettled" rfl).1 hr rfl (TT 36 "Unsettled" rfl).2 (pv 0)) pa_nil))))))))
    (pss_cons (ps_set (i := 1) scFirst.nd rfl (.inl rfl) (pe_op op_cat (pv 1) (pe_lst (pa_cons (pe_mk1 (TT 37 "Apart" rfl).1 hr rfl (TT 37 "Apart" rfl).2 (pv 0)) (pa_cons (pe_mk1 (TT 38 "Refused" rfl).1 hr rfl (TT 38 "Refused" rfl).2 (pv 0)) pa_nil)))))
    (pss_one (ps_ret (pv 1)))))))))))), ?_⟩)
  · obtain ⟨v, rfl, _⟩ := h
    rfl
  · obtain ⟨v, rfl, k⟩ := h
    refine errs_first (ts := [tMk1 (cA K 0) (tVar 0), tMk1 (cA K 1) (tVar 0), tMk1 (cA K 2) (tVar 0), tMk1 (cA K 3) (tVar 0)]) (Cs := [cA K 0, cA K 1, cA K 2, cA K 3]) (.cons (mkT1 rfl) (.cons (mkT1 rfl) (.cons (mkT1 rfl) (.cons (mkT1 rfl) .nil)))) (by show 4 ≤ 1000; decide) fun l0 as0 H0 s0 e0 E0 => ?_
    refine errs_more rfl e0 E0 (ts := [tMk1 (cA K 4) (tVar 0), tMk1 (cA K 5) (tVar 0), tMk1 (cA K 6) (tVar 0), tMk1 (cA K 7) (tVar 0)]) (Ds := [cA K 4, cA K 5, cA K 6, cA K 7]) (.cons (mkT1 rfl) (.cons (mkT1 rfl) (.cons (mkT1 rfl) (.cons (mkT1 rfl) .nil)))) (by show 4 + 4 ≤ 1000; decide) fun l1 as1 H1 s1 e1 E1 => ?_
    refine errs_more rfl e1 E1 (ts := [tMk1 (cA K 8) (tVar 0), tMk1 (cA K 9) (tVar 0), tMk1 (cA K 10) (tVar 0), tMk1 (cA K 11) (tVar 0)]) (Ds := [cA K 8, cA K 9, cA K 10, cA K 11]) (.cons (mkT1 rfl) (.cons (mkT1 rfl) (.cons (mkT1 rfl) (.cons (mkT1 rfl) .nil)))) (by show 8 + 4 ≤ 1000; decide) fun l2 as2 H2 s2 e2 E2 => ?_
    refine errs_more rfl e2 E2 (ts := [tMk1 (cA K 12) (tVar 0), tMk1 (cA K 13) (tVar 0), tMk1 (cA K 14) (tVar 0), tMk1 (cA K 15) (tVar 0)]) (Ds := [cA K 12, cA K 13, cA K 14, cA K 15]) (.cons (mkT1 rfl) (.cons (mkT1 rfl) (.cons (mkT1 rfl) (.cons (mkT1 rfl) .nil)))) (by show 12 + 4 ≤ 1000; decide) fun l3 as3 H3 s3 e3 E3 => ?_
    refine errs_more rfl e3 E3 (ts := [tMk1 (cA K 16) (tVar 0), tMk1 (cA K 17) (tVar 0), tMk1 (cA K 18) (tVar 0), tMk1 (cA K 19) (tVar 0)]) (Ds := [cA K 16, cA K 17, cA K 18, cA K 19]) (.cons (mkT1 rfl) (.cons (mkT1 rfl) (.cons (mkT1 rfl) (.cons (mkT1 rfl) .nil)))) (by show 16 + 4 ≤ 1000; decide) fun l4 as4 H4 s4 e4 E4 => ?_
    refine errs_more rfl e4 E4 (ts := [tMk1 (cA K 20) (tVar 0), tMk1 (cA K 21) (tVar 0), tMk1 (cA K 22) (tVar 0), tMk1 (cA K 23) (tVar 0)]) (Ds := [cA K 20, cA K 21, cA K 22, cA K 23]) (.cons (mkT1 rfl) (.cons (mkT1 rfl) (.cons (mkT1 rfl) (.cons (mkT1 rfl) .nil)))) (by show 20 + 4 ≤ 1000; decide) fun l5 as5 H5 s5 e5 E5 => ?_
    refine errs_more rfl e5 E5 (ts := [tMk1 (cA K 24) (tVar 0), tMk1 (cA K 25) (tVar 0), tMk1 (cA K 26) (tVar 0), tMk1 (cA K 27) (tVar 0)]) (Ds := [cA K 24, cA K 25, cA K 26, cA K 27]) (.cons (mkT1 rfl) (.cons (mkT1 rfl) (.cons (mkT1 rfl) (.cons (mkT1 rfl) .nil)))) (by show 24 + 4 ≤ 1000; decide) fun l6 as6 H6 s6 e6 E6 => ?_
    refine errs_more rfl e6 E6 (ts := [tMk1 (cA K 28) (tVar 0), tMk1 (cA K 29) (tVar 0), tMk1 (cA K 30) (tVar 0), tMk1 (cA K 31) (tVar 0)]) (Ds := [cA K 28, cA K 29, cA K 30, cA K 31]) (.cons (mkT1 rfl) (.cons (mkT1 rfl) (.cons (mkT1 rfl) (.cons (mkT1 rfl) .nil)))) (by show 28 + 4 ≤ 1000; decide) fun l7 as7 H7 s7 e7 E7 => ?_
    refine errs_more rfl e7 E7 (ts := [tMk1 (cA K 32) (tVar 0), tMk1 (cA K 33) (tVar 0), tMk1 (cA K 34) (tVar 0), tMk1 (cA K 35) (tVar 0), tMk1 (cA K 36) (tVar 0)]) (Ds := [cA K 32, cA K 33, cA K 34, cA K 35, cA K 36]) (.cons (mkT1 rfl) (.cons (mkT1 rfl) (.cons (mkT1 rfl) (.cons (mkT1 rfl) (.cons (mkT1 rfl) .nil))))) (by show 32 + 5 ≤ 1000; decide) fun l8 as8 H8 s8 e8 E8 => ?_
    refine errs_more rfl e8 E8 (ts := [tMk1 (cA K 37) (tVar 0), tMk1 (cA K 38) (tVar 0)]) (Ds := [cA K 37, cA K 38]) (.cons (mkT1 rfl) (.cons (mkT1 rfl) .nil)) (by show 37 + 2 ≤ 1000; decide) fun l9 as9 H9 s9 e9 E9 => ?_
    exact ⟨_, rfl, k l9 as9 H9 (Same.trans (Same.trans (Same.trans (Same.trans (Same.trans (Same.trans (Same.trans (Same.trans (Same.trans s0 s1) s2) s3) s4) s5) s6) s7) s8) s9) e9 E9⟩
theorem ok_called (F : FnP K dCalled f fd) (TT : TTs P w K mg base) : FnOk P w K mg base CX0 3 f fd ["_law_thing"] (spMade K) := by
  refine F.ok scCalled (fun vs H Q E h => ?_) (fun cdv A outer s H vs Q E hr h => ⟨_, pss_cons (ps_set (i := 1) scCalled.nd rfl (.inl rfl) (pe_lst (pa_cons (pe_mkK (TT 0 "InvalidValue" rfl).1 hr rfl (TT 0 "InvalidValue" rfl).2 (pk_cons (pv 0) pk_nil)) (pa_cons (pe_mkK (TT 1 "InvalidOperation" rfl).1 hr rfl (TT 1 "InvalidOperation" rfl).2 (pk_cons (pv 0) pk_nil)) (pa_cons (pe_mkK (TT 2 "InvalidLikeness" rfl).1 hr rfl (TT 2 "InvalidLikeness" rfl).2 (pk_cons (pv 0) pk_nil)) pa_nil)))))
    (pss_cons (ps_set (i := 1) scCalled.nd rfl (.inl rfl) (pe_op op_cat (pv 1) (pe_lst (pa_cons (pe_mkK (TT 3 "InvalidKind" rfl).1 hr rfl (TT 3 "InvalidKind" rfl).2 (pk_cons (pv 0) pk_nil)) (pa_cons (pe_mkK (TT 4 "InvalidTable" rfl).1 hr rfl (TT 4 "InvalidTable" rfl).2 (pk_cons (pv 0) pk_nil)) (pa_cons (pe_mkK (TT 5 "InvalidKinds" rfl).1 hr rfl (TT 5 "InvalidKinds" rfl).2 (pk_cons (pv 0) pk_nil)) pa_nil))))))
    (pss_cons (ps_set (i := 1) scCalled.nd rfl (.inl rfl) (pe_op op_cat (pv 1) (pe_lst (pa_cons (pe_mkK (TT 6 "InvalidHolding" rfl).1 hr rfl (TT 6 "InvalidHolding" rfl).2 (pk_cons (pv 0) pk_nil)) (pa_cons (pe_mkK (TT 7 "InvalidTyping" rfl).1 hr rfl (TT 7 "InvalidTyping" rfl).2 (pk_cons (pv 0) pk_nil)) (pa_cons (pe_mkK (TT 8 "InvalidFolding" rfl).1 hr rfl (TT 8 "InvalidFolding" rfl).2 (pk_cons (pv 0) pk_nil)) pa_nil))))))
    (pss_cons (ps_set (i := 1) scCalled.nd rfl (.inl rfl) (pe_op op_cat (pv 1) (pe_lst (pa_cons (pe_mkK (TT 9 "InvalidMap" rfl).1 hr rfl (TT 9 "InvalidMap" rfl).2 (pk_cons (pv 0) pk_nil)) (pa_cons (pe_mkK (TT 10 "InvalidTriples" rfl).1 hr rfl (TT 10 "InvalidTriples" rfl).2 (pk_cons (pv 0) pk_nil)) (pa_cons (pe_mkK (TT 11 "InvalidBase" rfl).1 hr rfl (TT 11 "InvalidBase" rfl).2 (pk_cons (pv 0) pk_nil)) pa_nil))))))
    (pss_cons (ps_set (i := 1) scCalled.nd rfl (.inl rfl) (pe_op op_cat (pv 1) (pe_lst (pa_cons (pe_mkK (TT 12 "InvalidWord" rfl).1 hr rfl (TT 12 "InvalidWord" rfl).2 (pk_cons (pv 0) pk_nil)) (pa_cons (pe_mkK (TT 13 "InvalidRow" rfl).1 hr rfl (TT 13 "InvalidRow" rfl).2 (pk_cons (pv 0) pk_nil)) (pa_cons (pe_mkK (TT 14 "InvalidGrouping" rfl).1 hr rfl (TT 14 "InvalidGrouping" rfl).2 (pk_cons (pv 0) pk_nil)) pa_nil))))))
    (pss_cons (ps_set (i := 1) scCalled.nd rfl (.inl rfl) (pe_op op_cat (pv 1) (pe_lst (pa_cons (pe_mkK (TT 15 "InvalidBlock" rfl).1 hr rfl (TT 15 "InvalidBlock" rfl).2 (pk_cons (pv 0) pk_nil)) (pa_cons (pe_mkK (TT 16 "InvalidBlocks" rfl).1 hr rfl (TT 16 "InvalidBlocks" rfl).2 (pk_cons (pv 0) pk_nil)) (pa_cons (pe_mkK (TT 17 "InvalidCut" rfl).1 hr rfl (TT 17 "InvalidCut" rfl).2 (pk_cons (pv 0) pk_nil)) pa_nil))))))
    (pss_cons (ps_set (i := 1) scCalled.nd rfl (.inl rfl) (pe_op op_cat (pv 1) (pe_lst (pa_cons (pe_mkK (TT 18 "InvalidDeed" rfl).1 hr rfl (TT 18 "InvalidDeed" rfl).2 (pk_cons (pv 0) pk_nil)) (pa_cons (pe_mkK (TT 19 "InvalidInputs" rfl).1 hr rfl (TT 19 "InvalidInputs" rfl).2 (pk_cons (pv 0) pk_nil)) (pa_cons (pe_mkK (TT 20 "InvalidPrices" rfl).1 hr rfl (TT 20 "InvalidPrices" rfl).2 (pk_cons (pv 0) pk_nil)) pa_nil))))))
    (pss_cons (ps_set (i := 1) scCalled.nd rfl (.inl rfl) (pe_op op_cat (pv 1) (pe_lst (pa_cons (pe_mkK (TT 21 "InvalidWeights" rfl).1 hr rfl (TT 21 "InvalidWeights" rfl).2 (pk_cons (pv 0) pk_nil)) (pa_cons (pe_mkK (TT 22 "InvalidHands" rfl).1 hr rfl (TT 22 "InvalidHands" rfl).2 (pk_cons (pv 0) pk_nil)) (pa_cons (pe_mkK (TT 23 "InvalidLosses" rfl).1 hr rfl (TT 23 "InvalidLosses" rfl).2 (pk_cons (pv 0) pk_nil)) pa_nil))))))
    (pss_cons (ps_set (i := 1) scCalled.nd rfl (.inl rfl) (pe_op op_cat (pv 1) (pe_lst (pa_cons (pe_mkK (TT 24 "InvalidCount" rfl).1 hr rfl (TT 24 "InvalidCount" rfl).2 (pk_cons (pv 0) pk_nil)) (pa_cons (pe_mkK (TT 25 "InvalidProgram" rfl).1 hr rfl (TT 25 "InvalidProgram" rfl).2 (pk_cons (pv 0) pk_nil)) (pa_cons (pe_mkK (TT 26 "InvalidName" rfl).1 hr rfl (TT 26 "InvalidName" rfl).2 (pk_cons (pv 0) pk_nil)) pa_nil))))))
    (pss_cons (ps_set (i := 1) scCalled.nd rfl (.inl rfl) (pe_op op_cat (pv 1) (pe_lst (pa_cons (pe_mkK (TT 27 "InvalidPlan" rfl).1 hr rfl (TT 27 "InvalidPlan" rfl).2 (pk_cons (pv 0) pk_nil)) (pa_cons (pe_mkK (TT 28 "InvalidChange" rfl).1 hr rfl (TT 28 "InvalidChange" rfl).2 (pk_cons (pv 0) pk_nil)) (pa_cons (pe_mkK (TT 29 "InvalidChanges" rfl).1 hr rfl (TT 29 "InvalidChanges" rfl).2 (pk_cons (pv 0) pk_nil)) pa_nil))))))
    (pss_cons (ps_set (i := 1) scCalled.nd rfl (.inl rfl) (pe_op op_cat (pv 1) (pe_lst (pa_cons (pe_mkK (TT 30 "InvalidWorks" rfl).1 hr rfl (TT 30 "InvalidWorks" rfl).2 (pk_cons (pv 0) pk_nil)) (pa_cons (pe_mkK (TT 31 "InvalidSpot" rfl).1 hr rfl (TT 31 "InvalidSpot" rfl).2 (pk_cons (pv 0) pk_nil)) (pa_cons (pe_mkK (TT 32 "InvalidScript" rfl).1 hr rfl (TT 32 "InvalidScript" rfl).2 (pk_cons (pv 0) pk_nil)) pa_nil))))))
    (pss_cons (ps_set (i := 1) scCalled.nd rfl (.inl rfl) (pe_op op_cat (pv 1) (pe_lst (pa_cons (pe_mkK (TT 33 "InvalidText" rfl).1 hr rfl (TT 33 "InvalidText" rfl).2 (pk_cons (pv 0) pk_nil)) (pa_cons (pe_mkK (TT 34 "InvalidLog" rfl).1 hr rfl (TT 34 "InvalidLog" rfl).2 (pk_cons (pv 0) pk_nil)) (pa_cons (pe_mkK (TT 35 "Unlike" rfl).1 hr rfl (TT 35 "Unlike" rfl).2 (pk_cons (pv 0) pk_nil)) pa_nil))))))
    (pss_cons (ps_set (i := 1) scCalled.nd rfl (.inl rfl) (pe_op op_cat (pv 1) (pe_lst (pa_cons (pe_mkK (TT 36 "Unsettled" rfl).1 hr rfl (TT 36 "Unsettled" rfl).2 (pk_cons (pv 0) pk_nil)) (pa_cons (pe_mkK (TT 37 "Apart" rfl).1 hr rfl (TT 37 "Apart" rfl).2 (pk_cons (pv 0) pk_nil)) (pa_cons (pe_mkK (TT 38 "Refused" rfl).1 hr rfl (TT 38 "Refused" rfl).2 (pk_cons (pv 0) pk_nil)) pa_nil))))))
    (pss_one (ps_ret (pv 1))))))))))))))), ?_⟩)
  · obtain ⟨v, rfl, _⟩ := h
    rfl
  · obtain ⟨v, rfl, k⟩ := h
    refine errs_first (ts := [(fun σ H Q => tCons (tVar 0) tNil σ H fun zs H1 => ∃ v, zs = [v] ∧ mkQ (cA K 0) v H1 Q), (fun σ H Q => tCons (tVar 0) tNil σ H fun zs H1 => ∃ v, zs = [v] ∧ mkQ (cA K 1) v H1 Q), (fun σ H Q => tCons (tVar 0) tNil σ H fun zs H1 => ∃ v, zs = [v] ∧ mkQ (cA K 2) v H1 Q)]) (Cs := [cA K 0, cA K 1, cA K 2]) (.cons (mkTK rfl) (.cons (mkTK rfl) (.cons (mkTK rfl) .nil))) (by show 3 ≤ 1000; decide) fun l0 as0 H0 s0 e0 E0 => ?_
    refine errs_more rfl e0 E0 (ts := [(fun σ H Q => tCons (tVar 0) tNil σ H fun zs H1 => ∃ v, zs = [v] ∧ mkQ (cA K 3) v H1 Q), (fun σ H Q => tCons (tVar 0) tNil σ H fun zs H1 => ∃ v, zs = [v] ∧ mkQ (cA K 4) v H1 Q), (fun σ H Q => tCons (tVar 0) tNil σ H fun zs H1 => ∃ v, zs = [v] ∧ mkQ (cA K 5) v H1 Q)]) (Ds := [cA K 3, cA K 4, cA K 5]) (.cons (mkTK rfl) (.cons (mkTK rfl) (.cons (mkTK rfl) .nil))) (by show 3 + 3 ≤ 1000; decide) fun l1 as1 H1 s1 e1 E1 => ?_
    refine errs_more rfl e1 E1 (ts := [(fun σ H Q => tCons (tVar 0) tNil σ H fun zs H1 => ∃ v, zs = [v] ∧ mkQ (cA K 6) v H1 Q), (fun σ H Q => tCons (tVar 0) tNil σ H fun zs H1 => ∃ v, zs = [v] ∧ mkQ (cA K 7) v H1 Q), (fun σ H Q => tCons (tVar 0) tNil σ H fun zs H1 => ∃ v, zs = [v] ∧ mkQ (cA K 8) v H1 Q)]) (Ds := [cA K 6, cA K 7, cA K 8]) (.cons (mkTK rfl) (.cons (mkTK rfl) (.cons (mkTK rfl) .nil))) (by show 6 + 3 ≤ 1000; decide) fun l2 as2 H2 s2 e2 E2 => ?_
    refine errs_more rfl e2 E2 (ts := [(fun σ H Q => tCons (tVar 0) tNil σ H fun zs H1 => ∃ v, zs = [v] ∧ mkQ (cA K 9) v H1 Q), (fun σ H Q => tCons (tVar 0) tNil σ H fun zs H1 => ∃ v, zs = [v] ∧ mkQ (cA K 10) v H1 Q), (fun σ H Q => tCons (tVar 0) tNil σ H fun zs H1 => ∃ v, zs = [v] ∧ mkQ (cA K 11) v H1 Q)]) (Ds := [cA K 9, cA K 10, cA K 11]) (.cons (mkTK rfl) (.cons (mkTK rfl) (.cons (mkTK rfl) .nil))) (by show 9 + 3 ≤ 1000; decide) fun l3 as3 H3 s3 e3 E3 => ?_
    refine errs_more rfl e3 E3 (ts := [(fun σ H Q => tCons (tVar 0) tNil σ H fun zs H1 => ∃ v, zs = [v] ∧ mkQ (cA K 12) v H1 Q), (fun σ H Q => tCons (tVar 0) tNil σ H fun zs H1 => ∃ v, zs = [v] ∧ mkQ (cA K 13) v H1 Q), (fun σ H Q => tCons (tVar 0) tNil σ H fun zs H1 => ∃ v, zs = [v] ∧ mkQ (cA K 14) v H1 Q)]) (Ds := [cA K 12, cA K 13, cA K 14]) (.cons (mkTK rfl) (.cons (mkTK rfl) (.cons (mkTK rfl) .nil))) (by show 12 + 3 ≤ 1000; decide) fun l4 as4 H4 s4 e4 E4 => ?_
    refine errs_more rfl e4 E4 (ts := [(fun σ H Q => tCons (tVar 0) tNil σ H fun zs H1 => ∃ v, zs = [v] ∧ mkQ (cA K 15) v H1 Q), (fun σ H Q => tCons (tVar 0) tNil σ H fun zs H1 => ∃ v, zs = [v] ∧ mkQ (cA K 16) v H1 Q), (fun σ H Q => tCons (tVar 0) tNil σ H fun zs H1 => ∃ v, zs = [v] ∧ mkQ (cA K 17) v H1 Q)]) (Ds := [cA K 15, cA K 16, cA K 17]) (.cons (mkTK rfl) (.cons (mkTK rfl) (.cons (mkTK rfl) .nil))) (by show 15 + 3 ≤ 1000; decide) fun l5 as5 H5 s5 e5 E5 => ?_
    refine errs_more rfl e5 E5 (ts := [(fun σ H Q => tCons (tVar 0) tNil σ H fun zs H1 => ∃ v, zs = [v] ∧ mkQ (cA K 18) v H1 Q), (fun σ H Q => tCons (tVar 0) tNil σ H fun zs H1 => ∃ v, zs = [v] ∧ mkQ (cA K 19) v H1 Q), (fun σ H Q => tCons (tVar 0) tNil σ H fun zs H1 => ∃ v, zs = [v] ∧ mkQ (cA K 20) v H1 Q)]) (Ds := [cA K 18, cA K 19, cA K 20]) (.cons (mkTK rfl) (.cons (mkTK rfl) (.cons (mkTK rfl) .nil))) (by show 18 + 3 ≤ 1000; decide) fun l6 as6 H6 s6 e6 E6 => ?_
    refine errs_more rfl e6 E6 (ts := [(fun σ H Q => tCons (tVar 0) tNil σ H fun zs H1 => ∃ v, zs = [v] ∧ mkQ (cA K 21) v H1 Q), (fun σ H Q => tCons (tVar 0) tNil σ H fun zs H1 => ∃ v, zs = [v] ∧ mkQ (cA K 22) v H1 Q), (fun σ H Q => tCons (tVar 0) tNil σ H fun zs H1 => ∃ v, zs = [v] ∧ mkQ (cA K 23) v H1 Q)]) (Ds := [cA K 21, cA K 22, cA K 23]) (.cons (mkTK rfl) (.cons (mkTK rfl) (.cons (mkTK rfl) .nil))) (by show 21 + 3 ≤ 1000; decide) fun l7 as7 H7 s7 e7 E7 => ?_
    refine errs_more rfl e7 E7 (ts := [(fun σ H Q => tCons (tVar 0) tNil σ H fun zs H1 => ∃ v, zs = [v] ∧ mkQ (cA K 24) v H1 Q), (fun σ H Q => tCons (tVar 0) tNil σ H fun zs H1 => ∃ v, zs = [v] ∧ mkQ (cA K 25) v H1 Q), (fun σ H Q => tCons (tVar 0) tNil σ H fun zs H1 => ∃ v, zs = [v] ∧ mkQ (cA K 26) v H1 Q)]) (Ds := [cA K 24, cA K 25, cA K 26]) (.cons (mkTK rfl) (.cons (mkTK rfl) (.cons (mkTK rfl) .nil))) (by show 24 + 3 ≤ 1000; decide) fun l8 as8 H8 s8 e8 E8 => ?_
    refine errs_more rfl e8 E8 (ts := [(fun σ H Q => tCons (tVar 0) tNil σ H fun zs H1 => ∃ v, zs = [v] ∧ mkQ (cA K 27) v H1 Q), (fun σ H Q => tCons (tVar 0) tNil σ H fun zs H1 => ∃ v, zs = [v] ∧ mkQ (cA K 28) v H1 Q), (fun σ H Q => tCons (tVar 0) tNil σ H fun zs H1 => ∃ v, zs = [v] ∧ mkQ (cA K 29) v H1 Q)]) (Ds := [cA K 27, cA K 28, cA K 29]) (.cons (mkTK rfl) (.cons (mkTK rfl) (.cons (mkTK rfl) .nil))) (by show 27 + 3 ≤ 1000; decide) fun l9 as9 H9 s9 e9 E9 => ?_
    refine errs_more rfl e9 E9 (ts := [(fun σ H Q => tCons (tVar 0) tNil σ H fun zs H1 => ∃ v, zs = [v] ∧ mkQ (cA K 30) v H1 Q), (fun σ H Q => tCons (tVar 0) tNil σ H fun zs H1 => ∃ v, zs = [v] ∧ mkQ (cA K 31) v H1 Q), (fun σ H Q => tCons (tVar 0) tNil σ H fun zs H1 => ∃ v, zs = [v] ∧ mkQ (cA K 32) v H1 Q)]) (Ds := [cA K 30, cA K 31, cA K 32]) (.cons (mkTK rfl) (.cons (mkTK rfl) (.cons (mkTK rfl) .nil))) (by show 30 + 3 ≤ 1000; decide) fun l10 as10 H10 s10 e10 E10 => ?_
    refine errs_more rfl e10 E10 (ts := [(fun σ H Q => tCons (tVar 0) tNil σ H fun zs H1 => ∃ v, zs = [v] ∧ mkQ (cA K 33) v H1 Q), (fun σ H Q => tCons (tVar 0) tNil σ H fun zs H1 => ∃ v, zs = [v] ∧ mkQ (cA K 34) v H1 Q), (fun σ H Q => tCons (tVar 0) tNil σ H fun zs H1 => ∃ v, zs = [v] ∧ mkQ (cA K 35) v H1 Q)]) (Ds := [cA K 33, cA K 34, cA K 35]) (.cons (mkTK rfl) (.cons (mkTK rfl) (.cons (mkTK rfl) .nil))) (by show 33 + 3 ≤ 1000; decide) fun l11 as11 H11 s11 e11 E11 => ?_
    refine errs_more rfl e11 E11 (ts := [(fun σ H Q => tCons (tVar 0) tNil σ H fun zs H1 => ∃ v, zs = [v] ∧ mkQ (cA K 36) v H1 Q), (fun σ H Q => tCons (tVar 0) tNil σ H fun zs H1 => ∃ v, zs = [v] ∧ mkQ (cA K 37) v H1 Q), (fun σ H Q => tCons (tVar 0) tNil σ H fun zs H1 => ∃ v, zs = [v] ∧ mkQ (cA K 38) v H1 Q)]) (Ds := [cA K 36, cA K 37, cA K 38]) (.cons (mkTK rfl) (.cons (mkTK rfl) (.cons (mkTK rfl) .nil))) (by show 36 + 3 ≤ 1000; decide) fun l12 as12 H12 s12 e12 E12 => ?_
    exact ⟨_, rfl, k l12 as12 H12 (Same.trans (Same.trans (Same.trans (Same.trans (Same.trans (Same.trans (Same.trans (Same.trans (Same.trans (Same.trans (Same.trans (Same.trans s0 s1) s2) s3) s4) s5) s6) s7) s8) s9) s10) s11) s12) e12 E12⟩
theorem ok_bare (F : FnP K dBare f fd) (TT : TTs P w K mg base) : FnOk P w K mg base CX0 3 f fd [] (spBare K) := by
  refine F.ok scBare (fun vs H Q E h => ?_) (fun cdv A outer s H vs Q E hr h => ⟨_, pss_cons (ps_set (i := 0) scBare.nd rfl (.inl rfl) (pe_lst (pa_cons (pe_mk0 (TT 0 "InvalidValue" rfl).1 hr rfl (TT 0 "InvalidValue" rfl).2) (pa_cons (pe_mk0 (TT 1 "InvalidOperation" rfl).1 hr rfl (TT 1 "InvalidOperation" rfl).2) (pa_cons (pe_mk0 (TT 2 "InvalidLikeness" rfl).1 hr rfl (TT 2 "InvalidLikeness" rfl).2) (pa_cons (pe_mk0 (TT 3 "InvalidKind" rfl).1 hr rfl (TT 3 "InvalidKind" rfl).2) (pa_cons (pe_mk0 (TT 4 "InvalidTable" rfl).1 hr rfl (TT 4 "InvalidTable" rfl).2) (pa_cons (pe_mk0 (TT 5 "InvalidKinds" rfl).1 hr rfl (TT 5 "InvalidKinds" rfl).2) pa_nil))))))))
    (pss_cons (ps_set (i := 0) scBare.nd rfl (.inl rfl) (pe_op op_cat (pv 0) (pe_lst (pa_cons (pe_mk0 (TT 6 "InvalidHolding" rfl).1 hr rfl (TT 6 "InvalidHolding" rfl).2) (pa_cons (pe_mk0 (TT 7 "InvalidTyping" rfl).1 hr rfl (TT 7 "InvalidTyping" rfl).2) (pa_cons (pe_mk0 (TT 8 "InvalidFolding" rfl).1 hr rfl (TT 8 "InvalidFolding" rfl).2) (pa_cons (pe_mk0 (TT 9 "InvalidMap" rfl).1 hr rfl (TT 9 "InvalidMap" rfl).2) (pa_cons (pe_mk0 (TT 10 "InvalidTriples" rfl).1 hr rfl (TT 10 "InvalidTriples" rfl).2) pa_nil))))))))
    (pss_cons (ps_set (i := 0) scBare.nd rfl (.inl rfl) (pe_op op_cat (pv 0) (pe_lst (pa_cons (pe_mk0 (TT 11 "InvalidBase" rfl).1 hr rfl (TT 11 "InvalidBase" rfl).2) (pa_cons (pe_mk0 (TT 12 "InvalidWord" rfl).1 hr rfl (TT 12 "InvalidWord" rfl).2) (pa_cons (pe_mk0 (TT 13 "InvalidRow" rfl).1 hr rfl (TT 13 "InvalidRow" rfl).2) (pa_cons (pe_mk0 (TT 14 "InvalidGrouping" rfl).1 hr rfl (TT 14 "InvalidGrouping" rfl).2) (pa_cons (pe_mk0 (TT 15 "InvalidBlock" rfl).1 hr rfl (TT 15 "InvalidBlock" rfl).2) pa_nil))))))))
    (pss_cons (ps_set (i := 0) scBare.nd rfl (.inl rfl) (pe_op op_cat (pv 0) (pe_lst (pa_cons (pe_mk0 (TT 16 "InvalidBlocks" rfl).1 hr rfl (TT 16 "InvalidBlocks" rfl).2) (pa_cons (pe_mk0 (TT 17 "InvalidCut" rfl).1 hr rfl (TT 17 "InvalidCut" rfl).2) (pa_cons (pe_mk0 (TT 18 "InvalidDeed" rfl).1 hr rfl (TT 18 "InvalidDeed" rfl).2) (pa_cons (pe_mk0 (TT 19 "InvalidInputs" rfl).1 hr rfl (TT 19 "InvalidInputs" rfl).2) (pa_cons (pe_mk0 (TT 20 "InvalidPrices" rfl).1 hr rfl (TT 20 "InvalidPrices" rfl).2) pa_nil))))))))
    (pss_cons (ps_set (i := 0) scBare.nd rfl (.inl rfl) (pe_op op_cat (pv 0) (pe_lst (pa_cons (pe_mk0 (TT 21 "InvalidWeights" rfl).1 hr rfl (TT 21 "InvalidWeights" rfl).2) (pa_cons (pe_mk0 (TT 22 "InvalidHands" rfl).1 hr rfl (TT 22 "InvalidHands" rfl).2) (pa_cons (pe_mk0 (TT 23 "InvalidLosses" rfl).1 hr rfl (TT 23 "InvalidLosses" rfl).2) (pa_cons (pe_mk0 (TT 24 "InvalidCount" rfl).1 hr rfl (TT 24 "InvalidCount" rfl).2) (pa_cons (pe_mk0 (TT 25 "InvalidProgram" rfl).1 hr rfl (TT 25 "InvalidProgram" rfl).2) pa_nil))))))))
    (pss_cons (ps_set (i := 0) scBare.nd rfl (.inl rfl) (pe_op op_cat (pv 0) (pe_lst (pa_cons (pe_mk0 (TT 26 "InvalidName" rfl).1 hr rfl (TT 26 "InvalidName" rfl).2) (pa_cons (pe_mk0 (TT 27 "InvalidPlan" rfl).1 hr rfl (TT 27 "InvalidPlan" rfl).2) (pa_cons (pe_mk0 (TT 28 "InvalidChange" rfl).1 hr rfl (TT 28 "InvalidChange" rfl).2) (pa_cons (pe_mk0 (TT 29 "InvalidChanges" rfl).1 hr rfl (TT 29 "InvalidChanges" rfl).2) (pa_cons (pe_mk0 (TT 30 "InvalidWorks" rfl).1 hr rfl (TT 30 "InvalidWorks" rfl).2) pa_nil))))))))
    (pss_cons (ps_set (i := 0) scBare.nd rfl (.inl rfl) (pe_op op_cat (pv 0) (pe_lst (pa_cons (pe_mk0 (TT 31 "InvalidSpot" rfl).1 hr rfl (TT 31 "InvalidSpot" rfl).2) (pa_cons (pe_mk0 (TT 32 "InvalidScript" rfl).1 hr rfl (TT 32 "InvalidScript" rfl).2) (pa_cons (pe_mk0 (TT 33 "InvalidText" rfl).1 hr rfl (TT 33 "InvalidText" rfl).2) (pa_cons (pe_mk0 (TT 34 "InvalidLog" rfl).1 hr rfl (TT 34 "InvalidLog" rfl).2) (pa_cons (pe_mk0 (TT 35 "Unlike" rfl).1 hr rfl (TT 35 "Unlike" rfl).2) (pa_cons (pe_mk0 (TT 36 "Unsettled" rfl).1 hr rfl (TT 36 "Unsettled" rfl).2) (pa_cons (pe_mk0 (TT 37 "Apart" rfl).1 hr rfl (TT 37 "Apart" rfl).2) pa_nil))))))))))
    (pss_cons (ps_set (i := 0) scBare.nd rfl (.inl rfl) (pe_op op_cat (pv 0) (pe_lst (pa_cons (pe_mk0 (TT 38 "Refused" rfl).1 hr rfl (TT 38 "Refused" rfl).2) pa_nil))))
    (pss_one (ps_ret (pv 0)))))))))), ?_⟩)
  · obtain ⟨rfl, _⟩ := h
    rfl
  · obtain ⟨rfl, k⟩ := h
    refine errs_first (ts := [(fun _ H Q => mkQ (cA K 0) .non H Q), (fun _ H Q => mkQ (cA K 1) .non H Q), (fun _ H Q => mkQ (cA K 2) .non H Q), (fun _ H Q => mkQ (cA K 3) .non H Q), (fun _ H Q => mkQ (cA K 4) .non H Q), (fun _ H Q => mkQ (cA K 5) .non H Q)]) (Cs := [cA K 0, cA K 1, cA K 2, cA K 3, cA K 4, cA K 5]) (.cons (mkT0) (.cons (mkT0) (.cons (mkT0) (.cons (mkT0) (.cons (mkT0) (.cons (mkT0) .nil)))))) (by show 6 ≤ 1000; decide) fun l0 as0 H0 s0 e0 E0 => ?_
    refine errs_more rfl e0 E0 (ts := [(fun _ H Q => mkQ (cA K 6) .non H Q), (fun _ H Q => mkQ (cA K 7) .non H Q), (fun _ H Q => mkQ (cA K 8) .non H Q), (fun _ H Q => mkQ (cA K 9) .non H Q), (fun _ H Q => mkQ (cA K 10) .non H Q)]) (Ds := [cA K 6, cA K 7, cA K 8, cA K 9, cA K 10]) (.cons (mkT0) (.cons (mkT0) (.cons (mkT0) (.cons (mkT0) (.cons (mkT0) .nil))))) (by show 6 + 5 ≤ 1000; decide) fun l1 as1 H1 s1 e1 E1 => ?_
    refine errs_more rfl e1 E1 (ts := [(fun _ H Q => mkQ (cA K 11) .non H Q), (fun _ H Q => mkQ (cA K 12) .non H Q), (fun _ H Q => mkQ (cA K 13) .non H Q), (fun _ H Q => mkQ (cA K 14) .non H Q), (fun _ H Q => mkQ (cA K 15) .non H Q)]) (Ds := [cA K 11, cA K 12, cA K 13, cA K 14, cA K 15]) (.cons (mkT0) (.cons (mkT0) (.cons (mkT0) (.cons (mkT0) (.cons (mkT0) .nil))))) (by show 11 + 5 ≤ 1000; decide) fun l2 as2 H2 s2 e2 E2 => ?_
    refine errs_more rfl e2 E2 (ts := [(fun _ H Q => mkQ (cA K 16) .non H Q), (fun _ H Q => mkQ (cA K 17) .non H Q), (fun _ H Q => mkQ (cA K 18) .non H Q), (fun _ H Q => mkQ (cA K 19) .non H Q), (fun _ H Q => mkQ (cA K 20) .non H Q)]) (Ds := [cA K 16, cA K 17, cA K 18, cA K 19, cA K 20]) (.cons (mkT0) (.cons (mkT0) (.cons (mkT0) (.cons (mkT0) (.cons (mkT0) .nil))))) (by show 16 + 5 ≤ 1000; decide) fun l3 as3 H3 s3 e3 E3 => ?_
    refine errs_more rfl e3 E3 (ts := [(fun _ H Q => mkQ (cA K 21) .non H Q), (fun _ H Q => mkQ (cA K 22) .non H Q), (fun _ H Q => mkQ (cA K 23) .non H Q), (fun _ H Q => mkQ (cA K 24) .non H Q), (fun _ H Q => mkQ (cA K 25) .non H Q)]) (Ds := [cA K 21, cA K 22, cA K 23, cA K 24, cA K 25]) (.cons (mkT0) (.cons (mkT0) (.cons (mkT0) (.cons (mkT0) (.cons (mkT0) .nil))))) (by show 21 + 5 ≤ 1000; decide) fun l4 as4 H4 s4 e4 E4 => ?_
    refine errs_more rfl e4 E4 (ts := [(fun _ H Q => mkQ (cA K 26) .non H Q), (fun _ H Q => mkQ (cA K 27) .non H Q), (fun _ H Q => mkQ (cA K 28) .non H Q), (fun _ H Q => mkQ (cA K 29) .non H Q), (fun _ H Q => mkQ (cA K 30) .non H Q)]) (Ds := [cA K 26, cA K 27, cA K 28, cA K 29, cA K 30]) (.cons (mkT0) (.cons (mkT0) (.cons (mkT0) (.cons (mkT0) (.cons (mkT0) .nil))))) (by show 26 + 5 ≤ 1000; decide) fun l5 as5 H5 s5 e5 E5 => ?_
    refine errs_more rfl e5 E5 (ts := [(fun _ H Q => mkQ (cA K 31) .non H Q), (fun _ H Q => mkQ (cA K 32) .non H Q), (fun _ H Q => mkQ (cA K 33) .non H Q), (fun _ H Q => mkQ (cA K 34) .non H Q), (fun _ H Q => mkQ (cA K 35) .non H Q), (fun _ H Q => mkQ (cA K 36) .non H Q), (fun _ H Q => mkQ (cA K 37) .non H Q)]) (Ds := [cA K 31, cA K 32, cA K 33, cA K 34, cA K 35, cA K 36, cA K 37]) (.cons (mkT0) (.cons (mkT0) (.cons (mkT0) (.cons (mkT0) (.cons (mkT0) (.cons (mkT0) (.cons (mkT0) .nil))))))) (by show 31 + 7 ≤ 1000; decide) fun l6 as6 H6 s6 e6 E6 => ?_
    refine errs_more rfl e6 E6 (ts := [(fun _ H Q => mkQ (cA K 38) .non H Q)]) (Ds := [cA K 38]) (.cons (mkT0) .nil) (by show 38 + 1 ≤ 1000; decide) fun l7 as7 H7 s7 e7 E7 => ?_
    exact ⟨_, rfl, k l7 as7 H7 (Same.trans (Same.trans (Same.trans (Same.trans (Same.trans (Same.trans (Same.trans s0 s1) s2) s3) s4) s5) s6) s7) e7 E7⟩
end
end K01
namespace K01
open PySem PySem.Spec PyProof.Rows L2
/-- what the classes say of one another -/
structure KT (K : PySem.W.Frag) : Prop where
  et : ∀ i ≤ 41, ET K (cA K i)
  kit : ∀ i ≤ 41, ∀ j < 41, PySem.W.kitOne K (.ref (cA K i)) (.ref (cA K j)) = some (decide (i = j))
  fold : ∀ i ≤ 41, PySem.W.kitOne K (.ref (cA K i)) (.ref (cA K 41)) = some true
  ve : ∀ i ≤ 41, PySem.W.kitOne K (.ref (cA K i)) (.type "ValueError") = some true
theorem boT {K : PySem.W.Frag} {σ : L2.St} {a C D : Addr} {d : Option Addr} {b : Bool} {i : Nat} (h : σ[i]? = some (some (.ref a))) (T : ET K C) (k : PySem.W.kitOne K (.ref C) (.ref D) = some b) :
    BoT (fun H => ExAt H a C d) σ (tCB (rIsX K) (tCons (tVar i) (tCons (tC (.ref D)) tNil))) b := fun H Q g q => ⟨_, h, a, C, d, .ref D, .ref D, b, rfl, g, T, .own D, k, q⟩
theorem ExAt.keep {H H' : Hp} {a C : Addr} {d : Option Addr} (e : ExAt H a C d) (s : Same H H') : ExAt H' a C d :=
  ⟨s _ _ e.1, fun dx hd => let ⟨fs, q⟩ := e.2 dx hd; ⟨fs, s _ _ q⟩⟩
/-- the places where a list of truths is true, of the first n -/
def idx (bs : List Bool) : Nat → List Nat
  | 0 => []
  | n + 1 => idx bs n ++ if bs.getD n false = true then [n] else []
def bs41 (i : Nat) : List Bool := (List.range 41).map fun j => decide (i = j)
theorem idx41 : ∀ i ≤ 41, idx (bs41 i) 41 = if i < 41 then [i] else [] := by decide +kernel
def spCode (K : PySem.W.Frag) : Sp := fun vs H Q _ => ∃ (a : Addr) (d : Option Addr) (i : Nat), vs = [.ref a] ∧ i ≤ 41 ∧ ExAt H a (cA K i) d ∧
  ∀ (l : Addr) (H' : Hp), Same H H' → H' l = some (.lst ((if i < 41 then [i] else []).map fun j : Nat => V.int j)) → Q (.ref l) H'
section
variable {P : Program} {w : World} {K : PySem.W.Frag} {mg : Str → Option Value} {base : Heap} {f : Addr} {fd : FuncData}
theorem ok_code (F : FnP K dCode f fd) (TG : TGs K mg) (KK : KT K) (gIs : mg "isinstance" = none) (gR : mg "range" = none) (gL : mg "len" = none) : FnOk P w K mg base CX0 1 f fd ["_law_error"] (spCode K) := by
  refine F.ok scCode (fun vs H Q E h => ?_) (fun cdv A outer s H vs Q E hr h => ⟨_, pss_cons (ps_set (i := 1) scCode.nd rfl (.inr rfl) (pe_lst (pa_cons (pe_callB call_isX rfl gIs (by decide +kernel) (pa_cons (pv 0) (pa_cons (pe_glob (v := .ref (cA K 0)) rfl (TG 0 "InvalidValue" rfl) rfl) pa_nil))) (pa_cons (pe_callB call_isX rfl gIs (by decide +kernel) (pa_cons (pv 0) (pa_cons (pe_glob (v := .ref (cA K 1)) rfl (TG 1 "InvalidOperation" rfl) rfl) pa_nil))) pa_nil))))
    (pss_cons (ps_set (i := 1) scCode.nd rfl (.inr rfl) (pe_op op_cat (pv 1) (pe_lst (pa_cons (pe_callB call_isX rfl gIs (by decide +kernel) (pa_cons (pv 0) (pa_cons (pe_glob (v := .ref (cA K 2)) rfl (TG 2 "InvalidLikeness" rfl) rfl) pa_nil))) (pa_cons (pe_callB call_isX rfl gIs (by decide +kernel) (pa_cons (pv 0) (pa_cons (pe_glob (v := .ref (cA K 3)) rfl (TG 3 "InvalidKind" rfl) rfl) pa_nil))) pa_nil)))))
    (pss_cons (ps_set (i := 1) scCode.nd rfl (.inr rfl) (pe_op op_cat (pv 1) (pe_lst (pa_cons (pe_callB call_isX rfl gIs (by decide +kernel) (pa_cons (pv 0) (pa_cons (pe_glob (v := .ref (cA K 4)) rfl (TG 4 "InvalidTable" rfl) rfl) pa_nil))) (pa_cons (pe_callB call_isX rfl gIs (by decide +kernel) (pa_cons (pv 0) (pa_cons (pe_glob (v := .ref (cA K 5)) rfl (TG 5 "InvalidKinds" rfl) rfl) pa_nil))) pa_nil)))))
    (pss_cons (ps_set (i := 1) scCode.nd rfl (.inr rfl) (pe_op op_cat (pv 1) (pe_lst (pa_cons (pe_callB call_isX rfl gIs (by decide +kernel) (pa_cons (pv 0) (pa_cons (pe_glob (v := .ref (cA K 6)) rfl (TG 6 "InvalidHolding" rfl) rfl) pa_nil))) (pa_cons (pe_callB call_isX rfl gIs (by decide +kernel) (pa_cons (pv 0) (pa_cons (pe_glob (v := .ref (cA K 7)) rfl (TG 7 "InvalidTyping" rfl) rfl) pa_nil))) pa_nil)))))
    (pss_cons (ps_set (i := 1) scCode.nd rfl (.inr rfl) (pe_op op_cat (pv 1) (pe_lst (pa_cons (pe_callB call_isX rfl gIs (by decide +kernel) (pa_cons (pv 0) (pa_cons (pe_glob (v := .ref (cA K 8)) rfl (TG 8 "InvalidFolding" rfl) rfl) pa_nil))) (pa_cons (pe_callB call_isX rfl gIs (by decide +kernel) (pa_cons (pv 0) (pa_cons (pe_glob (v := .ref (cA K 9)) rfl (TG 9 "InvalidMap" rfl) rfl) pa_nil))) pa_nil)))))
    (pss_cons (ps_set (i := 1) scCode.nd rfl (.inr rfl) (pe_op op_cat (pv 1) (pe_lst (pa_cons (pe_callB call_isX rfl gIs (by decide +kernel) (pa_cons (pv 0) (pa_cons (pe_glob (v := .ref (cA K 10)) rfl (TG 10 "InvalidTriples" rfl) rfl) pa_nil))) (pa_cons (pe_callB call_isX rfl gIs (by decide +kernel) (pa_cons (pv 0) (pa_cons (pe_glob (v := .ref (cA K 11)) rfl (TG 11 "InvalidBase" rfl) rfl) pa_nil))) pa_nil)))))
    (pss_cons (ps_set (i := 1) scCode.nd rfl (.inr rfl) (pe_op op_cat (pv 1) (pe_lst (pa_cons (pe_callB call_isX rfl gIs (by decide +kernel) (pa_cons (pv 0) (pa_cons (pe_glob (v := .ref (cA K 12)) rfl (TG 12 "InvalidWord" rfl) rfl) pa_nil))) (pa_cons (pe_callB call_isX rfl gIs (by decide +kernel) (pa_cons (pv 0) (pa_cons (pe_glob (v := .ref (cA K 13)) rfl (TG 13 "InvalidRow" rfl) rfl) pa_nil))) pa_nil)))))
    (pss_cons (ps_set (i := 1) scCode.nd rfl (.inr rfl) (pe_op op_cat (pv 1) (pe_lst (pa_cons (pe_callB call_isX rfl gIs (by decide +kernel) (pa_cons (pv 0) (pa_cons (pe_glob (v := .ref (cA K 14)) rfl (TG 14 "InvalidGrouping" rfl) rfl) pa_nil))) (pa_cons (pe_callB call_isX rfl gIs (by decide +kernel) (pa_cons (pv 0) (pa_cons (pe_glob (v := .ref (cA K 15)) rfl (TG 15 "InvalidBlock" rfl) rfl) pa_nil))) pa_nil)))))
    (pss_cons (ps_set (i := 1) scCode.nd rfl (.inr rfl) (pe_op op_cat (pv 1) (pe_lst (pa_cons (pe_callB call_isX rfl gIs (by decide +kernel) (pa_cons (pv 0) (pa_cons (pe_glob (v := .ref (cA K 16)) rfl (TG 16 "InvalidBlocks" rfl) rfl) pa_nil))) (pa_cons (pe_callB call_isX rfl gIs (by decide +kernel) (pa_cons (pv 0) (pa_cons (pe_glob (v := .ref (cA K 17)) rfl (TG 17 "InvalidCut" rfl) rfl) pa_nil))) pa_nil)))))
    (pss_cons (ps_set (i := 1) scCode.nd rfl (.inr rfl) (pe_op op_cat (pv 1) (pe_lst (pa_cons (pe_callB call_isX rfl gIs (by decide +kernel) (pa_cons (pv 0) (pa_cons (pe_glob (v := .ref (cA K 18)) rfl (TG 18 "InvalidDeed" rfl) rfl) pa_nil))) (pa_cons (pe_callB call_isX rfl gIs (by decide +kernel) (pa_cons (pv 0) (pa_cons (pe_glob (v := .ref (cA K 19)) rfl (TG 19 "InvalidInputs" rfl) rfl) pa_nil))) pa_nil)))))
    (pss_cons (ps_set (i := 1) scCode.nd rfl (.inr rfl) (pe_op op_cat (pv 1) (pe_lst (pa_cons (pe_callB call_isX rfl gIs (by decide +kernel) (pa_cons (pv 0) (pa_cons (pe_glob (v := .ref (cA K 20)) rfl (TG 20 "InvalidPrices" rfl) rfl) pa_nil))) (pa_cons (pe_callB call_isX rfl gIs (by decide +kernel) (pa_cons (pv 0) (pa_cons (pe_glob (v := .ref (cA K 21)) rfl (TG 21 "InvalidWeights" rfl) rfl) pa_nil))) pa_nil)))))
    (pss_cons (ps_set (i := 1) scCode.nd rfl (.inr rfl) (pe_op op_cat (pv 1) (pe_lst (pa_cons (pe_callB call_isX rfl gIs (by decide +kernel) (pa_cons (pv 0) (pa_cons (pe_glob (v := .ref (cA K 22)) rfl (TG 22 "InvalidHands" rfl) rfl) pa_nil))) (pa_cons (pe_callB call_isX rfl gIs (by decide +kernel) (pa_cons (pv 0) (pa_cons (pe_glob (v := .ref (cA K 23)) rfl (TG 23 "InvalidLosses" rfl) rfl) pa_nil))) pa_nil)))))
    (pss_cons (ps_set (i := 1) scCode.nd rfl (.inr rfl) (pe_op op_cat (pv 1) (pe_lst (pa_cons (pe_callB call_isX rfl gIs (by decide +kernel) (pa_cons (pv 0) (pa_cons (pe_glob (v := .ref (cA K 24)) rfl (TG 24 "InvalidCount" rfl) rfl) pa_nil))) (pa_cons (pe_callB call_isX rfl gIs (by decide +kernel) (pa_cons (pv 0) (pa_cons (pe_glob (v := .ref (cA K 25)) rfl (TG 25 "InvalidProgram" rfl) rfl) pa_nil))) pa_nil)))))
    (pss_cons (ps_set (i := 1) scCode.nd rfl (.inr rfl) (pe_op op_cat (pv 1) (pe_lst (pa_cons (pe_callB call_isX rfl gIs (by decide +kernel) (pa_cons (pv 0) (pa_cons (pe_glob (v := .ref (cA K 26)) rfl (TG 26 "InvalidName" rfl) rfl) pa_nil))) (pa_cons (pe_callB call_isX rfl gIs (by decide +kernel) (pa_cons (pv 0) (pa_cons (pe_glob (v := .ref (cA K 27)) rfl (TG 27 "InvalidPlan" rfl) rfl) pa_nil))) pa_nil)))))
    (pss_cons (ps_set (i := 1) scCode.nd rfl (.inr rfl) (pe_op op_cat (pv 1) (pe_lst (pa_cons (pe_callB call_isX rfl gIs (by decide +kernel) (pa_cons (pv 0) (pa_cons (pe_glob (v := .ref (cA K 28)) rfl (TG 28 "InvalidChange" rfl) rfl) pa_nil))) (pa_cons (pe_callB call_isX rfl gIs (by decide +kernel) (pa_cons (pv 0) (pa_cons (pe_glob (v := .ref (cA K 29)) rfl (TG 29 "InvalidChanges" rfl) rfl) pa_nil))) pa_nil)))))
    (pss_cons (ps_set (i := 1) scCode.nd rfl (.inr rfl) (pe_op op_cat (pv 1) (pe_lst (pa_cons (pe_callB call_isX rfl gIs (by decide +kernel) (pa_cons (pv 0) (pa_cons (pe_glob (v := .ref (cA K 30)) rfl (TG 30 "InvalidWorks" rfl) rfl) pa_nil))) (pa_cons (pe_callB call_isX rfl gIs (by decide +kernel) (pa_cons (pv 0) (pa_cons (pe_glob (v := .ref (cA K 31)) rfl (TG 31 "InvalidSpot" rfl) rfl) pa_nil))) pa_nil)))))
    (pss_cons (ps_set (i := 1) scCode.nd rfl (.inr rfl) (pe_op op_cat (pv 1) (pe_lst (pa_cons (pe_callB call_isX rfl gIs (by decide +kernel) (pa_cons (pv 0) (pa_cons (pe_glob (v := .ref (cA K 32)) rfl (TG 32 "InvalidScript" rfl) rfl) pa_nil))) (pa_cons (pe_callB call_isX rfl gIs (by decide +kernel) (pa_cons (pv 0) (pa_cons (pe_glob (v := .ref (cA K 33)) rfl (TG 33 "InvalidText" rfl) rfl) pa_nil))) pa_nil)))))
    (pss_cons (ps_set (i := 1) scCode.nd rfl (.inr rfl) (pe_op op_cat (pv 1) (pe_lst (pa_cons (pe_callB call_isX rfl gIs (by decide +kernel) (pa_cons (pv 0) (pa_cons (pe_glob (v := .ref (cA K 34)) rfl (TG 34 "InvalidLog" rfl) rfl) pa_nil))) (pa_cons (pe_callB call_isX rfl gIs (by decide +kernel) (pa_cons (pv 0) (pa_cons (pe_glob (v := .ref (cA K 35)) rfl (TG 35 "Unlike" rfl) rfl) pa_nil))) (pa_cons (pe_callB call_isX rfl gIs (by decide +kernel) (pa_cons (pv 0) (pa_cons (pe_glob (v := .ref (cA K 36)) rfl (TG 36 "Unsettled" rfl) rfl) pa_nil))) pa_nil))))))
    (pss_cons (ps_set (i := 1) scCode.nd rfl (.inr rfl) (pe_op op_cat (pv 1) (pe_lst (pa_cons (pe_callB call_isX rfl gIs (by decide +kernel) (pa_cons (pv 0) (pa_cons (pe_glob (v := .ref (cA K 37)) rfl (TG 37 "Apart" rfl) rfl) pa_nil))) (pa_cons (pe_callB call_isX rfl gIs (by decide +kernel) (pa_cons (pv 0) (pa_cons (pe_glob (v := .ref (cA K 38)) rfl (TG 38 "Refused" rfl) rfl) pa_nil))) (pa_cons (pe_callB call_isX rfl gIs (by decide +kernel) (pa_cons (pv 0) (pa_cons (pe_glob (v := .ref (cA K 39)) rfl (TG 39 "NothingToUndo" rfl) rfl) pa_nil))) pa_nil))))))
    (pss_cons (ps_set (i := 1) scCode.nd rfl (.inr rfl) (pe_op op_cat (pv 1) (pe_lst (pa_cons (pe_callB call_isX rfl gIs (by decide +kernel) (pa_cons (pv 0) (pa_cons (pe_glob (v := .ref (cA K 40)) rfl (TG 40 "NothingToRedo" rfl) rfl) pa_nil))) pa_nil))))
    (pss_one (ps_ret (pe_lc (own := [("_law_at", 2)]) (g := gName 2) (tt := tB (tOp (rIxL K) (tVar 1) (tVar 2))) (te := tVar 2) rfl scCode.nd (pi_range1 rfl gR (pa_cons (pe_callB call_len_seq rfl gL (by decide +kernel) (pa_cons (pv 1) pa_nil)) pa_nil))
      (blkOk_by (N := ["_law_error", "_law_found", "_law_at"]) (sc := defScope sCode) (by decide +kernel))
      (fun _ _ _ _ _ => pg_name (i := 2) scCode.nd rfl (.inl rfl)) (fun _ _ _ _ _ => pts_one (pt_val (pe_ix ix_list (pv 1) (pv 2) (fun _ _ => rfl)))) (fun _ _ _ _ _ => pv 2))))))))))))))))))))))), ?_⟩)
  · obtain ⟨a, d, i, rfl, _⟩ := h
    rfl
  · obtain ⟨a, d, i, rfl, hi, g, k⟩ := h
    have T := KK.et i hi
    have keep : ∀ H H', ExAt H a (cA K i) d → Same H H' → ExAt H' a (cA K i) d := fun _ _ e s => e.keep s
    refine bos_first (G := fun H => ExAt H a (cA K i) d) (σ2 := fun l => [some (.ref a), some (.ref l), none]) (fun _ => rfl) keep g (ts := [tCB (rIsX K) (tCons (tVar 0) (tCons (tC (.ref (cA K 0))) tNil)), tCB (rIsX K) (tCons (tVar 0) (tCons (tC (.ref (cA K 1))) tNil))]) (bs := [decide (i = 0), decide (i = 1)]) (.cons (boT rfl T (KK.kit i hi 0 (by decide))) (.cons (boT rfl T (KK.kit i hi 1 (by decide))) .nil)) (by show 2 ≤ 1000; decide) fun l0 H0 s0 g0 e0 => ?_
    refine bos_more (G := fun H => ExAt H a (cA K i) d) (σ2 := fun l => [some (.ref a), some (.ref l), none]) (fun _ => rfl) keep g0 rfl e0 (ts := [tCB (rIsX K) (tCons (tVar 0) (tCons (tC (.ref (cA K 2))) tNil)), tCB (rIsX K) (tCons (tVar 0) (tCons (tC (.ref (cA K 3))) tNil))]) (cs := [decide (i = 2), decide (i = 3)]) (.cons (boT rfl T (KK.kit i hi 2 (by decide))) (.cons (boT rfl T (KK.kit i hi 3 (by decide))) .nil)) (es := [decide (i = 0), decide (i = 1), decide (i = 2), decide (i = 3)]) rfl (by show 4 ≤ 1000; decide) fun l1 H1 s1 g1 e1 => ?_
    refine bos_more (G := fun H => ExAt H a (cA K i) d) (σ2 := fun l => [some (.ref a), some (.ref l), none]) (fun _ => rfl) keep g1 rfl e1 (ts := [tCB (rIsX K) (tCons (tVar 0) (tCons (tC (.ref (cA K 4))) tNil)), tCB (rIsX K) (tCons (tVar 0) (tCons (tC (.ref (cA K 5))) tNil))]) (cs := [decide (i = 4), decide (i = 5)]) (.cons (boT rfl T (KK.kit i hi 4 (by decide))) (.cons (boT rfl T (KK.kit i hi 5 (by decide))) .nil)) (es := [decide (i = 0), decide (i = 1), decide (i = 2), decide (i = 3), decide (i = 4), decide (i = 5)]) rfl (by show 6 ≤ 1000; decide) fun l2 H2 s2 g2 e2 => ?_
    refine bos_more (G := fun H => ExAt H a (cA K i) d) (σ2 := fun l => [some (.ref a), some (.ref l), none]) (fun _ => rfl) keep g2 rfl e2 (ts := [tCB (rIsX K) (tCons (tVar 0) (tCons (tC (.ref (cA K 6))) tNil)), tCB (rIsX K) (tCons (tVar 0) (tCons (tC (.ref (cA K 7))) tNil))]) (cs := [decide (i = 6), decide (i = 7)]) (.cons (boT rfl T (KK.kit i hi 6 (by decide))) (.cons (boT rfl T (KK.kit i hi 7 (by decide))) .nil)) (es := [decide (i = 0), decide (i = 1), decide (i = 2), decide (i = 3), decide (i = 4), decide (i = 5), decide (i = 6), decide (i = 7)]) rfl (by show 8 ≤ 1000; decide) fun l3 H3 s3 g3 e3 => ?_
    refine bos_more (G := fun H => ExAt H a (cA K i) d) (σ2 := fun l => [some (.ref a), some (.ref l), none]) (fun _ => rfl) keep g3 rfl e3 (ts := [tCB (rIsX K) (tCons (tVar 0) (tCons (tC (.ref (cA K 8))) tNil)), tCB (rIsX K) (tCons (tVar 0) (tCons (tC (.ref (cA K 9))) tNil))]) (cs := [decide (i = 8), decide (i = 9)]) (.cons (boT rfl T (KK.kit i hi 8 (by decide))) (.cons (boT rfl T (KK.kit i hi 9 (by decide))) .nil)) (es := [decide (i = 0), decide (i = 1), decide (i = 2), decide (i = 3), decide (i = 4), decide (i = 5), decide (i = 6), decide (i = 7), decide (i = 8), decide (i = 9)]) rfl (by show 10 ≤ 1000; decide) fun l4 H4 s4 g4 e4 => ?_
    refine bos_more (G := fun H => ExAt H a (cA K i) d) (σ2 := fun l => [some (.ref a), some (.ref l), none]) (fun _ => rfl) keep g4 rfl e4 (ts := [tCB (rIsX K) (tCons (tVar 0) (tCons (tC (.ref (cA K 10))) tNil)), tCB (rIsX K) (tCons (tVar 0) (tCons (tC (.ref (cA K 11))) tNil))]) (cs := [decide (i = 10), decide (i = 11)]) (.cons (boT rfl T (KK.kit i hi 10 (by decide))) (.cons (boT rfl T (KK.kit i hi 11 (by decide))) .nil)) (es := [decide (i = 0), decide (i = 1), decide (i = 2), decide (i = 3), decide (i = 4), decide (i = 5), decide (i = 6), decide (i = 7), decide (i = 8), decide (i = 9), decide (i = 10), decide (i = 11)]) rfl (by show 12 ≤ 1000; decide) fun l5 H5 s5 g5 e5 => ?_
    refine bos_more (G := fun H => ExAt H a (cA K i) d) (σ2 := fun l => [some (.ref a), some (.ref l), none]) (fun _ => rfl) keep g5 rfl e5 (ts := [tCB (rIsX K) (tCons (tVar 0) (tCons (tC (.ref (cA K 12))) tNil)), tCB (rIsX K) (tCons (tVar 0) (tCons (tC (.ref (cA K 13))) tNil))]) (cs := [decide (i = 12), decide (i = 13)]) (.cons (boT rfl T (KK.kit i hi 12 (by decide))) (.cons (boT rfl T (KK.kit i hi 13 (by decide))) .nil)) (es := [decide (i = 0), decide (i = 1), decide (i = 2), decide (i = 3), decide (i = 4), decide (i = 5), decide (i = 6), decide (i = 7), decide (i = 8), decide (i = 9), decide (i = 10), decide (i = 11), decide (i = 12), decide (i = 13)]) rfl (by show 14 ≤ 1000; decide) fun l6 H6 s6 g6 e6 => ?_
    refine bos_more (G := fun H => ExAt H a (cA K i) d) (σ2 := fun l => [some (.ref a), some (.ref l), none]) (fun _ => rfl) keep g6 rfl e6 (ts := [tCB (rIsX K) (tCons (tVar 0) (tCons (tC (.ref (cA K 14))) tNil)), tCB (rIsX K) (tCons (tVar 0) (tCons (tC (.ref (cA K 15))) tNil))]) (cs := [decide (i = 14), decide (i = 15)]) (.cons (boT rfl T (KK.kit i hi 14 (by decide))) (.cons (boT rfl T (KK.kit i hi 15 (by decide))) .nil)) (es := [decide (i = 0), decide (i = 1), decide (i = 2), decide (i = 3), decide (i = 4), decide (i = 5), decide (i = 6), decide (i = 7), decide (i = 8), decide (i = 9), decide (i = 10), decide (i = 11), decide (i = 12), decide (i = 13), decide (i = 14), decide (i = 15)]) rfl (by show 16 ≤ 1000; decide) fun l7 H7 s7 g7 e7 => ?_
    refine bos_more (G := fun H => ExAt H a (cA K i) d) (σ2 := fun l => [some (.ref a), some (.ref l), none]) (fun _ => rfl) keep g7 rfl e7 (ts := [tCB (rIsX K) (tCons (tVar 0) (tCons (tC (.ref (cA K 16))) tNil)), tCB (rIsX K) (tCons (tVar 0) (tCons (tC (.ref (cA K 17))) tNil))]) (cs := [decide (i = 16), decide (i = 17)]) (.cons (boT rfl T (KK.kit i hi 16 (by decide))) (.cons (boT rfl T (KK.kit i hi 17 (by decide))) .nil)) (es := [decide (i = 0), decide (i = 1), decide (i = 2), decide (i = 3), decide (i = 4), decide (i = 5), decide (i = 6), decide (i = 7), decide (i = 8), decide (i = 9), decide (i = 10), decide (i = 11), decide (i = 12), decide (i = 13), decide (i = 14), decide (i = 15), decide (i = 16), decide (i = 17)]) rfl (by show 18 ≤ 1000; decide) fun l8 H8 s8 g8 e8 => ?_
    refine bos_more (G := fun H => ExAt H a (cA K i) d) (σ2 := fun l => [some (.ref a), some (.ref l), none]) (fun _ => rfl) keep g8 rfl e8 (ts := [tCB (rIsX K) (tCons (tVar 0) (tCons (tC (.ref (cA K 18))) tNil)), tCB (rIsX K) (tCons (tVar 0) (tCons (tC (.ref (cA K 19))) tNil))]) (cs := [decide (i = 18), decide (i = 19)]) (.cons (boT rfl T (KK.kit i hi 18 (by decide))) (.cons (boT rfl T (KK.kit i hi 19 (by decide))) .nil)) (es := [decide (i = 0), decide (i = 1), decide (i = 2), decide (i = 3), decide (i = 4), decide (i = 5), decide (i = 6), decide (i = 7), decide (i = 8), decide (i = 9), decide (i = 10), decide (i = 11), decide (i = 12), decide (i = 13), decide (i = 14), decide (i = 15), decide (i = 16), decide (i = 17), decide (i = 18), decide (i = 19)]) rfl (by show 20 ≤ 1000; decide) fun l9 H9 s9 g9 e9 => ?_
    refine bos_more (G := fun H => ExAt H a (cA K i) d) (σ2 := fun l => [some (.ref a), some (.ref l), none]) (fun _ => rfl) keep g9 rfl e9 (ts := [tCB (rIsX K) (tCons (tVar 0) (tCons (tC (.ref (cA K 20))) tNil)), tCB (rIsX K) (tCons (tVar 0) (tCons (tC (.ref (cA K 21))) tNil))]) (cs := [decide (i = 20), decide (i = 21)]) (.cons (boT rfl T (KK.kit i hi 20 (by decide))) (.cons (boT rfl T (KK.kit i hi 21 (by decide))) .nil)) (es := [decide (i = 0), decide (i = 1), decide (i = 2), decide (i = 3), decide (i = 4), decide (i = 5), decide (i = 6), decide (i = 7), decide (i = 8), decide (i = 9), decide (i = 10), decide (i = 11), decide (i = 12), decide (i = 13), decide (i = 14), decide (i = 15), decide (i = 16), decide (i = 17), decide (i = 18), decide (i = 19), decide (i = 20), decide (i = 21)]) rfl (by show 22 ≤ 1000; decide) fun l10 H10 s10 g10 e10 => ?_
    refine bos_more (G := fun H => ExAt H a (cA K i) d) (σ2 := fun l => [some (.ref a), some (.ref l), none]) (fun _ => rfl) keep g10 rfl e10 (ts := [tCB (rIsX K) (tCons (tVar 0) (tCons (tC (.ref (cA K 22))) tNil)), tCB (rIsX K) (tCons (tVar 0) (tCons (tC (.ref (cA K 23))) tNil))]) (cs := [decide (i = 22), decide (i = 23)]) (.cons (boT rfl T (KK.kit i hi 22 (by decide))) (.cons (boT rfl T (KK.kit i hi 23 (by decide))) .nil)) (es := [decide (i = 0), decide (i = 1), decide (i = 2), decide (i = 3), decide (i = 4), decide (i = 5), decide (i = 6), decide (i = 7), decide (i = 8), decide (i = 9), decide (i = 10), decide (i = 11), decide (i = 12), decide (i = 13), decide (i = 14), decide (i = 15), decide (i = 16), decide (i = 17), decide (i = 18), decide (i = 19), decide (i = 20), decide (i = 21), decide (i = 22), decide (i = 23)]) rfl (by show 24 ≤ 1000; decide) fun l11 H11 s11 g11 e11 => ?_
    refine bos_more (G := fun H => ExAt H a (cA K i) d) (σ2 := fun l => [some (.ref a), some (.ref l), none]) (fun _ => rfl) keep g11 rfl e11 (ts := [tCB (rIsX K) (tCons (tVar 0) (tCons (tC (.ref (cA K 24))) tNil)), tCB (rIsX K) (tCons (tVar 0) (tCons (tC (.ref (cA K 25))) tNil))]) (cs := [decide (i = 24), decide (i = 25)]) (.cons (boT rfl T (KK.kit i hi 24 (by decide))) (.cons (boT rfl T (KK.kit i hi 25 (by decide))) .nil)) (es := [decide (i = 0), decide (i = 1), decide (i = 2), decide (i = 3), decide (i = 4), decide (i = 5), decide (i = 6), decide (i = 7), decide (i = 8), decide (i = 9), decide (i = 10), decide (i = 11), decide (i = 12), decide (i = 13), decide (i = 14), decide (i = 15), decide (i = 16), decide (i = 17), decide (i = 18), decide (i = 19), decide (i = 20), decide (i = 21), decide (i = 22), decide (i = 23), decide (i = 24), decide (i = 25)]) rfl (by show 26 ≤ 1000; decide) fun l12 H12 s12 g12 e12 => ?_
    refine bos_more (G := fun H => ExAt H a (cA K i) d) (σ2 := fun l => [some (.ref a), some (.ref l), none]) (fun _ => rfl) keep g12 rfl e12 (ts := [tCB (rIsX K) (tCons (tVar 0) (tCons (tC (.ref (cA K 26))) tNil)), tCB (rIsX K) (tCons (tVar 0) (tCons (tC (.ref (cA K 27))) tNil))]) (cs := [decide (i = 26), decide (i = 27)]) (.cons (boT rfl T (KK.kit i hi 26 (by decide))) (.cons (boT rfl T (KK.kit i hi 27 (by decide))) .nil)) (es := [decide (i = 0), decide (i = 1), decide (i = 2), decide (i = 3), decide (i = 4), decide (i = 5), decide (i = 6), decide (i = 7), decide (i = 8), decide (i = 9), decide (i = 10), decide (i = 11), decide (i = 12), decide (i = 13), decide (i = 14), decide (i = 15), decide (i = 16), decide (i = 17), decide (i = 18), decide (i = 19), decide (i = 20), decide (i = 21), decide (i = 22), decide (i = 23), decide (i = 24), decide (i = 25), decide (i = 26), decide (i = 27)]) rfl (by show 28 ≤ 1000; decide) fun l13 H13 s13 g13 e13 => ?_
    refine bos_more (G := fun H => ExAt H a (cA K i) d) (σ2 := fun l => [some (.ref a), some (.ref l), none]) (fun _ => rfl) keep g13 rfl e13 (ts := [tCB (rIsX K) (tCons (tVar 0) (tCons (tC (.ref (cA K 28))) tNil)), tCB (rIsX K) (tCons (tVar 0) (tCons (tC (.ref (cA K 29))) tNil))]) (cs := [decide (i = 28), decide (i = 29)]) (.cons (boT rfl T (KK.kit i hi 28 (by decide))) (.cons (boT rfl T (KK.kit i hi 29 (by decide))) .nil)) (es := [decide (i = 0), decide (i = 1), decide (i = 2), decide (i = 3), decide (i = 4), decide (i = 5), decide (i = 6), decide (i = 7), decide (i = 8), decide (i = 9), decide (i = 10), decide (i = 11), decide (i = 12), decide (i = 13), decide (i = 14), decide (i = 15), decide (i = 16), decide (i = 17), decide (i = 18), decide (i = 19), decide (i = 20), decide (i = 21), decide (i = 22), decide (i = 23), decide (i = 24), decide (i = 25), decide (i = 26), decide (i = 27), decide (i = 28), decide (i = 29)]) rfl (by show 30 ≤ 1000; decide) fun l14 H14 s14 g14 e14 => ?_
    refine bos_more (G := fun H => ExAt H a (cA K i) d) (σ2 := fun l => [some (.ref a), some (.ref l), none]) (fun _ => rfl) keep g14 rfl e14 (ts := [tCB (rIsX K) (tCons (tVar 0) (tCons (tC (.ref (cA K 30))) tNil)), tCB (rIsX K) (tCons (tVar 0) (tCons (tC (.ref (cA K 31))) tNil))]) (cs := [decide (i = 30), decide (i = 31)]) (.cons (boT rfl T (KK.kit i hi 30 (by decide))) (.cons (boT rfl T (KK.kit i hi 31 (by decide))) .nil)) (es := [decide (i = 0), decide (i = 1), decide (i = 2), decide (i = 3), decide (i = 4), decide (i = 5), decide (i = 6), decide (i = 7), decide (i = 8), decide (i = 9), decide (i = 10), decide (i = 11), decide (i = 12), decide (i = 13), decide (i = 14), decide (i = 15), decide (i = 16), decide (i = 17), decide (i = 18), decide (i = 19), decide (i = 20), decide (i = 21), decide (i = 22), decide (i = 23), decide (i = 24), decide (i = 25), decide (i = 26), decide (i = 27), decide (i = 28), decide (i = 29), decide (i = 30), decide (i = 31)]) rfl (by show 32 ≤ 1000; decide) fun l15 H15 s15 g15 e15 => ?_
    refine bos_more (G := fun H => ExAt H a (cA K i) d) (σ2 := fun l => [some (.ref a), some (.ref l), none]) (fun _ => rfl) keep g15 rfl e15 (ts := [tCB (rIsX K) (tCons (tVar 0) (tCons (tC (.ref (cA K 32))) tNil)), tCB (rIsX K) (tCons (tVar 0) (tCons (tC (.ref (cA K 33))) tNil))]) (cs := [decide (i = 32), decide (i = 33)]) (.cons (boT rfl T (KK.kit i hi 32 (by decide))) (.cons (boT rfl T (KK.kit i hi 33 (by decide))) .nil)) (es := [decide (i = 0), decide (i = 1), decide (i = 2), decide (i = 3), decide (i = 4), decide (i = 5), decide (i = 6), decide (i = 7), decide (i = 8), decide (i = 9), decide (i = 10), decide (i = 11), decide (i = 12), decide (i = 13), decide (i = 14), decide (i = 15), decide (i = 16), decide (i = 17), decide (i = 18), decide (i = 19), decide (i = 20), decide (i = 21), decide (i = 22), decide (i = 23), decide (i = 24), decide (i = 25), decide (i = 26), decide (i = 27), decide (i = 28), decide (i = 29), decide (i = 30), decide (i = 31), decide (i = 32), decide (i = 33)]) rfl (by show 34 ≤ 1000; decide) fun l16 H16 s16 g16 e16 => ?_
    refine bos_more (G := fun H => ExAt H a (cA K i) d) (σ2 := fun l => [some (.ref a), some (.ref l), none]) (fun _ => rfl) keep g16 rfl e16 (ts := [tCB (rIsX K) (tCons (tVar 0) (tCons (tC (.ref (cA K 34))) tNil)), tCB (rIsX K) (tCons (tVar 0) (tCons (tC (.ref (cA K 35))) tNil)), tCB (rIsX K) (tCons (tVar 0) (tCons (tC (.ref (cA K 36))) tNil))]) (cs := [decide (i = 34), decide (i = 35), decide (i = 36)]) (.cons (boT rfl T (KK.kit i hi 34 (by decide))) (.cons (boT rfl T (KK.kit i hi 35 (by decide))) (.cons (boT rfl T (KK.kit i hi 36 (by decide))) .nil))) (es := [decide (i = 0), decide (i = 1), decide (i = 2), decide (i = 3), decide (i = 4), decide (i = 5), decide (i = 6), decide (i = 7), decide (i = 8), decide (i = 9), decide (i = 10), decide (i = 11), decide (i = 12), decide (i = 13), decide (i = 14), decide (i = 15), decide (i = 16), decide (i = 17), decide (i = 18), decide (i = 19), decide (i = 20), decide (i = 21), decide (i = 22), decide (i = 23), decide (i = 24), decide (i = 25), decide (i = 26), decide (i = 27), decide (i = 28), decide (i = 29), decide (i = 30), decide (i = 31), decide (i = 32), decide (i = 33), decide (i = 34), decide (i = 35), decide (i = 36)]) rfl (by show 37 ≤ 1000; decide) fun l17 H17 s17 g17 e17 => ?_
    refine bos_more (G := fun H => ExAt H a (cA K i) d) (σ2 := fun l => [some (.ref a), some (.ref l), none]) (fun _ => rfl) keep g17 rfl e17 (ts := [tCB (rIsX K) (tCons (tVar 0) (tCons (tC (.ref (cA K 37))) tNil)), tCB (rIsX K) (tCons (tVar 0) (tCons (tC (.ref (cA K 38))) tNil)), tCB (rIsX K) (tCons (tVar 0) (tCons (tC (.ref (cA K 39))) tNil))]) (cs := [decide (i = 37), decide (i = 38), decide (i = 39)]) (.cons (boT rfl T (KK.kit i hi 37 (by decide))) (.cons (boT rfl T (KK.kit i hi 38 (by decide))) (.cons (boT rfl T (KK.kit i hi 39 (by decide))) .nil))) (es := [decide (i = 0), decide (i = 1), decide (i = 2), decide (i = 3), decide (i = 4), decide (i = 5), decide (i = 6), decide (i = 7), decide (i = 8), decide (i = 9), decide (i = 10), decide (i = 11), decide (i = 12), decide (i = 13), decide (i = 14), decide (i = 15), decide (i = 16), decide (i = 17), decide (i = 18), decide (i = 19), decide (i = 20), decide (i = 21), decide (i = 22), decide (i = 23), decide (i = 24), decide (i = 25), decide (i = 26), decide (i = 27), decide (i = 28), decide (i = 29), decide (i = 30), decide (i = 31), decide (i = 32), decide (i = 33), decide (i = 34), decide (i = 35), decide (i = 36), decide (i = 37), decide (i = 38), decide (i = 39)]) rfl (by show 40 ≤ 1000; decide) fun l18 H18 s18 g18 e18 => ?_
    refine bos_more (G := fun H => ExAt H a (cA K i) d) (σ2 := fun l => [some (.ref a), some (.ref l), none]) (fun _ => rfl) keep g18 rfl e18 (ts := [tCB (rIsX K) (tCons (tVar 0) (tCons (tC (.ref (cA K 40))) tNil))]) (cs := [decide (i = 40)]) (.cons (boT rfl T (KK.kit i hi 40 (by decide))) .nil) (es := [decide (i = 0), decide (i = 1), decide (i = 2), decide (i = 3), decide (i = 4), decide (i = 5), decide (i = 6), decide (i = 7), decide (i = 8), decide (i = 9), decide (i = 10), decide (i = 11), decide (i = 12), decide (i = 13), decide (i = 14), decide (i = 15), decide (i = 16), decide (i = 17), decide (i = 18), decide (i = 19), decide (i = 20), decide (i = 21), decide (i = 22), decide (i = 23), decide (i = 24), decide (i = 25), decide (i = 26), decide (i = 27), decide (i = 28), decide (i = 29), decide (i = 30), decide (i = 31), decide (i = 32), decide (i = 33), decide (i = 34), decide (i = 35), decide (i = 36), decide (i = 37), decide (i = 38), decide (i = 39), decide (i = 40)]) rfl (by show 41 ≤ 1000; decide) fun l19 H19 s19 g19 e19 => ?_
    have sA : Same H H19 := (Same.trans (Same.trans (Same.trans (Same.trans (Same.trans (Same.trans (Same.trans (Same.trans (Same.trans (Same.trans (Same.trans (Same.trans (Same.trans (Same.trans (Same.trans (Same.trans (Same.trans (Same.trans (Same.trans s0 s1) s2) s3) s4) s5) s6) s7) s8) s9) s10) s11) s12) s13) s14) s15) s16) s17) s18) s19)
    have eA : H19 l19 = some (.lst ((bs41 i).map V.bl)) := e19
    refine ⟨_, rfl, l19, _, rfl, .inl (SqL.of eA), 41, rfl, by decide, by decide, fun D hD => ?_⟩
    have nD : l19 ≠ D := ne_of_none eA hD
    refine lc_it (n := 41) walk_range (fun n H' => H' D = some (.lst ((idx (bs41 i) n).map fun j : Nat => V.int j)) ∧ (idx (bs41 i) n).length ≤ n ∧ Same H19 H') ⟨upd_same, Nat.le_refl _, same_new hD⟩ (fun _ _ _ _ => trivial) ?_ ?_
    · rintro n x H3 H' hn ⟨e, hl, sm⟩ ⟨rfl, rfl⟩
      have hb : (bs41 i)[n]? = some (decide (i = n)) := by
        unfold bs41
        rw [List.getElem?_map, List.getElem?_range hn]
        rfl
      have hb2 : ((bs41 i).map V.bl)[n]? = some (.bl (decide (i = n))) := by
        rw [List.getElem?_map, hb]
        rfl
      have hd : (bs41 i).getD n false = decide (i = n) := by
        rw [List.getD_eq_getElem?_getD, hb]
        rfl
      have z0 : (0 : Int) + (n : Int) = (n : Int) := by omega
      refine ⟨rfl, _, rfl, _, rfl, l19, _, n, _, rfl, (by show V.int ((0 : Int) + (n : Int)) = V.int (n : Int); rw [z0]), SqL.of (sm _ _ eA), atI_nat hb2, _, rfl, ?_⟩
      refine ite2 (fun hc => ?_) (fun hc => ?_)
      · refine ⟨_, rfl, _, e, by rw [List.length_map, sizeLine_eq]; omega, ?_, ?_, fun b o eb => ?_⟩
        · rw [upd_same]
          show some (HO.lst ((idx (bs41 i) n).map (fun j : Nat => V.int j) ++ [V.int ((0 : Int) + (n : Int))])) = some (HO.lst ((idx (bs41 i) n ++ if (bs41 i).getD n false = true then [n] else []).map fun j : Nat => V.int j))
          rw [z0, hd, if_pos hc, List.map_append]
          rfl
        · show (idx (bs41 i) n ++ if (bs41 i).getD n false = true then [n] else []).length ≤ n + 1
          rw [hd, if_pos hc, List.length_append]
          simp
          omega
        · rw [upd_ne (ne_of_none eb hD)]
          exact sm _ _ eb
      · refine ⟨?_, ?_, sm⟩
        · show _ = some (HO.lst ((idx (bs41 i) n ++ if (bs41 i).getD n false = true then [n] else []).map fun j : Nat => V.int j))
          rw [hd, if_neg hc, List.append_nil]
          exact e
        · show (idx (bs41 i) n ++ if (bs41 i).getD n false = true then [n] else []).length ≤ n + 1
          rw [hd, if_neg hc, List.append_nil]
          omega
    · rintro H' ⟨e, _, sm⟩
      rw [idx41 i hi] at e
      exact k D H' (Same.trans sA sm) e
end
end K01
namespace K01
open PySem PySem.Spec PyProof.Rows L2
mutual
theorem Dt.keep {H H' : Hp} (s : Same H H') : ∀ {x : V} {d : PyData}, Dt H x d → Dt H' x d
  | _, _, .non => .non
  | _, _, .bl b => .bl b
  | _, _, .int i => .int i
  | _, _, .str x => .str x
  | _, _, .lst e n k => .lst (s _ _ e) n (DtL.keep s k)
  | _, _, .tup e k => .tup (s _ _ e) (DtL.keep s k)
  | _, _, .dic e k1 k2 => .dic (s _ _ e) (DtL.keep s k1) (DtL.keep s k2)
theorem DtL.keep {H H' : Hp} (s : Same H H') : ∀ {xs : List V} {ds : List PyData}, DtL H xs ds → DtL H' xs ds
  | _, _, .nil => .nil
  | _, _, .cons k ks => .cons (Dt.keep s k) (DtL.keep s ks)
end
theorem Errs.at {H : Hp} {v : V} : ∀ {Cs as : List Addr} {i : Nat} {x : V}, Errs H v Cs as → (as.map V.ref)[i]? = some x → ∃ a C, x = .ref a ∧ Cs[i]? = some C ∧ Er H v C a
  | _, _, i, _, .nil, h => by cases h
  | _, _, 0, _, .cons e r, h => by
    cases h
    exact ⟨_, _, rfl, rfl, e⟩
  | _, _, i + 1, _, .cons e r, h => Errs.at (i := i) r h
theorem Er.ex {H : Hp} {v : V} {C a : Addr} (e : Er H v C a) : ∃ d, ExAt H a C d := by
  obtain ⟨dx, e1, e2⟩ := e
  exact ⟨some dx, e1, fun y hy => by cases hy; exact ⟨_, e2⟩⟩
theorem c39_at {K : PySem.W.Frag} {i : Nat} {C : Addr} (h : (C39 K)[i]? = some C) : i < 39 ∧ C = cA K i := by
  unfold C39 at h
  rw [List.getElem?_map] at h
  by_cases hi : i < 39
  · rw [List.getElem?_range hi] at h
    cases h
    exact ⟨hi, rfl⟩
  · rw [List.getElem?_eq_none (by rw [List.length_range]; omega)] at h
    cases h
theorem errs_len {H : Hp} {v : V} {K : PySem.W.Frag} {as : List Addr} (e : Errs H v (C39 K) as) : (as.map V.ref).length = 39 := by
  rw [List.length_map, ← Paired.length e]
  rfl
/-! ### _law_is_error -/
def spIsE (K : PySem.W.Frag) : Sp := fun vs H Q _ => ∃ (a : Addr) (d : Option Addr) (i : Nat), vs = [.ref a] ∧ i ≤ 41 ∧ ExAt H a (cA K i) d ∧ Q (.bl true) H
theorem scIsE : FnScope ["_law_error"] ["_law_error"] (defScope sIserror) := ⟨rfl, rfl, rfl, by decide +kernel, rfl, by decide +kernel, by decide +kernel⟩
section
variable {P : Program} {w : World} {K : PySem.W.Frag} {mg : Str → Option Value} {base : Heap} {f fC fE : Addr} {fd fdC fdE : FuncData}
theorem ok_isE (F : FnP K dIserror f fd) (TG : TGs K mg) (KK : KT K) (gIs : mg "isinstance" = none) (gV : mg "ValueError" = none) : FnOk P w K mg base CX0 1 f fd ["_law_error"] (spIsE K) := by
  refine F.ok scIsE (fun vs H Q E h => ?_) (fun cdv A outer s H vs Q E hr h => ⟨_, pss_one (ps_ret (pe_and
    (pe_callB call_isX rfl gIs (by decide +kernel) (pa_cons (pv 0) (pa_cons (pe_glob (v := .ref (cA K 41)) rfl (TG 41 "FoldError" rfl) rfl) pa_nil)))
    (pe_one (pe_callB call_isX rfl gIs (by decide +kernel) (pa_cons (pv 0) (pa_cons (pe_bltn (v := .ty "ValueError") rfl gV (by decide +kernel) rfl) pa_nil)))))), ?_⟩)
  · obtain ⟨a, d, i, rfl, _⟩ := h
    rfl
  · obtain ⟨a, d, i, rfl, hi, g, q⟩ := h
    exact ⟨_, rfl, a, cA K i, d, .ref (cA K 41), .ref _, true, rfl, g, KK.et i hi, .own _, KK.fold i hi, true, rfl,
      itT rfl ⟨_, rfl, a, cA K i, d, .ty "ValueError", .type "ValueError", true, rfl, g, KK.et i hi, .ty _, KK.ve i hi, q⟩⟩
/-! ### _law_right -/
def spRight (K : PySem.W.Frag) : Sp := fun vs H Q _ => ∃ (l : Addr) (as : List Addr) (z : Str) (v : V) (d : PyData), vs = [.ref l, .str z] ∧ H l = some (.lst (as.map V.ref)) ∧ Errs H v (C39 K) as ∧ Dt H v d ∧ d.showable = true ∧ d.depth ≤ 20 ∧
  d.shown.length ≤ sizeLine ∧ z = d.shown ∧ ∀ H', Same H H' → Q (.bl true) H'
theorem scRight : FnScope ["_law_some", "_law_noted", "_law_error", "_law_at"] ["_law_some", "_law_noted"] (defScope sRight) := ⟨rfl, rfl, rfl, by decide +kernel, rfl, by decide +kernel, by decide +kernel⟩
theorem dp_all {H : Hp} : ∀ {xs : List V} {ds : List PyData}, xs.length = ds.length → (∀ (j : Nat) x d, xs[j]? = some x → ds[j]? = some d → Dp K H x d) → DpAll K H xs ds
  | [], [], _, _ => .nil
  | [], _ :: _, h, _ => by cases h
  | _ :: _, [], h, _ => by cases h
  | x :: xs, d :: ds, h, k => .cons (k 0 x d rfl rfl) (dp_all (Nat.succ.inj h) fun j y e h1 h2 => k (j + 1) y e h1 h2)
/-- [[0], [1], ..] -/
def rows39 : List PyData := (List.range 39).map fun j => .list [.int (j : Nat)]
theorem dp_rows {H : Hp} {D : Addr} {rs : List Addr} (e : H D = some (.lst (rs.map V.ref))) (hl : rs.length = 39) (k : ∀ (j : Nat) r, rs[j]? = some r → H r = some (.lst [.int (j : Nat)])) : Dp K H (.ref D) (.list rows39) := by
  refine .lst (SqL.of e) (dp_all (by rw [List.length_map, hl]; rfl) fun j x d h1 h2 => ?_)
  rw [List.getElem?_map] at h1
  obtain ⟨r, hr, rfl⟩ := Option.map_eq_some_iff.mp h1
  have hj : j < 39 := by
    rw [← hl]
    exact (List.getElem?_eq_some_iff.mp hr).1
  have z : rows39[j]? = some (.list [.int (j : Nat)]) := by
    unfold rows39
    rw [List.getElem?_map, List.getElem?_range hj]
    rfl
  rw [z] at h2
  cases h2
  exact .lst (SqL.of (k j r hr)) (.cons (.int _) .nil)
theorem rows_ok : SeqAt.shaped (.list rows39) = true ∧ PyData.eqv (.list rows39) (.list rows39) = true := by decide +kernel
theorem nil_ok : SeqAt.shaped (.list []) = true ∧ PyData.eqv (.list []) (.list []) = true := by decide +kernel
theorem get_snoc {α : Type} {xs : List α} {y x : α} {j : Nat} (h : (xs ++ [y])[j]? = some x) : xs[j]? = some x ∨ (j = xs.length ∧ x = y) := by
  by_cases hj : j < xs.length
  · rw [List.getElem?_append_left hj] at h
    exact .inl h
  · rw [List.getElem?_append_right (by omega)] at h
    cases e : j - xs.length with
    | zero =>
      rw [e] at h
      exact .inr ⟨by omega, (Option.some.inj h).symm⟩
    | succ n =>
      rw [e] at h
      cases h
/-- one more row -/
theorem rows_more {H H1 : Hp} {D r : Addr} {rs : List Addr} (s : Same H H1) (hD : H1 D = some (.lst (rs.map V.ref))) (k : ∀ (j : Nat) q, rs[j]? = some q → H1 q = some (.lst [.int (j : Nat)]) ∧ q ≠ D) (e : H1 r = some (.lst [.int (rs.length : Nat)])) (ne : r ≠ D) :
    ∀ (j : Nat) q, (rs ++ [r])[j]? = some q → upd H1 D (.lst (rs.map V.ref ++ [.ref r])) q = some (.lst [.int (j : Nat)]) ∧ q ≠ D := fun j q h => by
  rcases get_snoc h with h | ⟨rfl, rfl⟩
  · obtain ⟨a, b⟩ := k j q h
    exact ⟨by rw [upd_ne b]; exact a, b⟩
  · exact ⟨by rw [upd_ne ne]; exact e, ne⟩
set_option maxHeartbeats 16000000 in
theorem ok_right (F : FnP K dRight f fd) (GC : FnOk P w K mg base CX0 1 fC fdC ["_law_error"] (spCode K)) (FC : FnP K dCode fC fdC) (gC : mg "_law_code" = some (.ref fC)) (GE : FnOk P w K mg base CX0 1 fE fdE ["_law_error"] (spIsE K)) (FE : FnP K dIserror fE fdE)
    (gE : mg "_law_is_error" = some (.ref fE)) (gR : mg "range" = none) (gP : mg "repr" = none) (KK : KT K) : FnG P w K mg base CX0 2 f fd ["_law_some", "_law_noted"] (spRight K) := by
  have bC : Binds K fdC ["_law_error"] [] := FC.bindsN fun _ _ _ _ _ _ us hl => match us, hl with | [_], _ => rfl
  have bE : Binds K fdE ["_law_error"] [] := FE.bindsN fun _ _ _ _ _ _ us hl => match us, hl with | [_], _ => rfl
  refine fnG_of F scRight (fun vs H Q E h => ?_) (fun cdv A outer s H vs Q E hgd hr h => ⟨_, PSs.nox (
    pss_cons (ps_if (pt_cmpR (op_neD (by have := hr.un; show (A.deeper _).units + 64 < cLine; omega))
      (pe_lc (own := [("_law_error", 2)]) (g := gName 2) (tt := tYes) (te := tCall (spCode K) [] E0 (tCons (tVar 2) tNil)) rfl scRight.nd (pi_list (pv 0)) (blkOk_by (N := ["_law_some", "_law_noted", "_law_error", "_law_at"]) (sc := defScope sRight) (by decide +kernel))
        (fun _ _ _ _ _ => pg_name (i := 2) scRight.nd rfl (.inl rfl)) (fun _ _ _ _ _ => pts_nil) (fun _ _ _ _ _ => pe_call GC hr rfl gC FC.kp bC .nil pass0 (pa_cons (pv 2) pa_nil)))
      (pe_lc (own := [("_law_at", 3)]) (g := gName 3) (tt := tYes) (te := tLst (tCons (tVar 3) tNil)) rfl scRight.nd (pi_range1 rfl gR (pa_cons pe_int pa_nil)) (blkOk_by (N := ["_law_some", "_law_noted", "_law_error", "_law_at"]) (sc := defScope sRight) (by decide +kernel))
        (fun _ _ _ _ _ => pg_name (i := 3) scRight.nd rfl (.inl rfl)) (fun _ _ _ _ _ => pts_nil) (fun _ _ _ _ _ => pe_lst (pa_cons (pv 3) pa_nil))) (nomark _))
      (pss_one (ps_ret pe_bl)) pss_nil)
    (pss_one (ps_ret (pe_cmpR (op_eqD (by have := hr.un; show (A.deeper _).units + 64 < cLine; omega))
      (pe_lc (own := [("_law_error", 2)]) (g := gName 2) (tt := tOr (tNot (tB (tCall (spIsE K) [] E0 (tCons (tVar 2) tNil)))) (tTest (tOp rNe (tCB rRepr (tCons (tVal K (tVar 2)) tNil)) (tVar 1)))) (te := tVar 2) rfl scRight.nd (pi_list (pv 0))
        (blkOk_by (N := ["_law_some", "_law_noted", "_law_error", "_law_at"]) (sc := defScope sRight) (by decide +kernel)) (fun _ _ _ _ _ => pg_name (i := 2) scRight.nd rfl (.inl rfl))
        (fun _ _ _ _ _ => pts_one (PW.pt (pw_or (pt_not (pt_val (pe_call GE hr rfl gE FE.kp bE .nil pass0 (pa_cons (pv 2) pa_nil)))) (pw_or1 (pt_cmpR op_ne (pe_callB (call_repr hgd (hr.mono (by decide))) rfl gP (by decide +kernel) (pa_cons (pe_val (pv 2)) pa_nil)) (pv 1) (nomark _))))))
        (fun _ _ _ _ _ => pv 2))
      (pe_lst pa_nil) (nomark _))))), ?_⟩)
  · obtain ⟨l, as, z, v, d, rfl, _⟩ := h
    rfl
  · obtain ⟨l, as, z, v, d, rfl, hl, hE, hd, sh, dep, sz, rfl, k⟩ := h
    have n39 := errs_len hE
    refine ⟨_, rfl, l, rfl, ⟨_, SqL.of hl⟩, fun D hD => ?_⟩
    refine lc_it (walk_list (xs := as.map V.ref)) (fun n H' => Same H H' ∧ ∃ rs : List Addr, H' D = some (.lst (rs.map V.ref)) ∧ rs.length = n ∧ ∀ (j : Nat) q, rs[j]? = some q → H' q = some (.lst [.int (j : Nat)]) ∧ q ≠ D) ?_ ?_ ?_ ?_
    · exact ⟨same_new hD, [], upd_same, rfl, by simp⟩
    · rintro i H' _ ⟨s, _⟩
      exact SqL.of (s _ _ hl)
    · rintro n x H3 H' hn ⟨s, rs, e, hrs, kk⟩ ⟨rfl, hx⟩
      obtain ⟨a, C, rfl, hC, er⟩ := hE.at hx
      obtain ⟨hi, rfl⟩ := c39_at hC
      obtain ⟨dd, ex⟩ := (er.keep s).ex
      refine ⟨rfl, _, rfl, a, dd, n, rfl, by omega, ex, fun q H4 s4 e4 => ?_⟩
      rw [if_pos (show n < 41 by omega)] at e4
      have ne : q ≠ D := fun w => by
        rw [w, s4 _ _ e] at e4
        have w2 := HO.lst.inj (Option.some.inj e4)
        cases rs with
        | nil => cases w2
        | cons y r => cases (List.cons.inj w2).1
      refine ⟨rs.map V.ref, s4 _ _ e, by rw [List.length_map, hrs, sizeLine_eq]; omega, fun b o eb => ?_, rs ++ [q], by rw [upd_same, List.map_append]; rfl, by rw [List.length_append, hrs]; rfl, ?_⟩
      · rw [upd_ne (ne_of_none eb hD)]
        exact s4 _ _ (s _ _ eb)
      · exact rows_more s4 (s4 _ _ e) (fun j q h => ⟨s4 _ _ (kk j q h).1, (kk j q h).2⟩) (by rw [hrs]; exact e4) ne
    · rintro H1 ⟨s1, rs, e1, l1, k1⟩
      refine ⟨39, rfl, by decide, by decide, fun D2 hD2 => ?_⟩
      refine lc_it (n := 39) walk_range (fun n H' => Same H1 H' ∧ ∃ rs : List Addr, H' D2 = some (.lst (rs.map V.ref)) ∧ rs.length = n ∧ ∀ (j : Nat) q, rs[j]? = some q → H' q = some (.lst [.int (j : Nat)]) ∧ q ≠ D2) ?_ (fun _ _ _ _ => trivial) ?_ ?_
      · exact ⟨same_new hD2, [], upd_same, rfl, by simp⟩
      · rintro n x H3 H' hn ⟨s, ts, e, hts, kk⟩ ⟨rfl, rfl⟩
        refine ⟨rfl, _, rfl, (by show 1 ≤ sizeLine; rw [sizeLine_eq]; decide), fun q hq => ?_⟩
        have ne : q ≠ D2 := Ne.symm (ne_of_none e hq)
        have s4 : Same H' (upd H' q (.lst [.int ((0 : Int) + (n : Int))])) := same_new hq
        refine ⟨ts.map V.ref, s4 _ _ e, by rw [List.length_map, hts, sizeLine_eq]; omega, fun b o eb => ?_, ts ++ [q], by rw [upd_same, List.map_append]; rfl, by rw [List.length_append, hts]; rfl, ?_⟩
        · rw [upd_ne (ne_of_none eb hD2)]
          exact s4 _ _ (s _ _ eb)
        · refine rows_more s4 (s4 _ _ e) (fun j q h => ⟨s4 _ _ (kk j q h).1, (kk j q h).2⟩) ?_ ne
          rw [upd_same, hts]
          have z0 : (0 : Int) + (n : Int) = (n : Int) := by omega
          show some (HO.lst [V.int ((0 : Int) + (n : Int))]) = some (HO.lst [V.int (n : Nat)])
          rw [z0]
      · rintro H2 ⟨s2, ts, e2, l2, k2⟩
        refine ⟨.list rows39, .list rows39, dp_rows (s2 _ _ e1) (l1.trans n39) (fun j r h => s2 _ _ (k1 j r h).1), dp_rows e2 l2 (fun j r h => (k2 j r h).1), rows_ok.1, rows_ok.1, _, rfl, ?_⟩
        refine itF (by rw [rows_ok.2]; rfl) ?_
        have sA : Same H H2 := Same.trans s1 s2
        have hlA := sA _ _ hl
        have hEA := hE.keep sA
        refine ⟨_, rfl, l, rfl, ⟨_, SqL.of hlA⟩, fun D3 hD3 => ?_⟩
        refine lc_it (walk_list (xs := as.map V.ref)) (fun n H' => Same H2 H' ∧ H' D3 = some (.lst [])) ⟨same_new hD3, upd_same⟩ ?_ ?_ ?_
        · rintro i H' _ ⟨s, _⟩
          exact SqL.of (s _ _ hlA)
        · rintro n x H3 H' hn ⟨s, e⟩ ⟨rfl, hx⟩
          obtain ⟨a, C, rfl, hC, er⟩ := hEA.at hx
          obtain ⟨hi, rfl⟩ := c39_at hC
          obtain ⟨dd, ex⟩ := (er.keep s).ex
          obtain ⟨dx, x1, x2⟩ := er.keep s
          refine ⟨rfl, _, rfl, a, dd, n, rfl, by omega, ex, _, rfl, itF rfl ?_⟩
          refine ⟨_, rfl, a, cA K n, dx, v, rfl, KK.et n (by omega), x1, x2, v, d, rfl, Dt.keep s (Dt.keep sA hd), sh, dep, sz, _, rfl, rfl, _, rfl, ?_⟩
          refine itF ?_ ⟨s, e⟩
          simp
        · rintro H3 ⟨s3, e3⟩
          refine ⟨(by show 0 ≤ sizeLine; exact Nat.zero_le _), fun p hp => ?_⟩
          refine ⟨.list [], .list [], .lst (SqL.of ((same_new hp) _ _ e3)) .nil, .lst (SqL.of upd_same) .nil, nil_ok.1, nil_ok.1, ?_⟩
          rw [nil_ok.2]
          exact k _ (Same.trans sA (Same.trans s3 (same_new hp)))
end
end K01
namespace K01
open PySem PySem.Spec PyProof.Rows L2
/-- a datum that repr shows -/
structure Fit (d : PyData) : Prop where
  sh : d.showable = true
  dp : d.depth ≤ 20
  sz : d.shown.length ≤ sizeLine
theorem wd_len {w : Str} (h : Wd w) : (reprText w).length ≤ 82 := by
  have z := StrLaws.reprText_len w fun c hc => Nat.lt_of_lt_of_le (h.2 c hc) (by decide)
  have l := h.1
  omega
theorem small_fit {n : Nat} (h : n ≤ 5000) : n ≤ sizeLine := by
  rw [sizeLine_eq]
  omega
theorem len_l (ds : List PyData) : (PyData.list ds).shown.length ≤ ((PyData.shownAll ds).map (·.length)).sum + 2 * (PyData.shownAll ds).length + 3 := by
  simp only [PyData.shown]
  exact listText_len_le _
theorem len_t (ds : List PyData) : (PyData.tuple ds).shown.length ≤ ((PyData.shownAll ds).map (·.length)).sum + 2 * (PyData.shownAll ds).length + 3 := by
  simp only [PyData.shown]
  exact tupleText_len_le _
theorem len_d (ds : List (PyData × PyData)) : (PyData.dict ds).shown.length ≤ ((PyData.shownKv ds).map (·.length)).sum + 2 * (PyData.shownKv ds).length + 3 := by
  simp only [PyData.shown]
  exact dictText_len_le _
theorem len_s (w : Str) : (PyData.str w).shown.length = (reprText w).length := by simp only [PyData.shown]
theorem len_kv (k v : PyData) : (k.shown ++ ": " ++ v.shown).length = k.shown.length + 2 + v.shown.length := by
  rw [strLen_append, strLen_append]
  rfl
section
variable {w : Str} (h : Wd w)
include h
theorem l1_len : (PyData.list [.str w]).shown.length ≤ 100 := by
  have z := len_l [.str w]
  have s := len_s w
  have b := wd_len h
  simp only [PyData.shownAll, List.map_cons, List.map_nil, List.sum_cons, List.sum_nil, List.length_cons, List.length_nil] at z
  omega
theorem l2_len : (PyData.list [.str w, .str "later"]).shown.length ≤ 200 := by
  have z := len_l [.str w, .str "later"]
  have s := len_s w
  have s2 := len_s "later"
  have b := wd_len h
  have c : (reprText "later").length = 7 := by decide +kernel
  simp only [PyData.shownAll, List.map_cons, List.map_nil, List.sum_cons, List.sum_nil, List.length_cons, List.length_nil] at z
  omega
theorem o1_len : (PyData.dict [(.str "odd", .str w)]).shown.length ≤ 200 := by
  have z := len_d [(.str "odd", .str w)]
  have s := len_s w
  have s2 := len_s "odd"
  have b := wd_len h
  have c : (reprText "odd").length = 5 := by decide +kernel
  simp only [PyData.shownKv, List.map_cons, List.map_nil, List.sum_cons, List.sum_nil, List.length_cons, List.length_nil, len_kv] at z
  omega
theorem fit_str : Fit (.str w) := ⟨rfl, by simp [PyData.depth], small_fit (by have := wd_len h; rw [len_s]; omega)⟩
theorem fit_says : Fit (.tuple [.str "says", .str w, .int 1, .int 2]) := by
  refine ⟨(by simp [PyData.showable, PyData.showableAll]; try decide), by simp [PyData.depth, PyData.depthAll], small_fit ?_⟩
  have z := len_t [.str "says", .str w, .int 1, .int 2]
  have s := len_s w
  have b := wd_len h
  have c : (PyData.str "says").shown.length = 6 := by decide +kernel
  have c1 : (PyData.int 1).shown.length = 1 := by decide +kernel
  have c2 : (PyData.int 2).shown.length = 1 := by decide +kernel
  simp only [PyData.shownAll, List.map_cons, List.map_nil, List.sum_cons, List.sum_nil, List.length_cons, List.length_nil] at z
  omega
theorem fit_later : Fit (.tuple [.str "later", .str w]) := by
  refine ⟨(by simp [PyData.showable, PyData.showableAll]; try decide), by simp [PyData.depth, PyData.depthAll], small_fit ?_⟩
  have z := len_t [.str "later", .str w]
  have s := len_s w
  have b := wd_len h
  have c : (PyData.str "later").shown.length = 7 := by decide +kernel
  simp only [PyData.shownAll, List.map_cons, List.map_nil, List.sum_cons, List.sum_nil, List.length_cons, List.length_nil] at z
  omega
theorem fit_tl : Fit (.tuple [.str w, .list [.str w]]) := by
  refine ⟨(by simp [PyData.showable, PyData.showableAll]; try decide), by simp [PyData.depth, PyData.depthAll], small_fit ?_⟩
  have z := len_t [.str w, .list [.str w]]
  have s := len_s w
  have b := wd_len h
  have c := l1_len h
  simp only [PyData.shownAll, List.map_cons, List.map_nil, List.sum_cons, List.sum_nil, List.length_cons, List.length_nil] at z
  omega
theorem fit_tl2 : Fit (.tuple [.str w, .list [.str w, .str "later"]]) := by
  refine ⟨(by simp [PyData.showable, PyData.showableAll]; try decide), by simp [PyData.depth, PyData.depthAll], small_fit ?_⟩
  have z := len_t [.str w, .list [.str w, .str "later"]]
  have s := len_s w
  have b := wd_len h
  have c := l2_len h
  simp only [PyData.shownAll, List.map_cons, List.map_nil, List.sum_cons, List.sum_nil, List.length_cons, List.length_nil] at z
  omega
theorem fit_d : Fit (.dict [(.str w, .list [.str w])]) := by
  refine ⟨(by simp [PyData.showable, PyData.showableAll, PyData.showableKv]; try decide), by simp [PyData.depth, PyData.depthAll, PyData.depthKv], small_fit ?_⟩
  have z := len_d [(.str w, .list [.str w])]
  have s := len_s w
  have b := wd_len h
  have c := l1_len h
  simp only [PyData.shownKv, List.map_cons, List.map_nil, List.sum_cons, List.sum_nil, List.length_cons, List.length_nil, len_kv] at z
  omega
theorem fit_d2 : Fit (.dict [(.str w, .list [.str w, .str "later"]), (.str "LATER", .int 1)]) := by
  refine ⟨(by simp [PyData.showable, PyData.showableAll, PyData.showableKv]; try decide), by simp [PyData.depth, PyData.depthAll, PyData.depthKv], small_fit ?_⟩
  have z := len_d [(.str w, .list [.str w, .str "later"]), (.str "LATER", .int 1)]
  have s := len_s w
  have b := wd_len h
  have c := l2_len h
  have c1 : (PyData.str "LATER").shown.length = 7 := by decide +kernel
  have c2 : (PyData.int 1).shown.length = 1 := by decide +kernel
  simp only [PyData.shownKv, List.map_cons, List.map_nil, List.sum_cons, List.sum_nil, List.length_cons, List.length_nil, len_kv] at z
  omega
theorem fit_d3 : Fit (.dict [(.str w, .int 1)]) := by
  refine ⟨(by simp [PyData.showable, PyData.showableAll, PyData.showableKv]; try decide), by simp [PyData.depth, PyData.depthAll, PyData.depthKv], small_fit ?_⟩
  have z := len_d [(.str w, .int 1)]
  have s := len_s w
  have b := wd_len h
  have c2 : (PyData.int 1).shown.length = 1 := by decide +kernel
  simp only [PyData.shownKv, List.map_cons, List.map_nil, List.sum_cons, List.sum_nil, List.length_cons, List.length_nil, len_kv] at z
  omega
theorem fit_l : Fit (.list [.str w]) := ⟨(by simp [PyData.showable, PyData.showableAll]; try decide), by simp [PyData.depth, PyData.depthAll], small_fit (by have := l1_len h; omega)⟩
theorem fit_l2 : Fit (.list [.str w, .str "later"]) := ⟨(by simp [PyData.showable, PyData.showableAll]; try decide), by simp [PyData.depth, PyData.depthAll], small_fit (by have := l2_len h; omega)⟩
theorem fit_n : Fit (.list [.list [.str w], .dict [(.str "odd", .str w)]]) := by
  refine ⟨(by simp [PyData.showable, PyData.showableAll, PyData.showableKv]; try decide), by simp [PyData.depth, PyData.depthAll, PyData.depthKv], small_fit ?_⟩
  have z := len_l [.list [.str w], .dict [(.str "odd", .str w)]]
  have b := l1_len h
  have c := o1_len h
  simp only [PyData.shownAll, List.map_cons, List.map_nil, List.sum_cons, List.sum_nil, List.length_cons, List.length_nil] at z
  omega
theorem fit_n2 : Fit (.list [.list [.str w], .dict [(.str "odd", .str w)], .str "later"]) := by
  refine ⟨(by simp [PyData.showable, PyData.showableAll, PyData.showableKv]; try decide), by simp [PyData.depth, PyData.depthAll, PyData.depthKv], small_fit ?_⟩
  have z := len_l [.list [.str w], .dict [(.str "odd", .str w)], .str "later"]
  have b := l1_len h
  have c := o1_len h
  have c1 : (PyData.str "later").shown.length = 7 := by decide +kernel
  simp only [PyData.shownAll, List.map_cons, List.map_nil, List.sum_cons, List.sum_nil, List.length_cons, List.length_nil] at z
  omega
end
theorem fit_non : Fit .none := ⟨rfl, by decide, by decide +kernel⟩
theorem fit_bool (b : Bool) : Fit (.bool b) := ⟨rfl, by simp [PyData.depth], by cases b <;> decide +kernel⟩
theorem fit_int {i : Int} (h : i.natAbs.log2 < 1920) : Fit (.int i) := ⟨decide_eq_true h, by simp [PyData.depth], by simp only [PyData.shown]; exact int_text_fits h⟩
/-- the things that are drawn -/
inductive Th (H : Hp) (w : Str) : V → Prop
  | non : Th H w .non
  | bl (b : Bool) : Th H w (.bl b)
  | int (i : Int) (h : i.natAbs.log2 < 1920) : Th H w (.int i)
  | str : Th H w (.str w)
  | says (a : Addr) (e : H a = some (.tup [.str "says", .str w, .int 1, .int 2])) : Th H w (.ref a)
  | tl (a b : Addr) (e : H a = some (.tup [.str w, .ref b])) (eb : H b = some (.lst [.str w])) (nb : (b == sysModules) = false) : Th H w (.ref a)
  | dl (a b : Addr) (e : H a = some (.dK [(.inr w, .ref b)])) (eb : H b = some (.lst [.str w])) (nb : (b == sysModules) = false) : Th H w (.ref a)
  | l (a : Addr) (e : H a = some (.lst [.str w])) (na : (a == sysModules) = false) : Th H w (.ref a)
  | n (a b c : Addr) (e : H a = some (.lst [.ref b, .ref c])) (na : (a == sysModules) = false) (eb : H b = some (.lst [.str w])) (nb : (b == sysModules) = false) (ec : H c = some (.dK [(.inr "odd", .str w)])) : Th H w (.ref a)
theorem Th.keep {H H' : Hp} {w : Str} {x : V} (s : Same H H') (t : Th H w x) : Th H' w x := by
  cases t with
  | non => exact .non
  | bl b => exact .bl b
  | int i h => exact .int i h
  | str => exact .str
  | says a e => exact .says a (s _ _ e)
  | tl a b e eb nb => exact .tl a b (s _ _ e) (s _ _ eb) nb
  | dl a b e eb nb => exact .dl a b (s _ _ e) (s _ _ eb) nb
  | l a e na => exact .l a (s _ _ e) na
  | n a b c e na eb nb ec => exact .n a b c (s _ _ e) na (s _ _ eb) nb (s _ _ ec)
theorem Th.dat {H : Hp} {w : Str} {x : V} (hw : Wd w) (t : Th H w x) : ∃ d, Dt H x d ∧ Fit d := by
  cases t with
  | non => exact ⟨_, .non, fit_non⟩
  | bl b => exact ⟨_, .bl b, fit_bool b⟩
  | int i h => exact ⟨_, .int i, fit_int h⟩
  | str => exact ⟨_, .str w, fit_str hw⟩
  | says a e => exact ⟨_, .tup e (.cons (.str _) (.cons (.str _) (.cons (.int _) (.cons (.int _) .nil)))), fit_says hw⟩
  | tl a b e eb nb => exact ⟨_, .tup e (.cons (.str _) (.cons (.lst eb nb (.cons (.str _) .nil)) .nil)), fit_tl hw⟩
  | dl a b e eb nb => exact ⟨.dict [(.str w, .list [.str w])], .dic e (.cons (.str _) .nil) (.cons (.lst eb nb (.cons (.str _) .nil)) .nil), fit_d hw⟩
  | l a e na => exact ⟨_, .lst e na (.cons (.str _) .nil), fit_l hw⟩
  | n a b c e na eb nb ec => exact ⟨.list [.list [.str w], .dict [(.str "odd", .str w)]], .lst e na (.cons (.lst eb nb (.cons (.str _) .nil)) (.cons (.dic ec (.cons (.str _) .nil) (.cons (.str _) .nil)) .nil)), fit_n hw⟩
end K01
namespace K01
open PySem PySem.Spec PyProof.Rows L2
/-- three statements, then the rest, with a word between -/
def tCut3 (t1 t2 t3 u : TS) : TS := fun D σ H => ∃ Mid : L2.St → Hp → Prop, t1 { D with nx := fun σ H => t2 { D with nx := fun σ H => t3 { D with nx := Mid } σ H } σ H } σ H ∧ ∀ σ' H', Mid σ' H' → u D σ' H'
theorem pss_cut3 {X : Cx} {s1 s2 s3 : Stmt} {rest : List Stmt} {t1 t2 t3 u : TS} (h1 : PS X s1 t1) (h2 : PS X s2 t2) (h3 : PS X s3 t3) (hr : PSs X rest u) : PSs X (s1 :: s2 :: s3 :: rest) (tCut3 t1 t2 t3 u) := by
  refine ⟨fun pins s σ H D I h => ?_⟩
  obtain ⟨Mid, hm, hu⟩ := h
  refine wpAny_execs_cons (thn (h1.run pins s σ H _ I hm) fun f s1 q => ?_)
  cases f with
  | ret v => exact q
  | brk => exact q
  | cont => exact q
  | next =>
    obtain ⟨σ1, H1, I1, q⟩ := q
    refine wpAny_execs_cons (thn (h2.run pins s1 σ1 H1 _ I1 q) fun f s2 q => ?_)
    cases f with
    | ret v => exact q
    | brk => exact q
    | cont => exact q
    | next =>
      obtain ⟨σ2, H2, I2, q⟩ := q
      refine wpAny_execs_cons (thn (h3.run pins s2 σ2 H2 _ I2 q) fun f s3 q => ?_)
      cases f with
      | ret v => exact q
      | brk => exact q
      | cont => exact q
      | next =>
        obtain ⟨σ3, H3, I3, q⟩ := q
        exact hr.run pins s3 σ3 H3 D I3 (hu σ3 H3 q)
theorem isi_red {K : PySem.W.Frag} {H : Hp} {σ : L2.St} {x : V} {i : Nat} {T t : String} {b : Bool} {Q : Bool → Hp → Prop} (hx : σ[i]? = some (some x)) (ty : TyX K H x (.type t)) (kb : kitB t T = some b) (q : Q b H) :
    tB (tCB (rIsi K) (tCons (tVar i) (tCons (tC (.ty T)) tNil))) σ H Q := ⟨_, hx, x, .ty T, .type t, .type T, b, rfl, .ty _, ty, kit_ty kb, b, rfl, q⟩
theorem Errs.put {H : Hp} {v : V} {a : Addr} {o u : HO} (h : H a = some o) (ho : ∀ φ, o ≠ HO.ext φ) : ∀ {Cs as : List Addr}, Errs H v Cs as → Errs (upd H a u) v Cs as
  | _, _, .nil => .nil
  | _, _, .cons ⟨dx, e1, e2⟩ r => by
    refine .cons ⟨dx, ?_, ?_⟩ (Errs.put h ho r)
    · rw [upd_ne (ne_of e1 h fun z => ho _ z.symm)]
      exact e1
    · rw [upd_ne (ne_of e2 h fun z => ho _ z.symm)]
      exact e2
/-- what stays where an object of the thing's is written -/
theorem put5 {K : PySem.W.Frag} {H : Hp} {a l p ls lc : Addr} {o u : HO} {x : V} {as bs : List Addr} (h : H a = some o) (ho : ∀ φ, o ≠ HO.ext φ) (h1 : o ≠ .lst [.ref p]) (h39 : ∀ xs : List V, xs.length = 39 → o ≠ .lst xs)
    (el : H l = some (.lst [.ref p])) (els : H ls = some (.lst (as.map V.ref))) (Eas : Errs H x (C39 K) as) (elc : H lc = some (.lst (bs.map V.ref))) (Ebs : Errs H x (C39 K) bs) :
    upd H a u l = some (.lst [.ref p]) ∧ upd H a u ls = some (.lst (as.map V.ref)) ∧ Errs (upd H a u) x (C39 K) as ∧ upd H a u lc = some (.lst (bs.map V.ref)) ∧ Errs (upd H a u) x (C39 K) bs := by
  refine ⟨?_, ?_, Eas.put h ho, ?_, Ebs.put h ho⟩
  · rw [upd_ne (ne_of el h fun z => h1 z.symm)]
    exact el
  · rw [upd_ne (ne_of els h fun z => h39 _ (errs_len Eas) z.symm)]
    exact els
  · rw [upd_ne (ne_of elc h fun z => h39 _ (errs_len Ebs) z.symm)]
    exact elc
abbrev NL : List Str := ["_law_script", "_law_purse_here", "_law_word_here", "_law_plain", "_law_thing", "_law_noted", "_law_some", "_law_called_here", "_law_later", "_law_rest", "_law_error"]
def spLaw (K : PySem.W.Frag) : Sp := fun vs H Q _ => ∃ (a : Addr) (ns : List Int), vs = [.ref a] ∧ SqL K H a (ns.map V.int) ∧ ns.length ≤ 63 ∧ ∀ H', Q (.bl true) H'
theorem scLaw : FnScope NL ["_law_script"] (defScope sLaw) := ⟨rfl, rfl, rfl, by decide +kernel, rfl, by decide +kernel, by decide +kernel⟩
/-- all that the law's own defs promise -/
structure LawD (P : Program) (w : World) (K : PySem.W.Frag) (mg : Str → Option Value) (base : Heap) : Prop where
  purses : ∃ f fd, FnOk P w K mg base CX0 2 f fd ["_law_script", "_law_few"] (spPurses K) ∧ FnP K dPurses f fd ∧ mg "_law_purses" = some (.ref f)
  word : ∃ f fd, FnOk P w K mg base CX0 3 f fd ["_law_purse_here"] spWord ∧ FnP K dWord f fd ∧ mg "_law_word" = some (.ref f)
  one : ∃ f fd, FnOk P w K mg base CX0 3 f fd ["_law_purse_here", "_law_some"] (spOne K) ∧ FnP K dOneof f fd ∧ mg "_law_one_of" = some (.ref f)
  first : ∃ f fd, FnOk P w K mg base CX0 3 f fd ["_law_thing"] (spMade K) ∧ FnP K dFirst f fd ∧ mg "_law_first" = some (.ref f)
  called : ∃ f fd, FnOk P w K mg base CX0 3 f fd ["_law_thing"] (spMade K) ∧ FnP K dCalled f fd ∧ mg "_law_called" = some (.ref f)
  bare : ∃ f fd, FnOk P w K mg base CX0 3 f fd [] (spBare K) ∧ FnP K dBare f fd ∧ mg "_law_bare" = some (.ref f)
  code : ∃ f fd, FnOk P w K mg base CX0 1 f fd ["_law_error"] (spCode K) ∧ FnP K dCode f fd ∧ mg "_law_code" = some (.ref f)
  isE : ∃ f fd, FnOk P w K mg base CX0 1 f fd ["_law_error"] (spIsE K) ∧ FnP K dIserror f fd ∧ mg "_law_is_error" = some (.ref f)
  right : ∃ f fd, FnG P w K mg base CX0 2 f fd ["_law_some", "_law_noted"] (spRight K) ∧ FnP K dRight f fd ∧ mg "_law_right" = some (.ref f)
section
variable {P : Program} {w : World} {K : PySem.W.Frag} {mg : Str → Option Value} {base : Heap} {f : Addr} {fd : FuncData}
theorem ok_law (F : FnP K dLaw f fd) (L : LawD P w K mg base) (TG : TGs K mg) (KK : KT K) (ex : ∀ i, 39 ≤ i → i ≤ 41 → PySem.W.excIn K (cA K i) ve "ValueError.__new__" = true)
    (gRp : mg "repr" = none) (gIs : mg "isinstance" = none) (gLi : mg "list" = none) (gDi : mg "dict" = none) (gTu : mg "tuple" = none) (gAl : mg "all" = none) : FnG P w K mg base CX0 4 f fd ["_law_script"] (spLaw K) := by
  obtain ⟨fPs, fdPs, GPs, FPs, gPs⟩ := L.purses
  obtain ⟨fW, fdW, GW, FW, gW⟩ := L.word
  obtain ⟨fO, fdO, GO, FO, gO⟩ := L.one
  obtain ⟨fF, fdF, GF, FF, gF⟩ := L.first
  obtain ⟨fCa, fdCa, GCa, FCa, gCa⟩ := L.called
  obtain ⟨fB, fdB, GB, FB, gB⟩ := L.bare
  obtain ⟨fC, fdC, GC, FC, gC⟩ := L.code
  obtain ⟨fE, fdE, GE, FE, gE⟩ := L.isE
  obtain ⟨fR, fdR, GR, FR, gR⟩ := L.right
  have bPs : Binds K fdPs ["_law_script", "_law_few"] [] := FPs.bindsN fun _ _ _ _ _ _ us hl => match us, hl with | [_, _], _ => rfl
  have bW : Binds K fdW ["_law_purse_here"] [] := FW.bindsN fun _ _ _ _ _ _ us hl => match us, hl with | [_], _ => rfl
  have bO : Binds K fdO ["_law_purse_here", "_law_some"] [] := FO.bindsN fun _ _ _ _ _ _ us hl => match us, hl with | [_, _], _ => rfl
  have bF : Binds K fdF ["_law_thing"] [] := FF.bindsN fun _ _ _ _ _ _ us hl => match us, hl with | [_], _ => rfl
  have bCa : Binds K fdCa ["_law_thing"] [] := FCa.bindsN fun _ _ _ _ _ _ us hl => match us, hl with | [_], _ => rfl
  have bB : Binds K fdB [] [] := FB.bindsN fun _ _ _ _ _ _ us hl => match us, hl with | [], _ => rfl
  have bC : Binds K fdC ["_law_error"] [] := FC.bindsN fun _ _ _ _ _ _ us hl => match us, hl with | [_], _ => rfl
  have bE : Binds K fdE ["_law_error"] [] := FE.bindsN fun _ _ _ _ _ _ us hl => match us, hl with | [_], _ => rfl
  have bR : Binds K fdR ["_law_some", "_law_noted"] [] := FR.bindsN fun _ _ _ _ _ _ us hl => match us, hl with | [_, _], _ => rfl
  refine fnG_of F scLaw (fun vs H Q E h => ?_) (fun cdv A outer s H vs Q E hgd hr h => ?_)
  · obtain ⟨a, ns, rfl, _⟩ := h
    rfl
  have h1 : Room 1 (A.deeper (envOfC dLaw.qual dLaw.scope s.heap.objs.size f cdv)) := hr.mono (by decide)
  have h2 : Room 2 (A.deeper (envOfC dLaw.qual dLaw.scope s.heap.objs.size f cdv)) := hr.mono (by decide)
  have h0 : Room 0 (A.deeper (envOfC dLaw.qual dLaw.scope s.heap.objs.size f cdv)) := hr.mono (by decide)
  have hu : (A.deeper (envOfC dLaw.qual dLaw.scope s.heap.objs.size f cdv)).units + 64 < cLine := by
    have := hr.un
    omega
  refine ⟨_, PSs.nox (
    pss_cons (ps_for PassesOwn.never rfl (pi_list (pe_call GPs h2 rfl gPs FPs.kp bPs .nil pass0 (pa_cons (pv 0) (pa_cons (pe_int) pa_nil)))) (pg_name (i := 1) scLaw.nd rfl (.inl rfl))
      (pss_cons (ps_set (i := 2) scLaw.nd rfl (.inl rfl) (pe_call GW hr rfl gW FW.kp bW .nil pass0 (pa_cons (pv 1) pa_nil)))
      (pss_cons (ps_set (i := 3) scLaw.nd rfl (.inl rfl) (pe_lst (pa_cons (pe_non) (pa_cons (pe_bl) (pa_cons (pe_bl) (pa_cons (pe_int) (pa_cons (pv 2) (pa_cons (pe_un un_neg (pe_ix ix_list (pv 1) pe_int (fun _ _ => rfl))) (pa_cons (pe_tup (pa_cons (pe_str) (pa_cons (pv 2) (pa_cons (pe_int) (pa_cons (pe_int) pa_nil))))) (pa_cons (pe_tup (pa_cons (pv 2) (pa_cons (pe_lstS (pa_cons (pv 2) pa_nil)) pa_nil))) (pa_cons (pe_disp (pps_cons (pv 2) (pe_lstS (pa_cons (pv 2) pa_nil)) pps_nil) rfl rfl (by simp) (by decide)) pa_nil)))))))))))
      (C8.pss_cut (ps_set (i := 4) scLaw.nd rfl (.inl rfl) (pe_call GO hr rfl gO FO.kp bO .nil pass0 (pa_cons (pv 1) (pa_cons (pe_op op_cat (pv 3) (pe_lst (pa_cons (pe_lstS (pa_cons (pv 2) pa_nil)) (pa_cons (pe_lstS (pa_cons (pe_lstS (pa_cons (pv 2) pa_nil)) (pa_cons (pe_disp (pps_cons pe_str (pv 2) pps_nil) rfl rfl (by simp) (by decide)) pa_nil))) pa_nil)))) pa_nil))))
      (pss_cons (ps_set (i := 5) scLaw.nd rfl (.inl rfl) (pe_callB (call_repr hgd h0) rfl gRp (by decide +kernel) (pa_cons (pv 4) pa_nil)))
      (pss_cons (ps_par3 (i := 6) (j := 7) (l := 8) rfl scLaw.nd rfl rfl rfl (by decide) (by decide) (by decide) rfl rfl rfl (pa_cons (pe_call GF hr rfl gF FF.kp bF .nil pass0 (pa_cons (pv 4) pa_nil)) (pa_cons (pe_call GCa hr rfl gCa FCa.kp bCa .nil pass0 (pa_cons (pv 4) pa_nil)) (pa_cons (pe_call GF hr rfl gF FF.kp bF .nil pass0 (pa_cons (pe_tup (pa_cons pe_str (pa_cons (pv 2) pa_nil))) pa_nil)) pa_nil))) rfl)
      (pss_cons (ps_if (PW.pt (pw_or (pt_not (pt_val (pe_callG hgd GR h2 rfl gR FR.kp bR pass0 (pa_cons (pe_call0 GB hr rfl gB FB.kp bB .nil pass0) (pa_cons (pe_str) pa_nil))))) (pw_or1 (pt_not (pt_val (pe_callG hgd GR h2 rfl gR FR.kp bR pass0 (pa_cons (pv 8) (pa_cons (pe_callB (call_repr hgd h0) rfl gRp (by decide +kernel) (pa_cons (pe_tup (pa_cons pe_str (pa_cons (pv 2) pa_nil))) pa_nil)) pa_nil))))))))
          (pss_one (ps_ret pe_bl)) pss_nil)
      (C8.pss_cut (ps_if (PW.pt (pw_or (pt_not (pt_val (pe_callG hgd GR h2 rfl gR FR.kp bR pass0 (pa_cons (pv 6) (pa_cons (pv 5) pa_nil))))) (pw_or1 (pt_not (pt_val (pe_callG hgd GR h2 rfl gR FR.kp bR pass0 (pa_cons (pv 7) (pa_cons (pv 5) pa_nil))))))))
          (pss_one (ps_ret pe_bl)) pss_nil)
      (pss_cut3 (ps_if (pt_val (pe_callB call_isi rfl gIs (by decide +kernel) (pa_cons (pv 4) (pa_cons (pe_bltn (v := .ty "list") rfl gLi (by decide +kernel) rfl) pa_nil))))
          (pss_one (ps_expr (pe_bm PySem.F.plainAttrs_list PySem.F.slot_list_append PySem.F.type_list_append mt_append (pv 4) (pa_cons (pe_str) pa_nil)))) pss_nil)
        (ps_if (pt_val (pe_callB call_isi rfl gIs (by decide +kernel) (pa_cons (pv 4) (pa_cons (pe_bltn (v := .ty "dict") rfl gDi (by decide +kernel) rfl) pa_nil))))
          (pss_cons (ps_expr (pe_bm PySem.F.plainAttrs_list PySem.F.slot_list_append PySem.F.type_list_append mt_append (pe_dget (by show (A.deeper _).units + 1 < cLine; omega) (pv 4) (pv 2) (fun _ _ => rfl)) (pa_cons (pe_str) pa_nil))) (pss_one (ps_dput (by show (A.deeper _).units + 1 < cLine; omega) (pv 4) pe_str pe_int rfl))) pss_nil)
        (ps_if (PW.pt (pw_and (pt_val (pe_callB call_isi rfl gIs (by decide +kernel) (pa_cons (pv 4) (pa_cons (pe_bltn (v := .ty "tuple") rfl gTu (by decide +kernel) rfl) pa_nil)))) (pw_and1 (pt_val (pe_callB call_isi rfl gIs (by decide +kernel) (pa_cons (pe_ix ix_tup (pv 4) pe_int (fun _ _ => rfl)) (pa_cons (pe_bltn (v := .ty "list") rfl gLi (by decide +kernel) rfl) pa_nil)))))))
          (pss_one (ps_expr (pe_bm PySem.F.plainAttrs_list PySem.F.slot_list_append PySem.F.type_list_append mt_append (pe_ix ix_tup (pv 4) pe_int (fun _ _ => rfl)) (pa_cons (pe_str) pa_nil)))) pss_nil)
      (pss_one (ps_if (PW.pt (pw_or (pt_not (pt_val (pe_callG hgd GR h2 rfl gR FR.kp bR pass0 (pa_cons (pv 6) (pa_cons (pe_callB (call_repr hgd h0) rfl gRp (by decide +kernel) (pa_cons (pv 4) pa_nil)) pa_nil))))) (pw_or1 (pt_not (pt_val (pe_callG hgd GR h2 rfl gR FR.kp bR pass0 (pa_cons (pv 7) (pa_cons (pe_callB (call_repr hgd h0) rfl gRp (by decide +kernel) (pa_cons (pv 4) pa_nil)) pa_nil))))))))
          (pss_one (ps_ret pe_bl)) pss_nil)))))))))))
      (pss_cons (ps_set (i := 9) scLaw.nd rfl (.inl rfl) (pe_lst (pa_cons (pe_bare (KK.et 39 (by decide)) (ex 39 (by decide) (by decide)) rfl (TG 39 "NothingToUndo" rfl)) (pa_cons (pe_bare (KK.et 40 (by decide)) (ex 40 (by decide) (by decide)) rfl (TG 40 "NothingToRedo" rfl)) pa_nil))))
      (pss_cons (ps_if (pt_cmpR (op_neD hu) (pe_lc (own := [("_law_error", 10)]) (g := gName 10) (tt := tYes) (te := tCall (spCode K) [] E0 (tCons (tVar 10) tNil)) rfl scLaw.nd (pi_list (pv 9)) (blkOk_by (N := NL) (sc := defScope sLaw) (by decide +kernel)) (fun _ _ _ _ _ => pg_name (i := 10) scLaw.nd rfl (.inl rfl)) (fun _ _ _ _ _ => pts_nil) (fun _ _ _ _ _ => pe_call GC h1 rfl gC FC.kp bC .nil pass0 (pa_cons (pv 10) pa_nil))) (pe_lst (pa_cons (pe_lst (pa_cons (pe_int) pa_nil)) (pa_cons (pe_lst (pa_cons (pe_int) pa_nil)) pa_nil))) (nomark _))
          (pss_one (ps_ret pe_bl)) pss_nil)
      (pss_cons (ps_expr (pe_bm PySem.F.plainAttrs_list PySem.F.slot_list_append PySem.F.type_list_append mt_append (pv 9) (pa_cons (pe_bare (KK.et 41 (by decide)) (ex 41 (by decide) (by decide)) rfl (TG 41 "FoldError" rfl)) pa_nil)))
      (pss_one (ps_ret (pe_and (pe_callB (cr_all rfl) rfl gAl (by decide +kernel) (pa_cons (pe_lc (own := [("_law_error", 10)]) (g := gName 10) (tt := tYes) (te := tCall (spIsE K) [] E0 (tCons (tVar 10) tNil)) rfl scLaw.nd (pi_list (pv 9)) (blkOk_by (N := NL) (sc := defScope sLaw) (by decide +kernel)) (fun _ _ _ _ _ => pg_name (i := 10) scLaw.nd rfl (.inl rfl)) (fun _ _ _ _ _ => pts_nil) (fun _ _ _ _ _ => pe_call GE h1 rfl gE FE.kp bE .nil pass0 (pa_cons (pv 10) pa_nil))) pa_nil)) (pe_one (pe_cmpR (op_eqD hu) (pe_call GC h1 rfl gC FC.kp bC .nil pass0 (pa_cons (pe_ix ix_list (pv 9) pe_int (fun _ _ => rfl)) pa_nil)) (pe_lst pa_nil) (nomark _)))))))))), ?_⟩
  obtain ⟨a, ns, rfl, hS, hn, k⟩ := h
  have small : ∀ n : Nat, n ≤ 5000 → n ≤ sizeLine := fun n hn => small_fit hn
  refine ⟨_, rfl, a, ns, rfl, hS, hn, fun l p H1 s1 e1 pu1 => ⟨l, rfl, ⟨_, SqL.of e1⟩, ?_⟩⟩
  have nlp : l ≠ p := fun z => by
    obtain ⟨x1, x2, x3, x4, ep, _⟩ := pu1
    rw [← z, e1] at ep
    cases (HO.lst.inj (Option.some.inj ep))
  refine for_list (K := K) (xs := [V.ref p]) (fun i σ H' => H' l = some (.lst [.ref p]) ∧ ((i = 0 ∧ σ = L2.start NL [.ref a] ∧ H' = H1) ∨ (i = 1 ∧ ∃ v0 v1 v2 v3 v4 v5 v6 v7 v8 : Option V, σ = [v0, v1, v2, v3, v4, v5, v6, v7, v8, none, none]))) ⟨e1, .inl ⟨rfl, rfl, rfl⟩⟩ (fun _ _ _ _ q => SqL.of q.1) ?_ ?_
  · rintro i x σ H' hx ⟨_, ⟨rfl, rfl, rfl⟩ | ⟨rfl, _⟩⟩
    rotate_left
    · cases hx
    cases hx
    refine ⟨_, rfl, p, 0, rfl, pu1, by decide, fun wd H2 hw sb2 pu2 => ?_⟩
    have e2 := sb2 l _ nlp e1
    obtain ⟨qa, qb, qt, qc, ep, q0, q1, q2, q3, q4, q5, q6, q7⟩ := id pu2
    refine ⟨_, rfl, _, rfl, p, _, 1, _, rfl, rfl, SqL.of ep, rfl, _, rfl, _, rfl, small 4 (by decide), fun a6 n6 => ?_⟩
    have s6 : Same H2 (upd H2 a6 (.tup [.str "says", .str wd, .int 1, .int 2])) := same_new n6
    have e6 : upd H2 a6 (.tup [.str "says", .str wd, .int 1, .int 2]) a6 = some (.tup [.str "says", .str wd, .int 1, .int 2]) := upd_same
    generalize upd H2 a6 (.tup [.str "says", .str wd, .int 1, .int 2]) = Ha at *
    refine ⟨_, rfl, _, rfl, small 1 (by decide), fun b7 nb7 sb7 => ⟨small 2 (by decide), fun a7 na7 => ?_⟩⟩
    have s7b : Same Ha (upd Ha b7 (.lst [.str wd])) := same_new nb7
    have s7a : Same (upd Ha b7 (.lst [.str wd])) (upd (upd Ha b7 (.lst [.str wd])) a7 (.tup [.str wd, .ref b7])) := same_new na7
    have e7b : upd (upd Ha b7 (.lst [.str wd])) a7 (.tup [.str wd, .ref b7]) b7 = some (.lst [.str wd]) := s7a _ _ upd_same
    have e7a : upd (upd Ha b7 (.lst [.str wd])) a7 (.tup [.str wd, .ref b7]) a7 = some (.tup [.str wd, .ref b7]) := upd_same
    have s7 := Same.trans s7b s7a
    clear s7a s7b
    generalize upd (upd Ha b7 (.lst [.str wd])) a7 (.tup [.str wd, .ref b7]) = Hc at *
    refine fun a8 na8 => ⟨_, rfl, _, rfl, small 1 (by decide), fun b8 nb8 sb8 => ?_⟩
    have n8 : b8 ≠ a8 := fun z => by
      rw [z, upd_same] at nb8
      cases nb8
    have nb8' : Hc b8 = none := by rwa [upd_ne n8] at nb8
    refine ⟨by rw [upd_ne (Ne.symm n8), upd_same], [(.inr wd, .ref b8)], rfl, (by show 1 ≤ 15; decide), small 9 (by decide), fun pl npl => ?_⟩
    have s8 : Same Hc (upd (upd (upd Hc a8 (.dK [])) b8 (.lst [.str wd])) a8 (.dK (mergeK [] [(.inr wd, .ref b8)]))) := fun b o e => by
      rw [upd_ne (ne_of_none e na8), upd_ne (ne_of_none e nb8'), upd_ne (ne_of_none e na8)]
      exact e
    have e8a : upd (upd (upd Hc a8 (.dK [])) b8 (.lst [.str wd])) a8 (.dK (mergeK [] [(.inr wd, .ref b8)])) a8 = some (.dK [(.inr wd, .ref b8)]) := upd_same
    have e8b : upd (upd (upd Hc a8 (.dK [])) b8 (.lst [.str wd])) a8 (.dK (mergeK [] [(.inr wd, .ref b8)])) b8 = some (.lst [.str wd]) := by rw [upd_ne n8, upd_same]
    clear nb8
    generalize upd (upd (upd Hc a8 (.dK [])) b8 (.lst [.str wd])) a8 (.dK (mergeK [] [(.inr wd, .ref b8)])) = Hd at *
    generalize hpl : ([.non, .bl true, .bl false, .int 0, .str wd, .int (-qb), .ref a6, .ref a7, .ref a8] : List V) = nine at *
    have se : Same Hd (upd Hd pl (.lst nine)) := same_new npl
    have ee : upd Hd pl (.lst nine) pl = some (.lst nine) := upd_same
    generalize upd Hd pl (.lst nine) = He at *
    refine ⟨fun σ H' => ∃ x : V, σ = [some (.ref a), some (.ref p), some (.str wd), some (.ref pl), some x, none, none, none, none, none, none] ∧ Th H' wd x ∧ H' l = some (.lst [.ref p]), ?_, ?_⟩
    · refine ⟨_, rfl, _, rfl, _, rfl, small 1 (by decide), fun b9 nb9 sb9 => ?_⟩
      have s9 : Same He (upd He b9 (.lst [.str wd])) := same_new nb9
      have e9 : upd He b9 (.lst [.str wd]) b9 = some (.lst [.str wd]) := upd_same
      generalize upd He b9 (.lst [.str wd]) = Hf at *
      refine ⟨_, rfl, small 1 (by decide), fun bA nbA sbA => ?_⟩
      have sA : Same Hf (upd Hf bA (.lst [.str wd])) := same_new nbA
      have eA : upd Hf bA (.lst [.str wd]) bA = some (.lst [.str wd]) := upd_same
      generalize upd Hf bA (.lst [.str wd]) = Hg at *
      refine fun cA0 ncA => ⟨_, rfl, upd_same, [(.inr "odd", .str wd)], rfl, (by show 1 ≤ 15; decide), small 2 (by decide), fun aA naA saA => ?_⟩
      have sC : Same Hg (upd (upd Hg cA0 (.dK [])) cA0 (.dK (mergeK [] [(.inr "odd", .str wd)]))) := fun b o e => by
        rw [upd_ne (ne_of_none e ncA), upd_ne (ne_of_none e ncA)]
        exact e
      have eC : upd (upd Hg cA0 (.dK [])) cA0 (.dK (mergeK [] [(.inr "odd", .str wd)])) cA0 = some (.dK [(.inr "odd", .str wd)]) := upd_same
      generalize upd (upd Hg cA0 (.dK [])) cA0 (.dK (mergeK [] [(.inr "odd", .str wd)])) = Hh at *
      have sAA : Same Hh (upd Hh aA (.lst [.ref bA, .ref cA0])) := same_new naA
      have eAA : upd Hh aA (.lst [.ref bA, .ref cA0]) aA = some (.lst [.ref bA, .ref cA0]) := upd_same
      generalize upd Hh aA (.lst [.ref bA, .ref cA0]) = Hi at *
      refine ⟨small 2 (by decide), fun pm npm => ?_⟩
      have sm : Same Hi (upd Hi pm (.lst [.ref b9, .ref aA])) := same_new npm
      have em : upd Hi pm (.lst [.ref b9, .ref aA]) pm = some (.lst [.ref b9, .ref aA]) := upd_same
      generalize upd Hi pm (.lst [.ref b9, .ref aA]) = Hj at *
      have sEJ := Same.trans s9 (Same.trans sA (Same.trans sC (Same.trans sAA sm)))
      refine ⟨pl, pm, nine, [.ref b9, .ref aA], rfl, rfl, sEJ _ _ ee, em, small (nine.length + 2) (by rw [← hpl]; show 9 + 2 ≤ 5000; decide), fun pn npn => ?_⟩
      have sn : Same Hj (upd Hj pn (.lst (nine ++ [.ref b9, .ref aA]))) := same_new npn
      have en : upd Hj pn (.lst (nine ++ [.ref b9, .ref aA])) pn = some (.lst (nine ++ [.ref b9, .ref aA])) := upd_same
      generalize upd Hj pn (.lst (nine ++ [.ref b9, .ref aA])) = Hk at *
      have sAK := Same.trans s7 (Same.trans s8 (Same.trans se (Same.trans sEJ sn)))
      have sK := Same.trans s6 sAK
      have puK := pu2.keep sK
      have epK := sK _ _ ep
      refine ⟨p, pn, 10, nine ++ [.ref b9, .ref aA], rfl, puK, by decide, SqL.of en, ?_, ?_, ?_, en, fun i x H' hx sb pu => ?_⟩
      · intro z
        rw [z, epK, ← hpl] at en
        cases (HO.lst.inj (Option.some.inj en))
      · rw [← hpl]
        show 0 < 11
        decide
      · rw [← hpl]
        show 11 < 2 ^ 27
        decide
      · have up : ∀ {b : Addr} {o : HO}, Hk b = some o → o ≠ .lst [.int qa, .int qb, .int qt, .int qc] → H' b = some o := fun {b o} e d => sb b o (ne_of e epK d) e
        have elK := sb l _ nlp (sK _ _ e2)
        refine ⟨x, rfl, ?_, elK⟩
        have f6 := up (sAK _ _ e6) (fun z => by cases z)
        have f7b := up (Same.trans s8 (Same.trans se (Same.trans sEJ sn)) _ _ e7b) (fun z => by cases (HO.lst.inj z))
        have f7a := up (Same.trans s8 (Same.trans se (Same.trans sEJ sn)) _ _ e7a) (fun z => by cases z)
        have f8a := up (Same.trans se (Same.trans sEJ sn) _ _ e8a) (fun z => by cases z)
        have f8b := up (Same.trans se (Same.trans sEJ sn) _ _ e8b) (fun z => by cases (HO.lst.inj z))
        have f9 := up (Same.trans (Same.trans sA (Same.trans sC (Same.trans sAA sm))) sn _ _ e9) (fun z => by cases (HO.lst.inj z))
        have fA := up (Same.trans (Same.trans sC (Same.trans sAA sm)) sn _ _ eA) (fun z => by cases (HO.lst.inj z))
        have fC := up (Same.trans (Same.trans sAA sm) sn _ _ eC) (fun z => by cases z)
        have fAA := up (Same.trans sm sn _ _ eAA) (fun z => by cases (HO.lst.inj z))
        rw [← hpl] at hx
        rcases i with _ | _ | _ | _ | _ | _ | _ | _ | _ | _ | _ | i
        · cases hx; exact .non
        · cases hx; exact .bl true
        · cases hx; exact .bl false
        · cases hx; exact .int 0 (by decide)
        · cases hx; exact .str
        · cases hx
          refine .int (-qb) ?_
          have hb : qb.natAbs < 2 ^ 31 := by omega
          rw [Int.natAbs_neg]
          by_cases z : qb.natAbs = 0
          · rw [z]; decide
          · exact Nat.lt_of_lt_of_le ((Nat.log2_lt z).mpr hb) (by decide)
        · cases hx; exact .says a6 f6
        · cases hx; exact .tl a7 b7 f7a f7b sb7
        · cases hx; exact .dl a8 b8 f8a f8b sb8
        · cases hx; exact .l b9 f9 sb9
        · cases hx; exact .n aA bA cA0 fAA saA fA sbA fC
        · cases hx
    · rintro σ H3 ⟨x, rfl, th, el⟩
      obtain ⟨d, dt, fit⟩ := th.dat hw
      have fl := fit_later hw
      refine ⟨_, rfl, x, d, rfl, dt, fit.sh, fit.dp, fit.sz, ?_⟩
      refine ⟨_, rfl, x, rfl, fun ls as H5 s5 els Eas => ⟨_, rfl, x, rfl, fun lc bs H6 s6 elc Ebs => ⟨_, rfl, small 2 (by decide), fun tt ntt => ?_⟩⟩⟩
      have st : Same H6 (upd H6 tt (.tup [.str "later", .str wd])) := same_new ntt
      have et : upd H6 tt (.tup [.str "later", .str wd]) tt = some (.tup [.str "later", .str wd]) := upd_same
      generalize upd H6 tt (.tup [.str "later", .str wd]) = H6t at *
      refine ⟨.ref tt, rfl, fun ll cs H7 s7 ell Ecs => ⟨_, _, _, rfl, ?_⟩⟩
      have els7 := s7 _ _ (st _ _ (s6 _ _ els))
      have Eas7 := Eas.keep (Same.trans s6 (Same.trans st s7))
      have elc7 := s7 _ _ (st _ _ elc)
      have Ebs7 := Ebs.keep (Same.trans st s7)
      have s37 : Same H3 H7 := Same.trans s5 (Same.trans s6 (Same.trans st s7))
      refine ⟨rfl, fun lb ds H8 s8 elb Eds => ⟨lb, ds, "None", .non, .none, rfl, elb, Eds, .non, fit_non.sh, fit_non.dp, fit_non.sz, by simp only [PyData.shown], fun H9 s9 => ⟨_, rfl, itF rfl ?_⟩⟩⟩
      refine ⟨_, rfl, _, rfl, small 2 (by decide), fun t2 nt2 => ?_⟩
      have sx : Same H9 (upd H9 t2 (.tup [.str "later", .str wd])) := same_new nt2
      have ex2 : upd H9 t2 (.tup [.str "later", .str wd]) t2 = some (.tup [.str "later", .str wd]) := upd_same
      generalize upd H9 t2 (.tup [.str "later", .str wd]) = Hx at *
      have s7x : Same H7 Hx := Same.trans s8 (Same.trans s9 sx)
      refine ⟨.ref t2, .tuple [.str "later", .str wd], rfl, .tup ex2 (.cons (.str _) (.cons (.str _) .nil)), fl.sh, fl.dp, fl.sz, ?_⟩
      refine ⟨ll, cs, _, .ref tt, .tuple [.str "later", .str wd], rfl, s7x _ _ ell, Ecs.keep s7x, .tup (s7x _ _ (s7 _ _ et)) (.cons (.str _) (.cons (.str _) .nil)), fl.sh, fl.dp, fl.sz, rfl, fun HA sA => ⟨_, rfl, itF rfl ?_⟩⟩
      have s7A : Same H7 HA := Same.trans s7x sA
      have s3A : Same H3 HA := Same.trans s37 s7A
      refine ⟨fun σ H' => σ = [some (.ref a), some (.ref p), some (.str wd), some (.ref pl), some x, some (.str d.shown), some (.ref ls), some (.ref lc), some (.ref ll), none, none] ∧ Th H' wd x ∧ H' l = some (.lst [.ref p]) ∧
        H' ls = some (.lst (as.map V.ref)) ∧ Errs H' x (C39 K) as ∧ H' lc = some (.lst (bs.map V.ref)) ∧ Errs H' x (C39 K) bs, ?_, ?_⟩
      · refine ⟨_, rfl, _, rfl, ls, as, _, x, d, rfl, s7A _ _ els7, Eas7.keep s7A, dt.keep s3A, fit.sh, fit.dp, fit.sz, rfl, fun HB sB => ⟨_, rfl, itF rfl ?_⟩⟩
        refine ⟨_, rfl, _, rfl, lc, bs, _, x, d, rfl, sB _ _ (s7A _ _ elc7), (Ebs7.keep s7A).keep sB, (dt.keep s3A).keep sB, fit.sh, fit.dp, fit.sz, rfl, fun HC sC => ⟨_, rfl, itF rfl ?_⟩⟩
        have s7C : Same H7 HC := Same.trans s7A (Same.trans sB sC)
        exact ⟨rfl, th.keep (Same.trans s37 s7C), s7C _ _ (s37 _ _ el), s7C _ _ els7, Eas7.keep s7C, s7C _ _ elc7, Ebs7.keep s7C⟩
      · rintro σ H4 ⟨rfl, th4, el4, els4, Eas4, elc4, Ebs4⟩
        refine ⟨fun σ H' => σ = [some (.ref a), some (.ref p), some (.str wd), some (.ref pl), some x, some (.str d.shown), some (.ref ls), some (.ref lc), some (.ref ll), none, none] ∧ (∃ d', Dt H' x d' ∧ Fit d') ∧ H' l = some (.lst [.ref p]) ∧
          H' ls = some (.lst (as.map V.ref)) ∧ Errs H' x (C39 K) as ∧ H' lc = some (.lst (bs.map V.ref)) ∧ Errs H' x (C39 K) bs, ?_, ?_⟩
        · clear th dt
          cases th4 with
          | non => exact isi_red rfl (t := "NoneType") (.base .non) (b := false) (by decide +kernel) (itF rfl (isi_red rfl (t := "NoneType") (.base .non) (b := false) (by decide +kernel) (itF rfl (isi_red rfl (t := "NoneType") (.base .non) (b := false) (by decide +kernel) (itF rfl (itF rfl ⟨rfl, ⟨_, .non, fit_non⟩, el4, els4, Eas4, elc4, Ebs4⟩))))))
          | bl b => exact isi_red rfl (t := "bool") (.base (.bl b)) (b := false) (by decide +kernel) (itF rfl (isi_red rfl (t := "bool") (.base (.bl b)) (b := false) (by decide +kernel) (itF rfl (isi_red rfl (t := "bool") (.base (.bl b)) (b := false) (by decide +kernel) (itF rfl (itF rfl ⟨rfl, ⟨_, .bl b, fit_bool b⟩, el4, els4, Eas4, elc4, Ebs4⟩))))))
          | int i hi => exact isi_red rfl (t := "int") (.base (.int i)) (b := false) (by decide +kernel) (itF rfl (isi_red rfl (t := "int") (.base (.int i)) (b := false) (by decide +kernel) (itF rfl (isi_red rfl (t := "int") (.base (.int i)) (b := false) (by decide +kernel) (itF rfl (itF rfl ⟨rfl, ⟨_, .int i, fit_int hi⟩, el4, els4, Eas4, elc4, Ebs4⟩))))))
          | str => exact isi_red rfl (t := "str") (.base (.str wd)) (b := false) (by decide +kernel) (itF rfl (isi_red rfl (t := "str") (.base (.str wd)) (b := false) (by decide +kernel) (itF rfl (isi_red rfl (t := "str") (.base (.str wd)) (b := false) (by decide +kernel) (itF rfl (itF rfl ⟨rfl, ⟨_, .str wd, fit_str hw⟩, el4, els4, Eas4, elc4, Ebs4⟩))))))
          | says a0 e =>
            refine isi_red rfl (t := "tuple") (.base (.tup e)) (b := false) (by decide +kernel) (itF rfl (isi_red rfl (t := "tuple") (.base (.tup e)) (b := false) (by decide +kernel) (itF rfl (isi_red rfl (t := "tuple") (.base (.tup e)) (b := true) (by decide +kernel) (itT rfl ?_)))))
            refine ⟨_, rfl, a0, _, 1, .str wd, rfl, rfl, SqT.of e, rfl, .str wd, .ty "list", .type "str", .type "list", false, rfl, .ty _, .base (.str wd), kit_ty (by decide +kernel), _, rfl, itF rfl ?_⟩
            exact ⟨rfl, ⟨_, .tup e (.cons (.str _) (.cons (.str _) (.cons (.int _) (.cons (.int _) .nil)))), fit_says hw⟩, el4, els4, Eas4, elc4, Ebs4⟩
          | tl a0 b0 e eb nb =>
            refine isi_red rfl (t := "tuple") (.base (.tup e)) (b := false) (by decide +kernel) (itF rfl (isi_red rfl (t := "tuple") (.base (.tup e)) (b := false) (by decide +kernel) (itF rfl (isi_red rfl (t := "tuple") (.base (.tup e)) (b := true) (by decide +kernel) (itT rfl ?_)))))
            refine ⟨_, rfl, a0, _, 1, .ref b0, rfl, rfl, SqT.of e, rfl, .ref b0, .ty "list", .type "list", .type "list", true, rfl, .ty _, .base (.lst eb), kit_ty (by decide +kernel), _, rfl, itT rfl ?_⟩
            refine ⟨_, rfl, a0, _, 1, .ref b0, rfl, rfl, SqT.of e, rfl, .inl ⟨rfl, _, SqL.of eb⟩, b0, _, _, rfl, rfl, eb, (by rw [sizeLine_eq]; show 1 < 16777216; decide), ?_⟩
            have q5 := put5 (u := .lst ([.str wd] ++ [.str "later"])) eb (fun φ z => by cases z) (fun z => by cases (HO.lst.inj z)) (fun xs hx z => by rw [← HO.lst.inj z] at hx; cases hx) el4 els4 Eas4 elc4 Ebs4
            refine ⟨rfl, ⟨.tuple [.str wd, .list [.str wd, .str "later"]], .tup ?_ (.cons (.str _) (.cons (.lst upd_same nb (.cons (.str _) (.cons (.str _) .nil))) .nil)), fit_tl2 hw⟩, q5⟩
            rw [upd_ne (ne_of e eb fun z => by cases z)]
            exact e
          | dl a0 b0 e eb nb =>
            refine isi_red rfl (t := "dict") (.base (.dK e)) (b := false) (by decide +kernel) (itF rfl (isi_red rfl (t := "dict") (.base (.dK e)) (b := true) (by decide +kernel) (itT rfl ?_)))
            have dg : DGet H4 a0 (.str wd) (some (.ref b0)) := by
              have z := DGet.k (k := Sum.inr wd) e
              rw [valV_pos rfl] at z
              exact z
            refine ⟨_, rfl, _, rfl, a0, .ref b0, rfl, dg, .inl ⟨rfl, _, SqL.of eb⟩, b0, _, _, rfl, rfl, eb, (by rw [sizeLine_eq]; show 1 < 16777216; decide), ?_⟩
            obtain ⟨r1, r2, r3, r4, r5⟩ := put5 (u := .lst ([.str wd] ++ [.str "later"])) eb (fun φ z => by cases z) (fun z => by cases (HO.lst.inj z)) (fun xs hx z => by rw [← HO.lst.inj z] at hx; cases hx) el4 els4 Eas4 elc4 Ebs4
            have e5 : upd H4 b0 (.lst ([.str wd] ++ [.str "later"])) a0 = some (.dK [(.inr wd, .ref b0)]) := by
              rw [upd_ne (ne_of e eb fun z => by cases z)]
              exact e
            have eb5 : upd H4 b0 (.lst ([.str wd] ++ [.str "later"])) b0 = some (.lst [.str wd, .str "later"]) := upd_same
            generalize upd H4 b0 (.lst ([.str wd] ++ [.str "later"])) = H5' at *
            refine ⟨_, rfl, a0, _, rfl, DPut.k (k := Sum.inr "LATER") e5 (by rw [sizeLine_eq]; show 1 < 16777216; decide), ?_⟩
            have q5 := put5 (u := .dK (putK [(.inr wd, .ref b0)] (.inr "LATER") (.int 1))) e5 (fun φ z => by cases z) (fun z => by cases z) (fun xs hx z => by cases z) r1 r2 r3 r4 r5
            have e6' : upd H5' a0 (.dK (putK [(.inr wd, .ref b0)] (.inr "LATER") (.int 1))) a0 = some (.dK (putK [(.inr wd, .ref b0)] (.inr "LATER") (.int 1))) := upd_same
            have eb6 : upd H5' a0 (.dK (putK [(.inr wd, .ref b0)] (.inr "LATER") (.int 1))) b0 = some (.lst [.str wd, .str "later"]) := by
              rw [upd_ne (ne_of eb5 e5 fun z => by cases z)]
              exact eb5
            generalize upd H5' a0 (.dK (putK [(.inr wd, .ref b0)] (.inr "LATER") (.int 1))) = H6' at *
            refine isi_red rfl (t := "dict") (.base (.dK e6')) (b := false) (by decide +kernel) (itF rfl (itF rfl ⟨rfl, ?_, q5⟩))
            by_cases hL : wd = "LATER"
            · have z : putK [((.inr wd : Key), V.ref b0)] (.inr "LATER") (.int 1) = [(.inr wd, .int 1)] := by
                subst hL
                rfl
              rw [z] at e6'
              exact ⟨.dict [(.str wd, .int 1)], .dic e6' (.cons (.str _) .nil) (.cons (.int _) .nil), fit_d3 hw⟩
            · have z : putK [((.inr wd : Key), V.ref b0)] (.inr "LATER") (.int 1) = [(.inr wd, .ref b0), (.inr "LATER", .int 1)] := by
                refine putK_new _ ?_
                rw [valV_neg (fun y => hL (Sum.inr.inj y))]
                rfl
              rw [z] at e6'
              exact ⟨.dict [(.str wd, .list [.str wd, .str "later"]), (.str "LATER", .int 1)], .dic e6' (.cons (.str _) (.cons (.str _) .nil)) (.cons (.lst eb6 nb (.cons (.str _) (.cons (.str _) .nil))) (.cons (.int _) .nil)), fit_d2 hw⟩
          | l a0 e na =>
            refine isi_red rfl (t := "list") (.base (.lst e)) (b := true) (by decide +kernel) (itT rfl ?_)
            refine ⟨_, rfl, .inl ⟨rfl, _, SqL.of e⟩, a0, _, _, rfl, rfl, e, (by rw [sizeLine_eq]; show 1 < 16777216; decide), ?_⟩
            have q5 := put5 (u := .lst ([.str wd] ++ [.str "later"])) e (fun φ z => by cases z) (fun z => by cases (HO.lst.inj z)) (fun xs hx z => by rw [← HO.lst.inj z] at hx; cases hx) el4 els4 Eas4 elc4 Ebs4
            have e' : upd H4 a0 (.lst ([.str wd] ++ [.str "later"])) a0 = some (.lst [.str wd, .str "later"]) := upd_same
            exact isi_red rfl (t := "list") (.base (.lst e')) (b := false) (by decide +kernel) (itF rfl (isi_red rfl (t := "list") (.base (.lst e')) (b := false) (by decide +kernel) (itF rfl (itF rfl ⟨rfl, ⟨_, .lst e' na (.cons (.str _) (.cons (.str _) .nil)), fit_l2 hw⟩, q5⟩))))
          | n a0 b0 c0 e na eb nb ec =>
            refine isi_red rfl (t := "list") (.base (.lst e)) (b := true) (by decide +kernel) (itT rfl ?_)
            refine ⟨_, rfl, .inl ⟨rfl, _, SqL.of e⟩, a0, _, _, rfl, rfl, e, (by rw [sizeLine_eq]; show 2 < 16777216; decide), ?_⟩
            have q5 := put5 (u := .lst ([.ref b0, .ref c0] ++ [.str "later"])) e (fun φ z => by cases z) (fun z => by cases (HO.lst.inj z)) (fun xs hx z => by rw [← HO.lst.inj z] at hx; cases hx) el4 els4 Eas4 elc4 Ebs4
            have e' : upd H4 a0 (.lst ([.ref b0, .ref c0] ++ [.str "later"])) a0 = some (.lst [.ref b0, .ref c0, .str "later"]) := upd_same
            have eb' : upd H4 a0 (.lst ([.ref b0, .ref c0] ++ [.str "later"])) b0 = some (.lst [.str wd]) := by
              rw [upd_ne (ne_of eb e fun z => by cases (HO.lst.inj z))]
              exact eb
            have ec' : upd H4 a0 (.lst ([.ref b0, .ref c0] ++ [.str "later"])) c0 = some (.dK [(.inr "odd", .str wd)]) := by
              rw [upd_ne (ne_of ec e fun z => by cases z)]
              exact ec
            exact isi_red rfl (t := "list") (.base (.lst e')) (b := false) (by decide +kernel) (itF rfl (isi_red rfl (t := "list") (.base (.lst e')) (b := false) (by decide +kernel) (itF rfl (itF rfl ⟨rfl, ⟨.list [.list [.str wd], .dict [(.str "odd", .str wd)], .str "later"], .lst e' na (.cons (.lst eb' nb (.cons (.str _) .nil)) (.cons (.dic ec' (.cons (.str _) .nil) (.cons (.str _) .nil)) (.cons (.str _) .nil))), fit_n2 hw⟩, q5⟩))))
        · rintro σ H9 ⟨rfl, ⟨d', dt', fit'⟩, el9, els9, Eas9, elc9, Ebs9⟩
          refine ⟨_, rfl, _, rfl, x, d', rfl, dt', fit'.sh, fit'.dp, fit'.sz, ls, as, _, x, d', rfl, els9, Eas9, dt', fit'.sh, fit'.dp, fit'.sz, rfl, fun HB sB => ⟨_, rfl, itF rfl ?_⟩⟩
          refine ⟨_, rfl, _, rfl, x, d', rfl, dt'.keep sB, fit'.sh, fit'.dp, fit'.sz, lc, bs, _, x, d', rfl, sB _ _ elc9, Ebs9.keep sB, dt'.keep sB, fit'.sh, fit'.dp, fit'.sz, rfl, fun HC sC => ⟨_, rfl, itF rfl ?_⟩⟩
          exact ⟨sC _ _ (sB _ _ el9), .inr ⟨rfl, _, _, _, _, _, _, _, _, _, rfl⟩⟩
  · rintro σ H9 ⟨_, ⟨h0, _⟩ | ⟨_, v0, v1, v2, v3, v4, v5, v6, v7, v8, rfl⟩⟩
    · cases h0
    refine fun x1 m1 => fun x2 m2 => ⟨small 2 (by decide), fun rl nrl => ?_⟩
    have t1 : Same (upd H9 x1 (exo x1 (cA K 39) none)) (upd (upd H9 x1 (exo x1 (cA K 39) none)) x2 (exo x2 (cA K 40) none)) := same_new m2
    have y1 := t1 x1 _ upd_same
    have y2 : upd (upd H9 x1 (exo x1 (cA K 39) none)) x2 (exo x2 (cA K 40) none) x2 = some (exo x2 (cA K 40) none) := upd_same
    generalize upd (upd H9 x1 (exo x1 (cA K 39) none)) x2 (exo x2 (cA K 40) none) = Hp0 at *
    have t2 : Same Hp0 (upd Hp0 rl (.lst [.ref x1, .ref x2])) := same_new nrl
    have erl : upd Hp0 rl (.lst [.ref x1, .ref x2]) rl = some (.lst [.ref x1, .ref x2]) := upd_same
    have z1 := t2 _ _ y1
    have z2 := t2 _ _ y2
    generalize upd Hp0 rl (.lst [.ref x1, .ref x2]) = Hr at *
    have ex1 : ExAt Hr x1 (cA K 39) none := ⟨z1, fun dx h => by cases h⟩
    have ex2 : ExAt Hr x2 (cA K 40) none := ⟨z2, fun dx h => by cases h⟩
    refine ⟨_, rfl, rl, rfl, ⟨_, SqL.of erl⟩, fun D hD => ?_⟩
    refine lc_it (walk_list (xs := [V.ref x1, V.ref x2])) (fun n H' => Same Hr H' ∧ ∃ rs : List Addr, H' D = some (.lst (rs.map V.ref)) ∧ rs.length = n ∧ ∀ (j : Nat) q, rs[j]? = some q → H' q = some (.lst [.int ((39 + j : Nat) : Int)]) ∧ q ≠ D) ?_ ?_ ?_ ?_
    · exact ⟨same_new hD, [], upd_same, rfl, by simp⟩
    · rintro i H' _ ⟨s, _⟩
      exact SqL.of (s _ _ erl)
    · rintro n x H3 H' hn ⟨s, rs, e, hrs, kk⟩ ⟨rfl, hx⟩
      have el : ∃ (y : Addr) (i : Nat), x = .ref y ∧ i = 39 + n ∧ i < 41 ∧ ExAt H' y (cA K i) none := by
        rcases n with _ | _ | n
        · cases hx
          exact ⟨x1, 39, rfl, rfl, by decide, ex1.keep s⟩
        · cases hx
          exact ⟨x2, 40, rfl, rfl, by decide, ex2.keep s⟩
        · cases hx
      obtain ⟨y, i, rfl, hi, hi2, exy⟩ := el
      refine ⟨rfl, _, rfl, y, none, i, rfl, by omega, exy, fun q H4 s4 e4 => ?_⟩
      rw [if_pos hi2] at e4
      have ne : q ≠ D := fun w => by
        rw [w, s4 _ _ e] at e4
        have w2 := HO.lst.inj (Option.some.inj e4)
        cases rs with
        | nil => cases w2
        | cons y r => cases (List.cons.inj w2).1
      refine ⟨rs.map V.ref, s4 _ _ e, small _ (by rw [List.length_map, hrs]; have : n < 2 := hn; omega), fun b o eb => ?_, rs ++ [q], by rw [upd_same, List.map_append]; rfl, by rw [List.length_append, hrs]; rfl, ?_⟩
      · rw [upd_ne (ne_of_none eb hD)]
        exact s4 _ _ (s _ _ eb)
      · intro j r hr0
        rcases get_snoc hr0 with h | ⟨rfl, rfl⟩
        · obtain ⟨u1, u2⟩ := kk j r h
          exact ⟨by rw [upd_ne u2]; exact s4 _ _ u1, u2⟩
        · refine ⟨?_, ne⟩
          rw [upd_ne ne, hrs, ← hi]
          exact e4
    · rintro H2 ⟨s2, rs, e2, l2, k2⟩
      obtain ⟨r1, r2, rfl⟩ : ∃ r1 r2, rs = [r1, r2] := by
        rcases rs with _ | ⟨r1, _ | ⟨r2, _ | ⟨r3, rs⟩⟩⟩
        · cases l2
        · cases l2
        · exact ⟨r1, r2, rfl⟩
        · cases l2
      have k0 := (k2 0 r1 rfl).1
      have k1 := (k2 1 r2 rfl).1
      refine ⟨small 1 (by decide), fun q1 n1 => ⟨small 1 (by decide), fun q2 n2 => ⟨small 2 (by decide), fun q3 n3 => ?_⟩⟩⟩
      have w1 : Same H2 (upd H2 q1 (.lst [.int 39])) := same_new n1
      have w2 : Same (upd H2 q1 (.lst [.int 39])) (upd (upd H2 q1 (.lst [.int 39])) q2 (.lst [.int 40])) := same_new n2
      have w3 : Same (upd (upd H2 q1 (.lst [.int 39])) q2 (.lst [.int 40])) (upd (upd (upd H2 q1 (.lst [.int 39])) q2 (.lst [.int 40])) q3 (.lst [.ref q1, .ref q2])) := same_new n3
      have c1 := w3 _ _ (w2 _ _ (upd_same (H := H2) (a := q1) (o := .lst [.int 39])))
      have c2 := w3 _ _ (upd_same (H := upd H2 q1 (.lst [.int 39])) (a := q2) (o := .lst [.int 40]))
      have c3 : upd (upd (upd H2 q1 (.lst [.int 39])) q2 (.lst [.int 40])) q3 (.lst [.ref q1, .ref q2]) q3 = some (.lst [.ref q1, .ref q2]) := upd_same
      have w := Same.trans w1 (Same.trans w2 w3)
      clear w1 w2 w3
      generalize upd (upd (upd H2 q1 (.lst [.int 39])) q2 (.lst [.int 40])) q3 (.lst [.ref q1, .ref q2]) = Hq at *
      have two : SeqAt.shaped (.list [.list [.int 39], .list [.int 40]]) = true ∧ PyData.eqv (.list [.list [.int 39], .list [.int 40]]) (.list [.list [.int 39], .list [.int 40]]) = true := by decide +kernel
      refine ⟨.list [.list [.int 39], .list [.int 40]], .list [.list [.int 39], .list [.int 40]], .lst (SqL.of (w _ _ e2)) (.cons (.lst (SqL.of (w _ _ k0)) (.cons (.int _) .nil)) (.cons (.lst (SqL.of (w _ _ k1)) (.cons (.int _) .nil)) .nil)),
        .lst (SqL.of c3) (.cons (.lst (SqL.of c1) (.cons (.int _) .nil)) (.cons (.lst (SqL.of c2) (.cons (.int _) .nil)) .nil)), two.1, two.1, _, rfl, ?_⟩
      refine itF (by rw [two.2]; rfl) ?_
      have sq : Same Hr Hq := Same.trans s2 w
      have erq := sq _ _ erl
      refine ⟨_, rfl, .inl ⟨rfl, _, SqL.of erq⟩, fun x3 m3 => ?_⟩
      have t3 : Same Hq (upd Hq x3 (exo x3 (cA K 41) none)) := same_new m3
      have y3 : upd Hq x3 (exo x3 (cA K 41) none) x3 = some (exo x3 (cA K 41) none) := upd_same
      have er3 := t3 _ _ erq
      have f1 := t3 _ _ (sq _ _ z1)
      have f2 := t3 _ _ (sq _ _ z2)
      generalize upd Hq x3 (exo x3 (cA K 41) none) = Ht at *
      refine ⟨rl, _, _, rfl, rfl, er3, (by rw [sizeLine_eq]; show 2 < 16777216; decide), ?_⟩
      have er4 : upd Ht rl (.lst ([.ref x1, .ref x2] ++ [.ref x3])) rl = some (.lst [.ref x1, .ref x2, .ref x3]) := upd_same
      have g1 : upd Ht rl (.lst ([.ref x1, .ref x2] ++ [.ref x3])) x1 = some (exo x1 (cA K 39) none) := by
        rw [upd_ne (ne_of f1 er3 fun z => by cases (show HO.ext _ = HO.lst _ from z))]
        exact f1
      have g2 : upd Ht rl (.lst ([.ref x1, .ref x2] ++ [.ref x3])) x2 = some (exo x2 (cA K 40) none) := by
        rw [upd_ne (ne_of f2 er3 fun z => by cases (show HO.ext _ = HO.lst _ from z))]
        exact f2
      have g3 : upd Ht rl (.lst ([.ref x1, .ref x2] ++ [.ref x3])) x3 = some (exo x3 (cA K 41) none) := by
        rw [upd_ne (ne_of y3 er3 fun z => by cases (show HO.ext _ = HO.lst _ from z))]
        exact y3
      generalize upd Ht rl (.lst ([.ref x1, .ref x2] ++ [.ref x3])) = Hu at *
      have a1 : ExAt Hu x1 (cA K 39) none := ⟨g1, fun dx h => by cases h⟩
      have a2 : ExAt Hu x2 (cA K 40) none := ⟨g2, fun dx h => by cases h⟩
      have a3 : ExAt Hu x3 (cA K 41) none := ⟨g3, fun dx h => by cases h⟩
      refine ⟨_, rfl, rl, rfl, ⟨_, SqL.of er4⟩, fun D2 hD2 => ?_⟩
      refine lc_it (walk_list (xs := [V.ref x1, V.ref x2, V.ref x3])) (fun n H' => Same Hu H' ∧ H' D2 = some (.lst ((List.replicate n true).map V.bl))) ⟨same_new hD2, upd_same⟩ ?_ ?_ ?_
      · rintro i H' _ ⟨s, _⟩
        exact SqL.of (s _ _ er4)
      · rintro n x H3 H' hn ⟨s, e⟩ ⟨rfl, hx⟩
        have el : ∃ (y : Addr) (i : Nat), x = .ref y ∧ i ≤ 41 ∧ ExAt H' y (cA K i) none := by
          rcases n with _ | _ | _ | n
          · cases hx
            exact ⟨x1, 39, rfl, by decide, a1.keep s⟩
          · cases hx
            exact ⟨x2, 40, rfl, by decide, a2.keep s⟩
          · cases hx
            exact ⟨x3, 41, rfl, by decide, a3.keep s⟩
          · cases hx
        obtain ⟨y, i, rfl, hi, exy⟩ := el
        refine ⟨rfl, _, rfl, y, none, i, rfl, hi, exy, _, e, small _ (by rw [List.length_map, List.length_replicate]; have : n < 3 := hn; omega), fun b o eb => ?_, ?_⟩
        · rw [upd_ne (ne_of_none eb hD2)]
          exact s _ _ eb
        · rw [upd_same, List.replicate_succ', List.map_append]
          rfl
      · rintro H3 ⟨s3, e3⟩
        refine ⟨D2, List.replicate 3 true, rfl, SqL.of e3, _, rfl, itT rfl ?_⟩
        refine ⟨_, rfl, rl, _, 2, .ref x3, rfl, rfl, SqL.of (s3 _ _ er4), rfl, x3, none, 41, rfl, by decide, a3.keep s3, fun q H4 s4 e4 => ⟨small 0 (by decide), fun z nz => ?_⟩⟩
        rw [if_neg (by decide)] at e4
        refine ⟨.list [], .list [], .lst (SqL.of ((same_new nz) _ _ e4)) .nil, .lst (SqL.of upd_same) .nil, nil_ok.1, nil_ok.1, ?_⟩
        rw [nil_ok.2]
        exact k _
end
end K01
namespace K01
open PySem PySem.Spec PyProof.Rows L2
section
variable {P : Program} {w : World} {K : PySem.W.Frag} {h : Heap} {mg : Str → Option Value} {base : Heap} {f : Addr}
theorem chk_parts (c : chk K = true) : (∀ x ∈ names42, globB K x = true ∧ ET K (He.ga K x)) ∧ (∀ p ∈ cls, iniB K (He.ga K p.1) = true) ∧ (∀ x ∈ names41, mroB K (He.ga K x) (.ref (He.ga K x) :: .ref (He.ga K "FoldError") :: ve) = true) ∧
    mroB K (He.ga K "FoldError") (.ref (He.ga K "FoldError") :: ve) = true ∧ (∀ x ∈ lastNames, PySem.W.excIn K (He.ga K x) ve "ValueError.__new__" = true) ∧ (names42.map (He.ga K)).Nodup := by
  obtain ⟨c1, c⟩ := He.ba c
  obtain ⟨c2, c⟩ := He.ba c
  obtain ⟨c3, c⟩ := He.ba c
  obtain ⟨c4, c⟩ := He.ba c
  obtain ⟨c5, c⟩ := He.ba c
  obtain ⟨c6, c⟩ := He.ba c
  obtain ⟨c7, c8⟩ := He.ba c
  refine ⟨fun x hx => ?_, List.all_eq_true.mp c2, List.all_eq_true.mp c3, c4, List.all_eq_true.mp c5, of_decide_eq_true c6⟩
  obtain ⟨q1, q2⟩ := He.ba (List.all_eq_true.mp c1 x hx)
  exact ⟨q1, excB_ok q2 (He.eqO_ok c7) (of_decide_eq_true c8)⟩
theorem len42 : names42.length = 42 := by decide +kernel
theorem cA_of {i : Nat} {x : Str} (h : names42[i]? = some x) : cA K i = He.ga K x := by
  unfold cA
  rw [List.getD_eq_getElem?_getD, h]
  rfl
theorem at42 {i : Nat} (h : i ≤ 41) : ∃ x, names42[i]? = some x ∧ x ∈ names42 := by
  have z : i < names42.length := by
    rw [len42]
    omega
  exact ⟨_, List.getElem?_eq_getElem z, List.getElem_mem z⟩
theorem at41 {i : Nat} (h : i < 41) : ∃ x, names42[i]? = some x ∧ x ∈ names41 := by
  have l : names41.length = 41 := by decide +kernel
  have z : i < names41.length := by omega
  refine ⟨names41[i], ?_, List.getElem_mem z⟩
  show (names41 ++ _)[i]? = _
  rw [List.getElem?_append_left z, List.getElem?_eq_getElem z]
theorem cA_inj (nd : (names42.map (He.ga K)).Nodup) {i j : Nat} (hi : i ≤ 41) (hj : j ≤ 41) (e : cA K i = cA K j) : i = j := by
  obtain ⟨x, hx, _⟩ := at42 hi
  obtain ⟨y, hy, _⟩ := at42 hj
  rw [cA_of hx, cA_of hy] at e
  have e1 : (names42.map (He.ga K))[i]? = some (He.ga K x) := by
    rw [List.getElem?_map, hx]
    rfl
  have e2 : (names42.map (He.ga K))[j]? = some (He.ga K x) := by
    rw [List.getElem?_map, hy, e]
    rfl
  obtain ⟨h1, g1⟩ := List.getElem?_eq_some_iff.mp e1
  obtain ⟨h2, g2⟩ := List.getElem?_eq_some_iff.mp e2
  exact (List.getElem_inj nd).mp (g1.trans g2.symm)
theorem fold_at : names42[41]? = some ("FoldError" : Str) := by decide +kernel
theorem contains_ref {l : List Value} {a : Addr} : (Value.ref a :: l).contains (.ref a) = true := by simp
theorem kt_of (c : chk K = true) : KT K := by
  obtain ⟨c1, c2, c3, c4, c5, nd⟩ := chk_parts c
  have et : ∀ i ≤ 41, ET K (cA K i) := fun i hi => by
    obtain ⟨x, hx, hm⟩ := at42 hi
    rw [cA_of hx]
    exact (c1 x hm).2
  have fo : cA K 41 = He.ga K "FoldError" := cA_of fold_at
  have low : ∀ i < 41, mroB K (cA K i) (.ref (cA K i) :: .ref (cA K 41) :: ve) = true := fun i hi => by
    obtain ⟨x, hx, hm⟩ := at41 hi
    rw [cA_of hx, fo]
    exact c3 x hm
  have top : mroB K (cA K 41) (.ref (cA K 41) :: ve) = true := by
    rw [fo]
    exact c4
  have novel : ∀ a : Addr, ve.contains (.ref a) = false := fun a => by
    show [Value.type "ValueError", .type "Exception", .type "BaseException", .type "object"].contains (.ref a) = false
    simp
  refine ⟨et, fun i hi j hj => ?_, fun i hi => ?_, fun i hi => ?_⟩
  · by_cases h41 : i = 41
    · subst h41
      rw [kit_mro top (et j (by omega)) rfl id contains_ref, List.contains_cons, novel, Bool.or_false]
      have ne : cA K j ≠ cA K 41 := fun z => by
        have := cA_inj nd (by omega) (by omega) z
        omega
      have e1 : (Value.ref (cA K j) == Value.ref (cA K 41)) = false := beq_eq_false_iff_ne.mpr fun z => ne (Value.ref.inj z)
      rw [e1, decide_eq_false (by omega)]
    · rw [kit_mro (low i (by omega)) (et j (by omega)) rfl id contains_ref, List.contains_cons, List.contains_cons, novel, Bool.or_false]
      have ne : cA K j ≠ cA K 41 := fun z => by
        have := cA_inj nd (by omega) (by omega) z
        omega
      have e1 : (Value.ref (cA K j) == Value.ref (cA K 41)) = false := beq_eq_false_iff_ne.mpr fun z => ne (Value.ref.inj z)
      rw [e1, Bool.or_false]
      by_cases e : i = j
      · subst e
        rw [decide_eq_true rfl, beq_self_eq_true]
      · have e2 : (Value.ref (cA K j) == Value.ref (cA K i)) = false := beq_eq_false_iff_ne.mpr fun z => e (cA_inj nd hi (by omega) (Value.ref.inj z).symm)
        rw [e2, decide_eq_false e]
  · by_cases h41 : i = 41
    · subst h41
      rw [kit_mro top (et 41 (by omega)) rfl id contains_ref, contains_ref]
    · rw [kit_mro (low i (by omega)) (et 41 (by omega)) rfl id contains_ref, List.contains_cons, contains_ref, Bool.or_true]
  · have hv : ∀ a b : Addr, (Value.ref a :: Value.ref b :: ve).contains (.type "ValueError") = true := fun a b => by
      rw [List.contains_cons, List.contains_cons]
      show (_ || (_ || ve.contains (.type "ValueError"))) = true
      have z : ve.contains (.type "ValueError") = true := by decide +kernel
      rw [z, Bool.or_true, Bool.or_true]
    have hv1 : ∀ a : Addr, (Value.ref a :: ve).contains (.type "ValueError") = true := fun a => by
      rw [List.contains_cons]
      have z : ve.contains (.type "ValueError") = true := by decide +kernel
      rw [z, Bool.or_true]
    by_cases h41 : i = 41
    · subst h41
      exact kit_ve top rfl (hv1 _)
    · exact kit_ve (low i (by omega)) rfl (hv _ _)
theorem tg_of (X : K.In h) (G : h.Ns mainGlobals mg) (c : chk K = true) : TGs K mg := fun i x hx => by
  obtain ⟨c1, _⟩ := chk_parts c
  rw [cA_of hx]
  exact PySem.W.mg_of X G (He.eqO_ok (c1 x (List.mem_of_getElem? hx)).1)
theorem tt_of (X : K.In h) (G : h.Ns mainGlobals mg) (c : chk K = true) (s : He.SaysD fa fn K) : TTs P w K mg base := fun i x hx => by
  obtain ⟨c1, c2, _⟩ := chk_parts c
  rw [List.getElem?_map] at hx
  obtain ⟨p, hp, rfl⟩ := Option.map_eq_some_iff.mp hx
  have hl : i < cls.length := (List.getElem?_eq_some_iff.mp hp).1
  have h42 : names42[i]? = some p.1 := by
    show ((cls.map (·.1) ++ _) ++ _)[i]? = _
    rw [List.getElem?_append_left (by simp; omega), List.getElem?_append_left (by simpa using hl), List.getElem?_map, hp]
    rfl
  have hf : fn[13 + i]? = some (dI p) := by
    show (_ ++ cls.map dI)[13 + i]? = _
    rw [List.getElem?_append_right (by show 13 ≤ 13 + i; omega)]
    show (cls.map dI)[13 + i - 13]? = _
    rw [Nat.add_sub_cancel_left, List.getElem?_map, hp]
    rfl
  obtain ⟨fd, F⟩ := s.def_ (13 + i) hf
  obtain ⟨i1, i2⟩ := He.ba (c2 p (List.mem_of_getElem? hp))
  have et := (c1 p.1 (List.mem_of_getElem? h42)).2
  rw [cA_of h42]
  exact ⟨ei_of et F (He.eqO_ok i1) (of_decide_eq_true i2), PySem.W.mg_of X G (He.eqO_ok (c1 p.1 (List.mem_of_getElem? h42)).1)⟩
theorem ex_of (c : chk K = true) : ∀ i, 39 ≤ i → i ≤ 41 → PySem.W.excIn K (cA K i) ve "ValueError.__new__" = true := fun i h1 h2 => by
  obtain ⟨_, _, _, _, c5, _⟩ := chk_parts c
  have n39 : names42[39]? = some ("NothingToUndo" : Str) := by decide +kernel
  have n40 : names42[40]? = some ("NothingToRedo" : Str) := by decide +kernel
  rcases (show i = 39 ∨ i = 40 ∨ i = 41 by omega) with rfl | rfl | rfl
  · rw [cA_of n39]
    exact c5 _ (by simp [lastNames])
  · rw [cA_of n40]
    exact c5 _ (by simp [lastNames])
  · rw [cA_of fold_at]
    exact c5 _ (by simp [lastNames])
theorem facts (X : K.In h) (G : h.Ns mainGlobals mg) (hfa : mg ("law" : Str) = some (.ref f)) (c : obsX K = valX) :
    ∃ fd : FuncData, (∀ (s : Shared) (v : Value), BindsTo s fd ⟨[v], []⟩ [("_law_script", v)]) ∧ ∀ base : Heap, K.In base → base.Ns mainGlobals mg → FnG P w K mg base CX0 4 f fd ["_law_script"] (spLaw K) := by
  have s : He.SaysD fa fn K := congrArg (fun z : Alx => z.1) c
  have ck : chk K = true := congrArg (fun z : Alx => z.2) c
  have KK := kt_of ck
  have TG := tg_of X G ck
  have ex := ex_of ck
  obtain ⟨fd0, F0⟩ := s.def_ 0 (d := dPurse) rfl
  obtain ⟨fd1, F1⟩ := s.def_ 1 (d := dMixed) rfl
  obtain ⟨fd2, F2⟩ := s.def_ 2 (d := dDraw) rfl
  obtain ⟨fd3, F3⟩ := s.def_ 3 (d := dPurses) rfl
  obtain ⟨fd4, F4⟩ := s.def_ 4 (d := dOneof) rfl
  obtain ⟨fd5, F5⟩ := s.def_ 5 (d := dWord) rfl
  obtain ⟨fd6, F6⟩ := s.def_ 6 (d := dFirst) rfl
  obtain ⟨fd7, F7⟩ := s.def_ 7 (d := dCalled) rfl
  obtain ⟨fd8, F8⟩ := s.def_ 8 (d := dBare) rfl
  obtain ⟨fd9, F9⟩ := s.def_ 9 (d := dCode) rfl
  obtain ⟨fd10, F10⟩ := s.def_ 10 (d := dIserror) rfl
  obtain ⟨fd11, F11⟩ := s.def_ 11 (d := dRight) rfl
  obtain ⟨fd, F⟩ := s.def_ 12 (d := dLaw) rfl
  have g0 := He.glo_ok X G (s.fact 0 (f := .glo "_law_purse") rfl)
  have g1 := He.glo_ok X G (s.fact 1 (f := .glo "_law_mixed") rfl)
  have g2 := He.glo_ok X G (s.fact 2 (f := .glo "_law_draw") rfl)
  have g3 := He.glo_ok X G (s.fact 3 (f := .glo "_law_purses") rfl)
  have g4 := He.glo_ok X G (s.fact 4 (f := .glo "_law_one_of") rfl)
  have g5 := He.glo_ok X G (s.fact 5 (f := .glo "_law_word") rfl)
  have g6 := He.glo_ok X G (s.fact 6 (f := .glo "_law_first") rfl)
  have g7 := He.glo_ok X G (s.fact 7 (f := .glo "_law_called") rfl)
  have g8 := He.glo_ok X G (s.fact 8 (f := .glo "_law_bare") rfl)
  have g9 := He.glo_ok X G (s.fact 9 (f := .glo "_law_code") rfl)
  have g10 := He.glo_ok X G (s.fact 10 (f := .glo "_law_is_error") rfl)
  have g11 := He.glo_ok X G (s.fact 11 (f := .glo "_law_right") rfl)
  have e := hfa.symm.trans (He.glo_ok X G (s.fact 12 (f := .glo "law") rfl))
  cases e
  have bSum := He.free_ok X G (s.fact 13 (f := .free "sum") rfl)
  have bInt := He.free_ok X G (s.fact 14 (f := .free "int") rfl)
  have bMax := He.free_ok X G (s.fact 15 (f := .free "max") rfl)
  have bMin := He.free_ok X G (s.fact 16 (f := .free "min") rfl)
  have bRange := He.free_ok X G (s.fact 17 (f := .free "range") rfl)
  have bLen := He.free_ok X G (s.fact 18 (f := .free "len") rfl)
  have bIs := He.free_ok X G (s.fact 19 (f := .free "isinstance") rfl)
  have bRepr := He.free_ok X G (s.fact 20 (f := .free "repr") rfl)
  have bAll := He.free_ok X G (s.fact 21 (f := .free "all") rfl)
  have bList := He.free_ok X G (s.fact 22 (f := .free "list") rfl)
  have bDict := He.free_ok X G (s.fact 23 (f := .free "dict") rfl)
  have bTuple := He.free_ok X G (s.fact 24 (f := .free "tuple") rfl)
  have bVE := He.free_ok X G (s.fact 25 (f := .free "ValueError") rfl)
  have b := FunD.bindsA (ps := ["_law_script"]) F fun _ _ _ _ _ _ us hl => match us, hl with | [_], _ => rfl
  refine ⟨fd, fun s v => b s [v] rfl, fun base _ _ => ?_⟩
  have TT : TTs P w K mg base := tt_of X G ck s
  have GD : FnOk P w K mg base CX0 2 _ fd2 ["_law_purse_here", "_law_many"] spDraw := ok_draw F2 F1 g1 bInt bRange
  have GP := ok_purse (P := P) (w := w) (base := base) F0 bSum bInt bMax
  have GC := ok_code (P := P) (w := w) (base := base) F9 TG KK bIs bRange bLen
  have GE := ok_isE (P := P) (w := w) (base := base) F10 TG KK bIs bVE
  refine ok_law F ⟨⟨_, fd3, ok_purses F3 GP F0 g0 bRange bMax bMin bLen, F3, g3⟩, ⟨_, fd5, ok_word F5 GD F2 g2 bRange, F5, g5⟩, ⟨_, fd4, ok_one F4 GD F2 g2 bLen, F4, g4⟩,
    ⟨_, fd6, ok_first F6 TT, F6, g6⟩, ⟨_, fd7, ok_called F7 TT, F7, g7⟩, ⟨_, fd8, ok_bare F8 TT, F8, g8⟩, ⟨_, fd9, GC, F9, g9⟩, ⟨_, fd10, GE, F10, g10⟩,
    ⟨_, fd11, ok_right F11 GC F9 g9 GE F10 g10 bRange bRepr KK, F11, g11⟩⟩ TG KK ex bRepr bIs bList bDict bTuple bAll
end
end K01
open PySem PySem.W PySem.Calls PyProof.Rows
theorem PySem.Challenge.cw_shiftfolds_k01_errors_made_holds : PySem.Challenge.rw_shiftfolds_k01_errors_made.Holds := by
  w_on; o_law
  refine HandSHeadRun.head_any (r := OpenLaw.row PySem.Challenge.rw_shiftfolds_k01_errors_made) (q := view (OpenLaw.row PySem.Challenge.rw_shiftfolds_k01_errors_made).prog [56]) (H := K01.hk) (ob := K01.ob) (M := 12000) (loose := K01.loose)
    (d := HandSHeadRun.topDef (OpenLaw.row PySem.Challenge.rw_shiftfolds_k01_errors_made).prog 56) (kwd := []) K01.ob_eq
    (by kernel_rfl) (fun s => by kernel_rfl) K01.run (by kernel_rfl) (by kernel_rfl) (by kernel_rfl) (by rfl) (by first | assumption | decide +kernel) (by decide +kernel) ⟨rfl, rfl, rfl, rfl, rfl, by decide +kernel⟩ ?hw ?hc
  case hw => w_witness2
  case hc =>
    refine K01.walk_G (l := PySem.Challenge.rw_shiftfolds_k01_errors_made) (n := 63) (k := 4) (x := "_law_script") (CX := L2.CX0) rfl (by decide) (by kernel_rfl) ⟨rfl, by decide, by decide⟩ ?F (fun _ _ _ _ z => z)
    intro w mg fa h Y G hmg0
    obtain ⟨K, KX, c⟩ := Y
    have hmg : mg ("law" : PySem.Str) = some (.ref fa) := by
      have e : (HandSHeadRun.topDef (OpenLaw.row PySem.Challenge.rw_shiftfolds_k01_errors_made).prog 56).name = ("law" : PySem.Str) := by kernel_rfl
      rw [← e]
      exact hmg0
    obtain ⟨fd, hb, hF⟩ := K01.facts (P := (PySem.Challenge.rw_shiftfolds_k01_errors_made).prog) (w := w) KX G hmg c
    exact ⟨K, fd, K01.spLaw K, KX, hb, fun H a ns hl _ hS => ⟨a, ns, rfl, hS, hl, fun _ => rfl⟩, hF⟩
