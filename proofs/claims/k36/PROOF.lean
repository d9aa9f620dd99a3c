import PyProof.Rows.All
import Wide.All
import OpenK.AllK
import Wide.FinOn
import KE.KStateDown
import KE.KExcInit
import HandS.ForExc
import HandS.ForMost
import HandS.Defaults
import HandS.ExcInit
import HandS.ExcIs
import HandS.IsInst
import HandS.Wide
import HandS.WideBits
import HandS.HeadEnd
import HandS.HeadHook1
import HandS.HeadHook2
import HandS.Head0
import HandS.Head1
import HandS.Head2
import HandS.Walk
import HandS.AnyAll
import HandS.Deep
import HandS.List
import HandS.Iter
import HandS.Style
import HandS.DictComp
import HandS.DictTup
import HandS.Conv
import HandS.ListItems
import KE.KDictList
import KE.DataMinMax
import HandS.SortKw
import HandS.WordsDict
import HandS.Lambda
import HandS.Codes
import HandS.SortOrd
import HandS.SortRule
import KE.KSortKeyAny
import KE.KSortTup
import PyProof.Rows.SortKeyStr
import PyProof.Rows.SortLt
import PyProof.P3Eq
import HandS.TupLen
import HandS.Zip
import HandS.HeadHook3
import HandS.HeadHook4
import HandS.EndTab
import HandS.HeadWalk
import PySem.Challenge.RW_shiftfolds_k36_whole_bars
set_option Elab.async false
set_option linter.all false
set_option maxRecDepth 100000
set_option maxHeartbeats 0
namespace K36
open PySem PySem.Spec PyProof.Rows L2
def top (i : Nat) : Stmt := PySem.Challenge.pw_shiftfolds_k36_whole_bars.main.body.getD i (.Pass ⟨0, 0, 0, 0⟩)
abbrev sPIsAscending : Stmt := top 7
def dPIsAscending : He.DefD := ⟨("is_ascending", none), "is_ascending", "is_ascending", defArgs sPIsAscending, defBody sPIsAscending, defScope sPIsAscending, [], []⟩
abbrev sPIsCount : Stmt := top 8
def dPIsCount : He.DefD := ⟨("is_count", none), "is_count", "is_count", defArgs sPIsCount, defBody sPIsCount, defScope sPIsCount, [], []⟩
abbrev sPIsCountFrom : Stmt := top 9
def dPIsCountFrom : He.DefD := ⟨("is_count_from", none), "is_count_from", "is_count_from", defArgs sPIsCountFrom, defBody sPIsCountFrom, defScope sPIsCountFrom, [], []⟩
abbrev sPIsCountTuple : Stmt := top 11
def dPIsCountTuple : He.DefD := ⟨("is_count_tuple", none), "is_count_tuple", "is_count_tuple", defArgs sPIsCountTuple, defBody sPIsCountTuple, defScope sPIsCountTuple, [], []⟩
abbrev sPIsBlock : Stmt := top 12
def dPIsBlock : He.DefD := ⟨("is_block", none), "is_block", "is_block", defArgs sPIsBlock, defBody sPIsBlock, defScope sPIsBlock, [], []⟩
abbrev sPIsBlockList : Stmt := top 13
def dPIsBlockList : He.DefD := ⟨("is_block_list", none), "is_block_list", "is_block_list", defArgs sPIsBlockList, defBody sPIsBlockList, defScope sPIsBlockList, [], []⟩
abbrev sPAreApart : Stmt := top 14
def dPAreApart : He.DefD := ⟨("are_apart", none), "are_apart", "are_apart", defArgs sPAreApart, defBody sPAreApart, defScope sPAreApart, [], []⟩
abbrev sPIsGroupingOf : Stmt := top 15
def dPIsGroupingOf : He.DefD := ⟨("is_grouping_of", none), "is_grouping_of", "is_grouping_of", defArgs sPIsGroupingOf, defBody sPIsGroupingOf, defScope sPIsGroupingOf, [], []⟩
abbrev sPCheckAnyGrouping : Stmt := top 16
def dPCheckAnyGrouping : He.DefD := ⟨("check_any_grouping", none), "check_any_grouping", "check_any_grouping", defArgs sPCheckAnyGrouping, defBody sPCheckAnyGrouping, defScope sPCheckAnyGrouping, [], []⟩
abbrev sPMidsOf : Stmt := top 17
def dPMidsOf : He.DefD := ⟨("mids_of", none), "mids_of", "mids_of", defArgs sPMidsOf, defBody sPMidsOf, defScope sPMidsOf, [], []⟩
abbrev sPCheckHands : Stmt := top 19
def dPCheckHands : He.DefD := ⟨("check_hands", none), "check_hands", "check_hands", defArgs sPCheckHands, defBody sPCheckHands, defScope sPCheckHands, [], []⟩
abbrev sPCheckRun : Stmt := top 20
def dPCheckRun : He.DefD := ⟨("check_run", none), "check_run", "check_run", defArgs sPCheckRun, defBody sPCheckRun, defScope sPCheckRun, [], []⟩
abbrev sPBlockParts : Stmt := top 21
def dPBlockParts : He.DefD := ⟨("block_parts", none), "block_parts", "block_parts", defArgs sPBlockParts, defBody sPBlockParts, defScope sPBlockParts, [], []⟩
abbrev sPPartsAt : Stmt := top 22
def dPPartsAt : He.DefD := ⟨("parts_at", none), "parts_at", "parts_at", defArgs sPPartsAt, defBody sPPartsAt, defScope sPPartsAt, [], []⟩
abbrev sPBlockDepths : Stmt := top 23
def dPBlockDepths : He.DefD := ⟨("block_depths", none), "block_depths", "block_depths", defArgs sPBlockDepths, defBody sPBlockDepths, defScope sPBlockDepths, [], []⟩
abbrev sPIsReady : Stmt := top 24
def dPIsReady : He.DefD := ⟨("is_ready", none), "is_ready", "is_ready", defArgs sPIsReady, defBody sPIsReady, defScope sPIsReady, [], []⟩
abbrev sPSchedule : Stmt := top 25
def dPSchedule : He.DefD := ⟨("schedule", none), "schedule", "schedule", defArgs sPSchedule, defBody sPSchedule, defScope sPSchedule, [], []⟩
abbrev sPStepsRun : Stmt := top 26
def dPStepsRun : He.DefD := ⟨("steps_run", none), "steps_run", "steps_run", defArgs sPStepsRun, defBody sPStepsRun, defScope sPStepsRun, [], []⟩
abbrev sPDepthNumbers : Stmt := top 27
def dPDepthNumbers : He.DefD := ⟨("depth_numbers", none), "depth_numbers", "depth_numbers", defArgs sPDepthNumbers, defBody sPDepthNumbers, defScope sPDepthNumbers, [], []⟩
abbrev sPStepsByNumbers : Stmt := top 28
def dPStepsByNumbers : He.DefD := ⟨("steps_by_numbers", none), "steps_by_numbers", "steps_by_numbers", defArgs sPStepsByNumbers, defBody sPStepsByNumbers, defScope sPStepsByNumbers, [], []⟩
abbrev sPBarNumbers : Stmt := top 29
def dPBarNumbers : He.DefD := ⟨("bar_numbers", none), "bar_numbers", "bar_numbers", defArgs sPBarNumbers, defBody sPBarNumbers, defScope sPBarNumbers, [], []⟩
abbrev sPNumbersOf : Stmt := top 30
def dPNumbersOf : He.DefD := ⟨("numbers_of", none), "numbers_of", "numbers_of", defArgs sPNumbersOf, defBody sPNumbersOf, defScope sPNumbersOf, [], []⟩
abbrev sPBarSteps : Stmt := top 31
def dPBarSteps : He.DefD := ⟨("bar_steps", none), "bar_steps", "bar_steps", defArgs sPBarSteps, defBody sPBarSteps, defScope sPBarSteps, [], []⟩
abbrev sPGreatestBar : Stmt := top 32
def dPGreatestBar : He.DefD := ⟨("greatest_bar", none), "greatest_bar", "greatest_bar", defArgs sPGreatestBar, defBody sPGreatestBar, defScope sPGreatestBar, [], []⟩
abbrev sPIsGreatestBar : Stmt := top 33
def dPIsGreatestBar : He.DefD := ⟨("is_greatest_bar", none), "is_greatest_bar", "is_greatest_bar", defArgs sPIsGreatestBar, defBody sPIsGreatestBar, defScope sPIsGreatestBar, [], []⟩
abbrev sPAreLosses : Stmt := top 34
def dPAreLosses : He.DefD := ⟨("are_losses", none), "are_losses", "are_losses", defArgs sPAreLosses, defBody sPAreLosses, defScope sPAreLosses, [], []⟩
abbrev sPCheckLosses : Stmt := top 35
def dPCheckLosses : He.DefD := ⟨("check_losses", none), "check_losses", "check_losses", defArgs sPCheckLosses, defBody sPCheckLosses, defScope sPCheckLosses, [], []⟩
abbrev sPRun : Stmt := top 36
def dPRun : He.DefD := ⟨("run", none), "run", "run", defArgs sPRun, defBody sPRun, defScope sPRun, [], []⟩
abbrev sPProfile : Stmt := top 38
def dPProfile : He.DefD := ⟨("profile", none), "profile", "profile", defArgs sPProfile, defBody sPProfile, defScope sPProfile, [], []⟩
abbrev sPProfileOf : Stmt := top 39
def dPProfileOf : He.DefD := ⟨("profile_of", none), "profile_of", "profile_of", defArgs sPProfileOf, defBody sPProfileOf, defScope sPProfileOf, [], []⟩
abbrev sPStepsOf : Stmt := top 40
def dPStepsOf : He.DefD := ⟨("steps_of", none), "steps_of", "steps_of", defArgs sPStepsOf, defBody sPStepsOf, defScope sPStepsOf, [], []⟩
abbrev sPProfileSteps : Stmt := top 41
def dPProfileSteps : He.DefD := ⟨("profile_steps", none), "profile_steps", "profile_steps", defArgs sPProfileSteps, defBody sPProfileSteps, defScope sPProfileSteps, [], []⟩
abbrev sPurse : Stmt := top 43
def dPurse : He.DefD := ⟨("_law_purse", none), "_law_purse", "_law_purse", defArgs sPurse, defBody sPurse, defScope sPurse, [], []⟩
abbrev sMixed : Stmt := top 44
def dMixed : He.DefD := ⟨("_law_mixed", none), "_law_mixed", "_law_mixed", defArgs sMixed, defBody sMixed, defScope sMixed, [], []⟩
abbrev sDraw : Stmt := top 45
def dDraw : He.DefD := ⟨("_law_draw", none), "_law_draw", "_law_draw", defArgs sDraw, defBody sDraw, defScope sDraw, [], []⟩
abbrev sPurses : Stmt := top 46
def dPurses : He.DefD := ⟨("_law_purses", none), "_law_purses", "_law_purses", defArgs sPurses, defBody sPurses, defScope sPurses, [], []⟩
abbrev sExact : Stmt := top 47
def dExact : He.DefD := ⟨("_law_exact", none), "_law_exact", "_law_exact", defArgs sExact, defBody sExact, defScope sExact, [], []⟩
abbrev sGrown : Stmt := top 48
def dGrown : He.DefD := ⟨("_law_grown", none), "_law_grown", "_law_grown", defArgs sGrown, defBody sGrown, defScope sGrown, [], []⟩
abbrev sBlockdepths : Stmt := top 49
def dBlockdepths : He.DefD := ⟨("_law_block_depths", none), "_law_block_depths", "_law_block_depths", defArgs sBlockdepths, defBody sBlockdepths, defScope sBlockdepths, [], []⟩
abbrev sProfile : Stmt := top 50
def dProfile : He.DefD := ⟨("_law_profile", none), "_law_profile", "_law_profile", defArgs sProfile, defBody sProfile, defScope sProfile, [], []⟩
abbrev sBar : Stmt := top 51
def dBar : He.DefD := ⟨("_law_bar", none), "_law_bar", "_law_bar", defArgs sBar, defBody sBar, defScope sBar, [], []⟩
abbrev sNumbers : Stmt := top 52
def dNumbers : He.DefD := ⟨("_law_numbers", none), "_law_numbers", "_law_numbers", defArgs sNumbers, defBody sNumbers, defScope sNumbers, [], []⟩
abbrev sRight : Stmt := top 53
def dRight : He.DefD := ⟨("_law_right", none), "_law_right", "_law_right", defArgs sRight, defBody sRight, defScope sRight, [], []⟩
abbrev sLaw : Stmt := top 54
def dLaw : He.DefD := ⟨("law", none), "law", "law", defArgs sLaw, defBody sLaw, defScope sLaw, [], []⟩
def fn0 : List He.DefD := [dPIsAscending, dPIsCount, dPIsCountFrom, dPIsCountTuple, dPIsBlock, dPIsBlockList, dPAreApart, dPIsGroupingOf, dPCheckAnyGrouping, dPMidsOf, dPCheckHands, dPCheckRun, dPBlockParts, dPPartsAt, dPBlockDepths, dPIsReady, dPSchedule, dPStepsRun, dPDepthNumbers, dPStepsByNumbers, dPBarNumbers, dPNumbersOf, dPBarSteps, dPGreatestBar, dPIsGreatestBar, dPAreLosses, dPCheckLosses, dPRun, dPProfile, dPProfileOf]
def fn1 : List He.DefD := [dPStepsOf, dPProfileSteps, dPurse, dMixed, dDraw, dPurses, dExact, dGrown, dBlockdepths, dProfile, dBar, dNumbers, dRight, dLaw]
def fn : List He.DefD := fn0 ++ fn1
def fa0 : List He.Fa := [.glo "is_ascending", .glo "is_count", .glo "is_count_from", .glo "is_count_tuple", .glo "is_block", .glo "is_block_list", .glo "are_apart", .glo "is_grouping_of", .glo "check_any_grouping", .glo "mids_of", .glo "check_hands", .glo "check_run", .glo "block_parts", .glo "parts_at", .glo "block_depths", .glo "is_ready", .glo "schedule", .glo "steps_run", .glo "depth_numbers", .glo "steps_by_numbers", .glo "bar_numbers", .glo "numbers_of", .glo "bar_steps", .glo "greatest_bar", .glo "is_greatest_bar", .glo "are_losses", .glo "check_losses", .glo "run", .glo "profile", .glo "profile_of"]
def fa1 : List He.Fa := [.glo "steps_of", .glo "profile_steps", .glo "_law_purse", .glo "_law_mixed", .glo "_law_draw", .glo "_law_purses", .glo "_law_exact", .glo "_law_grown", .glo "_law_block_depths", .glo "_law_profile", .glo "_law_bar", .glo "_law_numbers", .glo "_law_right", .glo "law", .free "all", .free "bool", .free "dict", .free "enumerate", .free "int", .free "isinstance", .free "len", .free "list", .free "max", .free "min", .free "range", .free "sorted", .free "str", .free "sum", .free "tuple", .free "zip"]
def fa : List He.Fa := fa0 ++ fa1
def loose0 : List Str := ["FoldError", "InvalidGrouping", "InvalidHands", "InvalidLosses", "InvalidCount", "is_ascending", "is_count", "is_count_from", "is_count_tuple", "is_block", "is_block_list", "are_apart", "is_grouping_of", "check_any_grouping", "mids_of", "check_hands", "check_run", "block_parts", "parts_at", "block_depths", "is_ready", "schedule", "steps_run", "depth_numbers", "steps_by_numbers", "bar_numbers", "numbers_of", "bar_steps", "greatest_bar", "is_greatest_bar"]
def loose1 : List Str := ["are_losses", "check_losses", "run", "profile", "profile_of", "steps_of", "profile_steps", "_law_purse", "_law_mixed", "_law_draw", "_law_purses", "_law_exact", "_law_grown", "_law_block_depths", "_law_profile", "_law_bar", "_law_numbers", "_law_right"]
def loose : List Str := loose0 ++ loose1
abbrev Alx : Type := He.AlD × Bool
def obsX (K : PySem.W.Frag) : Alx := (He.obsD fa fn K, true)
def valX : Alx := (He.valD fn, true)
def hk : PySem.W.Hook where
  α := Alx
  obs := fun s => obsX (He.frG s.heap.get? (He.asD s.heap.get? 4))
  val := fun _ => valX
  says := fun _ h => ∃ K : PySem.W.Frag, K.In h ∧ obsX K = valX
  of := fun _ _ e => ⟨_, He.frG_in, e⟩
  keeps := fun _ _ _ ⟨K, hK, c⟩ k => ⟨K, PySem.W.Frag.In.keeps hK k, c⟩
def ob (s : PySem.W.SharedT) : Alx := obsX (He.frG (HandSHeadRun.getT s) (He.asD (HandSHeadRun.getT s) 4))
theorem ob_eq (s : PySem.W.SharedT) : ob s = hk.obs s.abs := by
  have e : HandSHeadRun.getT s = s.abs.heap.get? := funext (HandSHeadRun.getT_eq s)
  unfold ob
  rw [e] <;> rfl
abbrev R : PySem.W.OpenRow := PySem.W.OpenLaw.row PySem.Challenge.rw_shiftfolds_k36_whole_bars
end K36
/-! The purse: drawing numbers, words, one of some. -/
namespace K36
open PySem PySem.Spec PyProof.Rows L2
def CPowB (i j : Int) : Prop := 0 ≤ j ∧ (Builtin.Int.intBits i : Int) * j ≤ 2 ^ 27
theorem op_powB {X : Cx} : OpR X (binaryOp .Pow) (rI CPowB fun i j => .int (i ^ j.toNat)) := opI fun _ _ _ _ _ _ _ hc q => pow_int hc.1 hc.2 q
/-- the modulus of a purse's first number -/
abbrev big : Int := 10 ^ 480
/-- a purse at p, so many turns taken at most -/
def Pu (H : Hp) (p : Addr) (t : Int) : Prop := ∃ a b tt c : Int, H p = some (.lst [.int a, .int b, .int tt, .int c]) ∧ 0 ≤ a ∧ a < big ∧ 0 ≤ b ∧ b < 2147483629 ∧ 0 ≤ tt ∧ tt ≤ t ∧ 0 ≤ c ∧ c ≤ 63
/-- all but p stands -/
def Sb (p : Addr) (H H' : Hp) : Prop := ∀ b o, b ≠ p → H b = some o → H' b = some o
theorem Sb.refl {p : Addr} {H : Hp} : Sb p H H := fun _ _ _ e => e
theorem Sb.trans {p : Addr} {H1 H2 H3 : Hp} (a : Sb p H1 H2) (b : Sb p H2 H3) : Sb p H1 H3 := fun x o n e => b x o n (a x o n e)
theorem Sb.upd {p q : Addr} {H : Hp} {o : HO} (h : H q = none ∨ q = p) : Sb p H (upd H q o) := fun b u n e => by
  rcases h with h | h
  · rw [upd_ne (ne_of_none e h)]
    exact e
  · rw [upd_ne (by rw [h]; exact n)]
    exact e
theorem Pu.mono {H : Hp} {p : Addr} {t t' : Int} (h : Pu H p t) (l : t ≤ t') : Pu H p t' := by
  obtain ⟨a, b, tt, c, e, h1, h2, h3, h4, h5, h6, h7, h8⟩ := h
  exact ⟨a, b, tt, c, e, h1, h2, h3, h4, h5, by omega, h7, h8⟩
theorem Pu.keep {H H' : Hp} {p : Addr} {t : Int} (h : Pu H p t) (k : Same H H') : Pu H' p t := by
  obtain ⟨a, b, tt, c, e, r⟩ := h
  exact ⟨a, b, tt, c, k _ _ e, r⟩
abbrev FnP (K : PySem.W.Frag) (d : He.DefD) (f : Addr) (fd : FuncData) : Prop := FunD K d.name d.qual d.params d.body d.scope [] [] f fd

theorem itT {c : Bool} {A B : Prop} (h : c = true) (a : A) : if c = true then A else B := by
  rw [if_pos h]
  exact a
theorem itF {c : Bool} {A B : Prop} (h : c = false) (b : B) : if c = true then A else B := by
  rw [if_neg (by rw [h]; exact Bool.false_ne_true)]
  exact b
/-! ### _law_mixed -/
def spMixed : Sp := fun vs H Q _ => ∃ s t a : Int, vs = [.int s, .int t, .int a] ∧ 0 ≤ s ∧ s < 2147483629 ∧ 0 ≤ t ∧ t < 2 ^ 62 ∧ 0 ≤ a ∧ a ≤ 63 ∧ ∀ d : Int, 0 ≤ d → d < 2147483587 → Q (.int d) H
theorem scMixed : FnScope ["_law_seed", "_law_turn", "_law_at", "_law_mixed_here"] ["_law_seed", "_law_turn", "_law_at"] (defScope sMixed) := ⟨rfl, rfl, rfl, by decide +kernel, rfl, by decide +kernel, by decide +kernel⟩
section
variable {P : Program} {w : World} {K : PySem.W.Frag} {mg : Str → Option Value} {base : Heap} {f : Addr} {fd : FuncData}
theorem ok_mixed (F : FnP K dMixed f fd) (gI : mg "int" = none) : FnOk P w K mg base CX0 1 f fd ["_law_seed", "_law_turn", "_law_at"] spMixed := by
  refine F.ok scMixed (fun vs H Q E h => ?_) (fun cdv A outer s H vs Q E hr h => ⟨_,
    pss_cons (ps_set (i := 3) scMixed.nd rfl (.inl rfl) (pe_op op_add (pe_op op_mul (pv 0) pe_int) (pe_op op_mul (pe_op op_mul pe_int (pv 1)) (pv 1))))
    (pss_cons (ps_set (i := 3) scMixed.nd rfl (.inl rfl) (pe_op op_mod (pe_callTy call_int1 rfl gI (by decide +kernel) (pa_cons (pe_op op_add (pe_op op_add (pv 3) (pe_op op_mul pe_int (pv 2))) (pv 1)) pa_nil)) pe_int))
    (pss_cons (ps_set (i := 3) scMixed.nd rfl (.inl rfl) (pe_op op_mod (pe_callTy call_int1 rfl gI (by decide +kernel) (pa_cons (pe_op op_add (pe_op op_mul (pv 3) (pv 3)) pe_int) pa_nil)) pe_int))
    (pss_one (ps_ret (pe_op op_mod (pe_callTy call_int1 rfl gI (by decide +kernel) (pa_cons (pe_op op_mul (pv 3) pe_int) pa_nil)) pe_int))))), ?_⟩)
  · obtain ⟨s, t, a, rfl, _⟩ := h
    rfl
  · obtain ⟨s, t, a, rfl, s0, s1, t0, t1, a0, a1, k⟩ := h
    have m0 : ∀ x : Int, 0 ≤ x % 2147483647 ∧ x % 2147483647 < 2147483647 := fun x => ⟨Int.emod_nonneg _ (by decide), Int.emod_lt_of_pos _ (by decide)⟩
    refine ⟨_, rfl, s, _, rfl, rfl, .inr ⟨by decide, by decide⟩, ?_⟩
    refine ⟨_, rfl, _, t, rfl, rfl, .inl ⟨by decide, by decide⟩, _, rfl, _, t, rfl, rfl, .inr ⟨by omega, by omega⟩, _, _, rfl, rfl, ?_⟩
    refine ⟨_, rfl, _, rfl, _, a, rfl, rfl, .inl ⟨by decide, by decide⟩, _, _, rfl, rfl, _, rfl, _, t, rfl, rfl, .inl ⟨_, rfl, ?_⟩⟩
    refine ⟨_, _, rfl, rfl, (by show (0 : Int) < 2147483647; decide), ?_⟩
    have b := m0 (s * 69069 + 104729 * t * t + 7919 * a + t)
    refine ⟨_, rfl, _, rfl, _, _, rfl, rfl, .inl ⟨?_, ?_⟩, _, _, rfl, rfl, .inl ⟨_, rfl, _, _, rfl, rfl, (by show (0 : Int) < 2147483629; decide), ?_⟩⟩
    · exact Int.lt_of_lt_of_le (by decide) b.1
    · exact Int.lt_trans b.2 (by decide)
    refine ⟨_, rfl, _, _, rfl, rfl, .inr ⟨by decide, by decide⟩, .inl ⟨_, rfl, _, _, rfl, rfl, (by show (0 : Int) < 2147483587; decide), ?_⟩⟩
    exact k _ (Int.emod_nonneg _ (by decide)) (Int.emod_lt_of_pos _ (by decide))
end
/-! ### _law_draw -/
def spDraw : Sp := fun vs H Q _ => ∃ (p : Addr) (t m : Int), vs = [.ref p, .int m] ∧ Pu H p t ∧ t ≤ 2 ^ 40 ∧ 0 < m ∧ m < 2 ^ 27 ∧ ∀ (d : Int) (H' : Hp), 0 ≤ d → d < m → Sb p H H' → Pu H' p (t + 1) → Q (.int d) H'
theorem scDraw : FnScope ["_law_purse_here", "_law_many", "_law_drawn", "_law_found", "_law_piece"] ["_law_purse_here", "_law_many"] (defScope sDraw) := ⟨rfl, rfl, rfl, by decide +kernel, rfl, by decide +kernel, by decide +kernel⟩
theorem bits27 {m : Int} (h0 : 0 < m) (h : m < 2 ^ 27) : ((Builtin.Int.intBits m : Nat) : Int) / 28 = 0 := by
  have b : Builtin.Int.intBits m ≤ 27 := by
    unfold Builtin.Int.intBits
    split
    · omega
    · have : m.natAbs.log2 < 27 := (Nat.log2_lt (by omega)).mpr (by omega)
      omega
  omega
section
variable {P : Program} {w : World} {K : PySem.W.Frag} {mg : Str → Option Value} {base : Heap} {f fM : Addr} {fd fdM : FuncData}
theorem ok_draw (F : FnP K dDraw f fd) (FM : FnP K dMixed fM fdM) (gM : mg "_law_mixed" = some (.ref fM)) (gI : mg "int" = none) (gR : mg "range" = none) : FnOk P w K mg base CX0 2 f fd ["_law_purse_here", "_law_many"] spDraw := by
  have GM : FnOk P w K mg base CX0 1 fM fdM ["_law_seed", "_law_turn", "_law_at"] spMixed := ok_mixed FM gI
  have bM : Binds K fdM ["_law_seed", "_law_turn", "_law_at"] [] := FM.bindsN fun _ _ _ _ _ _ us hl => match us, hl with | [_, _, _], _ => rfl
  refine F.ok scDraw (fun vs H Q E h => ?_) (fun cdv A outer s H vs Q E hr h => ⟨_, PSs.nox (
    pss_cons (ps_if (pt_cmpR op_gt (pe_ix ix_list (pv 0) pe_int (fun _ _ => rfl)) pe_int (nomark _))
      (pss_cons (ps_set (i := 2) scDraw.nd rfl (.inl rfl) (pe_op op_mod (pe_callTy call_int1 rfl gI (by decide +kernel) (pa_cons (pe_ix ix_list (pv 0) pe_int (fun _ _ => rfl)) pa_nil)) (pv 1)))
      (pss_cons (ps_asg (pe_op op_fdiv (pe_ix ix_list (pv 0) pe_int (fun _ _ => rfl)) (pv 1)) (pg_sub (pv 0) pe_int set_list))
      (pss_one (ps_ret (pv 2))))) pss_nil)
    (pss_cons (ps_set (i := 3) scDraw.nd rfl (.inl rfl) pe_int)
    (pss_cons (ps_for PassesOwn.never rfl (pi_range1 rfl gR (pa_cons (pe_op op_add pe_int (pe_op op_fdiv (pe_bits (pv 1)) pe_int)) pa_nil)) (pg_name (i := 4) scDraw.nd rfl (.inl rfl))
      (pss_cons (ps_asg (pe_op op_add (pe_ix ix_list (pv 0) pe_int (fun _ _ => rfl)) pe_int) (pg_sub (pv 0) pe_int set_list))
      (pss_one (ps_set (i := 3) scDraw.nd rfl (.inl rfl) (pe_op op_add (pe_op op_mul (pv 3) pe_int)
        (pe_call GM hr rfl gM FM.kp bM .nil pass0 (pa_cons (pe_ix ix_list (pv 0) pe_int (fun _ _ => rfl)) (pa_cons (pe_ix ix_list (pv 0) pe_int (fun _ _ => rfl)) (pa_cons (pe_ix ix_list (pv 0) pe_int (fun _ _ => rfl)) pa_nil))))))))) 
    (pss_one (ps_ret (pe_op op_mod (pe_callTy call_int1 rfl gI (by decide +kernel) (pa_cons (pv 3) pa_nil)) (pv 1))))))), ?_⟩)
  · obtain ⟨p, t, m, rfl, _⟩ := h
    rfl
  · obtain ⟨p, t, m, rfl, pu, tle, m0, m1, k⟩ := h
    obtain ⟨a, b, tt, c, e, a0, a1, b0, b1, t0, t1, c0, c1⟩ := pu
    refine ⟨_, rfl, p, _, 0, _, rfl, rfl, SqL.of e, rfl, _, _, rfl, rfl, _, rfl, ?_⟩
    by_cases pos : 0 < a
    · refine itT (decide_eq_true pos) ?_
      refine ⟨_, rfl, p, _, 0, _, rfl, rfl, SqL.of e, rfl, .inl ⟨_, rfl, ?_⟩⟩
      refine ⟨_, rfl, a, m, rfl, rfl, m0, ?_⟩
      refine ⟨_, rfl, p, _, 0, _, rfl, rfl, SqL.of e, rfl, ?_⟩
      refine ⟨_, rfl, a, m, rfl, rfl, ⟨m0, by omega⟩, ?_⟩
      refine ⟨_, rfl, p, _, 0, 0, rfl, rfl, e, rfl, ?_⟩
      refine ⟨_, rfl, k _ _ (Int.emod_nonneg _ (by omega)) (Int.emod_lt_of_pos _ m0) (.upd (.inr rfl)) ⟨a / m, b, tt, c, upd_same, Int.ediv_nonneg a0 (by omega), ?_, b0, b1, t0, by omega, c0, c1⟩⟩
      exact Int.lt_of_le_of_lt (Int.ediv_le_self _ a0) a1
    · refine itF (decide_eq_false pos) ?_
      refine ⟨_, rfl, m, rfl, _, _, rfl, rfl, ⟨by decide, by decide⟩, _, _, rfl, rfl, (1 : Int), by rw [bits27 m0 m1]; rfl, by decide, by decide, ?_⟩
      refine for_range (lo := 0) (n := 1) (fun i σ H' => ∃ (fo : Int) (v : Option V), σ = [some (.ref p), some (.int m), none, some (.int fo), v] ∧ H' p = some (.lst [.int a, .int b, .int (tt + i), .int c]) ∧ Sb p H H') ?_ ?_ ?_
      · exact ⟨0, none, rfl, by rw [e]; simp, .refl⟩
      · rintro i σ H' hi ⟨fo, v, rfl, e', sb⟩
        refine ⟨_, rfl, p, _, 2, _, rfl, rfl, SqL.of e', rfl, _, _, rfl, rfl, ?_⟩
        refine ⟨_, rfl, p, _, 2, 2, rfl, rfl, e', rfl, ?_⟩
        refine ⟨_, rfl, fo, _, rfl, rfl, .inr ⟨by decide, by decide⟩, ?_⟩
        refine ⟨_, rfl, p, _, 1, _, rfl, rfl, SqL.of upd_same, rfl, ?_⟩
        refine ⟨_, rfl, p, _, 2, _, rfl, rfl, SqL.of upd_same, rfl, ?_⟩
        refine ⟨_, rfl, p, _, 3, _, rfl, rfl, SqL.of upd_same, rfl, ?_⟩
        refine ⟨b, _, c, rfl, b0, b1, ?_, ?_, c0, c1, fun d d0 d1 => ⟨_, _, rfl, rfl, ?_⟩⟩
        · omega
        · have hi' : (i : Int) < 1 := by exact_mod_cast hi
          omega
        · refine ⟨_, some (.int (0 + i)), rfl, ?_, sb.trans (.upd (.inr rfl))⟩
          rw [upd_same]
          have z : tt + (i : Int) + 1 = tt + ((i + 1 : Nat) : Int) := by omega
          rw [← z]
          rfl
      · rintro σ H' ⟨fo, v, rfl, e', sb⟩
        refine ⟨_, rfl, .inl ⟨_, rfl, _, rfl, fo, m, rfl, rfl, m0, ?_⟩⟩
        exact k _ _ (Int.emod_nonneg _ (by omega)) (Int.emod_lt_of_pos _ m0) sb ⟨a, b, tt + (1 : Nat), c, e', a0, a1, b0, b1, by omega, by omega, c0, c1⟩
end
end K36
namespace K36
open PySem PySem.Spec PyProof.Rows L2
/-! ### _law_purse, _law_purses -/
def spPurse (K : PySem.W.Frag) : Sp := fun vs H Q _ => ∃ (a : Addr) (ns : List Int) (i : Nat), vs = [.ref a, .int i] ∧ SqL K H a (ns.map V.int) ∧ i ≤ 63 ∧
  ∀ (p : Addr) (H' : Hp), H p = none → Same H H' → Pu H' p 0 → Q (.ref p) H'
theorem scPurse : FnScope ["_law_script", "_law_at", "_law_seed"] ["_law_script", "_law_at"] (defScope sPurse) := ⟨rfl, rfl, rfl, by decide +kernel, rfl, by decide +kernel, by decide +kernel⟩
theorem cut_map (ns : List Int) (lo hi : Option Int) : ∃ ms : List Int, cutV (ns.map V.int) lo hi = ms.map V.int := by
  unfold cutV
  rw [← List.map_drop, ← List.map_take]
  exact ⟨_, rfl⟩
theorem modpos : (0 : Int) < ((10 : Int) ^ (60 : Int).toNat) ^ (8 : Int).toNat := by decide +kernel
theorem modbig : ((10 : Int) ^ (60 : Int).toNat) ^ (8 : Int).toNat = big := by decide +kernel
theorem pow_bits : (Builtin.Int.intBits ((10 : Int) ^ (60 : Int).toNat) : Int) * 8 ≤ 2 ^ 27 := by decide +kernel
section
variable {P : Program} {w : World} {K : PySem.W.Frag} {mg : Str → Option Value} {base : Heap} {f fP : Addr} {fd fdP : FuncData}
theorem ok_purse (F : FnP K dPurse f fd) (gS : mg "sum" = none) (gI : mg "int" = none) (gM : mg "max" = none) : FnOk P w K mg base CX0 1 f fd ["_law_script", "_law_at"] (spPurse K) := by
  refine F.ok scPurse (fun vs H Q E h => ?_) (fun cdv A outer s H vs Q E hr h => ⟨_, PSs.nox (
    pss_cons (ps_set (i := 2) scPurse.nd rfl (.inl rfl) (pe_callB (cr_sum rfl) rfl gS (by decide +kernel) (pa_cons (pe_slice sl_list (pv 0) (po_some (pv 1)) (po_some (pe_op op_add (pv 1) pe_int))) pa_nil)))
    (pss_one (ps_ret (pe_lst (pa_cons (pe_op op_mod (pe_callTy call_int1 rfl gI (by decide +kernel) (pa_cons (pe_callB (call_max2 rfl) rfl gM (by decide +kernel) (pa_cons (pe_op op_sub (pv 2) (pe_op op_pow pe_int pe_int)) (pa_cons pe_int pa_nil))) pa_nil))
        (pe_op op_powB (pe_op op_pow pe_int pe_int) pe_int))
      (pa_cons (pe_op op_mod (pe_callTy call_int1 rfl gI (by decide +kernel) (pa_cons (pv 2) pa_nil)) pe_int) (pa_cons pe_int (pa_cons (pv 1) pa_nil)))))))), ?_⟩)
  · obtain ⟨a, ns, i, rfl, _⟩ := h
    rfl
  · obtain ⟨a, ns, i, rfl, hS, hi, k⟩ := h
    obtain ⟨ms, em⟩ := cut_map ns (some (i : Int)) (some ((i : Int) + 1))
    refine ⟨_, rfl, .int i, rfl, _, rfl, _, rfl, _, _, rfl, rfl, _, rfl, a, _, rfl, hS, fun q hq => ?_⟩
    refine ⟨q, ms, rfl, SqL.of (by rw [upd_same, em]), ?_⟩
    refine ⟨_, rfl, _, _, rfl, rfl, ⟨by decide, by decide, by decide⟩, _, _, rfl, rfl, _, _, rfl, .inl ⟨_, rfl, ?_⟩⟩
    refine ⟨_, _, rfl, rfl, ⟨by decide, by decide, by decide⟩, _, _, rfl, rfl, ⟨by decide, pow_bits⟩, _, _, rfl, rfl, modpos, ?_⟩
    refine ⟨_, rfl, .inl ⟨_, rfl, _, _, rfl, rfl, (by show (0 : Int) < 2147483629; decide), _, rfl, (by show 4 ≤ sizeLine; rw [sizeLine_eq]; decide), fun p hp => ?_⟩⟩
    have np : p ≠ q := fun z => by
      rw [z, upd_same] at hp
      cases hp
    have hp0 : H p = none := by rwa [upd_ne np] at hp
    have keep : Same H (upd H q (.lst (cutV (ns.map V.int) (some (i : Int)) (some ((i : Int) + 1))))) := fun b o e => by
      rw [upd_ne (ne_of_none e hq)]
      exact e
    refine k p _ hp0 (fun b o e => ?_) ⟨_, _, 0, i, upd_same, ?_, ?_, ?_, ?_, by decide, by decide, by omega, by omega⟩
    · rw [upd_ne (ne_of_none e hp0)]
      exact keep b o e
    · exact Int.emod_nonneg _ (Int.ne_of_gt modpos)
    · have z := Int.emod_lt_of_pos (if (0 : Int) > ms.sum - 10 ^ (18 : Int).toNat then 0 else ms.sum - 10 ^ (18 : Int).toNat) modpos
      exact Int.lt_of_lt_of_le z (Int.le_of_eq modbig)
    · exact Int.emod_nonneg _ (by decide)
    · exact Int.emod_lt_of_pos _ (by decide)
end
theorem same_new {H : Hp} {p : Addr} {o : HO} (h : H p = none) : Same H (upd H p o) := fun b u e => by
  rw [upd_ne (ne_of_none e h)]
  exact e
/-- _law_purses(script, 1) -/
def spPurses (K : PySem.W.Frag) : Sp := fun vs H Q _ => ∃ (a : Addr) (ns : List Int), vs = [.ref a, .int 1] ∧ SqL K H a (ns.map V.int) ∧ ns.length ≤ 63 ∧
  ∀ (l p : Addr) (H' : Hp), Same H H' → H' l = some (.lst [.ref p]) → Pu H' p 0 → Q (.ref l) H'
theorem scPurses : FnScope ["_law_script", "_law_few", "_law_at"] ["_law_script", "_law_few"] (defScope sPurses) := ⟨rfl, rfl, rfl, by decide +kernel, rfl, by decide +kernel, by decide +kernel⟩
section
variable {P : Program} {w : World} {K : PySem.W.Frag} {mg : Str → Option Value} {base : Heap} {f fP : Addr} {fd fdP : FuncData}
theorem ok_purses (F : FnP K dPurses f fd) (GP : FnOk P w K mg base CX0 1 fP fdP ["_law_script", "_law_at"] (spPurse K)) (FP : FnP K dPurse fP fdP) (gP : mg "_law_purse" = some (.ref fP)) (gR : mg "range" = none) (gX : mg "max" = none) (gN : mg "min" = none) (gL : mg "len" = none) :
    FnOk P w K mg base CX0 2 f fd ["_law_script", "_law_few"] (spPurses K) := by
  have bP : Binds K fdP ["_law_script", "_law_at"] [] := FP.bindsN fun _ _ _ _ _ _ us hl => match us, hl with | [_, _], _ => rfl
  refine F.ok scPurses (fun vs H Q E h => ?_) (fun cdv A outer s H vs Q E hr h => ⟨_, PSs.nox (
    pss_one (ps_ret (pe_lc (own := [("_law_at", 2)]) (g := gName 2) (tt := tYes) rfl scPurses.nd
      (pi_range1 rfl gR (pa_cons (pe_callB (call_max2 rfl) rfl gX (by decide +kernel) (pa_cons pe_int (pa_cons (pe_callB (call_min2 rfl) rfl gN (by decide +kernel) (pa_cons (pv 1) (pa_cons (pe_callB call_len_seq rfl gL (by decide +kernel) (pa_cons (pv 0) pa_nil)) pa_nil))) pa_nil))) pa_nil))
      (blkOk_by (N := ["_law_script", "_law_few", "_law_at"]) (sc := defScope sPurses) (by decide +kernel))
      (fun _ _ _ _ _ => pg_name (i := 2) scPurses.nd rfl (.inl rfl)) (fun _ _ _ _ _ => pts_nil)
      (fun _ _ _ _ _ => pe_call GP hr rfl gP FP.kp bP .nil pass0 (pa_cons (pv 0) (pa_cons (pv 2) pa_nil)))))), ?_⟩)
  · obtain ⟨a, ns, rfl, _⟩ := h
    rfl
  · obtain ⟨a, ns, rfl, hS, hn, k⟩ := h
    refine ⟨_, rfl, _, rfl, a, _, rfl, .inl hS, 1, _, rfl, 1, _, rfl, 1, ?_, by decide, by decide, fun D hD => ?_⟩
    · have e1 : (if (if ((ns.map V.int).length : Int) < 1 then ((ns.map V.int).length : Int) else 1) > 1 then (if ((ns.map V.int).length : Int) < 1 then ((ns.map V.int).length : Int) else 1) else (1 : Int)) = 1 := by
        split <;> split at * <;> omega
      rw [e1]
    · refine lc_it (n := 1) walk_range (fun i H' => (i = 0 ∧ H' = upd H D (.lst [])) ∨ (i = 1 ∧ ∃ p, H' D = some (.lst [.ref p]) ∧ Pu H' p 0 ∧ Same H H')) (.inl ⟨rfl, rfl⟩) (fun _ _ _ _ => trivial) ?_ ?_
      · rintro i x H3 H' hi p0 ⟨rfl, rfl⟩
        rcases p0 with ⟨rfl, rfl⟩ | ⟨rfl, _⟩
        · refine ⟨rfl, _, rfl, _, rfl, a, ns, 0, rfl, Same.seq (same_new hD) hS, by decide, fun p H4 hp s4 pu => ?_⟩
          have nD : p ≠ D := fun z => by
            rw [z, upd_same] at hp
            cases hp
          refine ⟨[], s4 _ _ upd_same, (by rw [sizeLine_eq]; decide), .inr ⟨rfl, p, upd_same, ?_, fun b o e => ?_⟩⟩
          · obtain ⟨x1, x2, x3, x4, e, r⟩ := pu
            exact ⟨x1, x2, x3, x4, by rw [upd_ne nD]; exact e, r⟩
          · rw [upd_ne (ne_of_none e hD)]
            exact s4 _ _ ((same_new hD) _ _ e)
        · omega
      · rintro H' (⟨h0, _⟩ | ⟨_, p, e, pu, s⟩)
        · cases h0
        · exact k D p H' s e pu
end
end K36
/-! Blocks: their forms. -/
namespace K36
open PySem PySem.Spec PyProof.Rows L2
abbrev B : Type := Int × Int
/-- a tuple of two numbers -/
def Tb (H : Hp) (v : V) (b : B) : Prop := ∃ p, v = .ref p ∧ H p = some (.tup [.int b.1, .int b.2])
/-- a list of them, told by its items -/
def Lb (H : Hp) (xs : List V) (bs : List B) : Prop := Paired (Tb H) xs bs
theorem Tb.same {H H' : Hp} {v : V} {b : B} (h : Tb H v b) (s : Same H H') : Tb H' v b := h.imp fun _ e => ⟨e.1, s _ _ e.2⟩
theorem Lb.same {H H' : Hp} {xs : List V} {bs : List B} (h : Lb H xs bs) (s : Same H H') : Lb H' xs bs := by
  induction h with
  | nil => exact .nil
  | cons a _ ih => exact .cons (a.same s) ih
theorem Lb.get {H : Hp} {xs : List V} {bs : List B} (h : Lb H xs bs) {i : Nat} {x : V} (e : xs[i]? = some x) : ∃ b, bs[i]? = some b ∧ Tb H x b := by
  obtain ⟨b, e1, e2⟩ := paired_get h e
  exact ⟨b, e1, e2⟩
theorem Lb.len {H : Hp} {xs : List V} {bs : List B} (h : Lb H xs bs) : xs.length = bs.length := Paired.length h
/-- one block ahead of another one -/
def bLt (a b : B) : Bool := HT.lexLt [a.1, a.2] [b.1, b.2]
theorem bLt_iff {a b : B} : bLt a b = true ↔ a.1 < b.1 ∨ a.1 = b.1 ∧ a.2 < b.2 := by
  unfold bLt
  rw [HT.lexLt_cons, HT.lexLt_cons, HT.lexLt_nil_nil]
  by_cases c1 : a.1 = b.1
  · rw [if_pos c1]
    by_cases c2 : a.2 = b.2
    · rw [if_pos c2]
      simp
      omega
    · rw [if_neg c2, decide_eq_true_iff]
      omega
  · rw [if_neg c1, decide_eq_true_iff]
    omega
theorem cut1 (ys : List V) : cutV ys (some 1) none = ys.drop 1 := by
  cases ys with
  | nil => rfl
  | cons y r =>
    unfold cutV
    have e1 : HT.sIx (y :: r).length 0 (some 1) = 1 := by
      simp [HT.sIx]
    have e2 : HT.sIx (y :: r).length (y :: r).length none = (y :: r).length := rfl
    rw [e1, e2]
    refine List.take_of_length_le ?_
    rw [List.length_drop]
    exact Nat.le_refl _
/-- ascending, no doubles -/
def UpB (bs : List B) : Prop := ∀ (i : Nat) (a b : B), bs[i]? = some a → bs[i + 1]? = some b → bLt a b = true
theorem drop_lb {H : Hp} {n : Nat} : ∀ {xs : List V} {bs : List B}, Lb H xs bs → Lb H (xs.drop n) (bs.drop n) := by
  induction n with
  | zero => exact fun h => h
  | succ n ih =>
    intro xs bs h
    cases h with
    | nil => exact .nil
    | cons a t => exact ih t
/-! ### is_ascending -/
def spAsc : Sp := fun vs H Q _ => ∃ (l : Addr) (xs : List V) (bs : List B), vs = [.ref l] ∧ H l = some (.lst xs) ∧ Lb H xs bs ∧ xs.length < 2 ^ 20 ∧ UpB bs ∧ ∀ H', Same H H' → Q (.bl true) H'
theorem scAsc : FnScope ["words", "one", "other"] ["words"] (defScope sPIsAscending) := ⟨rfl, rfl, rfl, by decide +kernel, rfl, by decide +kernel, by decide +kernel⟩
section
variable {P : Program} {w : World} {K : PySem.W.Frag} {mg : Str → Option Value} {base : Heap} {f : Addr} {fd : FuncData}
theorem ok_asc (F : FnP K dPIsAscending f fd) (gA : mg "all" = none) (gZ : mg "zip" = none) : FnOk P w K mg base CX0 1 f fd ["words"] spAsc := by
  refine F.ok scAsc (fun vs H Q E h => ?_) (fun cdv A outer s H vs Q E hr h => ⟨_, PSs.nox (pss_one (ps_ret
    (pe_callB (cr_all rfl) rfl gA (by decide +kernel) (pa_cons (pe_lc (own := [("one", 1), ("other", 2)]) (g := gTup K 2 (gCons (gName 1) (gCons (gName 2) gNil))) (tt := tYes) (te := tOp (rLtT K) (tVar 1) (tVar 2)) rfl scAsc.nd
      (pi_zip rfl gZ (pa_cons (pv 0) (pa_cons (pe_slice sl_list (pv 0) (po_some pe_int) po_none) pa_nil))) (blkOk_by (N := ["words", "one", "other"]) (sc := defScope sPIsAscending) (by decide +kernel))
      (fun _ _ _ _ _ => pg_tup rfl (pgs_cons (pg_name (i := 1) scAsc.nd rfl (.inl rfl)) (pgs_cons (pg_name (i := 2) scAsc.nd rfl (.inl rfl)) pgs_nil))) (fun _ _ _ _ _ => pts_nil)
      (fun _ _ _ _ _ => pe_cmpR (op_ltT hr.units0) (pv 1) (pv 2) (nomark _))) pa_nil)))), ?_⟩)
  · obtain ⟨l, xs, bs, rfl, _⟩ := h
    rfl
  · obtain ⟨l, xs, bs, rfl, e1, lb, lz, up, k⟩ := h
    refine ⟨_, rfl, _, rfl, 1, rfl, l, xs, rfl, SqL.of e1, fun S hS => ?_⟩
    have nlS : l ≠ S := ne_of_none e1 hS
    rw [cut1]
    have e1' : (upd H S (.lst (xs.drop 1))) l = some (.lst xs) := by
      rw [upd_ne nlS]
      exact e1
    refine ⟨l, S, xs, xs.drop 1, rfl, SqL.of e1', SqL.of upd_same, fun D hD => ?_⟩
    have n1 : l ≠ D := ne_of_none e1' hD
    have n2 : S ≠ D := ne_of_none upd_same hD
    have hD0 : H D = none := by
      rw [upd_ne (Ne.symm n2)] at hD
      exact hD
    refine lc_it (walk_zip (xs := xs) (ys := xs.drop 1) (n := xs.length - 1) ?_) (fun i H' => H' D = some (.lst (List.replicate i (V.bl true))) ∧ Same H H' ∧ H' S = some (.lst (xs.drop 1))) ⟨upd_same, fun b o e => ?_, ?_⟩ (fun i H' _ q => ⟨SqL.of (q.2.1 _ _ e1), SqL.of q.2.2⟩) ?_ ?_
    · rw [List.length_drop]
      omega
    · rw [upd_ne (ne_of_none (by rw [upd_ne (ne_of_none e hS)]; exact e) hD), upd_ne (ne_of_none e hS)]
      exact e
    · rw [upd_ne n2, upd_same]
    · rintro i x H3 H' hi ⟨e, sm, eS⟩ ⟨T, x, y, ex, hT, eH, hx, hy⟩
      subst eH ex
      dsimp only at hx hy
      rw [List.getElem?_drop, Nat.add_comm] at hy
      obtain ⟨a, ha, pa, ea, ta⟩ := lb.get hx
      obtain ⟨b, hb, pb, eb, tb⟩ := lb.get hy
      subst ea eb
      have nT : D ≠ T := ne_of_none e hT
      have sT : Same H3 (upd H3 T (.tup [.ref pa, .ref pb])) := same_new hT
      refine ⟨T, [.ref pa, .ref pb], rfl, SqT.of upd_same, rfl, _, _, rfl, _, _, rfl, rfl, rfl, _, rfl, _, rfl, pa, pb, [a.1, a.2], [b.1, b.2], rfl, rfl, SqT.of (sT _ _ (sm _ _ ta)), SqT.of (sT _ _ (sm _ _ tb)), _, (by rw [upd_ne nT]; exact e), ?_, ?_, fun b' o eb => ?_, ?_⟩
      · rw [List.length_replicate, sizeLine_eq]
        omega
      · rw [upd_same, show HT.lexLt [a.1, a.2] [b.1, b.2] = true from up i a b ha hb, ← List.replicate_succ']
      · have q := sm b' o eb
        rw [upd_ne (ne_of_none eb hD0), upd_ne (ne_of_none q hT)]
        exact q
      · rw [upd_ne n2, upd_ne (ne_of_none eS hT)]
        exact eS
    · rintro H' ⟨e, sm, eS⟩
      refine ⟨D, List.replicate (xs.length - 1) true, rfl, SqL.of ?_, ?_⟩
      · rw [e, List.map_replicate]
      · have t : (List.replicate (xs.length - 1) true).all id = true := by simp
        rw [t]
        exact k H' sm
end
/-! ### is_count, is_count_from -/
def spCount : Sp := fun vs H Q _ => ∃ i : Int, vs = [.int i] ∧ 0 ≤ i ∧ Q (.bl true) H
theorem scCount : FnScope ["value"] ["value"] (defScope sPIsCount) := ⟨rfl, rfl, rfl, by decide +kernel, rfl, by decide +kernel, by decide +kernel⟩
def spCountFrom : Sp := fun vs H Q _ => ∃ i j : Int, vs = [.int i, .int j] ∧ 0 ≤ i ∧ j ≤ i ∧ Q (.bl true) H
theorem scCountFrom : FnScope ["value", "least"] ["value", "least"] (defScope sPIsCountFrom) := ⟨rfl, rfl, rfl, by decide +kernel, rfl, by decide +kernel, by decide +kernel⟩
section
variable {P : Program} {w : World} {K : PySem.W.Frag} {mg : Str → Option Value} {base : Heap} {f fC : Addr} {fd fdC : FuncData}
theorem ok_count (F : FnP K dPIsCount f fd) (gIs : mg "isinstance" = none) (gI : mg "int" = none) (gB : mg "bool" = none) : FnOk P w K mg base CX0 1 f fd ["value"] spCount := by
  refine F.ok scCount (fun vs H Q E h => ?_) (fun cdv A outer s H vs Q E hr h => ⟨_, PSs.nox (pss_one (ps_ret (pe_and
    (pe_callB call_isi rfl gIs (by decide +kernel) (pa_cons (pv 0) (pa_cons (pe_bltn (v := .ty "int") rfl gI (by decide +kernel) rfl) pa_nil)))
    (pe_and (pe_not (pe_callB call_isi rfl gIs (by decide +kernel) (pa_cons (pv 0) (pa_cons (pe_bltn (v := .ty "bool") rfl gB (by decide +kernel) rfl) pa_nil))))
    (pe_one (pe_cmpR op_ge (pv 0) pe_int (nomark _))))))), ?_⟩)
  · obtain ⟨i, rfl, _⟩ := h
    rfl
  · obtain ⟨i, rfl, hi, k⟩ := h
    refine ⟨_, rfl, .int i, .ty "int", .type "int", .type "int", true, rfl, .ty _, .base (.int i), kit_ty (by decide +kernel), true, rfl, itT rfl ?_⟩
    refine ⟨_, rfl, .int i, .ty "bool", .type "int", .type "bool", false, rfl, .ty _, .base (.int i), kit_ty (by decide +kernel), false, rfl, true, rfl, itT rfl ?_⟩
    refine ⟨_, rfl, _, _, rfl, rfl, ?_⟩
    show Q (V.bl (decide (0 ≤ i))) H
    rw [decide_eq_true hi]
    exact k
theorem ok_countFrom (F : FnP K dPIsCountFrom f fd) (FC : FnP K dPIsCount fC fdC) (GC : FnOk P w K mg base CX0 1 fC fdC ["value"] spCount) (gC : mg "is_count" = some (.ref fC)) : FnOk P w K mg base CX0 2 f fd ["value", "least"] spCountFrom := by
  have bC : Binds K fdC ["value"] [] := FC.bindsN fun _ _ _ _ _ _ us hl => match us, hl with | [_], _ => rfl
  refine F.ok scCountFrom (fun vs H Q E h => ?_) (fun cdv A outer s H vs Q E hr h => ⟨_, PSs.nox (pss_one (ps_ret (pe_and
    (pe_call GC hr rfl gC FC.kp bC .nil pass0 (pa_cons (pv 0) pa_nil))
    (pe_one (pe_cmpR op_ge (pv 0) (pv 1) (nomark _)))))), ?_⟩)
  · obtain ⟨i, j, rfl, _⟩ := h
    rfl
  · obtain ⟨i, j, rfl, hi, hj, k⟩ := h
    refine ⟨_, rfl, i, rfl, hi, true, rfl, itT rfl ⟨_, rfl, _, rfl, _, _, rfl, rfl, ?_⟩⟩
    show Q (V.bl (decide (j ≤ i))) H
    rw [decide_eq_true hj]
    exact k
end
end K36
/-! Blocks and groupings: their forms. -/
namespace K36
open PySem PySem.Spec PyProof.Rows L2
theorem ps_dead {X : Cx} {st : Stmt} : PS X st fun _ _ _ => False := ⟨fun _ _ _ _ _ _ h => False.elim h⟩
/-- a < b < c < d of numbers, as a test; the four are read where nothing changes -/
def tLt4 (ta tb tc td : TE) : L2.St → Hp → (Bool → Hp → Prop) → Prop := fun σ H Q => ∃ i j k l : Int, ta σ H (fun x G => x = .int i ∧ G = H) ∧ tb σ H (fun x G => x = .int j ∧ G = H) ∧ tc σ H (fun x G => x = .int k ∧ G = H) ∧ td σ H (fun x G => x = .int l ∧ G = H) ∧
  Q (decide (i < j) && (decide (j < k) && decide (k < l))) H
theorem pt_lt4 {X : Cx} {a b c d : Expr} {ta tb tc td : TE} {pos : Pos} (ha : PE X a ta) (hb : PE X b tb) (hc : PE X c tc) (hd : PE X d td)
    (hm : lastMarks [.Lt, .Lt, .Lt] [b, c, d] = false := by with_unfolding_all rfl) : PT X (.Compare a [.Lt, .Lt, .Lt] [b, c, d] pos) (tLt4 ta tb tc td) := by
  refine ⟨fun pins s σ H Q I h => ?_⟩
  obtain ⟨i, j, k, l, h1, h2, h3, h4, q⟩ := h
  have cmp : ∀ {s' : Shared} {x y : Int} {v u : Value} {G : Hp}, Inv X pins σ G s' → RelV (.int x) v → RelV (.int y) u → wpAny (model X.prog X.w) X.A (compareOp .Lt v u) (EP X pins σ fun z G' => z = .bl (decide (x < y)) ∧ G' = G) X.xe s' := fun {s' x y v u G} I' rv ru =>
    op_lt pins s' σ G (.int x) (.int y) v u _ I' rv ru ⟨x, y, rfl, rfl, rfl, rfl⟩
  refine isTrue_chain (thn (ha.run pins s σ H _ I h1) fun va s1 ⟨x1, G1, I1, r1, e1, g1⟩ => ?_) hm
  subst e1 g1
  refine test_link (thn (hb.run pins s1 σ _ _ I1 h2) fun vb s2 ⟨x2, G2, I2, r2, e2, g2⟩ => ?_)
  subst e2 g2
  refine thn (cmp I2 r1 r2) fun vz s3 ⟨z, G3, I3, r3, e3, g3⟩ => ?_
  subst e3 g3
  cases r3
  refine wpAny_truthy_bool ?_
  cases c1 : decide (i < j) with
  | false =>
    rw [c1] at q
    exact ⟨_, I3, q⟩
  | true =>
    rw [c1] at q
    refine test_link (thn (hc.run pins s3 σ _ _ I3 h3) fun vc s4 ⟨x4, G4, I4, r4, e4, g4⟩ => ?_)
    subst e4 g4
    refine thn (cmp I4 r2 r4) fun vz s5 ⟨z, G5, I5, r5, e5, g5⟩ => ?_
    subst e5 g5
    cases r5
    refine wpAny_truthy_bool ?_
    cases c2 : decide (j < k) with
    | false =>
      rw [c2] at q
      exact ⟨_, I5, q⟩
    | true =>
      rw [c2] at q
      refine test_last (thn (hd.run pins s5 σ _ _ I5 h4) fun vd s6 ⟨x6, G6, I6, r6, e6, g6⟩ => ?_)
      subst e6 g6
      refine thn (cmp I6 r4 r6) fun vz s7 ⟨z, G7, I7, r7, e7, g7⟩ => ?_
      subst e7 g7
      cases r7
      refine wpAny_truthy_bool ⟨_, I7, ?_⟩
      cases c3 : decide (k < l) with
      | false =>
        rw [c3] at q
        exact q
      | true =>
        rw [c3] at q
        exact q
/-- a block of so many things -/
def OkB (n : Int) (b : B) : Prop := 0 ≤ b.1 ∧ b.1 + 2 ≤ b.2 ∧ b.2 ≤ n
/-! ### is_count_tuple, is_block, is_block_list -/
def spCT : Sp := fun vs H Q _ => ∃ (p : Addr) (a b : Int), vs = [.ref p, .int 2] ∧ H p = some (.tup [.int a, .int b]) ∧ 0 ≤ a ∧ 0 ≤ b ∧ ∀ H', Same H H' → Q (.bl true) H'
theorem scCT : FnScope ["value", "size", "part"] ["value", "size"] (defScope sPIsCountTuple) := ⟨rfl, rfl, rfl, by decide +kernel, rfl, by decide +kernel, by decide +kernel⟩
def spBlk : Sp := fun vs H Q _ => ∃ (n : Int) (v : V) (b : B), vs = [.int n, v] ∧ Tb H v b ∧ OkB n b ∧ ∀ H', Same H H' → Q (.bl true) H'
theorem scBlk : FnScope ["size", "value"] ["size", "value"] (defScope sPIsBlock) := ⟨rfl, rfl, rfl, by decide +kernel, rfl, by decide +kernel, by decide +kernel⟩
def spBL : Sp := fun vs H Q _ => ∃ (n : Int) (l : Addr) (xs : List V) (bs : List B), vs = [.int n, .ref l] ∧ H l = some (.lst xs) ∧ Lb H xs bs ∧ xs.length < 2 ^ 20 ∧ (∀ b ∈ bs, OkB n b) ∧ UpB bs ∧ ∀ H', Same H H' → Q (.bl true) H'
theorem scBL : FnScope ["size", "value", "block"] ["size", "value"] (defScope sPIsBlockList) := ⟨rfl, rfl, rfl, by decide +kernel, rfl, by decide +kernel, by decide +kernel⟩
section
variable {P : Program} {w : World} {K : PySem.W.Frag} {mg : Str → Option Value} {base : Heap} {f fC fT fB fA : Addr} {fd fdC fdT fdB fdA : FuncData}
theorem ok_ct (F : FnP K dPIsCountTuple f fd) (FC : FnP K dPIsCount fC fdC) (GC : FnOk P w K mg base CX0 1 fC fdC ["value"] spCount) (gC : mg "is_count" = some (.ref fC)) (gIs : mg "isinstance" = none) (gT : mg "tuple" = none) (gL : mg "len" = none) (gA : mg "all" = none) :
    FnOk P w K mg base CX0 2 f fd ["value", "size"] spCT := by
  have bC : Binds K fdC ["value"] [] := FC.bindsN fun _ _ _ _ _ _ us hl => match us, hl with | [_], _ => rfl
  refine F.ok scCT (fun vs H Q E h => ?_) (fun cdv A outer s H vs Q E hr h => ⟨_, PSs.nox (pss_one (ps_ret (pe_and
    (pe_callB call_isi rfl gIs (by decide +kernel) (pa_cons (pv 0) (pa_cons (pe_bltn (v := .ty "tuple") rfl gT (by decide +kernel) rfl) pa_nil)))
    (pe_and (pe_cmpR op_eq (pe_callB call_len_seq rfl gL (by decide +kernel) (pa_cons (pv 0) pa_nil)) (pv 1) (nomark _))
    (pe_one (pe_callB (cr_all rfl) rfl gA (by decide +kernel) (pa_cons (pe_lc (own := [("part", 2)]) (g := gName 2) (tt := tYes) (te := tCall spCount [] E0 (tCons (tVar 2) tNil)) rfl scCT.nd (pi_tup (pv 0)) (blkOk_by (N := ["value", "size", "part"]) (sc := defScope sPIsCountTuple) (by decide +kernel))
      (fun _ _ _ _ _ => pg_name (i := 2) scCT.nd rfl (.inl rfl)) (fun _ _ _ _ _ => pts_nil)
      (fun _ _ _ _ _ => pe_call GC hr rfl gC FC.kp bC .nil pass0 (pa_cons (pv 2) pa_nil))) pa_nil))))))), ?_⟩)
  · obtain ⟨p, a, b, rfl, _⟩ := h
    rfl
  · obtain ⟨p, a, b, rfl, e, ha, hb, k⟩ := h
    refine ⟨_, rfl, .ref p, .ty "tuple", .type "tuple", .type "tuple", true, rfl, .ty _, .base (.tup e), kit_ty (by decide +kernel), true, rfl, itT rfl ?_⟩
    refine ⟨_, rfl, p, _, rfl, .inr (SqT.of e), _, rfl, rfl, true, rfl, itT rfl ?_⟩
    refine ⟨_, rfl, p, rfl, ⟨_, SqT.of e⟩, fun D hD => ?_⟩
    refine lc_it (walk_tup (xs := [.int a, .int b])) (fun i H' => H' D = some (.lst (List.replicate i (V.bl true))) ∧ Same H H') ⟨upd_same, same_new hD⟩ (fun i H' _ q => SqT.of (q.2 _ _ e)) ?_ ?_
    · rintro i x H3 H' hi ⟨e', sm⟩ ⟨eH, hx⟩
      subst eH
      have hi2 : i < 2 := hi
      have pos : ∃ z : Int, x = .int z ∧ 0 ≤ z := by
        match i, hi2 with
        | 0, _ =>
          cases hx
          exact ⟨a, rfl, ha⟩
        | 1, _ =>
          cases hx
          exact ⟨b, rfl, hb⟩
      obtain ⟨z, ez, hz⟩ := pos
      subst ez
      refine ⟨rfl, _, rfl, z, rfl, hz, _, e', ?_, ?_, fun b' o eb => ?_⟩
      · rw [List.length_replicate, sizeLine_eq]
        omega
      · rw [upd_same, ← List.replicate_succ']
      · rw [upd_ne (ne_of_none eb hD)]
        exact sm _ _ eb
    · rintro H' ⟨e', sm⟩
      refine ⟨D, List.replicate 2 true, rfl, SqL.of ?_, ?_⟩
      · rw [e', List.map_replicate]
        rfl
      · exact k H' sm
theorem ok_blk (F : FnP K dPIsBlock f fd) (FT : FnP K dPIsCountTuple fT fdT) (GT : FnOk P w K mg base CX0 2 fT fdT ["value", "size"] spCT) (gT : mg "is_count_tuple" = some (.ref fT)) : FnOk P w K mg base CX0 3 f fd ["size", "value"] spBlk := by
  have bT : Binds K fdT ["value", "size"] [] := FT.bindsN fun _ _ _ _ _ _ us hl => match us, hl with | [_, _], _ => rfl
  refine F.ok scBlk (fun vs H Q E h => ?_) (fun cdv A outer s H vs Q E hr h => ⟨_, PSs.nox (pss_one (ps_ret (pe_and
    (pe_call GT hr rfl gT FT.kp bT .nil pass0 (pa_cons (pv 1) (pa_cons pe_int pa_nil)))
    (pe_one (pe_chain op_le op_le (pe_op op_add (pe_ix ix_tup (pv 1) pe_int (fun _ _ => rfl)) pe_int) (pe_ix ix_tup (pv 1) pe_int (fun _ _ => rfl)) (pv 0)))))), ?_⟩)
  · obtain ⟨n, v, b, rfl, _⟩ := h
    rfl
  · obtain ⟨n, v, b, rfl, ⟨p, rfl, e⟩, ⟨o1, o2, o3⟩, k⟩ := h
    refine ⟨_, rfl, p, b.1, b.2, rfl, e, o1, by omega, fun H1 s1 => ⟨true, rfl, itT rfl ?_⟩⟩
    have e1 := s1 _ _ e
    refine ⟨_, rfl, p, _, 0, .int b.1, rfl, rfl, SqT.of e1, rfl, b.1, 2, rfl, rfl, _, rfl, p, _, 1, .int b.2, rfl, rfl, SqT.of e1, rfl, _, _, rfl, rfl, true, congrArg V.bl (decide_eq_true o2), itT rfl ?_⟩
    refine ⟨_, rfl, _, _, rfl, rfl, ?_⟩
    show Q (V.bl (decide (b.2 ≤ n))) H1
    rw [decide_eq_true o3]
    exact k H1 s1
theorem ok_bl (F : FnP K dPIsBlockList f fd) (FB : FnP K dPIsBlock fB fdB) (GB : FnOk P w K mg base CX0 3 fB fdB ["size", "value"] spBlk) (gB : mg "is_block" = some (.ref fB)) (FA : FnP K dPIsAscending fA fdA) (GA : FnOk P w K mg base CX0 1 fA fdA ["words"] spAsc) (gA : mg "is_ascending" = some (.ref fA))
    (gIs : mg "isinstance" = none) (gLi : mg "list" = none) (gAl : mg "all" = none) : FnOk P w K mg base CX0 4 f fd ["size", "value"] spBL := by
  have bB : Binds K fdB ["size", "value"] [] := FB.bindsN fun _ _ _ _ _ _ us hl => match us, hl with | [_, _], _ => rfl
  have bA : Binds K fdA ["words"] [] := FA.bindsN fun _ _ _ _ _ _ us hl => match us, hl with | [_], _ => rfl
  refine F.ok scBL (fun vs H Q E h => ?_) (fun cdv A outer s H vs Q E hr h => ⟨_, PSs.nox (pss_one (ps_ret (pe_and
    (pe_callB call_isi rfl gIs (by decide +kernel) (pa_cons (pv 1) (pa_cons (pe_bltn (v := .ty "list") rfl gLi (by decide +kernel) rfl) pa_nil)))
    (pe_and (pe_callB (cr_all rfl) rfl gAl (by decide +kernel) (pa_cons (pe_lc (own := [("block", 2)]) (g := gName 2) (tt := tYes) (te := tCall spBlk [] E0 (tCons (tVar 0) (tCons (tVar 2) tNil))) rfl scBL.nd (pi_list (pv 1)) (blkOk_by (N := ["size", "value", "block"]) (sc := defScope sPIsBlockList) (by decide +kernel))
      (fun _ _ _ _ _ => pg_name (i := 2) scBL.nd rfl (.inl rfl)) (fun _ _ _ _ _ => pts_nil)
      (fun _ _ _ _ _ => pe_call GB hr rfl gB FB.kp bB .nil pass0 (pa_cons (pv 0) (pa_cons (pv 2) pa_nil)))) pa_nil))
    (pe_one (pe_call GA (hr.mono (by decide)) rfl gA FA.kp bA .nil pass0 (pa_cons (pv 1) pa_nil))))))), ?_⟩)
  · obtain ⟨n, l, xs, bs, rfl, _⟩ := h
    rfl
  · obtain ⟨n, l, xs, bs, rfl, e1, lb, lz, good, up, k⟩ := h
    refine ⟨_, rfl, .ref l, .ty "list", .type "list", .type "list", true, rfl, .ty _, .base (.lst e1), kit_ty (by decide +kernel), true, rfl, itT rfl ?_⟩
    refine ⟨_, rfl, l, rfl, ⟨_, SqL.of e1⟩, fun D hD => ?_⟩
    refine lc_it (walk_list (xs := xs)) (fun i H' => H' D = some (.lst (List.replicate i (V.bl true))) ∧ Same H H') ⟨upd_same, same_new hD⟩ (fun i H' _ q => SqL.of (q.2 _ _ e1)) ?_ ?_
    · rintro i x H3 H' hi ⟨e, sm⟩ ⟨eH, hx⟩
      subst eH
      obtain ⟨b, hb, tb⟩ := lb.get hx
      refine ⟨rfl, _, rfl, _, rfl, n, x, b, rfl, tb.same sm, good b (List.mem_of_getElem? hb), fun H4 s4 => ⟨_, s4 _ _ e, ?_, ?_, fun b' o eb => ?_⟩⟩
      · rw [List.length_replicate, sizeLine_eq]
        omega
      · rw [upd_same, ← List.replicate_succ']
      · rw [upd_ne (ne_of_none eb hD)]
        exact s4 _ _ (sm _ _ eb)
    · rintro H' ⟨e, sm⟩
      refine ⟨D, List.replicate xs.length true, rfl, SqL.of ?_, ?_⟩
      · rw [e, List.map_replicate]
      · have t : (List.replicate xs.length true).all id = true := by simp
        rw [t]
        refine ⟨true, rfl, itT rfl ?_⟩
        exact ⟨_, rfl, l, xs, bs, rfl, sm _ _ e1, lb.same sm, lz, up, fun H2 s2 => k H2 (sm.trans s2)⟩
end
end K36
/-! Groupings: their form. -/
namespace K36
open PySem PySem.Spec PyProof.Rows L2
theorem cutN (ys : List V) (k : Nat) : cutV ys (some (k : Int)) none = ys.drop k := by
  unfold cutV
  rw [HT.sIx_nat, HT.sIx_none]
  by_cases h : k ≤ ys.length
  · rw [Nat.min_eq_left h]
    refine List.take_of_length_le ?_
    rw [List.length_drop]
    exact Nat.le_refl _
  · rw [Nat.min_eq_right (by omega), List.drop_length, List.take_nil, List.drop_of_length_le (by omega)]
/-- no two blocks overlap -/
def NoX (bs : List B) : Prop := ∀ (i j : Nat) (a b : B), i < j → bs[i]? = some a → bs[j]? = some b → ¬ (a.1 < b.1 ∧ b.1 < a.2 ∧ a.2 < b.2)
/-- a grouping of n things -/
structure Gr (n : Int) (bs : List B) : Prop where
  good : ∀ b ∈ bs, OkB n b
  up : UpB bs
  nox : NoX bs
  many : (bs.length : Int) = n - 1
/-! ### are_apart, is_grouping_of -/
def spAp : Sp := fun vs H Q _ => ∃ (l : Addr) (xs : List V) (bs : List B), vs = [.ref l] ∧ H l = some (.lst xs) ∧ Lb H xs bs ∧ xs.length < 2 ^ 20 ∧ NoX bs ∧ ∀ H', Same H H' → Q (.bl true) H'
theorem scAp : FnScope ["blocks", "at", "first", "end", "second", "other"] ["blocks"] (defScope sPAreApart) := ⟨rfl, rfl, rfl, by decide +kernel, rfl, by decide +kernel, by decide +kernel⟩
def spG : Sp := fun vs H Q _ => ∃ (n : Int) (l : Addr) (xs : List V) (bs : List B), vs = [.int n, .ref l] ∧ H l = some (.lst xs) ∧ Lb H xs bs ∧ xs.length < 2 ^ 20 ∧ Gr n bs ∧ ∀ H', Same H H' → Q (.bl true) H'
theorem scG : FnScope ["size", "value"] ["size", "value"] (defScope sPIsGroupingOf) := ⟨rfl, rfl, rfl, by decide +kernel, rfl, by decide +kernel, by decide +kernel⟩
section
variable {P : Program} {w : World} {K : PySem.W.Frag} {mg : Str → Option Value} {base : Heap} {f fL fG fA fC : Addr} {fd fdL fdG fdA fdC : FuncData}
theorem ok_ap (F : FnP K dPAreApart f fd) (gE : mg "enumerate" = none) : FnOk P w K mg base CX0 1 f fd ["blocks"] spAp := by
  refine F.ok scAp (fun vs H Q E h => ?_) (fun cdv A outer s H vs Q E hr h => ⟨_, PSs.nox (
    pss_cons (ps_for PassesOwn.never rfl (pi_enum rfl gE (pa_cons (pv 0) pa_nil)) (g := gTup K 2 (gCons (gName 1) (gCons (gTup K 2 (gCons (gName 2) (gCons (gName 3) gNil))) gNil)))
        (pg_tup rfl (pgs_cons (pg_name (i := 1) scAp.nd rfl (.inl rfl)) (pgs_cons (pg_tup rfl (pgs_cons (pg_name (i := 2) scAp.nd rfl (.inl rfl)) (pgs_cons (pg_name (i := 3) scAp.nd rfl (.inl rfl)) pgs_nil))) pgs_nil)))
      (pss_one (ps_for PassesOwn.never rfl (pi_list (pe_slice sl_list (pv 0) (po_some (pe_op op_add (pv 1) pe_int)) po_none)) (g := gTup K 2 (gCons (gName 4) (gCons (gName 5) gNil)))
          (pg_tup rfl (pgs_cons (pg_name (i := 4) scAp.nd rfl (.inl rfl)) (pgs_cons (pg_name (i := 5) scAp.nd rfl (.inl rfl)) pgs_nil)))
        (pss_one (ps_if (pt_lt4 (pv 2) (pv 4) (pv 3) (pv 5)) (pss_one (ps_ret pe_bl)) pss_nil)))))
    (pss_one (ps_ret pe_bl))), ?_⟩)
  · obtain ⟨l, xs, bs, rfl, _⟩ := h
    rfl
  · obtain ⟨l, xs, bs, rfl, e1, lb, lz, nox, k⟩ := h
    refine ⟨_, rfl, l, xs, rfl, SqL.of e1, ?_⟩
    refine for_it walk_enum (fun i τ G' => (∃ a b c d e, τ = [some (.ref l), a, b, c, d, e]) ∧ Same H G') ⟨⟨_, _, _, _, _, rfl⟩, fun _ _ e => e⟩ (fun i τ G' _ q => SqL.of (q.2 _ _ e1)) ?_ ?_
    · rintro i x τ G1 G2 hi ⟨⟨a0, b0, c0, d0, e0, rfl⟩, sm⟩ ⟨T, x1, x2, ex, hT, eG, h1, h2⟩
      subst ex eG
      cases h1
      obtain ⟨b, hb, p, ep, tb⟩ := lb.get h2
      subst ep
      have sT : Same H (upd G1 T (.tup [.int (i : Nat), .ref p])) := sm.trans (same_new hT)
      refine ⟨T, [.int (i : Nat), .ref p], rfl, SqT.of upd_same, rfl, _, _, rfl, _, _, rfl, p, [.int b.1, .int b.2], rfl, SqT.of (sT _ _ tb), rfl, _, _, rfl, _, _, rfl, rfl, rfl, ?_⟩
      refine ⟨_, rfl, _, rfl, _, _, rfl, rfl, ((i : Nat) : Int) + 1, rfl, l, xs, rfl, SqL.of (sT _ _ e1), fun S hS => ?_⟩
      have sS := sT.trans (same_new (o := .lst (cutV xs (some ((i : Nat) + 1)) none)) hS)
      refine ⟨S, rfl, ⟨_, SqL.of upd_same⟩, ?_⟩
      have eC : cutV xs (some (((i : Nat) : Int) + 1)) none = xs.drop (i + 1) := by
        have q := cutN xs (i + 1)
        rw [Int.natCast_add] at q
        exact q
      rw [eC] at sS ⊢
      refine for_it (walk_list (xs := xs.drop (i + 1))) (fun j τ G' => (∃ u1 u2 u3, τ = [some (.ref l), u1, some (.int b.1), some (.int b.2), u2, u3]) ∧ Same H G' ∧ G' S = some (.lst (xs.drop (i + 1)))) ⟨⟨_, _, _, rfl⟩, sS, upd_same⟩ (fun j τ G' _ q => SqL.of q.2.2) ?_ ?_
      · rintro j x τ G3 G4 hj ⟨⟨a1, b1, c1, rfl⟩, sm3, eS⟩ ⟨eG, hx⟩
        subst eG
        rw [List.getElem?_drop] at hx
        obtain ⟨c, hc, q, eq, tq⟩ := lb.get hx
        subst eq
        refine ⟨q, [.int c.1, .int c.2], rfl, SqT.of (sm3 _ _ tq), rfl, _, _, rfl, _, _, rfl, rfl, ?_⟩
        refine ⟨b.1, c.1, b.2, c.2, ⟨_, rfl, rfl, rfl⟩, ⟨_, rfl, rfl, rfl⟩, ⟨_, rfl, rfl, rfl⟩, ⟨_, rfl, rfl, rfl⟩, ?_⟩
        have no := nox i (i + 1 + j) b c (by omega) hb hc
        have off : (decide (b.1 < c.1) && (decide (c.1 < b.2) && decide (b.2 < c.2))) = false := by
          rw [Bool.eq_false_iff]
          intro z
          simp only [Bool.and_eq_true, decide_eq_true_eq] at z
          exact no z
        rw [off]
        exact iteF ⟨⟨_, _, _, rfl⟩, sm3, eS⟩
      · rintro τ G' ⟨⟨a1, b1, c1, rfl⟩, sm3, eS⟩
        exact ⟨⟨_, _, _, _, _, rfl⟩, sm3⟩
    · rintro τ G' ⟨⟨a0, b0, c0, d0, e0, rfl⟩, sm⟩
      exact k G' sm
theorem ok_g (F : FnP K dPIsGroupingOf f fd) (FL : FnP K dPIsBlockList fL fdL) (GL : FnOk P w K mg base CX0 4 fL fdL ["size", "value"] spBL) (gL : mg "is_block_list" = some (.ref fL)) (FA : FnP K dPAreApart fA fdA) (GA : FnOk P w K mg base CX0 1 fA fdA ["blocks"] spAp) (gA : mg "are_apart" = some (.ref fA)) (gLe : mg "len" = none) : FnOk P w K mg base CX0 5 f fd ["size", "value"] spG := by
  have bL : Binds K fdL ["size", "value"] [] := FL.bindsN fun _ _ _ _ _ _ us hl => match us, hl with | [_, _], _ => rfl
  have bA : Binds K fdA ["blocks"] [] := FA.bindsN fun _ _ _ _ _ _ us hl => match us, hl with | [_], _ => rfl
  refine F.ok scG (fun vs H Q E h => ?_) (fun cdv A outer s H vs Q E hr h => ⟨_, PSs.nox (
    pss_one (ps_ret (pe_and (pe_call GL hr rfl gL FL.kp bL .nil pass0 (pa_cons (pv 0) (pa_cons (pv 1) pa_nil)))
      (pe_and (pe_cmpR op_eq (pe_callB call_len_seq rfl gLe (by decide +kernel) (pa_cons (pv 1) pa_nil)) (pe_op op_sub (pv 0) pe_int) (nomark _))
      (pe_one (pe_call GA (hr.mono (by decide)) rfl gA FA.kp bA .nil pass0 (pa_cons (pv 1) pa_nil))))))), ?_⟩)
  · obtain ⟨n, l, xs, bs, rfl, _⟩ := h
    rfl
  · obtain ⟨n, l, xs, bs, rfl, e1, lb, lz, G, k⟩ := h
    refine ⟨_, rfl, _, rfl, n, l, xs, bs, rfl, e1, lb, lz, G.good, G.up, fun H1 s1 => ⟨true, rfl, itT rfl ?_⟩⟩
    refine ⟨_, rfl, l, xs, rfl, .inl (SqL.of (s1 _ _ e1)), _, rfl, n, 1, rfl, rfl, rfl, true, ?_, itT rfl ?_⟩
    · show V.bl (decide (V.int (xs.length : Nat) = V.int (n - 1))) = V.bl true
      rw [lb.len, decide_eq_true (congrArg V.int G.many)]
    exact ⟨_, rfl, l, xs, bs, rfl, s1 _ _ e1, lb.same s1, lz, G.nox, fun H2 s2 => k H2 (s1.trans s2)⟩
end
end K36
/-! A dictionary comprehension whose keys are tuples. -/
namespace SfDc
open PySem PySem.Spec PyProof.Rows L2
/-- the store of such a comprehension -/
theorem put_tuple {X : Cx} {pins : List (Addr × Obj)} {σ : L2.St} {G : Hp} {s : Shared} {Er : Value → Shared → Prop} {D b : Addr} {kvs : List (List Key × V)} {k : List Key} {z : V} {r u : Value} {R : Unit → Shared → Prop} (I : Inv X pins σ G s) (hu : X.A.units + 1 < cLine)
    (hD : G D = some (.dT kvs)) (hb : G b = some (.tup (k.map kV))) (room : kvs.length < sizeLine) (ru : RelV (.ref b) u) (rz : RelV z r) (go : ∀ s', Inv X pins σ (upd G D (.dT (putK kvs k z))) s' → R () s') :
    wpAny (model X.prog X.w) X.A (dictSet D u r) R Er s := by
  obtain rfl : u = Value.ref b := ru
  obtain ⟨_, notMod, xs, kt, ofH⟩ := dt_of I.hok hD
  have fits : xs.length ≤ sizeLine := by
    rw [← Paired.length kt]
    exact Nat.le_of_lt room
  have fits2 : (putK kvs k z).length ≤ sizeLine := Nat.le_trans (length_putK kvs k z) room
  refine wpAny_dictSet_heap (hsz := fits) (show (tupleKind (mixKind X.prog X.w)).room X.A from Nat.lt_of_succ_lt hu) (key_of I.hok hb) ofH fun g' of' sb => go _ ?_
  obtain ⟨ob, es, ep, g1, g2, g3, g4, _, g5⟩ := of'
  have same : ∀ c ys, G c = some (.tup ys) → upd G D (.dT (putK kvs k z)) c = some (.tup ys) := fun c ys ec => by
    rw [upd_ne (ne_of ec hD (fun q => nomatch q))]
    exact ec
  exact d_write I (by rw [hD]; exact True.intro) sb ⟨ob, g1⟩ ⟨fits2, notMod, _, (kt.put k hb rz).keeps same, ob, es, ep, g1, g2, g3, g4, g5⟩
section
variable {X : Cx}
/-- {k: v for target in iter if ..}, the keys tuples: D the new dictionary -/
def tDcT (wi : TI) (g : TG) (tt : TT) (tk tv : TE) (vs : List Nat) : TE := fun σ H Q => wi σ H fun J H1 => ∀ D, H1 D = none → ∃ W : Nat → Nat → Hp → Prop, (∃ m, W 0 m (upd H1 D (.dT []))) ∧ ∀ i m G, W i m G →
  (J.stop i G ∧ Q (.ref D) G) ∨ (J.go i G ∧ ∃ Nx : Hp → Prop, (∀ G', Nx G' → ∃ m', m' < m ∧ W (i + 1) m' G') ∧ ∀ x G', J.yld i G x G' → g x (wipe σ vs) G' fun τ H2 => wipe τ vs = wipe σ vs ∧ tt τ H2 fun b H3 =>
    if b = true then tk τ H3 fun y H4 => tv τ H4 fun z H5 => ∃ (kvs : List (List Key × V)) (k : List Key) (p : Addr), y = .ref p ∧ H5 p = some (.tup (k.map kV)) ∧ H5 D = some (.dT kvs) ∧ kvs.length < sizeLine ∧ Nx (upd H5 D (.dT (putK kvs k z))) else Nx H3)
theorem pe_dcT {kx vx tg iter : Expr} {ifs : List Expr} {scope : Scope} {own : List (Str × Nat)} {pos : Pos} {wi : TI} {g : TG} {tt : TT} {tk tv : TE} (calm : X.calm = true) (units : X.A.units + 1 < cLine) (nd : X.N.Nodup) (pi : PI X tg iter wi) (ok : BlkOk X.N X.env.scope scope own)
    (pg : ∀ (s : Shared) (H : Hp) (C : Addr) (cl : List (Str × Addr)) (fp : List Addr), PG (X.blk s H scope (compEnvC scope cl C X.env) fp) tg g)
    (pt : ∀ (s : Shared) (H : Hp) (C : Addr) (cl : List (Str × Addr)) (fp : List Addr), PTs (X.blk s H scope (compEnvC scope cl C X.env) fp) ifs tt)
    (pk : ∀ (s : Shared) (H : Hp) (C : Addr) (cl : List (Str × Addr)) (fp : List Addr), PE (X.blk s H scope (compEnvC scope cl C X.env) fp) kx tk)
    (pv : ∀ (s : Shared) (H : Hp) (C : Addr) (cl : List (Str × Addr)) (fp : List Addr), PE (X.blk s H scope (compEnvC scope cl C X.env) fp) vx tv) (fold : ∀ x, foldedSetIterable iter X.env x = pure x := by intro _; rfl) :
    PE X (.DictComp kx vx [⟨tg, iter, ifs, 0⟩] scope pos) (tDcT wi g tt tk tv (own.map (·.2))) := by
  refine ⟨fun pins s σ H Q I hyp => ?_⟩
  rw [arm_eval_DictComp]
  have has : ∀ y ∈ scope.names, y.2 = .free → ∃ c, X.env.cells.lookup y.1 = some c := fun y my e => (ok.free y my e).elim (fun q => I.ok.has _ (.inl q)) fun q => I.ok.has _ (.inr q)
  refine wpAny_comprehension_free (use := none) rfl fold (closure_ok has) ok.kind (fun y my e => by rw [ok.uniq y my, e])
    (thn (pi.run pins s σ H _ I hyp) fun itVal sA hA => thn hA fun itRef sB hB => ?_)
  obtain ⟨it, fp, tn, J, HB, eRef, IB, Tn, stB, fpB, rest⟩ := hB
  subst eRef
  refine wpAny_newObj_type (newEnv_comp ?_)
  generalize eD : sB.heap.objs.size = D
  have freshD : HB D = none := IB.hok.fresh (Nat.le_of_eq eD)
  obtain ⟨W, ⟨m0, w0⟩, turn⟩ := rest D freshD
  generalize eC : ({ sB with heap := sB.heap.push { cls := .type "dict", data := .dict #[] } } : Shared) = sC
  have heapC : sC.heap = sB.heap.push { cls := .type "dict", data := .dict #[] } := by rw [← eC]
  have IC : Inv X pins σ (upd HB D (.dT [])) sC := by
    have born : ObjOk X.prog X.w (upd HB D (.dT [])) (sB.heap.push { cls := .type "dict", data := .dict #[] }) D (.dT []) := by
      rw [← eD]
      exact dt_empty sB.heap IB.big
    rw [← eC]
    exact IB.laid (t' := sB.toks) (fun b o e => Heap.get?_push_of_some _ e) (Nat.le_of_eq eD) born
  have old : ∀ b ∈ fp, b < sB.heap.objs.size := fun b mb => let ⟨_, e, _⟩ := Tn.obj _ _ stB b mb; Heap.lt_size e
  have fpC : ∀ b ∈ fp, FpOk X pins (upd HB D (.dT [])) b ∧ b < sC.heap.objs.size := fun b mb => by
    have neD : b ≠ D := by
      rw [← eD]
      exact Nat.ne_of_lt (old b mb)
    refine ⟨⟨(upd_ne neD).trans (fpB b mb).1, (fpB b mb).2⟩, ?_⟩
    rw [heapC, Heap.size_push]
    exact Nat.lt_succ_of_lt (old b mb)
  have stC : tn 0 sC.heap := Tn.keep _ _ _ stB fun b _ o e => by
    rw [heapC]
    exact Heap.get?_push_of_some _ e
  have IE := block_start IC ok nd fpC
  generalize eG : upd HB D (.dT []) = G0 at IC fpC IE w0
  generalize eL : cellsFrom (sC.heap.objs.size + 1) scope.names (cloFrom X.env.cells scope.names []) = cl at IE
  have qg := pg sC G0 sC.heap.objs.size cl fp
  have qt := pt sC G0 sC.heap.objs.size cl fp
  have qk := pk sC G0 sC.heap.objs.size cl fp
  have qv := pv sC G0 sC.heap.objs.size cl fp
  generalize eE : compEnvC scope cl sC.heap.objs.size X.env = ce at IE qg qt qk qv
  have locE : ce.locals = sC.heap.objs.size := by
    rw [← eE]
    rfl
  generalize eS : ({ sC with heap := pushCells (sC.heap.push { cls := .type "dict", data := .dict #[] }) scope.names } : Shared) = sE at IE
  have stE : tn 0 sE.heap := Tn.keep _ _ _ stC fun b _ o e => by
    rw [← eS]
    exact pushCells_keeps _ _ _ _ (Heap.get?_push_of_some _ e)
  have again : ∀ {τ : L2.St} {G : Hp} {s' : Shared}, Inv (X.blk sC G0 scope ce fp) [] τ G s' → (∀ b ∈ fp, G b = none) → ∀ b ∈ fp, FpOk (X.blk sC G0 scope ce fp) [] G b := by
    intro τ G s' J' none b mb
    exact ⟨none b mb, (J'.ok.exf b mb).1, J'.ok.exfs b mb, .inl mb, fun x c e => (J'.ok.exf b mb).2 x c e, fun p mp => nomatch (show p ∈ ([] : List (Addr × Obj)) ++ [] from mp)⟩
  have round : codeAny (model X.prog X.w) X.A (.compLoop (.DictComp kx vx [⟨tg, iter, ifs, 0⟩] scope pos) 0 (.ref it) (.ref D) ce)
      (compPost (model X.prog X.w) X.A X.xe none (EP X pins σ Q) (.ref D) sC.heap.objs.size) sE := by
    refine compLoop_anyD (fun n s' => ∃ i G, Inv (X.blk sC G0 scope ce fp) [] (wipe σ (own.map (·.2))) G s' ∧ tn i s'.heap ∧ (∀ b ∈ fp, G b = none) ∧ W i n G) ?_ m0 ⟨0, G0, IE, stE, fun b mb => (fpC b mb).1.1, w0⟩
    rintro n s5 ⟨i, G5, I5, st5, non5, w5⟩
    rcases turn i n G5 w5 with ⟨stop, ends⟩ | ⟨go, Nx, less, step⟩
    · refine thnF (Tn.done (X.blk sC G0 scope ce fp) rfl rfl rfl calm i [] s5 _ G5 (fun _ _ => False) I5 (again I5 non5) st5 stop) fun r s6 hr => ?_
      obtain ⟨er, I6⟩ := hr
      subst er
      have I7 : Inv X pins σ G5 s6 := IC.call' (ch := fp) I6.os I6.base I6.hok I6.bare fun b mb => ⟨(fpC b mb).1.2.2.2.1, (fpC b mb).1.2.1, (fpC b mb).1.2.2.2.2.1, (fpC b mb).1.2.2.2.2.2⟩
      have nonC : G5 sC.heap.objs.size = none := by
        rw [← locE]
        exact I6.free
      obtain ⟨m, ns6, _⟩ := I6.loc
      have ns6 : s6.heap.Ns sC.heap.objs.size m := by
        rw [← locE]
        exact ns6
      obtain ⟨a0, a1, a2, a3, a4, a5⟩ := IC.fpOk (Nat.le_refl _) nonC
      exact ⟨m, ns6, fun h'' sb => ⟨.ref D, G5, I7.turned (t' := s6.toks) (fun b o nb e => (sb.2 b nb).trans e) a0 a1 a3 a4 a5, rfl, ends⟩⟩
    · refine thnF (Tn.item (X.blk sC G0 scope ce fp) rfl rfl rfl calm i [] s5 _ G5 (fun _ _ => False) I5 (again I5 non5) st5 go) fun r s6 hr => ?_
      obtain ⟨u, er, rest6⟩ := hr
      subst er
      refine thnF rest6 fun _ s7 ⟨x, G7, I7, r7, y7, st7, non7⟩ => ?_
      have P7 := I7.pinned (again I7 non7) (Tn.obj _ _ st7)
      refine thnF (qg.run _ s7 _ G7 x u _ P7 r7 (step x G7 y7)) fun _ s8 ⟨τ, G8, I8, wiped, q8⟩ => ?_
      refine thnF (qt.run _ s8 τ G8 _ I8 q8) fun b s9 ⟨G9, I9, q9⟩ => ?_
      have back : ∀ {s' : Shared} {G : Hp}, Inv (X.blk sC G0 scope ce fp) ([] ++ pinsAt fp s7.heap) τ G s' → Nx G →
          ∃ m, m < n ∧ ∃ i G, Inv (X.blk sC G0 scope ce fp) [] (wipe σ (own.map (·.2))) G s' ∧ tn i s'.heap ∧ (∀ b ∈ fp, G b = none) ∧ W i m G := by
        intro s' G J' nx
        obtain ⟨m', lm, w'⟩ := less G nx
        have pinned : ∀ b ∈ fp, ∀ o, s7.heap.get? b = some o → s'.heap.get? b = some o ∧ G b = none := by
          intro b mb o e
          have z := J'.pin (b, o) (List.mem_append_right _ (List.mem_append_right _ (mem_pinsAt mb e)))
          exact ⟨z.1, z.2.1⟩
        have len : (wipe σ (own.map (·.2))).length = τ.length := by
          rw [← wiped, wipe_length]
        refine ⟨m', lm, i + 1, G, (J'.unpinned (pins := [])).weak len (fun j v e => ?_), Tn.keep _ _ _ st7 fun b mb o e => (pinned b mb o e).1, fun b mb => ?_, w'⟩
        · rw [← wiped] at e
          exact (wipe_some e).1
        · obtain ⟨o, e, _⟩ := Tn.obj _ _ st7 b mb
          exact (pinned b mb o e).2
      cases b with
      | false =>
        simp only [Bool.false_eq_true, if_false] at q9 ⊢
        exact back I9 q9
      | true =>
        simp only [if_true] at q9 ⊢
        refine thnF (qk.run _ s9 τ G9 _ I9 q9) fun kv sK ⟨y, GK, IK, rK, qK⟩ => ?_
        refine thnF (qv.run _ sK τ GK _ IK qK) fun vv sV ⟨z, GV, IV, rV, kvs, k, p, ey, ep, hD, room, nx⟩ => ?_
        subst ey
        exact put_tuple (X := X.blk sC G0 scope ce fp) IV units hD ep room rK rV fun s' J' => back J' nx
  have start : codeAny (model X.prog X.w) X.A (.compStart (.DictComp kx vx [⟨tg, iter, ifs, 0⟩] scope pos) 0 (.ref it) (.ref D) ce)
      (compPost (model X.prog X.w) X.A X.xe none (EP X pins σ Q) (.ref D) sC.heap.objs.size) sE := codeAny_compStart_dict round (Tn.self X.A 0 _ _ _ stE round)
  show codeAny _ _ (.compStart (.DictComp kx vx [⟨tg, iter, ifs, 0⟩] scope pos) 0 (.ref it) (.ref D) (compEnvC scope cl sC.heap.objs.size X.env)) (compPost (model X.prog X.w) X.A X.xe none (EP X pins σ Q) (.ref D) sC.heap.objs.size) sE
  rw [eE]
  exact start
end
end SfDc
/-! list(d.values()) where the keys of d are tuples; max(l, default=..) of numbers. -/
namespace SfVal
open PySem PySem.W PySem.Calls PyProof.Rows PyProof.V PySem.Spec DT
section
variable {prog : Program} {w : World} {A : Around} {E : Value → Shared → Prop} {s : Shared} {d : Addr} {es : Array DictEntry} {ep : Nat}
theorem valuesRaw (nm : (d == sysModules) = false) : MeetsIn prog w (Builtin.«dict.values» ⟨[.ref d], []⟩) (fun _ R s => Raw s.heap d es ep ∧
    R (.ok (.ret (.ref s.heap.objs.size))) { s with heap := s.heap.push { cls := .type "dict_values", data := .fields #[.ref d] } }) := by
  refine .of_wp fun A R s h => ?_
  obtain ⟨raw, fin⟩ := h
  unfold Builtin.«dict.values»
  refine wpAny_bind ?_
  unfold Builtin.Dict.noArgs
  refine wpAny_bind (wpAny_notOrdered_dict raw.typeIs (wpAny_pure ?_))
  unfold Builtin.Dict.showsAll
  have off : ¬ ((d == sysModules) = true) := by
    rw [nm]
    exact Bool.false_ne_true
  show wpAny _ _ ((if (d == sysModules) = true then _ else _) >>= _) _ _ s
  rw [if_neg off]
  exact wpAny_bind (wpAny_pure (wpAny_bind (wpAny_newObj_type (wpAny_pure ⟨_, rfl, fin⟩))))
theorem iterVal {v : Addr} {Q : Value → Shared → Prop} (view : s.heap.IsValuesView v d) (raw : Raw s.heap d es ep)
    (fin : Q (.ref s.heap.objs.size) { s with heap := s.heap.push { cls := .type "dict_valueiterator", data := .fields #[.ref d, .int 0 0, .int es.size 0, .int ep 0] } }) : wpAny (model prog w) A (pyIter (.ref v)) Q E s := by
  obtain ⟨o1, g1, c1, d1⟩ := id view
  obtain ⟨o2, g2, c2, d2⟩ := id raw
  refine wpAny_pyIter_slot view.typeIs PySem.F.slot_dict_values_iter (wpAny_call_entry PySem.F.slot_dict_values_iter view.typeIs PySem.F.entry_dict_values_iter ?_ (PySem.F.args_dict_values_iter_1 _))
  unfold Builtin.«dict_values.__iter__»
  refine wpAny_bind (wpAny_pure (wpAny_bind ?_))
  unfold Builtin.Dict_items.dictOf
  refine wpAny_bind (wpAny_field g1 d1 (x := .ref d) rfl (wpAny_pure (wpAny_bind ?_)))
  unfold Builtin.Dict_items.newIterator
  refine wpAny_bind (wpAny_dictEntries g2 d2 (wpAny_bind (wpAny_dictEpoch g2 d2 ?_)))
  have single : Builtin.Dict_items.ownsTuple "dict_valueiterator" = false := by decide
  simp only [single, Bool.false_eq_true, if_false]
  refine wpAny_newObj_type (wpAny_pure ⟨_, rfl, "dict_valueiterator", _, ⟨_, Heap.get?_push_size _ rfl, rfl⟩, PySem.F.slot_dict_valueiterator_next.lookup, ?_⟩)
  simpa [rawInt] using fin
/-- what every look at the next value does first -/
theorem nextVal {it : Addr} {i : Nat} {en : DictEntry} {Q : Option Value → Shared → Prop} (st : s.heap.IsValIter it d i es.size ep) (raw : Raw s.heap d es ep) (at_ : es[i]? = some en)
    (fin : ∀ h', h'.IsValIter it d (i + 1) es.size ep → Heap.SameBut it s.heap h' → Q (some en.val) { s with heap := h' }) : wpAny (model prog w) A (pyNext (.ref it)) Q E s := by
  obtain ⟨o1, g1, c1, d1⟩ := id st
  obtain ⟨o2, g2, c2, d2⟩ := id raw
  unfold pyNext
  refine wpAny_bind (wpAny_attempt (wpAny_callSpecial?_slot (name := Str.ofString "__next__") st.typeIs PySem.F.slot_dict_valueiterator_next
    (wpAny_call_entry PySem.F.slot_dict_valueiterator_next st.typeIs PySem.F.entry_dict_valueiterator_next ?_ (PySem.F.args_dict_valueiterator_next_1 _))))
  refine wpAny_bind (wpAny_pure (wpAny_bind (wpAny_bind ?_)))
  first
    | refine wpAny_bind (wpAny_typeNameOfWhole_valiter st.typeIs (wpAny_pure ?_))
    | refine wpAny_bind (wpAny_typeNameOf_valiter st.typeIs (wpAny_pure ?_))
  refine wpAny_bind (wpAny_fieldsOf g1 d1 ?_)
  have single : Builtin.Dict_items.ownsTuple "dict_valueiterator" = false := by decide
  simp only [single, Bool.false_eq_true, if_false]
  have someD : ¬ ((Value.ref d == Value.none) = true) := Bool.false_ne_true
  show wpAny _ _ (if (Value.ref d == Value.none) = true then _ else _) _ _ s
  rw [if_neg someD]
  refine wpAny_bind (wpAny_pure (wpAny_bind (wpAny_dictEntries g2 d2 ?_)))
  rw [if_neg (by simp)]
  refine wpAny_bind (wpAny_pure (wpAny_bind (wpAny_dictEpoch g2 d2 ?_)))
  rw [if_neg (by simp)]
  refine wpAny_pure ?_
  simp only [show ¬ ((i : Int) < 0) from by omega, if_false, Int.toNat_natCast, at_]
  refine wpAny_bind ?_
  first
    | refine wpAny_bind (wpAny_typeNameOfWhole_valiter st.typeIs (wpAny_pure ?_))
    | refine wpAny_bind (wpAny_typeNameOf_valiter st.typeIs (wpAny_pure ?_))
  refine wpAny_bind (wpAny_isOneOf_valiter st.typeIs ?_)
  show wpAny _ _ (setField (.ref it) 1 (rawInt ((i : Int) + 1)) >>= _) _ _ s
  refine wpAny_bind (wpAny_setField g1 d1 (by simp) ?_)
  have st2 : (s.heap.update it (Obj.mapFields (·.setIfInBounds 1 (rawInt ((i : Int) + 1))))).IsValIter it d (i + 1) es.size ep := by
    refine ⟨_, Heap.get?_update_self _ g1 (Obj.isFreed_of_fields (Obj.data_mapFields d1 _)), (Obj.cls_mapFields ..).trans c1, ?_⟩
    rw [Obj.data_mapFields d1]
    simp [rawInt]
  refine wpAny_bind (wpAny_holding (wpAny_bind (wpAny_isOneOf_valiter (s := { s with heap := s.heap.update it (Obj.mapFields (·.setIfInBounds 1 (rawInt ((i : Int) + 1)))) }) st2.typeIs ?_)))
  refine wpAny_bind (wpAny_isOneOf_valiter (s := { s with heap := s.heap.update it (Obj.mapFields (·.setIfInBounds 1 (rawInt ((i : Int) + 1)))) }) st2.typeIs ?_)
  show wpAny _ _ (pure en.val) _ _ _
  exact wpAny_pure (wpAny_pure ⟨_, rfl, wpAny_pure (fin _ st2 (Heap.SameBut.update ..))⟩)
theorem endVal {it : Addr} {i : Nat} {Q : Option Value → Shared → Prop} (hh : A.handled = none) (st : s.heap.IsValIter it d i es.size ep) (raw : Raw s.heap d es ep) (over : es.size ≤ i)
    (fin : ∀ h', Heap.ExtBut it s.heap h' → Q none { s with heap := h' }) : wpAny (model prog w) A (pyNext (.ref it)) Q E s := by
  obtain ⟨o1, g1, c1, d1⟩ := id st
  obtain ⟨o2, g2, c2, d2⟩ := id raw
  unfold pyNext
  refine wpAny_bind (wpAny_attempt (wpAny_callSpecial?_slot (name := Str.ofString "__next__") st.typeIs PySem.F.slot_dict_valueiterator_next
    (wpAny_call_entry PySem.F.slot_dict_valueiterator_next st.typeIs PySem.F.entry_dict_valueiterator_next ?_ (PySem.F.args_dict_valueiterator_next_1 _))))
  refine wpAny_bind (wpAny_pure (wpAny_bind (wpAny_bind ?_)))
  first
    | refine wpAny_bind (wpAny_typeNameOfWhole_valiter st.typeIs (wpAny_pure ?_))
    | refine wpAny_bind (wpAny_typeNameOf_valiter st.typeIs (wpAny_pure ?_))
  refine wpAny_bind (wpAny_fieldsOf g1 d1 ?_)
  have single : Builtin.Dict_items.ownsTuple "dict_valueiterator" = false := by decide
  simp only [single, Bool.false_eq_true, if_false]
  have someD : ¬ ((Value.ref d == Value.none) = true) := Bool.false_ne_true
  show wpAny _ _ (if (Value.ref d == Value.none) = true then _ else _) _ _ s
  rw [if_neg someD]
  refine wpAny_bind (wpAny_pure (wpAny_bind (wpAny_dictEntries g2 d2 ?_)))
  rw [if_neg (by simp)]
  refine wpAny_bind (wpAny_pure (wpAny_bind (wpAny_dictEpoch g2 d2 ?_)))
  rw [if_neg (by simp)]
  refine wpAny_pure ?_
  simp only [show ¬ ((i : Int) < 0) from by omega, if_false, Int.toNat_natCast, Array.getElem?_eq_none over]
  refine wpAny_bind ?_
  first
    | refine wpAny_bind (wpAny_typeNameOfWhole_valiter st.typeIs (wpAny_pure ?_))
    | refine wpAny_bind (wpAny_typeNameOf_valiter st.typeIs (wpAny_pure ?_))
  show wpAny _ _ (setField (.ref it) 0 .none >>= _) _ _ s
  refine wpAny_bind (wpAny_setField g1 d1 (by simp) ?_)
  show wpAny _ _ (newExc (.type "StopIteration") [] >>= _) _ _ _
  simp only [newExc, newTuple]
  refine wpAny_bind (wpAny_bind (wpAny_newObj_type ?_ (by size_fits)))
  refine wpAny_bind (m := firstArgMember _ _) (wpAny_of_eq (a := Value.none) (by first | rfl | (simp only [firstArgMember]; rfl)) (wpAny_newObj_type ?_ (by size_fits)))
  simp only [raiseNew]
  refine wpAny_bind (wpAny_handled ?_)
  have hh1 : A.in1.handled = none := hh
  rw [hh1]
  refine wpAny_bind (wpAny_pure (wpAny_throw ?_))
  refine wpAny_bind (wpAny_isInstance (b := true) (T := "StopIteration") ⟨_, Heap.get?_push_size _ rfl, rfl⟩ isSubtype_stop ?_)
  exact wpAny_pure (fin _ (((Heap.SameBut.update ..).extBut.push _).push _))
theorem walkVal (hh : A.handled = none) (I : Addr) (ne : d ≠ I) : Walks prog w A I [I, d] [I] es.size (fun i v => ∃ en : DictEntry, es[i]? = some en ∧ v = en.val) (fun i h => h.IsValIter I d i es.size ep ∧ Raw h d es ep) where
  sub := fun b hb => by
    rw [List.mem_singleton] at hb
    simp [hb]
  frame := fun _ _ _ st k => ⟨st.1.at fun o e => k I (by simp) o e, st.2.at' fun o e => k d (by simp) o e⟩
  item := fun i s Q E hi st q => by
    refine nextVal st.1 st.2 (Array.getElem?_eq_getElem hi) fun h' st' sb => ?_
    exact q _ h' s.toks ⟨_, Array.getElem?_eq_getElem hi, rfl⟩ ⟨st', st.2.at' fun o e => (sb.2 d ne).trans e⟩ fun b o nb e => (sb.2 b (fun z => nb (by simp [z]))).trans e
  done := fun s Q E st q => endVal hh st.1 st.2 (Nat.le_refl _) fun h' k => q h' s.toks fun b o nb e => k b o (fun z => nb (by simp [z])) e
  self := fun _ _ _ _ st q => wpAny_pyIter_valiter st.1 q
theorem srcVal {r : Addr} : KdlSrc prog w "dict_values" r d es.size (fun i v => ∃ en : DictEntry, es[i]? = some en ∧ v = en.val) (fun h => h.IsValuesView r d ∧ Raw h d es ep) where
  type := fun _ m => m.1.typeIs
  there := fun _ m => ⟨let ⟨_, g, _⟩ := m.1; Heap.lt_size g, m.2.lt⟩
  keep := fun _ _ m k => ⟨let ⟨o, g, x⟩ := m.1; ⟨o, k r (.inl rfl) o g, x⟩, m.2.at' fun o e => k d (.inr rfl) o e⟩
  notList := by decide
  notTuple := by decide
  hint := fun _ _ _ _ m q => kdl_hint_values m.1.typeIs q
  iter := fun _ _ hh m => ⟨_, _, (fun _ _ q => iterVal m.1 m.2 q), walkVal hh _ (Nat.ne_of_lt m.2.lt), ⟨⟨_, Heap.get?_push_size _ rfl, rfl, rfl⟩, m.2.push _⟩⟩
end

/-! ### the rule -/
open L2
def isVals (kvs : List (List L2.Key × V)) : List V := kvs.map (·.2)
/-- list(e.values()): a new list of the values, in the order of the keys -/
def tVals (te : TE) : TE := fun σ H Q => te σ H fun x H1 => ∃ (d : Addr) (kvs : List (List L2.Key × V)), x = .ref d ∧ H1 d = some (.dT kvs) ∧ ∀ p, H1 p = none → Q (.ref p) (upd H1 p (.lst (isVals kvs)))
theorem vals_at {P : Program} {w : World} {kvs : List (List L2.Key × V)} {xs : List (List L2.Key × Addr × Value)} {es : Array DictEntry} {H : Hp} (r : KT H kvs xs) (he : es.toList = xs.map (entryOfKey (tupleKind (mixKind P w)))) :
    ∀ {us : List Value}, us.length = es.size → (∀ (j : Nat) (v : Value), us[j]? = some v → ∃ en : DictEntry, es[j]? = some en ∧ v = en.val) → Vals (isVals kvs) us := by
  intro us lz facts
  refine vals_of_at ?_ fun j x u hx hu => ?_
  · have l1 := congrArg List.length he
    rw [Array.length_toList, List.length_map] at l1
    have l2 : kvs.length = xs.length := Paired.length r
    rw [isVals, List.length_map]
    omega
  · obtain ⟨en, e1, e2⟩ := facts j u hu
    unfold isVals at hx
    rw [List.getElem?_map] at hx
    cases hk : kvs[j]? with
    | none =>
      rw [hk] at hx
      cases hx
    | some kv =>
      rw [hk] at hx
      cases hx
      obtain ⟨b, b1, b2⟩ := paired_get r hk
      have q := entry_at he j
      rw [e1, b1] at q
      have en' : en = entryOfKey (tupleKind (mixKind P w)) b := Option.some.inj q
      rw [e2, en']
      exact b2.2.2
section
variable {X : Cx} {e : Expr} {te : TE} {p apos cpos pos : Pos}
theorem pe_vals (hc : X.calm = true) (he : PE X e te) (hg : Gl X "list") (hm : X.mg "list" = none) (hv : bootBuiltins "list" = some (.type "list") := by rfl) (hb : attributeBase e "values" X.env (eval e X.env) = eval e X.env := by rfl) (hl : (apos.endLine == cpos.line) = true := by rfl)
    (hs : starEach [.Call (.Attribute e "values" apos) [] [] cpos] X.env = (false, eval (.Call (.Attribute e "values" apos) [] [] cpos) X.env) :: starEach [] X.env := by rfl) :
    PE X (.Call (.Name "list" p) [.Call (.Attribute e "values" apos) [] [] cpos] [] pos) (tVals te) := by
  refine ⟨fun pins s σ H Q I hq => ?_⟩
  refine wpAny_Call_Name_kw (ld_blt I hg hm hv ?_)
  refine PyProof.Rows.callWith_type1 ?_ hs rfl
  rw [hs]
  show wpAny _ _ (spliced ((false, eval (.Call (.Attribute e "values" apos) [] [] cpos) X.env) :: backTo pos (starEach [] X.env))) _ _ s
  refine Calls.spliced_cons (wpAny_Call_method (T := "dict") (id := "dict.values") hb rfl hl F.plainAttrs_dict F.slot_dict_values F.type_dict_values (thn (he.run pins s σ H _ I hq) fun u s1 ⟨x, H1, I1, rx, d, kvs, ex, hd, q⟩ => ?_))
  subst ex
  obtain rfl : u = Value.ref d := rx
  obtain ⟨z, nm, xs, kt, o, es, ep, g1, g2, g3, g4, _⟩ := (show ObjOk X.prog X.w H1 s1.heap d (.dT kvs) from I1.hok d _ hd)
  have raw : Raw s1.heap d es ep := ⟨o, g1, g2, g3⟩
  refine ⟨raw.typeIs, fun a ea => (by cases ea; exact ⟨o, g1, g2.2.1⟩), ?_⟩
  show wpAny _ _ (callWith cpos (.builtin "dict.values") [.ref d] [] []) _ X.xe s1
  refine method_meetsIn F.slot_dict_values F.entry_dict_values rfl (PySem.evalArgs_none ⟨rfl, raw.typeIs, F.args_dict_values_1 _, _, valuesRaw (es := es) (ep := ep) nm, raw, ?_⟩)
  refine Calls.spliced_nil ?_
  have I2 : Inv X pins σ H1 { s1 with heap := s1.heap.push { cls := .type "dict_values", data := .fields #[.ref d] } } := I1.kept (t' := s1.toks) fun b ob g => Heap.get?_push_of_some _ g
  have few : es.size ≤ sizeLine := by
    have l1 := congrArg List.length g4
    rw [Array.length_toList, List.length_map] at l1
    have l2 : kvs.length = xs.length := Paired.length kt
    omega
  refine kdl_call (srcVal (es := es) (ep := ep)) (I1.ok.hd hc) ⟨⟨_, Heap.get?_push_size _ rfl, rfl, rfl⟩, raw.push _⟩ few fun h' tk acc c kp at_ it => ?_
  have rv : Vals (isVals kvs) acc.toList := vals_at kt g4 (by rw [Array.length_toList]; exact it.1) fun j v e => it.2 j v (by rw [← Array.getElem?_toList]; exact e)
  have lz : (isVals kvs).length ≤ sizeLine := by
    rw [isVals, List.length_map]
    exact z
  exact ⟨.ref _, upd H1 _ (.lst (isVals kvs)), I2.laid (t' := tk) kp (Nat.le_refl _) ⟨lz, acc.toList, c, rv, by rw [Array.toArray_toList]; exact at_⟩, rfl, q _ (I2.hok.fresh (Nat.le_refl _))⟩
/-- max(l, default=d), l a list of numbers -/
def rMaxD (K : PySem.W.Frag) : List V → List V → Hp → VK → Prop := fun vs zs H Q => ∃ (a : Addr) (ns : List Int) (d : Int), vs = [V.ref a] ∧ zs = [.int d] ∧ SqL K H a (ns.map V.int) ∧ Q (.int (match ns with | [] => d | n :: r => r.foldl max n)) H
theorem cr_maxD (hc : X.calm = true) (hu : X.A.units + 8 < cLine) : CallRK X (.builtin "max") [Str.ofString "default"] (rMaxD X.K) := by
  intro pins s σ H vs zs us ws Q I r rz h
  obtain ⟨a, ns, d, e1, e2, hs, q⟩ := h
  subst e1 e2
  obtain rfl := Vals.ref1 r
  obtain ⟨w1, ew, td, ed⟩ := vals1 rz
  subst ew ed
  obtain ⟨its, rv, pl, lz⟩ := I.list hs
  have nums : IntsAre its ns := rv.ints
  have depth0 : ∀ l : List Int, PyData.depthAll (l.map PyData.int) = 0 := by
    intro l
    induction l with
    | nil => rfl
    | cons x t ih => simp [PyData.depthAll, PyData.depth, ih]
  obtain ⟨as, rd⟩ : ∃ as, ReadsAll s.heap its (ns.map PyData.int) as := by
    clear q hs lz pl rv r rz
    induction nums with
    | nil => exact ⟨[], .nil⟩
    | cons n t _ ih =>
      obtain ⟨as, x⟩ := ih
      exact ⟨_, .cons (.int n t) x⟩
  have al : AlikeAll (ns.map PyData.int) := by
    refine ⟨fun x mx y my => ?_, fun x mx => ?_⟩
    · obtain ⟨a, _, e⟩ := List.mem_map.mp mx
      obtain ⟨b, _, e'⟩ := List.mem_map.mp my
      subst e e'
      rfl
    · obtain ⟨a, _, e⟩ := List.mem_map.mp mx
      subst e
      exact fun z => nomatch z
  refine max_list_default (I.ok.hd hc) pl.isList rd al (by rw [depth0]; omega) (fun e0 h' tk kp => ?_) fun y ys i v h' tk bs e0 _ rdv kp => ?_
  · have en : ns = [] := List.map_eq_nil_iff.mp e0
    subst en
    exact ⟨.int d, H, I.kept kp, ⟨td, rfl⟩, q⟩
  · cases ns with
    | nil => cases e0
    | cons n t =>
      rw [List.map_cons] at e0
      injection e0 with a1 a2
      subst a1 a2
      rw [maxD_ints] at rdv
      cases rdv with
      | int _ tv => exact ⟨.int (t.foldl max n), H, I.kept kp, ⟨tv, rfl⟩, q⟩
end
end SfVal
/-! check_any_grouping, check_run, mids_of, block_depths, parts_at. -/
namespace K36
open PySem PySem.Spec PyProof.Rows L2
def spCA : Sp := fun vs H Q _ => ∃ (l : Addr) (xs : List V) (bs : List B), vs = [.ref l] ∧ H l = some (.lst xs) ∧ Lb H xs bs ∧ xs.length < 2 ^ 20 ∧ Gr (bs.length + 1) bs ∧ ∀ H', Same H H' → Q .non H'
theorem scCA : FnScope ["grouping"] ["grouping"] (defScope sPCheckAnyGrouping) := ⟨rfl, rfl, rfl, by decide +kernel, rfl, by decide +kernel, by decide +kernel⟩
def spHnd : Sp := fun vs H Q _ => ∃ (n : Int), vs = [.int n] ∧ 1 ≤ n ∧ ∀ H', Same H H' → Q .non H'
theorem scHnd : FnScope ["hands"] ["hands"] (defScope sPCheckHands) := ⟨rfl, rfl, rfl, by decide +kernel, rfl, by decide +kernel, by decide +kernel⟩
def spCR : Sp := fun vs H Q _ => ∃ (l : Addr) (n : Int) (xs : List V) (bs : List B), vs = [.ref l, .int n] ∧ H l = some (.lst xs) ∧ Lb H xs bs ∧ xs.length < 2 ^ 20 ∧ Gr (bs.length + 1) bs ∧ 1 ≤ n ∧ ∀ H', Same H H' → Q .non H'
theorem scCR : FnScope ["grouping", "hands"] ["grouping", "hands"] (defScope sPCheckRun) := ⟨rfl, rfl, rfl, by decide +kernel, rfl, by decide +kernel, by decide +kernel⟩
section
variable {P : Program} {w : World} {K : PySem.W.Frag} {mg : Str → Option Value} {base : Heap} {f fL fG fA fC : Addr} {fd fdL fdG fdA fdC : FuncData}
theorem ok_ca (F : FnP K dPCheckAnyGrouping f fd) (FG : FnP K dPIsGroupingOf fG fdG) (GG : FnOk P w K mg base CX0 5 fG fdG ["size", "value"] spG) (gG : mg "is_grouping_of" = some (.ref fG)) (gIs : mg "isinstance" = none) (gLi : mg "list" = none) (gLe : mg "len" = none) :
    FnOk P w K mg base CX0 6 f fd ["grouping"] spCA := by
  have bG : Binds K fdG ["size", "value"] [] := FG.bindsN fun _ _ _ _ _ _ us hl => match us, hl with | [_, _], _ => rfl
  refine F.ok scCA (fun vs H Q E h => ?_) (fun cdv A outer s H vs Q E hr h => ⟨_, PSs.nox (
    pss_one (ps_if (PW.pt (pw_or (pt_not (pt_val (pe_callB call_isi rfl gIs (by decide +kernel) (pa_cons (pv 0) (pa_cons (pe_bltn (v := .ty "list") rfl gLi (by decide +kernel) rfl) pa_nil)))))
        (pw_or1 (pt_not (pt_val (pe_call GG hr rfl gG FG.kp bG .nil pass0 (pa_cons (pe_op op_add (pe_callB call_len_seq rfl gLe (by decide +kernel) (pa_cons (pv 0) pa_nil)) pe_int) (pa_cons (pv 0) pa_nil)))))))) (pss_one ps_dead) pss_nil)), ?_⟩)
  · obtain ⟨l, xs, bs, rfl, _⟩ := h
    rfl
  · obtain ⟨l, xs, bs, rfl, e1, lb, lz, G, k⟩ := h
    refine ⟨_, rfl, .ref l, .ty "list", .type "list", .type "list", true, rfl, .ty _, .base (.lst e1), kit_ty (by decide +kernel), true, rfl, itF rfl ?_⟩
    refine ⟨_, rfl, l, xs, rfl, .inl (SqL.of e1), _, 1, rfl, rfl, _, rfl, _, l, xs, bs, rfl, e1, lb, lz, ?_, fun H1 s1 => ⟨true, rfl, itF rfl (k H1 s1)⟩⟩
    rw [lb.len]
    exact G
theorem ok_hnd (F : FnP K dPCheckHands f fd) (FC : FnP K dPIsCountFrom fC fdC) (GC : FnOk P w K mg base CX0 2 fC fdC ["value", "least"] spCountFrom) (gC : mg "is_count_from" = some (.ref fC)) :
    FnOk P w K mg base CX0 3 f fd ["hands"] spHnd := by
  have bC : Binds K fdC ["value", "least"] [] := FC.bindsN fun _ _ _ _ _ _ us hl => match us, hl with | [_, _], _ => rfl
  refine F.ok scHnd (fun vs H Q E h => ?_) (fun cdv A outer s H vs Q E hr h => ⟨_, PSs.nox (
    pss_one (ps_if (pt_not (pt_val (pe_call GC hr rfl gC FC.kp bC .nil pass0 (pa_cons (pv 0) (pa_cons pe_int pa_nil))))) (pss_one ps_dead) pss_nil)), ?_⟩)
  · obtain ⟨n, rfl, _⟩ := h
    rfl
  · obtain ⟨n, rfl, hn, k⟩ := h
    exact ⟨_, rfl, n, 1, rfl, by omega, hn, true, rfl, itF rfl (k H fun _ _ e => e)⟩
theorem ok_cr (F : FnP K dPCheckRun f fd) (FA : FnP K dPCheckAnyGrouping fA fdA) (GA : FnOk P w K mg base CX0 6 fA fdA ["grouping"] spCA) (gA : mg "check_any_grouping" = some (.ref fA)) (FC : FnP K dPCheckHands fC fdC) (GC : FnOk P w K mg base CX0 3 fC fdC ["hands"] spHnd) (gC : mg "check_hands" = some (.ref fC)) :
    FnOk P w K mg base CX0 7 f fd ["grouping", "hands"] spCR := by
  have bA : Binds K fdA ["grouping"] [] := FA.bindsN fun _ _ _ _ _ _ us hl => match us, hl with | [_], _ => rfl
  have bC : Binds K fdC ["hands"] [] := FC.bindsN fun _ _ _ _ _ _ us hl => match us, hl with | [_], _ => rfl
  refine F.ok scCR (fun vs H Q E h => ?_) (fun cdv A outer s H vs Q E hr h => ⟨_, PSs.nox (
    pss_cons (ps_expr (pe_call GA hr rfl gA FA.kp bA .nil pass0 (pa_cons (pv 0) pa_nil)))
    (pss_one (ps_expr (pe_call GC (hr.mono (by decide)) rfl gC FC.kp bC .nil pass0 (pa_cons (pv 1) pa_nil))))), ?_⟩)
  · obtain ⟨l, n, xs, bs, rfl, _⟩ := h
    rfl
  · obtain ⟨l, n, xs, bs, rfl, e1, lb, lz, G, hn, k⟩ := h
    refine ⟨_, rfl, l, xs, bs, rfl, e1, lb, lz, G, fun H1 s1 => ?_⟩
    exact ⟨_, rfl, n, rfl, hn, fun H2 s2 => k H2 (s1.trans s2)⟩
end
/-! ### dictionaries from blocks -/
/-- the key of a block -/
abbrev kB (b : B) : List Key := [Sum.inl b.1, Sum.inl b.2]
theorem kB_inj {a b : B} (h : kB a = kB b) : a = b := by
  unfold kB at h
  injection h with h1 h2
  injection h2 with h2 _
  injection h1 with h1
  injection h2 with h2
  exact Prod.ext h1 h2
/-- the dictionary from blocks to what g tells -/
def dB (bs : List B) (g : B → V) : List (List Key × V) := bs.map fun b => (kB b, g b)
theorem dB_get {bs : List B} {g : B → V} {b : B} (h : b ∈ bs) : valV (dB bs g) (kB b) = some (g b) := by
  unfold valV dB
  induction bs with
  | nil => exact nomatch h
  | cons a t ih =>
    rw [List.map_cons, List.find?_cons]
    by_cases e : a = b
    · subst e
      simp
    · rw [decide_eq_false fun z => e (kB_inj z)]
      rcases List.mem_cons.mp h with z | z
      · exact absurd z.symm e
      · exact ih z
theorem dB_no {bs : List B} {g : B → V} {b : B} (h : b ∉ bs) : valV (dB bs g) (kB b) = none := by
  unfold valV dB
  induction bs with
  | nil => rfl
  | cons a t ih =>
    rw [List.map_cons, List.find?_cons, decide_eq_false fun z => h (by rw [kB_inj z]; exact List.mem_cons_self ..)]
    exact ih fun z => h (List.mem_cons_of_mem _ z)
theorem dB_put {bs : List B} {g : B → V} {b : B} (h : b ∉ bs) : putK (dB bs g) (kB b) (g b) = dB (bs ++ [b]) g := by
  rw [putK_new _ (dB_no h)]
  unfold dB
  rw [List.map_append]
  rfl
theorem dB_len {bs : List B} {g : B → V} : (dB bs g).length = bs.length := List.length_map ..
theorem bLt_tr {a b c : B} (h1 : bLt a b = true) (h2 : bLt b c = true) : bLt a c = true := by
  rw [bLt_iff] at h1 h2 ⊢
  omega
theorem bLt_irr {a : B} : bLt a a = false := by
  rw [Bool.eq_false_iff]
  intro z
  rw [bLt_iff] at z
  omega
theorem UpB.pair {bs : List B} (h : UpB bs) : bs.Pairwise (fun a b => bLt a b = true) := by
  induction bs with
  | nil => exact .nil
  | cons a t ih =>
    have ht : UpB t := fun i x y hx hy => h (i + 1) x y (by simpa using hx) (by simpa using hy)
    have pt := ih ht
    refine .cons (fun b hb => ?_) pt
    cases t with
    | nil => exact nomatch hb
    | cons c r =>
      have ac : bLt a c = true := h 0 a c rfl rfl
      rcases List.mem_cons.mp hb with z | z
      · rw [z]
        exact ac
      · cases pt with
        | cons pc _ => exact bLt_tr ac (pc b z)
theorem pair_up {bs : List B} (h : bs.Pairwise (fun a b => bLt a b = true)) : UpB bs := by
  intro i a b ha hb
  rw [List.pairwise_iff_getElem] at h
  have l1 := (List.getElem?_eq_some_iff.mp ha).1
  have l2 := (List.getElem?_eq_some_iff.mp hb).1
  have q := h i (i + 1) l1 l2 (by omega)
  rw [(List.getElem?_eq_some_iff.mp ha).2, (List.getElem?_eq_some_iff.mp hb).2] at q
  exact q
theorem UpB.nodup {bs : List B} (h : UpB bs) : bs.Nodup := by
  refine List.Pairwise.imp (fun {a b} q z => ?_) h.pair
  subst z
  rw [bLt_irr] at q
  cases q
/-- the block at a place isn't among those ahead -/
theorem notAhead {bs : List B} (nd : bs.Nodup) {i : Nat} {b : B} (h : bs[i]? = some b) : b ∉ bs.take i := by
  intro m
  obtain ⟨j, hj⟩ := List.mem_iff_getElem?.mp m
  rw [List.getElem?_take] at hj
  split at hj
  · rename_i lt
    have l1 := (List.getElem?_eq_some_iff.mp h).1
    have q : bs[j]'(by omega) = bs[i] := by
      rw [(List.getElem?_eq_some_iff.mp h).2]
      exact (List.getElem?_eq_some_iff.mp hj).2
    have := (List.getElem_inj nd).mp q
    omega
  · cases hj
theorem take_one {bs : List B} {i : Nat} {b : B} (h : bs[i]? = some b) : bs.take (i + 1) = bs.take i ++ [b] := by
  rw [List.take_add_one, h]
  rfl
/-! ### block_depths -/
/-- how many others hold it -/
def dep (bs : List B) (b : B) : Int := ((bs.filter fun c => decide (c.1 ≤ b.1) && decide (b.2 ≤ c.2)).length : Int) - 1
def spBD : Sp := fun vs H Q _ => ∃ (l : Addr) (xs : List V) (bs : List B), vs = [.ref l] ∧ H l = some (.lst xs) ∧ Lb H xs bs ∧ xs.length < 2 ^ 20 ∧ bs.Nodup ∧ ∀ d H', Same H H' → H d = none → H' d = some (.dT (dB bs fun b => .int (dep bs b))) → Q (.ref d) H'
theorem scBD : FnScope ["grouping", "found", "first", "end", "one", "last"] ["grouping"] (defScope sPBlockDepths) := ⟨rfl, rfl, rfl, by decide +kernel, rfl, by decide +kernel, by decide +kernel⟩
section
variable {P : Program} {w : World} {K : PySem.W.Frag} {mg : Str → Option Value} {base : Heap} {f : Addr} {fd : FuncData}
theorem ok_bd (F : FnP K dPBlockDepths f fd) (gLe : mg "len" = none) : FnOk P w K mg base CX0 1 f fd ["grouping"] spBD := by
  refine F.ok scBD (fun vs H Q E h => ?_) (fun cdv A outer s H vs Q E hr h => ⟨_, PSs.nox (
    pss_cons (ps_set (i := 1) scBD.nd rfl (.inl rfl) pe_dnewT)
    (pss_cons (ps_for PassesOwn.never rfl (pi_list (pv 0)) (g := gTup K 2 (gCons (gName 2) (gCons (gName 3) gNil)))
        (pg_tup rfl (pgs_cons (pg_name (i := 2) scBD.nd rfl (.inr rfl)) (pgs_cons (pg_name (i := 3) scBD.nd rfl (.inr rfl)) pgs_nil)))
      (pss_one (ps_dput (hu_of hr) (pv 1) (pe_tup (pa_cons (pv 2) (pa_cons (pv 3) pa_nil)))
        (pe_op op_sub (pe_callB call_len_seq rfl gLe (by decide +kernel) (pa_cons (pe_lc (own := [("one", 4), ("last", 5)]) (g := gTup K 2 (gCons (gName 4) (gCons (gName 5) gNil))) rfl scBD.nd (pi_list (pv 0)) (blkOk_by (N := ["grouping", "found", "first", "end", "one", "last"]) (sc := defScope sPBlockDepths) (by decide +kernel))
          (fun _ _ _ _ _ => pg_tup rfl (pgs_cons (pg_name (i := 4) scBD.nd rfl (.inl rfl)) (pgs_cons (pg_name (i := 5) scBD.nd rfl (.inl rfl)) pgs_nil)))
          (fun _ _ _ _ _ => pts_one (PW.pt (pw_and (pt_cmpR op_le (pv 4) (pv 2) (nomark _)) (pw_and1 (pt_cmpR op_le (pv 3) (pv 5) (nomark _))))))
          (fun _ _ _ _ _ => pv 4)) pa_nil)) pe_int) rfl)))
    (pss_one (ps_ret (pv 1))))), ?_⟩)
  · obtain ⟨l, xs, bs, rfl, _⟩ := h
    rfl
  · obtain ⟨l, xs, bs, rfl, e1, lb, lz, nd, k⟩ := h
    intro d hd
    have s0 : Same H (upd H d (.dT [])) := same_new hd
    refine ⟨_, rfl, l, rfl, ⟨_, SqL.of (s0 _ _ e1)⟩, ?_⟩
    refine for_it (walk_list (xs := xs)) (fun i τ G => (∃ u2 u3, τ = [some (.ref l), some (.ref d), u2, u3, none, none]) ∧ Same H G ∧ G d = some (.dT (dB (bs.take i) fun b => .int (dep bs b)))) ⟨⟨_, _, rfl⟩, s0, upd_same⟩ (fun i τ G _ q => SqL.of (q.2.1 _ _ e1)) ?_ ?_
    · rintro i x τ G1 G2 hi ⟨⟨u2, u3, rfl⟩, sm, eD⟩ ⟨eG, hx⟩
      subst eG
      obtain ⟨b, hb, p, ep, tb⟩ := lb.get hx
      subst ep
      refine ⟨p, [.int b.1, .int b.2], rfl, SqT.of (sm _ _ tb), rfl, _, _, rfl, _, _, rfl, rfl, ?_⟩
      refine ⟨_, rfl, l, rfl, ⟨_, SqL.of (sm _ _ e1)⟩, fun L hL => ?_⟩
      refine lc_it (walk_list (xs := xs)) (fun j G' => Same G2 G' ∧ G' L = some (.lst (((bs.take j).filter fun c => decide (c.1 ≤ b.1) && decide (b.2 ≤ c.2)).map fun c => V.int c.1))) ⟨same_new hL, by rw [upd_same]; simp⟩ (fun j G' _ q => SqL.of (q.1 _ _ (sm _ _ e1))) ?_ ?_
      · rintro j y G3 G4 hj ⟨s3, eL⟩ ⟨eG, hy⟩
        subst eG
        obtain ⟨c, hc, q, eq, tq⟩ := lb.get hy
        subst eq
        have lens : (((bs.take j).filter fun c => decide (c.1 ≤ b.1) && decide (b.2 ≤ c.2)).map fun c => V.int c.1).length < sizeLine := by
          have a1 := List.length_filter_le (fun c : B => decide (c.1 ≤ b.1) && decide (b.2 ≤ c.2)) (bs.take j)
          have a2 : (bs.take j).length ≤ bs.length := by
            rw [List.length_take]
            exact Nat.min_le_right _ _
          rw [List.length_map, sizeLine_eq]
          rw [lb.len] at lz
          omega
        have step : ((bs.take (j + 1)).filter fun c => decide (c.1 ≤ b.1) && decide (b.2 ≤ c.2)).map (fun c => V.int c.1) = ((bs.take j).filter fun c => decide (c.1 ≤ b.1) && decide (b.2 ≤ c.2)).map (fun c => V.int c.1) ++ (if decide (c.1 ≤ b.1) && decide (b.2 ≤ c.2) then [V.int c.1] else []) := by
          rw [take_one hc, List.filter_append, List.map_append]
          congr 1
          rw [List.filter_cons]
          split <;> rfl
        refine ⟨q, [.int c.1, .int c.2], rfl, SqT.of (s3 _ _ (sm _ _ tq)), rfl, _, _, rfl, _, _, rfl, rfl, rfl, ?_⟩
        refine ⟨_, rfl, _, rfl, c.1, b.1, rfl, rfl, _, rfl, ?_⟩
        by_cases h1 : c.1 ≤ b.1
        · refine itT (decide_eq_true h1) ⟨_, rfl, _, rfl, b.2, c.2, rfl, rfl, _, rfl, ?_⟩
          by_cases h2 : b.2 ≤ c.2
          · rw [decide_eq_true h1, decide_eq_true h2] at step
            refine itT (decide_eq_true h2) ⟨_, rfl, _, eL, lens, fun a o e => ?_, ?_⟩
            · rw [upd_ne (ne_of_none e hL)]
              exact s3 _ _ e
            · rw [upd_same, step]
              rfl
          · rw [decide_eq_true h1, decide_eq_false h2] at step
            refine itF (decide_eq_false h2) ⟨s3, ?_⟩
            rw [step]
            simpa using eL
        · rw [decide_eq_false h1] at step
          refine itF (decide_eq_false h1) ⟨s3, ?_⟩
          rw [step]
          simpa using eL
      · rintro G' ⟨s3, eL⟩
        rw [lb.len, List.take_length] at eL
        have eD' := s3 _ _ eD
        refine ⟨L, _, rfl, .inl (SqL.of eL), _, 1, rfl, rfl, _, rfl, _, rfl, _, rfl, (by show 2 ≤ sizeLine; rw [sizeLine_eq]; decide), fun t ht => ?_⟩
        have nd' : d ≠ t := ne_of_none eD' ht
        have sT : Same H (upd G' t (.tup [.int b.1, .int b.2])) := (sm.trans s3).trans (same_new ht)
        have room : (dB (bs.take i) fun b => .int (dep bs b)).length < sizeLine := by
          rw [dB_len, List.length_take, sizeLine_eq]
          rw [lb.len] at lz
          omega
        refine ⟨d, _, rfl, DPut.t (k := kB b) (by rw [upd_ne nd']; exact eD') upd_same room, ⟨_, _, rfl⟩, fun a o e => ?_, ?_⟩
        · rw [upd_ne (ne_of_none e hd)]
          exact sT _ _ e
        · rw [upd_same, take_one hb, ← dB_put (notAhead nd hb), List.length_map]
          rfl
    · rintro τ G ⟨⟨u2, u3, rfl⟩, sm, eD⟩
      refine ⟨_, rfl, k d G sm hd ?_⟩
      rw [eD, lb.len, List.take_length]
end
end K36
/-! mids_of, parts_at. -/
namespace K36
open PySem PySem.Spec PyProof.Rows L2
/-- where the first part of a block ends: the greatest end of a shorter one that begins there, or one thing on -/
def midOf (bs : List B) (b : B) : Int := ((bs.filter fun c => decide (c.1 = b.1) && decide (c.2 < b.2)).map (·.2)).foldl max (b.1 + 1)
def lastEnd (l : List B) (f : Int) : Option Int := ((l.filter fun c => decide (c.1 = f)).map (·.2)).getLast?
theorem fold_last : ∀ (l : List Int) (a : Int), (∀ x ∈ l, a < x) → l.Pairwise (· < ·) → l.foldl max a = l.getLast?.getD a := by
  intro l
  induction l with
  | nil => exact fun a _ _ => rfl
  | cons x t ih =>
    intro a h p
    cases p with
    | cons px pt =>
      rw [List.foldl_cons, show max a x = x from Int.max_eq_right (Int.le_of_lt (h x (List.mem_cons_self ..))), ih x px pt, List.getLast?_cons]
      rfl
theorem mid_at {n : Int} {bs : List B} (up : UpB bs) (good : ∀ b ∈ bs, OkB n b) {i : Nat} {b : B} (hb : bs[i]? = some b) : (lastEnd (bs.take i) b.1).getD (b.1 + 1) = midOf bs b := by
  have l1 := (List.getElem?_eq_some_iff.mp hb).1
  have pw := up.pair
  have split : bs = bs.take i ++ bs.drop i := (List.take_append_drop i bs).symm
  have pw2 := pw
  rw [split, List.pairwise_append] at pw2
  obtain ⟨pA, pB, pAB⟩ := pw2
  have eb : bs.drop i = b :: bs.drop (i + 1) := by
    rw [List.drop_eq_getElem_cons l1, (List.getElem?_eq_some_iff.mp hb).2]
  have f1 : (bs.drop i).filter (fun c => decide (c.1 = b.1) && decide (c.2 < b.2)) = [] := by
    rw [List.filter_eq_nil_iff]
    intro c hc
    rw [eb] at hc pB
    cases pB with
    | cons q _ =>
      simp only [Bool.and_eq_true, decide_eq_true_eq]
      rcases List.mem_cons.mp hc with z | z
      · rw [z]
        omega
      · have := bLt_iff.mp (q c z)
        omega
  have f2 : (bs.take i).filter (fun c => decide (c.1 = b.1) && decide (c.2 < b.2)) = (bs.take i).filter (fun c => decide (c.1 = b.1)) := by
    refine List.filter_congr fun c hc => ?_
    have q := bLt_iff.mp (pAB c hc b (by rw [eb]; exact List.mem_cons_self ..))
    by_cases e : c.1 = b.1
    · rw [decide_eq_true e, decide_eq_true (show c.2 < b.2 by omega)]
      rfl
    · rw [decide_eq_false e]
      rfl
  have f3 : bs.filter (fun c => decide (c.1 = b.1) && decide (c.2 < b.2)) = (bs.take i).filter (fun c => decide (c.1 = b.1)) := by
    have e : bs.filter (fun c => decide (c.1 = b.1) && decide (c.2 < b.2)) = (bs.take i ++ bs.drop i).filter (fun c => decide (c.1 = b.1) && decide (c.2 < b.2)) := by rw [← split]
    rw [e, List.filter_append, f1, List.append_nil, f2]
  unfold midOf lastEnd
  rw [f3, fold_last]
  · intro x hx
    obtain ⟨c, hc, e⟩ := List.mem_map.mp hx
    have m := List.mem_filter.mp hc
    have e1 := of_decide_eq_true m.2
    have g := good c (List.mem_of_mem_take m.1)
    unfold OkB at g
    omega
  · rw [List.pairwise_map]
    refine List.Pairwise.imp_of_mem (fun {x y} mx my h => ?_) (pA.sublist List.filter_sublist)
    have a1 := of_decide_eq_true (List.mem_filter.mp mx).2
    have a2 := of_decide_eq_true (List.mem_filter.mp my).2
    have := bLt_iff.mp h
    omega
theorem lastEnd_snoc (l : List B) (b : B) (f : Int) : lastEnd (l ++ [b]) f = if b.1 = f then some b.2 else lastEnd l f := by
  unfold lastEnd
  rw [List.filter_append, List.map_append]
  by_cases e : b.1 = f
  · rw [if_pos e, List.filter_cons, decide_eq_true e]
    simp
  · rw [if_neg e, List.filter_cons, decide_eq_false e]
    simp
/-! ### mids_of -/
def spMid : Sp := fun vs H Q _ => ∃ (l : Addr) (xs : List V) (bs : List B) (n : Int), vs = [.ref l] ∧ H l = some (.lst xs) ∧ Lb H xs bs ∧ xs.length < 2 ^ 20 ∧ UpB bs ∧ (∀ b ∈ bs, OkB n b) ∧ ∀ d H', Same H H' → H d = none → H' d = some (.dT (dB bs fun b => .int (midOf bs b))) → Q (.ref d) H'
theorem scMid : FnScope ["grouping", "ends", "mids", "first", "end"] ["grouping"] (defScope sPMidsOf) := ⟨rfl, rfl, rfl, by decide +kernel, rfl, by decide +kernel, by decide +kernel⟩
section
variable {P : Program} {w : World} {K : PySem.W.Frag} {mg : Str → Option Value} {base : Heap} {f : Addr} {fd : FuncData}
theorem ok_mid (F : FnP K dPMidsOf f fd) : FnOk P w K mg base CX0 1 f fd ["grouping"] spMid := by
  refine F.ok scMid (fun vs H Q E h => ?_) (fun cdv A outer s H vs Q E hr h => ⟨_, PSs.nox (
    pss_cons (ps_par (i := 1) (j := 2) rfl scMid.nd rfl rfl (by decide) rfl rfl (pa_cons pe_dnewK (pa_cons pe_dnewT pa_nil)) (by rfl))
    (pss_cons (ps_for PassesOwn.never rfl (pi_list (pv 0)) (g := gTup K 2 (gCons (gName 3) (gCons (gName 4) gNil)))
        (pg_tup rfl (pgs_cons (pg_name (i := 3) scMid.nd rfl (.inl rfl)) (pgs_cons (pg_name (i := 4) scMid.nd rfl (.inl rfl)) pgs_nil)))
      (pss_cons (ps_dput (hu_of hr) (pv 2) (pe_tup (pa_cons (pv 3) (pa_cons (pv 4) pa_nil))) (pe_dget2 (hu_of hr) (pv 1) (pv 3) (pe_op op_add (pv 3) pe_int) ⟨rfl, rfl, rfl, rfl⟩) rfl)
      (pss_one (ps_dput (hu_of hr) (pv 1) (pv 3) (pv 4) rfl))))
    (pss_one (ps_ret (pv 2))))), ?_⟩)
  · obtain ⟨l, xs, bs, n, rfl, _⟩ := h
    rfl
  · obtain ⟨l, xs, bs, n, rfl, e1, lb, lz, up, good, k⟩ := h
    intro e he m hm
    have s1 : Same H (upd H e (.dK [])) := same_new he
    have hm0 : H m = none := s1.free hm
    have nem : e ≠ m := ne_of_none upd_same hm
    have s2 : Same H (upd (upd H e (.dK [])) m (.dT [])) := s1.trans (same_new hm)
    refine ⟨_, _, rfl, ?_⟩
    refine ⟨_, rfl, l, rfl, ⟨_, SqL.of (s2 _ _ e1)⟩, ?_⟩
    refine for_it (walk_list (xs := xs)) (fun i τ G => (∃ u3 u4, τ = [some (.ref l), some (.ref e), some (.ref m), u3, u4]) ∧ Same H G ∧ (∃ kvs : List (Key × V), G e = some (.dK kvs) ∧ kvs.length ≤ i ∧ ∀ f : Int, valV kvs (Sum.inl f) = (lastEnd (bs.take i) f).map V.int) ∧
      G m = some (.dT (dB (bs.take i) fun b => .int (midOf bs b)))) ⟨⟨_, _, rfl⟩, s2, ⟨[], by rw [upd_ne nem, upd_same], Nat.le_refl _, fun f => rfl⟩, upd_same⟩ (fun i τ G _ q => SqL.of (q.2.1 _ _ e1)) ?_ ?_
    · rintro i x τ G1 G2 hi ⟨⟨u3, u4, rfl⟩, sm, ⟨kvs, eE, kz, kv⟩, eM⟩ ⟨eG, hx⟩
      subst eG
      obtain ⟨b, hb, p, ep, tb⟩ := lb.get hx
      subst ep
      have li : i < bs.length := (List.getElem?_eq_some_iff.mp hb).1
      have lz' : bs.length < 2 ^ 20 := by
        rw [← lb.len]
        exact lz
      refine ⟨p, [.int b.1, .int b.2], rfl, SqT.of (sm _ _ tb), rfl, _, _, rfl, _, _, rfl, rfl, ?_⟩
      refine ⟨_, rfl, e, rfl, .inl ⟨kvs, .inl eE⟩, _, rfl, _, rfl, b.1, 1, rfl, rfl, _, DGet.k (k := Sum.inl b.1) eE, _, rfl, _, rfl, _, rfl, (by show 2 ≤ sizeLine; rw [sizeLine_eq]; decide), fun t ht => ?_⟩
      have val : ((valV kvs (Sum.inl b.1)).getD (V.int (b.1 + 1))) = V.int (midOf bs b) := by
        rw [kv, ← mid_at up good hb]
        cases lastEnd (bs.take i) b.1 <;> rfl
      have nm : m ≠ t := ne_of_none eM ht
      have ne : e ≠ t := ne_of_none eE ht
      have sT := sm.trans (same_new (o := .tup [.int b.1, .int b.2]) ht)
      have room : (dB (bs.take i) fun b => .int (midOf bs b)).length < sizeLine := by
        rw [dB_len, List.length_take, sizeLine_eq]
        omega
      refine ⟨m, _, rfl, DPut.t (k := kB b) (by rw [upd_ne nm]; exact eM) upd_same room, ?_⟩
      refine ⟨_, rfl, _, rfl, _, rfl, e, _, rfl, DPut.k (k := Sum.inl b.1) (by rw [upd_ne nem, upd_ne ne]; exact eE) (by rw [sizeLine_eq]; omega), ⟨_, _, rfl⟩, fun a o ea => ?_, ⟨_, upd_same, ?_, fun f => ?_⟩, ?_⟩
      · rw [upd_ne (ne_of_none ea he), upd_ne (ne_of_none ea hm0)]
        exact sT _ _ ea
      · have := length_putK kvs (Sum.inl b.1) (V.int b.2)
        omega
      · rw [valV_put, take_one hb, lastEnd_snoc]
        by_cases q : b.1 = f
        · rw [if_pos q, if_pos (by rw [q])]
          rfl
        · rw [if_neg q, if_neg (fun z => q (Sum.inl.inj z).symm)]
          exact kv f
      · rw [upd_ne nem.symm, upd_same, take_one hb, ← dB_put (notAhead up.nodup hb)]
        exact congrArg (fun z => some (HO.dT (putK (dB (bs.take i) fun b => V.int (midOf bs b)) (kB b) z))) val
    · rintro τ G ⟨⟨u3, u4, rfl⟩, sm, _, eM⟩
      refine ⟨_, rfl, k m G sm hm0 ?_⟩
      rw [eM, lb.len, List.take_length]
end
/-! ### parts_at -/
def spPA : Sp := fun vs H Q _ => ∃ (p : Addr) (a b m : Int), vs = [.ref p, .int m] ∧ H p = some (.tup [.int a, .int b]) ∧ ∀ l t u H', Same H H' → H' l = some (.lst [.ref t, .ref u]) → H' t = some (.tup [.int a, .int m]) → H' u = some (.tup [.int m, .int b]) → Q (.ref l) H'
theorem scPA : FnScope ["block", "mid"] ["block", "mid"] (defScope sPPartsAt) := ⟨rfl, rfl, rfl, by decide +kernel, rfl, by decide +kernel, by decide +kernel⟩
section
variable {P : Program} {w : World} {K : PySem.W.Frag} {mg : Str → Option Value} {base : Heap} {f : Addr} {fd : FuncData}
theorem ok_pa (F : FnP K dPPartsAt f fd) : FnOk P w K mg base CX0 1 f fd ["block", "mid"] spPA := by
  refine F.ok scPA (fun vs H Q E h => ?_) (fun cdv A outer s H vs Q E hr h => ⟨_, PSs.nox (
    pss_one (ps_ret (pe_lst (pa_cons (pe_tup (pa_cons (pe_ix ix_tup (pv 0) pe_int (fun _ _ => rfl)) (pa_cons (pv 1) pa_nil))) (pa_cons (pe_tup (pa_cons (pv 1) (pa_cons (pe_ix ix_tup (pv 0) pe_int (fun _ _ => rfl)) pa_nil))) pa_nil))))), ?_⟩)
  · obtain ⟨p, a, b, m, rfl, _⟩ := h
    rfl
  · obtain ⟨p, a, b, m, rfl, e, k⟩ := h
    have two : 2 ≤ sizeLine := by
      rw [sizeLine_eq]
      decide
    refine ⟨_, rfl, p, _, 0, .int a, rfl, rfl, SqT.of e, rfl, _, rfl, two, fun t ht => ?_⟩
    have s1 := same_new (o := .tup [.int a, .int m]) ht
    refine ⟨_, rfl, _, rfl, p, _, 1, .int b, rfl, rfl, SqT.of (s1 _ _ e), rfl, two, fun u hu => ?_⟩
    have s2 := same_new (o := .tup [.int m, .int b]) hu
    refine ⟨two, fun l hl => ?_⟩
    have s3 := same_new (o := .lst [.ref t, .ref u]) hl
    exact k l t u _ (s1.trans (s2.trans s3)) upd_same (s3 _ _ (s2 _ _ upd_same)) (s3 _ _ upd_same)
end
end K36
/-! block_parts, is_ready. -/
namespace K36
open PySem PySem.Spec PyProof.Rows L2
/-- a block's scope, its names told of by the scope around -/
def relS (inner sc : Scope) : Scope := { inner with names := inner.names.map fun (n, k) => if (k == .free && sc.kind == .function && sc.names.lookup n == some .cell) then (n, .cell) else (n, k) }
/-- the scope of the dictionary comprehension that is returned -/
def dcScope (st : Stmt) (sc : Scope) : Scope := match st with
  | .Return (some (.DictComp _ _ _ s _)) _ => s
  | _ => sc
def bpScope : Scope := dcScope ((defBody sPBlockParts).getD 1 (.Pass ⟨0, 0, 0, 0⟩)) (defScope sPBlockParts)
/-- the parts of a block that are blocks -/
def parts (bs : List B) (b : B) : List B := [(b.1, midOf bs b), (midOf bs b, b.2)].filter fun c => decide (c ∈ bs)
/-- the dictionary from blocks to their parts -/
def PartsAt (H : Hp) (d : Addr) (bs : List B) : Prop := ∃ ls : B → Addr, H d = some (.dT (dB bs fun b => .ref (ls b))) ∧ ∀ b ∈ bs, ∃ xs, H (ls b) = some (.lst xs) ∧ Lb H xs (parts bs b)
/-- the reading of a dictionary comprehension with tuple keys -/
theorem dcT_it {J : It} {n : Nat} {Gd : Hp → Prop} {Y : Nat → Hp → V → Hp → Prop} (wk : Walk J n Gd Y) {g : TG} {tt : TT} {tk tv : TE} {vs : List Nat} {σ : L2.St} {H1 : Hp} {D : Addr} {Qd : Hp → Prop} (Pv : Nat → Hp → Prop) (h0 : Pv 0 (upd H1 D (.dT []))) (hG : ∀ i H, i ≤ n → Pv i H → Gd H)
    (hs : ∀ i x H H', i < n → Pv i H → Y i H x H' → g x (wipe σ vs) H' fun τ H2 => wipe τ vs = wipe σ vs ∧ tt τ H2 fun b H3 =>
      if b = true then tk τ H3 fun y H4 => tv τ H4 fun z H5 => ∃ (kvs : List (List Key × V)) (k : List Key) (p : Addr), y = .ref p ∧ H5 p = some (.tup (k.map kV)) ∧ H5 D = some (.dT kvs) ∧ kvs.length < sizeLine ∧ Pv (i + 1) (upd H5 D (.dT (putK kvs k z))) else Pv (i + 1) H3)
    (hd : ∀ H, Pv n H → Qd H) :
    ∃ W : Nat → Nat → Hp → Prop, (∃ m, W 0 m (upd H1 D (.dT []))) ∧ ∀ i m G, W i m G →
      (J.stop i G ∧ Qd G) ∨ (J.go i G ∧ ∃ Nx : Hp → Prop, (∀ G', Nx G' → ∃ m', m' < m ∧ W (i + 1) m' G') ∧ ∀ x G', J.yld i G x G' → g x (wipe σ vs) G' fun τ H2 => wipe τ vs = wipe σ vs ∧ tt τ H2 fun b H3 =>
        if b = true then tk τ H3 fun y H4 => tv τ H4 fun z H5 => ∃ (kvs : List (List Key × V)) (k : List Key) (p : Addr), y = .ref p ∧ H5 p = some (.tup (k.map kV)) ∧ H5 D = some (.dT kvs) ∧ kvs.length < sizeLine ∧ Nx (upd H5 D (.dT (putK kvs k z))) else Nx H3) := by
  refine ⟨fun i m G => m = n - i ∧ (i ≤ n ∧ Pv i G), ⟨n, rfl, Nat.zero_le _, h0⟩, fun i m G hw => ?_⟩
  obtain ⟨em, li, pv⟩ := hw
  subst em
  rcases Nat.lt_or_ge i n with lt | ge
  · exact .inr ⟨wk.goes i G lt (hG i G li pv), Pv (i + 1), fun G' p' => ⟨n - (i + 1), by omega, rfl, lt, p'⟩, fun x G' y => hs i x G G' lt pv (wk.yields i G x G' lt (hG i G li pv) y)⟩
  · obtain rfl : i = n := Nat.le_antisymm li ge
    exact .inl ⟨wk.stops G (hG _ G li pv), hd G pv⟩
theorem ne_of_none' {H : Hp} {a b : Addr} {o : HO} (h : H a = none) (g : H b = some o) : a ≠ b := fun z => by
  rw [z, g] at h
  cases h
theorem dB_congr {bs : List B} {g g' : B → V} (h : ∀ b ∈ bs, g b = g' b) : dB bs g = dB bs g' := List.map_congr_left fun b hb => by rw [h b hb]
theorem two_step {bs tw : List B} {j : Nat} {c : B} (hc : tw[j]? = some c) : (tw.take (j + 1)).filter (fun c => decide (c ∈ bs)) = (tw.take j).filter (fun c => decide (c ∈ bs)) ++ (if c ∈ bs then [c] else []) := by
  rw [take_one hc, List.filter_append, List.filter_cons]
  by_cases h : c ∈ bs
  · rw [if_pos h, decide_eq_true h]
    rfl
  · rw [if_neg h, decide_eq_false h]
    rfl
theorem lb_snoc {H : Hp} {xs : List V} {bs : List B} {x : V} {b : B} (h : Lb H xs bs) (t : Tb H x b) : Lb H (xs ++ [x]) (bs ++ [b]) := by
  induction h with
  | nil => exact .cons t .nil
  | cons a _ ih => exact .cons a ih
def spBP : Sp := fun vs H Q _ => ∃ (l : Addr) (xs : List V) (bs : List B) (n : Int), vs = [.ref l] ∧ H l = some (.lst xs) ∧ Lb H xs bs ∧ xs.length < 2 ^ 20 ∧ UpB bs ∧ (∀ b ∈ bs, OkB n b) ∧ ∀ d H', Same H H' → H d = none → PartsAt H' d bs → Q (.ref d) H'
theorem scBP : FnScope ["grouping", "mids", "block", "part"] ["grouping"] (defScope sPBlockParts) := ⟨rfl, rfl, rfl, by decide +kernel, rfl, by decide +kernel, by decide +kernel⟩
section
variable {P : Program} {w : World} {K : PySem.W.Frag} {mg : Str → Option Value} {base : Heap} {f fM fA : Addr} {fd fdM fdA : FuncData}
theorem ok_bp (F : FnP K dPBlockParts f fd) (FM : FnP K dPMidsOf fM fdM) (GM : FnOk P w K mg base CX0 1 fM fdM ["grouping"] spMid) (gM : mg "mids_of" = some (.ref fM)) (FA : FnP K dPPartsAt fA fdA) (GA : FnOk P w K mg base CX0 1 fA fdA ["block", "mid"] spPA) (gA : mg "parts_at" = some (.ref fA)) :
    FnOk P w K mg base CX0 2 f fd ["grouping"] spBP := by
  have bM : Binds K fdM ["grouping"] [] := FM.bindsN fun _ _ _ _ _ _ us hl => match us, hl with | [_], _ => rfl
  have bA : Binds K fdA ["block", "mid"] [] := FA.bindsN fun _ _ _ _ _ _ us hl => match us, hl with | [_, _], _ => rfl
  refine F.ok scBP (fun vs H Q E h => ?_) (fun cdv A outer s H vs Q E hr h => ⟨_, PSs.nox (
    pss_cons (ps_set (i := 1) scBP.nd rfl (.inr rfl) (pe_call GM hr rfl gM FM.kp bM .nil pass0 (pa_cons (pv 0) pa_nil)))
    (pss_one (ps_ret (SfDc.pe_dcT (own := [("block", 2)]) (g := gName 2) (tt := tYes) (tk := tVar 2) (tv := tLc (iList K (tCall spPA [] E0 (tCons (tVar 2) (tCons (tDGet (tVar 1) (tVar 2)) tNil)))) (gName 3) (tB (tDIn (tVar 3) (tVar 1))) (tVar 3) [3]) rfl (hu_of hr) scBP.nd (pi_list (pv 0)) (blkOk_by (N := ["grouping", "mids", "block", "part"]) (sc := defScope sPBlockParts) (by decide +kernel))
      (fun _ _ _ _ _ => pg_name (i := 2) scBP.nd rfl (.inl rfl)) (fun _ _ _ _ _ => pts_nil) (fun _ _ _ _ _ => pv 2)
      (fun _ _ _ _ _ => pe_lc (own := [("part", 3)]) (g := gName 3) rfl scBP.nd (pi_list (pe_call GA hr rfl gA FA.kp bA .nil pass0 (pa_cons (pv 2) (pa_cons (pe_dget (hu_of hr) (pv 1) (pv 2) (fun _ _ => rfl)) pa_nil)))) (blkOk_by (N := ["grouping", "mids", "block", "part"]) (sc := relS bpScope (defScope sPBlockParts)) (by decide +kernel))
        (fun _ _ _ _ _ => pg_name (i := 3) scBP.nd rfl (.inl rfl)) (fun _ _ _ _ _ => pts_one (pt_cmp (pc_din (hu_of hr) (pv 3) (pv 1)))) (fun _ _ _ _ _ => pv 3)))))), ?_⟩)
  · obtain ⟨l, xs, bs, n, rfl, _⟩ := h
    rfl
  · obtain ⟨l, xs, bs, n, rfl, e1, lb, lz, up, good, k⟩ := h
    refine ⟨_, rfl, l, xs, bs, n, rfl, e1, lb, lz, up, good, fun m H1 s1 hm eM => ?_⟩
    have lz' : bs.length < 2 ^ 20 := by
      rw [← lb.len]
      exact lz
    refine ⟨_, rfl, l, rfl, ⟨_, SqL.of (s1 _ _ e1)⟩, fun D hD => ?_⟩
    refine dcT_it (walk_list (xs := xs)) (fun i G => Same H1 G ∧ ∃ ls : B → Addr, G D = some (.dT (dB (bs.take i) fun b => .ref (ls b))) ∧ ∀ b ∈ bs.take i, ∃ ys, G (ls b) = some (.lst ys) ∧ Lb G ys (parts bs b)) ⟨same_new hD, fun _ => 0, upd_same, fun b hb => by simp at hb⟩ (fun i G _ q => SqL.of (q.1 _ _ (s1 _ _ e1))) ?_ ?_
    · rintro i x G1 G2 hi ⟨sm, ls, eD, at_⟩ ⟨eG, hx⟩
      subst eG
      obtain ⟨b, hb, p, ep, tb⟩ := lb.get hx
      subst ep
      have mb : b ∈ bs := List.mem_of_getElem? hb
      have tp := sm _ _ (s1 _ _ tb)
      refine ⟨rfl, _, rfl, _, rfl, _, rfl, _, rfl, m, .int (midOf bs b), rfl, ?_, p, b.1, b.2, midOf bs b, rfl, tp, fun l2 t u H2 s2 eL eT eU => ?_⟩
      · have q := DGet.t (k := kB b) (sm _ _ eM) tp
        rw [dB_get mb] at q
        exact q
      refine ⟨l2, rfl, ⟨_, SqL.of eL⟩, fun L hL => ?_⟩
      have two : ∀ {j : Nat} {y : V}, ([V.ref t, V.ref u] : List V)[j]? = some y → ∃ c, ([(b.1, midOf bs b), (midOf bs b, b.2)] : List B)[j]? = some c ∧ Tb H2 y c := by
        intro j y hy
        match j, hy with
        | 0, hy =>
          cases hy
          exact ⟨_, rfl, t, rfl, eT⟩
        | 1, hy =>
          cases hy
          exact ⟨_, rfl, u, rfl, eU⟩
      refine lc_it (walk_list (xs := [.ref t, .ref u])) (fun j G' => Same H2 G' ∧ ∃ ys, G' L = some (.lst ys) ∧ ys.length ≤ j ∧ Lb H2 ys ((([(b.1, midOf bs b), (midOf bs b, b.2)] : List B).take j).filter fun c => decide (c ∈ bs))) ⟨same_new hL, [], upd_same, Nat.le_refl _, .nil⟩ (fun j G' _ q => SqL.of (q.1 _ _ eL)) ?_ ?_
      · rintro j y G3 G4 hj ⟨s3, ys, eY, lY, bY⟩ ⟨eG, hy⟩
        subst eG
        obtain ⟨c, hc, q, eq, tq⟩ := two hy
        subst eq
        have mD := s3 _ _ (s2 _ _ (sm _ _ eM))
        refine ⟨rfl, _, rfl, _, rfl, m, _, rfl, DGet.t (k := kB c) mD (s3 _ _ tq), _, rfl, ?_⟩
        have step := two_step (bs := bs) hc
        have hj2 : j < 2 := hj
        by_cases mc : c ∈ bs
        · rw [dB_get mc]
          rw [if_pos mc] at step
          refine ⟨_, rfl, ys, eY, ?_, fun a o e => ?_, ys ++ [.ref q], upd_same, ?_, ?_⟩
          · rw [sizeLine_eq]
            omega
          · rw [upd_ne (ne_of_none e hL)]
            exact s3 _ _ e
          · rw [List.length_append]
            show ys.length + 1 ≤ j + 1
            omega
          · rw [step]
            exact lb_snoc bY ⟨q, rfl, tq⟩
        · rw [dB_no mc]
          rw [if_neg mc, List.append_nil] at step
          refine ⟨s3, ys, eY, by omega, ?_⟩
          rw [step]
          exact bY
      · rintro G' ⟨s3, ys, eY, lY, bY⟩
        have sAll : Same G2 G' := s2.trans s3
        have room : (dB (bs.take i) fun b => V.ref (ls b)).length < sizeLine := by
          rw [dB_len, List.length_take, sizeLine_eq]
          omega
        have nb := notAhead up.nodup hb
        have neD : L ≠ D := ne_of_none' hL (s2 _ _ eD)
        refine ⟨_, kB b, p, rfl, sAll _ _ tp, sAll _ _ eD, room, fun a o e => ?_, fun c => if c = b then L else ls c, ?_, fun c hc => ?_⟩
        · rw [upd_ne (ne_of_none e hD)]
          exact sAll _ _ (sm _ _ e)
        · rw [upd_same, take_one hb]
          have e2 : dB (bs.take i) (fun b => V.ref (ls b)) = dB (bs.take i) (fun c => V.ref (if c = b then L else ls c)) := dB_congr fun c hc => by rw [if_neg fun z => nb (by rw [← z]; exact hc)]
          have e3 := dB_put (g := fun c => V.ref (if c = b then L else ls c)) nb
          rw [if_pos rfl] at e3
          rw [← e3, e2]
        · have lbU : ∀ {zs : List V} {cs : List B}, Lb G' zs cs → Lb (upd G' D (.dT (putK (dB (bs.take i) fun b => V.ref (ls b)) (kB b) (V.ref L)))) zs cs := by
            intro zs cs h
            induction h with
            | nil => exact .nil
            | cons a _ ih =>
              refine .cons ?_ ih
              obtain ⟨q, eq, tq⟩ := a
              refine ⟨q, eq, ?_⟩
              rw [upd_ne (ne_of tq (sAll _ _ eD) (fun z => nomatch z))]
              exact tq
          by_cases q : c = b
          · subst q
            refine ⟨ys, ?_, ?_⟩
            · dsimp only
              rw [if_pos rfl, upd_ne neD]
              exact eY
            · exact lbU (bY.same s3)
          · have hc' : c ∈ bs.take i := by
              rw [take_one hb] at hc
              rcases List.mem_append.mp hc with z | z
              · exact z
              · exact absurd (List.mem_singleton.mp z) q
            obtain ⟨zs, ez, bz⟩ := at_ c hc'
            refine ⟨zs, ?_, lbU (bz.same sAll)⟩
            dsimp only
            rw [if_neg q, upd_ne (ne_of (sAll _ _ ez) (sAll _ _ eD) (fun z => nomatch z))]
            exact sAll _ _ ez
    · rintro G ⟨sm, ls, eD, at_⟩
      rw [lb.len, List.take_length] at eD at_
      exact k D G (s1.trans sm) (s1.free hD) ⟨ls, eD, at_⟩
end
end K36
/-! A lambda with one parameter: made, and called by a built-in. -/
namespace SfLam
open PySem PySem.Spec PyProof.Rows L2 LamX
/-- a lambda's names: its parameter, and what it takes from the def around -/
structure L1 (outerS inS : Scope) (par : Str) : Prop where
  isFun : inS.kind = .function
  noCo : inS.isCoroutine = false
  noGen : inS.isGenerator = false
  here : inS.names.lookup par = some .local
  only : ∀ z ∈ inS.names, z.2 ≠ .cell ∧ (z.2 = .local → z.1 = par)
  took : ∀ z ∈ inS.names, z.2 = .free → outerS.names.lookup z.1 = some .cell ∨ outerS.names.lookup z.1 = some .free
def l1B (outerS inS : Scope) (par : Str) : Bool :=
  decide (inS.kind = .function) && (!inS.isCoroutine && (!inS.isGenerator && (decide (inS.names.lookup par = some .local) &&
    inS.names.all fun z => !decide (z.2 = .cell) && ((!decide (z.2 = .local) || decide (z.1 = par)) && (!decide (z.2 = .free) || (decide (outerS.names.lookup z.1 = some .cell) || decide (outerS.names.lookup z.1 = some .free)))))))
theorem l1_by {outerS inS : Scope} {par : Str} (h : l1B outerS inS par = true) : L1 outerS inS par := by
  unfold l1B at h
  simp only [Bool.and_eq_true, Bool.or_eq_true, Bool.not_eq_true', decide_eq_true_eq, decide_eq_false_iff_not, List.all_eq_true] at h
  obtain ⟨a, b, c, d, e⟩ := h
  refine ⟨a, b, c, d, fun z hz => ⟨(e z hz).1, fun q => ?_⟩, fun z hz q => ?_⟩
  · rcases (e z hz).2.1 with n | n
    · exact absurd q n
    · exact n
  · rcases (e z hz).2.2 with n | n
    · exact absurd q n
    · exact n
theorem L1.cells {X : Cx} {inS : Scope} {par : Str} (L : L1 X.env.scope inS par) (ok : X.Ok) : ∀ z ∈ inS.names, z.2 = .free → ∃ c, X.env.cells.lookup z.1 = some c := by
  intro z hz q
  exact (L.took z hz q).elim (fun k => ok.has _ (.inl k)) (fun k => ok.has _ (.inr k))
/-- the frame of a call of it -/
abbrev envL (X : Cx) (inS : Scope) (l f c' : Addr) : Env := lamEnv X inS l f c'
/-- the context of its body -/
def lamX (X : Cx) (A : Around) (s : Shared) (H : Hp) (inS : Scope) (f c' : Addr) : Cx where
  prog := X.prog
  w := X.w
  K := X.K
  mg := X.mg
  base := X.base
  A := A.deeper (envL X inS s.heap.objs.size f c')
  N := X.N
  s_0 := s
  H_0 := H
  env := envL X inS s.heap.objs.size f c'
  outer := X.stack
  stack := envL X inS s.heap.objs.size f c' :: X.stack
  ex := []
  fn := fun _ => false
  calm := true
  pn := []
  xe := fun _ _ => False
section
variable {X : Cx} {pins : List (Addr × Obj)} {σ : L2.St} {H : Hp} {s : Shared} {A : Around} {inS : Scope} {par : Str} {f c' : Addr} {h1 : Heap} {tk i : Nat} {v : V} {u : Value}
theorem lam_in (I : Inv X pins σ H s) (L : L1 X.env.scope inS par) (e0 : Env0 X.prog X.w X.K X.mg X.base A X.stack s H) (hh : A.handled = none) (nd : X.N.Nodup) (hi : X.N[i]? = some par) (rv : RelV v u)
    (own : h1.Ns s.heap.objs.size fun y => ([(par, u)] : List (Str × Value)).reverse.lookup y) (stays : ∀ b o, s.heap.get? b = some o → h1.get? b = some o) :
    Inv (lamX X A s H inS f c') [] (σ.set i (some v)) H { s with heap := h1, toks := tk } := by
  have cellsOk := L.cells I.ok
  have back : ∀ {y k}, (cloFrom X.env.cells inS.names []).lookup y = some k → X.env.cells.lookup y = some k := by
    intro y k e
    rcases cloFrom_mem (PySem.mem_of_lookup e) with m | ⟨m1, m2⟩
    · exact nomatch m
    · obtain ⟨k1, e1⟩ := cellsOk _ m1 rfl
      have e1 : X.env.cells.lookup y = some k1 := e1
      rw [e1, m2, e1] <;> rfl
  have gets : ∀ {y}, inS.names.lookup y = some .free → ∃ k, (cloFrom X.env.cells inS.names []).lookup y = some k := by
    intro y e
    have m : (y, NameKind.free) ∈ inS.names := PySem.mem_of_lookup e
    exact mem_lookup (cloFrom_has (cells := X.env.cells) (acc := []) m)
  have noEx : ∀ b : Addr, b ∉ (lamX X A s H inS f c').ex := by
    intro b z
    exact nomatch (show b ∈ ([] : List Addr) from z)
  have cellStays : ∀ {k : Addr} {w0 : Option Value}, s.heap.IsCell k w0 → h1.IsCell k w0 := by
    rintro k w0 ⟨ob, g1, g2⟩
    exact ⟨ob, stays _ _ g1, g2⟩
  refine ⟨⟨e0.mod, L.isFun, rfl, rfl, Nat.le_refl _, ?inj, ?has, ?cab, fun _ => hh, Around.frames_deeper e0.frames, .inr ⟨rfl, rfl⟩, ?exf, e0.bs, e0.bsz, fun b _ _ => noEx b, fun b z => absurd z (noEx b), e0.funs, e0.frf⟩,
    rfl, e0.bare, Un.kept stays, ⟨_, own, ?loc⟩, ?cell, e0.hok.fresh (Nat.le_refl _), ?freeC, ?pin, e0.hok.kept stays, ?len⟩
  case inj => exact fun y z k a b => I.ok.inj y z k (back a) (back b)
  case has =>
    intro y hy
    have hy : inS.names.lookup y = some .cell ∨ inS.names.lookup y = some .free := hy
    rcases hy with q | q
    · exact absurd rfl (L.only _ (PySem.mem_of_lookup q)).1
    · exact gets q
  case cab =>
    intro y k z _
    exact absurd (show false = true from z) (by decide)
  case exf => exact fun b z => absurd z (noEx b)
  case loc =>
    intro j y w0 en ev vis
    have vis : Vis inS y := vis
    rcases vis with q | q | q
    · have ey : y = par := (L.only _ (PySem.mem_of_lookup q)).2 rfl
      subst ey
      have ej : j = i := by
        have l1 := (List.getElem?_eq_some_iff.mp en).1
        have l2 := (List.getElem?_eq_some_iff.mp hi).1
        have g1 := (List.getElem?_eq_some_iff.mp en).2
        have g2 := (List.getElem?_eq_some_iff.mp hi).2
        exact (List.getElem_inj nd).mp (g1.trans g2.symm)
      subst ej
      have lz : j < σ.length := by
        rw [I.len]
        exact (List.getElem?_eq_some_iff.mp hi).1
      rw [List.getElem?_set_self lz] at ev
      cases ev
      refine ⟨u, rv, .inl ⟨q, ?_⟩⟩
      show ([(y, u)] : List (Str × Value)).reverse.lookup y = some u
      simp [List.lookup]
    · exact absurd rfl (L.only _ (PySem.mem_of_lookup q)).1
    · have nj : i ≠ j := by
        intro z
        subst z
        have z1 : (some par : Option Str) = some y := hi.symm.trans en
        cases z1
        have z2 := L.here.symm.trans q
        cases z2
      rw [List.getElem?_set_ne nj] at ev
      obtain ⟨m0, n0, at0⟩ := I.loc
      have took := L.took _ (PySem.mem_of_lookup q) rfl
      obtain ⟨w1, r1, where1⟩ := at0 j y w0 en ev (took.elim (fun k => .inr (.inl k)) fun k => .inr (.inr k))
      obtain ⟨k2, got⟩ := gets q
      have out := back got
      refine ⟨w1, r1, .inr ⟨.inr q, k2, got, ?_⟩⟩
      rcases where1 with ⟨loc1, _⟩ | ⟨_, k3, has3, cell3⟩
      · have loc1 : X.env.scope.names.lookup y = some .local := loc1
        rcases took with t | t
        · have t : X.env.scope.names.lookup y = some .cell := t
          rw [t] at loc1
          cases loc1
        · have t : X.env.scope.names.lookup y = some .free := t
          rw [t] at loc1
          cases loc1
      · rw [out] at has3
        cases has3
        exact cellStays cell3
  case cell =>
    intro y k e
    obtain ⟨w0, z⟩ := I.cell y k (back e)
    exact ⟨w0, cellStays z⟩
  case freeC => exact fun y k e => I.freeC y k (back e)
  case pin => exact fun q hq => nomatch (show q ∈ ([] : List (Addr × Obj)) ++ [] from hq)
  case len =>
    rw [List.length_set]
    exact I.len
/-- f(u), f such a lambda, called from within a built-in of the def that made it -/
theorem lam_call {params : Arguments} {body : Expr} {k : Nat} {tb : TE} {pm ctv : Value} {Q : VK} (I : Inv X pins σ H s) (L : L1 X.env.scope inS par)
    (hf : s.heap.get? f = some (PySem.W.kla_obj "<lambda>" (X.env.qual ++ "<lambda>") params body inS (cloFrom X.env.cells inS.names []) pm c' ctv))
    (hb : ∀ (q : Str) (cl : List (Str × Addr)) (pm cv ctv u : Value), bindArgs (PySem.W.kla_fn "<lambda>" q params body inS cl pm cv ctv) ⟨[u], []⟩ = pure [(par, u)])
    (hc : H c' = some (CodeO c' (X.env.qual ++ "<lambda>"))) (hr : Room (k + 1) A) (e0 : Env0 X.prog X.w X.K X.mg X.base A X.stack s H) (nd : X.N.Nodup) (hi : X.N[i]? = some par) (rv : RelV v u)
    (hbody : ∀ (A : Around) (s : Shared) (H : Hp) (f c' : Addr), Room k (A.deeper (envL X inS s.heap.objs.size f c')) → PE (lamX X A s H inS f c') body tb) (ht : tb (σ.set i (some v)) H Q) :
    wpAny (model X.prog X.w) A (call (.ref f) [u]) (CE X.stack X.prog X.w H s Q) (fun _ _ => False) s := by
  obtain ⟨⟨oc, ws, t, g1, g2, g3⟩, _, _⟩ := I.hok c' _ hc
  have go : codeAny (model X.prog X.w) A (.call (.ref f) ⟨[u], []⟩) (CR C8.CX0 X.stack X.prog X.w H s Q C8.E0) s := by
    refine PySem.W.kla_callFunE hr.depth hf rfl L.noCo L.noGen rfl ⟨c', oc, ws, t, rfl, g1, g2, g3⟩ ?_
    rw [hb]
    refine wpAny_pure (wpAny_newFunctionEnv (fun y hy => (L.only y hy).1) (fun y hy => ?_) (fun h1 own sb => ⟨I.nolimit.fresh _ sb, ?_⟩) L.isFun)
    · rw [List.mem_singleton] at hy
      subst hy
      exact L.here
    · show codeAny _ _ (.expr body (envL X inS s.heap.objs.size f c')) _ _
      have stays : ∀ b o, s.heap.get? b = some o → h1.get? b = some o := fun b o e => sb.extBut b o (Nat.ne_of_lt (Heap.lt_size e)) (Heap.get?_push_of_some _ e)
      have J : Inv (lamX X A s H inS f c') [] (σ.set i (some v)) H { s with heap := h1, toks := s.toks + ([(par, u)] : List (Str × Value)).length } := lam_in I L e0 hr.hd nd hi rv own stays
      refine PySem.W.kla_codeExpr (wpAny_mono ((hbody _ s H f c' (hr.deeper _)).run [] _ _ H Q J ht) (fun x s' hq => ?_) fun e s' hq => False.elim hq)
      obtain ⟨y, H', J', ry, q⟩ := hq
      exact ⟨y, H', J'.os, J'.bare, J'.base, J'.hok, ry, q⟩
  refine wpAny_call (codeAny_mono go fun r s' hq => ?_)
  cases r with
  | error e => exact False.elim hq
  | ok fl =>
    cases fl with
    | ret x => exact hq
    | next => exact False.elim hq
    | brk => exact False.elim hq
    | cont => exact False.elim hq
end
end SfLam
/-! A list sorted by keys that a def of the program makes. -/
namespace SfKey
open PySem PySem.Spec PyProof.Rows L2
section
variable {prog : Program} {w : World} {A : Around} {E : Value → Shared → Prop} {s : Shared}
/-- what is left of a sort by keys, behind the sort itself -/
theorem keyed_tail {a kS : Addr} {ks : Array Value} {e0 e1 : Nat} {st : SortSt} {R : PySem.Fin → Shared → Prop} (ne : kS ≠ a) (gk : s.heap.get? kS = some (seqObj "list" ks e0)) (ga : s.heap.get? a = some (seqObj "list" #[] e1))
    (kz : ks.size ≤ sizeLine) (oz : (arrOf st).size ≤ sizeLine) (ok : failedOf st = none)
    (h : ∀ h' : Heap, (∀ b o, b ≠ a → b ≠ kS → s.heap.get? b = some o → h'.get? b = some o) → (∃ n, h'.get? a = some (seqObj "list" ((arrOf st).map (·.2)) n)) → (∃ o, h'.get? kS = some o) → h'.objs.size = s.heap.objs.size →
      R (.done (.ret .none)) { s with heap := h' }) : wpAny (model prog w) A (ksk_tail a false e1 (.ref kS) st) R E s := by
  obtain ⟨m1, gk1⟩ : ∃ n, (s.heap.update kS (Obj.mapSeq fun _ => (#[] : Array Value))).get? kS = some (seqObj "list" #[] n) := ⟨_, get?_update_seq gk fun _ => #[]⟩
  have ga1 : (s.heap.update kS (Obj.mapSeq fun _ => (#[] : Array Value))).get? a = some (seqObj "list" #[] e1) := (Heap.get?_update_ne _ _ _ _ ne.symm).trans ga
  obtain ⟨m2, ga2⟩ : ∃ n, ((s.heap.update kS (Obj.mapSeq fun _ => (#[] : Array Value))).update a (Obj.mapSeq fun _ => (arrOf st).map (·.2))).get? a = some (seqObj "list" ((arrOf st).map (·.2)) n) := ⟨_, get?_update_seq ga1 fun _ => (arrOf st).map (·.2)⟩
  unfold ksk_tail
  try dsimp only
  refine wpAny_bind (listUpdate_at gk rfl ?_ (Nat.le_trans kz (Nat.le_refl _)) (Nat.zero_le _))
  refine wpAny_bind (wpAny_letGo (wpAny_bind (seqEpoch_at ga1 rfl ?_)))
  have oz' : ((arrOf st).map (·.2)).size ≤ sizeLine + 1 := by
    rw [Array.size_map]
    omega
  simp only [Bool.false_eq_true, if_false]
  refine wpAny_bind (listUpdate_at ga1 rfl ?_ (Nat.zero_le _) oz')
  rw [ok]
  simp only [bne_self_eq_false, Bool.false_eq_true, if_false]
  refine wpAny_pure (h _ (fun b o n1 n2 e => ?_) ⟨m2, ga2⟩ ⟨_, (Heap.get?_update_ne _ _ _ _ ne).trans gk1⟩ ?_)
  · exact (Heap.get?_update_ne _ _ _ _ n1).trans ((Heap.get?_update_ne _ _ _ _ n2).trans e)
  · rw [Heap.size_update, Heap.size_update]
theorem keyed_end {a kS : Addr} {vs ks : List Value} {e0 e1 : Nat} {lt : Value → Value → Bool} {R : PySem.Fin → Shared → Prop} (O : SrtO.Swo lt) (ne : kS ≠ a) (gk : s.heap.get? kS = some (seqObj "list" ks.toArray e0))
    (ga : s.heap.get? a = some (seqObj "list" #[] e1)) (hl : ks.length = vs.length) (hz : vs.length ≤ sizeLine)
    (hS : 2 ≤ ks.length → ∃ κ, (∀ (Q : SortKind → Shared → Prop) (E : Value → Shared → Prop), Q κ s → wpAny (model prog w) A (keyKind' ks.toArray) Q E s) ∧ SrtO.Cmp prog w A s κ (fun p => p.1 ∈ ks) (SrtO.lt2 lt))
    (h : ∀ (out : List Keyed) (h' : Heap), SrtO.Srtd (SrtO.lt2 lt) out → SrtO.Stb (SrtO.lt2 lt) out (ks.zip vs) → (∀ b o, b ≠ a → b ≠ kS → s.heap.get? b = some o → h'.get? b = some o) →
      (∃ n, h'.get? a = some (seqObj "list" (out.map (·.2)).toArray n)) → (∃ o, h'.get? kS = some o) → h'.objs.size = s.heap.objs.size → R (.done (.ret .none)) { s with heap := h' }) :
    wpAny (model prog w) A (ksk_end a false vs.toArray e1 (.ref kS) ks.toArray) R E s := by
  have zs : (ks.toArray.zip vs.toArray).toList = ks.zip vs := by
    rw [← ksk_zip ks.toArray vs]
  have zl : (ks.toArray.zip vs.toArray).size = ks.length := by
    rw [Array.size_zip, List.size_toArray, List.size_toArray, hl, Nat.min_self]
  have fin : ∀ st : SortSt, SrtO.Srtd (SrtO.lt2 lt) (arrOf st).toList → SrtO.Stb (SrtO.lt2 lt) (arrOf st).toList (ks.toArray.zip vs.toArray).toList → failedOf st = none →
      wpAny (model prog w) A (ksk_tail a false e1 (.ref kS) st) R E s := by
    intro st s1 s2 s3
    rw [zs] at s2
    have len : (arrOf st).size = ks.length := by
      have q := s2.len
      rw [Array.length_toList, List.length_zip, hl, Nat.min_self] at q
      omega
    refine keyed_tail ne gk ga (by rw [List.size_toArray]; omega) (by omega) s3 fun h' k1 k2 k3 k4 => h _ h' s1 s2 k1 ?_ k3 k4
    obtain ⟨n, e⟩ := k2
    refine ⟨n, ?_⟩
    rw [e]
    congr 1
    congr 1
    rw [← Array.toList_inj]
    simp
  unfold ksk_end
  try dsimp only
  simp only [Bool.false_eq_true, if_false]
  by_cases h2 : vs.toArray.size < 2
  · rw [if_pos h2, if_pos h2]
    refine wpAny_bind (wpAny_pure ?_)
    rw [StateT.run_pure]
    refine wpAny_bind (wpAny_pure ?_)
    refine fin (SortSt.mk' general' (ks.toArray.zip vs.toArray) #[] 7 none) ?_ (SrtO.Stb.refl _) rfl
    show SrtO.Srtd (SrtO.lt2 lt) (ks.toArray.zip vs.toArray).toList
    rw [List.size_toArray] at h2
    have few : (ks.toArray.zip vs.toArray).toList.length < 2 := by
      rw [Array.length_toList, zl]
      omega
    generalize (ks.toArray.zip vs.toArray).toList = l at few
    match l, few with
    | [], _ => exact List.Pairwise.nil
    | [x], _ => exact List.Pairwise.cons (fun _ m => nomatch m) .nil
  · rw [if_neg h2, if_neg h2]
    rw [List.size_toArray] at h2
    obtain ⟨κ, kind, cmp⟩ := hS (by omega)
    refine wpAny_bind (kind _ _ ?_)
    have all : SrtO.AllL (fun p : Keyed => p.1 ∈ ks) (ks.toArray.zip vs.toArray).toList := fun p m => by
      rw [zs] at m
      exact (List.of_mem_zip (a := p.1) (b := p.2) m).1
    refine wpAny_bind (wpAny_mono (SrtO.wpS_sortO (st0 := SortSt.mk' κ (ks.toArray.zip vs.toArray) #[] 7 none)
      (Q := fun _ st => SrtO.Srtd (SrtO.lt2 lt) (arrOf st).toList ∧ SrtO.Stb (SrtO.lt2 lt) (arrOf st).toList (ks.toArray.zip vs.toArray).toList ∧ failedOf st = none) (SrtO.swo2 O) cmp rfl all rfl rfl fun st x y z => ⟨x, y, z⟩) ?_ fun _ _ e => e)
    rintro ⟨⟨⟩, st⟩ s' ⟨rfl, x, y, z⟩
    exact fin st x y z
end
end SfKey
namespace SfKey
open PySem PySem.Spec PyProof.Rows L2
section
variable {X : Cx} {pins : List (Addr × Obj)} {σ : L2.St} {H H' : Hp} {s : Shared}
theorem fp_to {b : Addr} (f : FpOk X pins H b) (n : H' b = none) : FpOk X pins H' b := ⟨n, f.2⟩
theorem not_frame (I : Inv X pins σ H s) {b : Addr} (f : FpOk X pins H b) : b ∉ frs X.stack := by
  intro m
  rcases List.mem_cons.mp (I.stkSub b m) with z | z
  · exact f.2.1 z
  · exact f.2.2.1 z
/-- an object of ours that was not told of is told of from now on, others of ours have turned -/
theorem inv_tell {ch : List Addr} {b : Addr} {o : HO} {h' : Heap} {tk : Nat} (I : Inv X pins σ H s) (hb : b ∈ ch) (hf : ∀ c ∈ ch, FpOk X pins H c) (k : ∀ c u, c ∉ ch → s.heap.get? c = some u → h'.get? c = some u) (there : ∀ c ∈ ch, ∃ u, h'.get? c = some u)
    (new : ObjOk X.prog X.w (upd H b o) h' b o) : Inv X pins σ (upd H b o) { s with heap := h', toks := tk } := by
  have hn : H b = none := (hf b hb).1
  have off : ∀ c u, H c = some u → c ∉ ch := fun c u e z => by
    rw [(hf c z).1] at e
    cases e
  have same : ∀ c u, H c = some u → upd H b o c = some u := fun c u e => (upd_ne (ne_of_none e hn)).trans e
  refine I.step (g' := s.gens) (d' := s.drawn) (ch := ch) (fun c hc => ?a1) (fun c u _ _ hc e _ => k c u hc e) (fun c u _ _ hc e _ => ⟨u.slots, k c u hc e⟩) (fun c u hc e n => ?a2) (fun c u hc e => ⟨u, k c u hc e⟩)
    (fun c xs e => same c _ e) (fun c ob u e => same c _ e) (fun c ps e => ⟨#[], by rw [same c _ e]; simp⟩) (fun m hm => ?a3) (fun c u e => ?a4) I.bare
  case a1 => exact ⟨(hf c hc).2.2.2.1, (hf c hc).2.1, (hf c hc).2.2.2.2.1, (hf c hc).2.2.2.2.2⟩
  case a2 =>
    have ne : c ≠ b := fun z => hc (by rw [z]; exact hb)
    rw [upd_ne ne]
    exact n
  case a3 =>
    obtain ⟨ob, es, ep, g, r⟩ := hm
    exact ⟨ob, es, ep, k _ ob (fun z => (hf _ z).2.1 rfl) g, r⟩
  case a4 =>
    by_cases q : c = b
    · subst q
      rw [upd_same] at e
      cases e
      exact new
    · rw [upd_ne q] at e
      refine (I.hok c u e).stay (fun d v hd g => k d v ?_ g) (fun d g => same d _ g) fun d xs g => same d _ g
      rcases hd with z | z
      · rw [z]
        exact off c u e
      · exact off d _ z
/-- the calls of the key -/
theorem keyed_rest {f a kS : Addr} {fo : Obj} {xs : List V} {vs : List Value} {e1 : Nat} {A : Around} {κ : V → List V} {P : Hp → Prop} {lt : Hp → Value → Value → Bool} {R : PySem.Fin → Shared → Prop} {E : Value → Shared → Prop} (O : ∀ G, SrtO.Swo (lt G)) (I : Inv X pins σ H s) (p0 : P H)
    (fa : FpOk X pins H a) (fk : FpOk X pins H kS) (fn : H f = none) (ffr : f ∉ frs X.stack) (ne : kS ≠ a) (nf : f ≠ kS)
    (ga : s.heap.get? a = some (seqObj "list" #[] e1)) (gk : s.heap.get? kS = some (seqObj "list" #[] 0)) (gf : s.heap.get? f = some fo) (rv : Vals xs vs) (hz : vs.length ≤ sizeLine)
    (turn : ∀ (x : V) (u : Value) (H' : Hp) (s' : Shared), x ∈ xs → RelV x u → P H' → Inv X pins σ H' s' → s'.heap.get? f = some fo →
      wpAny (model X.prog X.w) A (call (.ref f) [u]) (CE X.stack X.prog X.w H' s' fun v H'' => P H'' ∧ ∃ t, v = .ref t ∧ H'' t = some (.tup (κ x))) (fun _ _ => False) s')
    (sorts : ∀ (ts : List Addr) (H' : Hp) (s' : Shared), Inv X pins σ H' s' → P H' → ts.length = xs.length → (∀ (j : Nat) (x : V), xs[j]? = some x → ∃ t, ts[j]? = some t ∧ H' t = some (.tup (κ x))) → 2 ≤ ts.length →
      ∃ k, (∀ (Q : SortKind → Shared → Prop) (E : Value → Shared → Prop), Q k s' → wpAny (model X.prog X.w) A (keyKind' (ts.map Value.ref).toArray) Q E s') ∧ SrtO.Cmp X.prog X.w A s' k (fun p => p.1 ∈ ts.map Value.ref) (SrtO.lt2 (lt H')))
    (fin : ∀ (ts : List Addr) (H' : Hp) (s' : Shared) (out : List Keyed) (h' : Heap), Inv X pins σ H' s' → P H' → ts.length = xs.length → (∀ (j : Nat) (x : V), xs[j]? = some x → ∃ t, ts[j]? = some t ∧ H' t = some (.tup (κ x))) → H' a = none → H' kS = none →
      SrtO.Srtd (SrtO.lt2 (lt H')) out → SrtO.Stb (SrtO.lt2 (lt H')) out ((ts.map Value.ref).zip vs) → (∀ b o, b ≠ a → b ≠ kS → s'.heap.get? b = some o → h'.get? b = some o) →
      (∃ n, h'.get? a = some (seqObj "list" (out.map (·.2)).toArray n)) → (∃ o, h'.get? kS = some o) → h'.objs.size = s'.heap.objs.size → R (.done (.ret .none)) { s' with heap := h' }) :
    wpAny (model X.prog X.w) A (ksk_rest a (.ref f) false vs.toArray e1 (.ref kS)) R E s := by
  unfold ksk_rest
  refine wpAny_bind (wpAny_rule ?_)
  first
    | rw [List.forIn_toArray]
    | (rw [← Array.forIn_toList]; simp only [List.toList_toArray])
  have lz : xs.length = vs.length := rv.length
  refine wpAny_bind (ksk_fold (fun i s' => ∃ (H' : Hp) (ts : List Addr) (e : Nat), Inv X pins σ H' s' ∧ P H' ∧ H' a = none ∧ H' kS = none ∧ H' f = none ∧ s'.heap.get? a = some (seqObj "list" #[] e1) ∧ s'.heap.get? kS = some (seqObj "list" (ts.map Value.ref).toArray e) ∧
      s'.heap.get? f = some fo ∧ ts.length = i ∧ ∀ (j : Nat) (x : V), j < i → xs[j]? = some x → ∃ t, ts[j]? = some t ∧ H' t = some (.tup (κ x))) vs 0 s
    ⟨H, [], 0, I, p0, fa.1, fk.1, fn, ga, gk, gf, rfl, fun _ _ z => absurd z (Nat.not_lt_zero _)⟩ ?st ?dn)
  case st =>
    rintro j u s1 hu ⟨H1, ts, e, I1, p1, na, nk, nf1, ga1, gk1, gf1, tl, ks⟩
    simp only [Nat.zero_add] at tl ks ⊢
    have hj : j < vs.length := (List.getElem?_eq_some_iff.mp hu).1
    obtain ⟨x, hx⟩ : ∃ x, xs[j]? = some x := ⟨_, List.getElem?_eq_getElem (by omega)⟩
    obtain ⟨u', hu', ru⟩ := rv.get hx
    rw [hu] at hu'
    cases hu'
    refine wpAny_bind (wpAny_attempt (wpAny_mono (turn x u H1 s1 (List.mem_of_getElem? hx) ru p1 I1 gf1) (fun v s2 hv => ?_) fun _ _ q => q.elim))
    obtain ⟨y, H2, os, bare, un, hok, ry, p2, t, ey, ht⟩ := hv
    subst ey
    obtain rfl : v = Value.ref t := ry
    have I2 : Inv X pins σ H2 s2 := I1.call' (ch := []) os un hok bare fun b hb => nomatch hb
    have keepsU : ∀ b o, H1 b = none → b ∉ frs X.stack → s1.heap.get? b = some o → s2.heap.get? b = some o ∧ H2 b = none := fun b o nb fb g =>
      ⟨un.keep b o g nb fb (by simp), un.free b o g nb (by simp)⟩
    have a2 := keepsU a _ na (not_frame I1 (fp_to fa na)) ga1
    have k2 := keepsU kS _ nk (not_frame I1 (fp_to fk nk)) gk1
    have f2 := keepsU f _ nf1 ffr gf1
    try dsimp only
    obtain ⟨e2, gk3⟩ : ∃ n, (s2.heap.update kS (Obj.mapSeq (·.push (.ref t)))).get? kS = some (seqObj "list" ((ts.map Value.ref).toArray.push (.ref t)) n) := ⟨_, get?_update_seq k2.1 (·.push (.ref t))⟩
    have ls : (ts.map Value.ref).toArray.size ≤ vs.length := by
      rw [List.size_toArray, List.length_map]
      omega
    refine wpAny_bind (listUpdate_at k2.1 rfl ?_ (by omega) ?_)
    · have pushed : (ts.map Value.ref).toArray.push (.ref t) = ((ts ++ [t]).map Value.ref).toArray := by simp
      have off : ∀ b o, b ∉ ([kS] : List Addr) → s2.heap.get? b = some o → (s2.heap.update kS (Obj.mapSeq (·.push (.ref t)))).get? b = some o := fun b o nb g =>
        (Heap.get?_update_ne _ _ _ _ fun z => nb (by simp [z])).trans g
      have I3 : Inv X pins σ H2 { s2 with heap := s2.heap.update kS (Obj.mapSeq (·.push (.ref t))), toks := s2.toks } := I2.turnedL off fun b hb => by
        rw [List.mem_singleton] at hb
        subst hb
        exact fp_to fk k2.2
      refine wpAny_pure ⟨rfl, H2, ts ++ [t], e2, I3, p2, a2.2, k2.2, f2.2, off a _ (by simp [ne.symm]) a2.1, ?_, off f _ (by simp [nf]) f2.1, by rw [List.length_append, tl]; rfl, fun i z hi hz' => ?_⟩
      · rw [← pushed]
        exact gk3
      · by_cases q : i < j
        · obtain ⟨t', b1, b2⟩ := ks i z q hz'
          refine ⟨t', ?_, un.tups _ _ b2⟩
          rw [List.getElem?_append_left (by omega)]
          exact b1
        · have ei : i = j := by omega
          subst ei
          rw [hx] at hz'
          cases hz'
          refine ⟨t, ?_, ht⟩
          rw [← tl, List.getElem?_append_right (Nat.le_refl _), Nat.sub_self]
          rfl
    · show ((ts.map Value.ref).toArray.push (.ref t)).size ≤ _
      rw [Array.size_push]
      omega
  case dn =>
    rintro s1 ⟨H1, ts, e, I1, p1, na, nk, nf1, ga1, gk1, gf1, tl, ks⟩
    simp only [Nat.zero_add] at tl ks
    try dsimp only
    refine wpAny_bind (listItems_at gk1 rfl ?_)
    have tl' : ts.length = xs.length := by omega
    have facts : ∀ (j : Nat) (x : V), xs[j]? = some x → ∃ t, ts[j]? = some t ∧ H1 t = some (.tup (κ x)) := fun j x hx =>
      ks j x (by rw [← lz]; exact (List.getElem?_eq_some_iff.mp hx).1) hx
    refine keyed_end (O H1) ne gk1 ga1 (by rw [List.length_map]; omega) hz (fun h2 => sorts ts H1 s1 I1 p1 tl' facts (by rw [List.length_map] at h2; exact h2)) fun out h' z1 z2 z3 z4 z5 z6 => fin ts H1 s1 out h' I1 p1 tl' facts na nk z1 z2 z3 z4 z5 z6
end
end SfKey
namespace SfKey
open PySem PySem.Spec PyProof.Rows L2
/-- what a tuple holds -/
def tupOf (H : Hp) : Value → List V
  | .ref t => match H t with | some (.tup l) => l | _ => []
  | _ => []
theorem tupOf_at {H : Hp} {t : Addr} {l : List V} (h : H t = some (.tup l)) : tupOf H (.ref t) = l := by
  show (match H t with | some (.tup l) => l | _ => []) = l
  rw [h]
section
variable {X : Cx} {pins : List (Addr × Obj)} {σ : L2.St} {H : Hp} {s : Shared}
theorem at_zip {ts : List Addr} {vs : List Value} {p : Keyed} (h : p ∈ (ts.map Value.ref).zip vs) : ∃ (j : Nat) (t : Addr) (v : Value), ts[j]? = some t ∧ vs[j]? = some v ∧ p = (.ref t, v) := by
  obtain ⟨j, hj⟩ := List.mem_iff_getElem?.mp h
  rw [List.getElem?_zip_eq_some] at hj
  obtain ⟨a, b⟩ := hj
  rw [List.getElem?_map] at a
  cases e : ts[j]? with
  | none =>
    rw [e] at a
    cases a
  | some t =>
    rw [e] at a
    exact ⟨j, t, p.2, e, b, Prod.ext (Option.some.inj a).symm rfl⟩
/-- sorted(l, key=f): f is called with each item, and gives new tuples -/
theorem keyed_sorted {f l : Addr} {fo : Obj} {xs : List V} {κ : V → List V} {P : Hp → Prop} {lk : Hp → List V → List V → Bool} {Q : VK} {E : Value → Shared → Prop} (O : ∀ G, SrtO.Swo (lk G)) (I : Inv X pins σ H s) (p0 : P H) (fn : H f = none) (ffr : f ∉ frs X.stack)
    (gf : s.heap.get? f = some fo) (hs : SqL X.K H l xs) (hx : ∀ x ∈ xs, ∃ t, x = V.ref t)
    (turn : ∀ (x : V) (u : Value) (H' : Hp) (s' : Shared), x ∈ xs → RelV x u → P H' → Inv X pins σ H' s' → s'.heap.get? f = some fo →
      wpAny (model X.prog X.w) X.A.in1.in1 (call (.ref f) [u]) (CE X.stack X.prog X.w H' s' fun v H'' => P H'' ∧ ∃ t, v = .ref t ∧ H'' t = some (.tup (κ x))) (fun _ _ => False) s')
    (sorts : ∀ (ts : List Addr) (H' : Hp) (s' : Shared), Inv X pins σ H' s' → P H' → (∀ t ∈ ts, ∃ x ∈ xs, H' t = some (.tup (κ x))) → 2 ≤ ts.length →
      ∃ k, (∀ (Q : SortKind → Shared → Prop) (E : Value → Shared → Prop), Q k s' → wpAny (model X.prog X.w) X.A.in1.in1 (keyKind' (ts.map Value.ref).toArray) Q E s') ∧ SrtO.Cmp X.prog X.w X.A.in1.in1 s' k (fun p => p.1 ∈ ts.map Value.ref) (SrtO.lt2 fun u v => lk H' (tupOf H' u) (tupOf H' v)))
    (q : ∀ (ys : List V) (p : Addr) (H' : Hp), P H' → ys.Perm xs → ys.Pairwise (fun x y => lk H' (κ y) (κ x) = false) → H' p = none → Q (.ref p) (upd H' p (.lst ys))) :
    wpAny (model X.prog X.w) X.A (call (.builtin "sorted") [.ref l] [(Str.ofString "key", .ref f)]) (EP X pins σ Q) E s := by
  obtain ⟨vs, rv, pl, lz⟩ := I.list hs
  have vz : vs.length ≤ sizeLine := by
    rw [← rv.length]
    exact lz
  refine call_function_entry_kw kind_sorted plain_sorted entry_sorted (ksk_s1 _ _) ?_
  unfold Builtin.«sorted»
  refine wpAny_bind (m := checkCount "sorted" 1 1 _) (wpAny_pure ?_)
  refine wpAny_bind (collect_list pl.isList ?_ vz)
  refine wpAny_bind (wpAny_newList ?_ vz)
  generalize hg1 : (s.heap.push (seqObj "list" #[] 0)).update s.heap.objs.size (Obj.mapSeq (· ++ vs.toArray)) = g1
  have z1 : g1.objs.size = s.heap.objs.size + 1 := by
    rw [← hg1, Heap.size_update, size_push']
  have old1 : ∀ b o, s.heap.get? b = some o → g1.get? b = some o := fun b o e => by
    rw [← hg1]
    exact (Heap.get?_update_ne _ _ _ _ (Nat.ne_of_lt (Heap.lt_size e))).trans (Heap.get?_push_of_some _ e)
  have old2 : ∀ b o, g1.get? b = some o → (g1.push (seqObj "list" vs.toArray 0)).get? b = some o := fun b o e => Heap.get?_push_of_some _ e
  have atA : (g1.push (seqObj "list" vs.toArray 0)).get? g1.objs.size = some (seqObj "list" vs.toArray 0) := Heap.get?_push_size _ rfl
  show wpAny _ _ _ _ _ { s with heap := g1.push (seqObj "list" vs.toArray 0) }
  generalize ha : g1.objs.size = a at atA
  refine wpAny_bind (wpAny_holding (wpAny_call_entry_kw slot_list_sort ⟨_, atA, rfl⟩ entry_list_sort ?_ (ksk_l1 _ _)))
  rw [ksk_t1]
  unfold ksk_tree
  refine wpAny_bind (listItems_at atA rfl ?_)
  refine wpAny_bind (listUpdate_at atA rfl ?_ (by rw [List.size_toArray]; exact vz) (Nat.zero_le _))
  obtain ⟨e1, atA1⟩ : ∃ n, ((g1.push (seqObj "list" vs.toArray 0)).update a (Obj.mapSeq fun _ => (#[] : Array Value))).get? a = some (seqObj "list" #[] n) := ⟨_, get?_update_seq atA fun _ => #[]⟩
  refine wpAny_bind (seqEpoch_at atA1 rfl ?_)
  refine wpAny_bind (wpAny_newTuple ?_ (by show vs.length ≤ _; exact vz))
  refine wpAny_bind (wpAny_newList ?_ (Nat.zero_le _))
  refine wpAny_holding ?_
  generalize hg2 : (g1.push (seqObj "list" vs.toArray 0)).update a (Obj.mapSeq fun _ => (#[] : Array Value)) = g2 at atA1
  have z2 : g2.objs.size = a + 1 := by
    rw [← hg2, Heap.size_update, size_push', ha]
  have za : a = s.heap.objs.size + 1 := by rw [← ha, z1]
  have below : ∀ b o, s.heap.get? b = some o → b < a := fun b o e => by
    rw [za]
    exact Nat.lt_succ_of_lt (Heap.lt_size e)
  have le1 : s.heap.objs.size ≤ a := by
    rw [za]
    exact Nat.le_succ _
  have le2 : s.heap.objs.size ≤ a + 2 := Nat.le_trans le1 (Nat.le_add_right _ _)
  have zk : ((g2.push (seqObj "tuple" vs.toArray 0)).objs.size) = a + 2 := by
    rw [size_push', z2]
  have old3 : ∀ b o, b ≠ a → (g1.push (seqObj "list" vs.toArray 0)).get? b = some o → g2.get? b = some o := fun b o n e => by
    rw [← hg2]
    exact (Heap.get?_update_ne _ _ _ _ n).trans e
  have atK : ((g2.push (seqObj "tuple" vs.toArray 0)).push (seqObj "list" #[] 0)).get? (a + 2) = some (seqObj "list" #[] 0) := by
    rw [← zk]
    exact Heap.get?_push_size _ rfl
  have atA2 : ((g2.push (seqObj "tuple" vs.toArray 0)).push (seqObj "list" #[] 0)).get? a = some (seqObj "list" #[] e1) := Heap.get?_push_of_some _ (Heap.get?_push_of_some _ atA1)
  have all : ∀ b o, s.heap.get? b = some o → ((g2.push (seqObj "tuple" vs.toArray 0)).push (seqObj "list" #[] 0)).get? b = some o := fun b o e =>
    Heap.get?_push_of_some _ (Heap.get?_push_of_some _ (old3 b o (Nat.ne_of_lt (below b o e)) (old2 b o (old1 b o e))))
  show wpAny _ _ (ksk_rest a (.ref f) false vs.toArray e1 (.ref ((g2.push (seqObj "tuple" vs.toArray 0)).objs.size))) _ _ { s with heap := (g2.push (seqObj "tuple" vs.toArray 0)).push (seqObj "list" #[] 0) }
  rw [zk]
  have fA : FpOk X pins H a := I.fpOk le1 (I.hok.fresh le1)
  have fK : FpOk X pins H (a + 2) := I.fpOk le2 (I.hok.fresh le2)
  have nfk : f ≠ a + 2 := Nat.ne_of_lt (Nat.lt_of_lt_of_le (below f fo gf) (Nat.le_add_right _ _))
  refine keyed_rest (κ := κ) (P := P) (lt := fun G u v => lk G (tupOf G u) (tupOf G v)) (fun G => ⟨fun x y h => (O G).asym _ _ h, fun x y z h1 h2 => (O G).tr _ _ _ h1 h2⟩) (I.kept (t' := s.toks) all) p0 fA fK fn ffr (Nat.ne_of_gt (Nat.lt_add_of_pos_right (by decide))) nfk atA2 atK (all _ _ gf) rv vz turn (fun ts G s' I' p' tl facts h2 => ?_) fun ts G s' out h' I' p' tl facts na nk so sb k1 k2 k3 k4 => ?_
  · refine sorts ts G s' I' p' (fun t m => ?_) h2
    obtain ⟨j, hj⟩ := List.mem_iff_getElem?.mp m
    have lj : j < xs.length := by
      rw [← tl]
      exact (List.getElem?_eq_some_iff.mp hj).1
    obtain ⟨t', b1, b2⟩ := facts j xs[j] (List.getElem?_eq_getElem lj)
    rw [hj] at b1
    cases b1
    exact ⟨_, List.getElem_mem lj, b2⟩
  · refine ⟨_, rfl, ?_⟩
    refine wpAny_pure ⟨_, rfl, ?_⟩
    obtain ⟨n, ea⟩ := k2
    obtain ⟨r1, r2⟩ := refs_back rv hx
    have perm : (out.map (·.2)).Perm vs := by
      have p1 := sb.perm.map (·.2)
      have e2 : ((ts.map Value.ref).zip vs).map (·.2) = vs := by
        rw [List.map_snd_zip]
        rw [List.length_map, tl, rv.length]
        exact Nat.le_refl _
      rw [e2] at p1
      exact p1
    have back : ∀ u ∈ out.map (·.2), ∃ t, u = Value.ref t := fun u hu => r2 u (perm.mem_iff.mp hu)
    have of_mem : ∀ p ∈ out, ∃ x, backV p.2 = x ∧ tupOf G p.1 = κ x := fun p hp => by
      obtain ⟨j, t, v, a1, a2, a3⟩ := at_zip (sb.perm.mem_iff.mp hp)
      have lj : j < xs.length := by
        rw [← tl]
        exact (List.getElem?_eq_some_iff.mp a1).1
      obtain ⟨t', b1, b2⟩ := facts j xs[j] (List.getElem?_eq_getElem lj)
      rw [a1] at b1
      cases b1
      refine ⟨xs[j], ?_, by rw [a3]; exact tupOf_at b2⟩
      have e3 : xs[j]? = some (backV v) := by
        rw [r1, List.getElem?_map, a2]
        rfl
      rw [List.getElem?_eq_getElem lj] at e3
      rw [a3]
      exact (Option.some.inj e3).symm
    have ysz : ((out.map (·.2)).map backV).length ≤ sizeLine := by
      rw [List.length_map, perm.length_eq]
      exact vz
    have fin := inv_tell (ch := [a, a + 2]) (b := a) (o := .lst ((out.map (·.2)).map backV)) (h' := h') (tk := s'.toks) I' (by simp) (fun c hc => by
      rcases List.mem_cons.mp hc with z | z
      · rw [z]
        exact fp_to fA na
      · rw [List.mem_singleton] at z
        rw [z]
        exact fp_to fK nk) (fun c u hc e => k1 c u (fun z => hc (by simp [z])) (fun z => hc (by simp [z])) e) (fun c hc => by
      rcases List.mem_cons.mp hc with z | z
      · rw [z]
        exact ⟨_, ea⟩
      · rw [List.mem_singleton] at z
        rw [z]
        exact k3) ⟨ysz, out.map (·.2), n, vals_back back, ea⟩
    refine ⟨.ref a, _, fin, rfl, q _ a G p' ?_ ?_ na⟩
    · rw [r1]
      exact perm.map backV
    · rw [List.pairwise_map, List.pairwise_map]
      refine List.Pairwise.imp_of_mem (fun {x y} mx my h => ?_) so
      obtain ⟨x0, e1, e2⟩ := of_mem x mx
      obtain ⟨y0, e3, e4⟩ := of_mem y my
      rw [e1, e3, ← e2, ← e4]
      exact h
end
end SfKey
/-! Keys that are a number and a tuple of two numbers. -/
namespace SfKey
open PySem PySem.Spec PyProof.Rows L2
abbrev I3 : Type := Int × Int × Int
/-- one ahead of another -/
def Lt3 (a b : I3) : Prop := a.1 < b.1 ∨ a.1 = b.1 ∧ (a.2.1 < b.2.1 ∨ a.2.1 = b.2.1 ∧ a.2.2 < b.2.2)
instance (a b : I3) : Decidable (Lt3 a b) := inferInstanceAs (Decidable (_ ∨ _))
def lt3 (a b : I3) : Bool := decide (Lt3 a b)
theorem lt3_no {a b : I3} : lt3 a b = false ↔ ¬ Lt3 a b := decide_eq_false_iff_not
theorem lt3_swo : SrtO.Swo lt3 := by
  refine ⟨fun x y h => ?_, fun x y z h1 h2 => ?_⟩
  · rw [lt3_no]
    have h := of_decide_eq_true h
    unfold Lt3 at h ⊢
    omega
  · rw [lt3_no] at h1 h2 ⊢
    unfold Lt3 at h1 h2 ⊢
    omega
def nOf : V → Int
  | .int i => i
  | _ => 0
def pairOf (H : Hp) : V → Int × Int
  | .ref p => match H p with | some (.tup [x, y]) => (nOf x, nOf y) | _ => (0, 0)
  | _ => (0, 0)
theorem pairOf_at {H : Hp} {p : Addr} {f e : Int} (h : H p = some (.tup [.int f, .int e])) : pairOf H (.ref p) = (f, e) := by
  show (match H p with | some (.tup [x, y]) => (nOf x, nOf y) | _ => (0, 0)) = (f, e)
  rw [h]
  rfl
def dec3 (H : Hp) : List V → I3
  | [x, y] => (nOf x, pairOf H y)
  | _ => (0, 0, 0)
/-- the order of keys -/
def lk3 (H : Hp) (a b : List V) : Bool := lt3 (dec3 H a) (dec3 H b)
theorem lk3_swo (H : Hp) : SrtO.Swo (lk3 H) := ⟨fun x y h => lt3_swo.asym _ _ h, fun x y z h1 h2 => lt3_swo.tr _ _ _ h1 h2⟩
/-- such a key in the heap -/
def Tn (h : Heap) (v : Value) (c : I3) : Prop := ∃ (b p : Addr) (o1 o2 : Obj) (t0 t1 t2 : Tok) (m1 m2 : Nat), v = .ref b ∧ h.get? b = some o1 ∧ o1.cls = .type "tuple" ∧ o1.data = .seq #[.int c.1 t0, .ref p] m1 ∧
  h.get? p = some o2 ∧ o2.cls = .type "tuple" ∧ o2.data = .seq #[.int c.2.1 t1, .int c.2.2 t2] m2
theorem eqv_pair (a b c d : Int) : PyData.eqv (.tuple [.int a, .int b]) (.tuple [.int c, .int d]) = decide (a = c ∧ b = d) := by
  rw [Bool.eq_iff_iff]
  simp [PyData.eqv, PyData.eqvAll]
section
variable {prog : Program} {w : World} {A : Around} {E : Value → Shared → Prop} {s : Shared}
theorem tn_cmp {vs : List Value} {k : Value → I3} (hu : A.units + 8 < cLine) (ht : ∀ v ∈ vs, Tn s.heap v (k v)) : SrtO.Cmp prog w A s (tuples' true) (fun p => p.1 ∈ vs) (SrtO.lt2 fun v u => lt3 (k v) (k u)) := by
  intro c d mc md
  have tc := ht _ mc
  have td := ht _ md
  show wpAny _ _ (keyLt' (tuples' true) c.1 d.1) (fun r s' => s' = s ∧ r = lt3 (k c.1) (k d.1)) _ _
  generalize k c.1 = x at tc ⊢
  generalize k d.1 = y at td ⊢
  obtain ⟨x1, x2, x3⟩ := x
  obtain ⟨y1, y2, y3⟩ := y
  obtain ⟨b, p, o1, o2, t0, t1, t2, m1, m2, e1, g1, _, g2, g3, g4, g5⟩ := tc
  obtain ⟨b', p', o1', o2', t0', t1', t2', m1', m2', e1', g1', _, g2', g3', g4', g5'⟩ := td
  rw [e1, e1']
  refine PySem.W.kat_lt g1 g2 g1' g2' ?_
  show PySem.W.KatLex _ _ _ true (decide (2 < 2)) _ [(.int x1 t0, .int y1 t0'), (.ref p, .ref p')] 0 s
  refine PySem.W.kat_cons (SeqAt.EqAt.int_int x1 t0 y1 t0' prog w _ _ ?_)
  refine PySem.W.kat_go (fun q => ?_) (fun q => ?_)
  · have ex : x1 = y1 := eq_of_beq q
    have rx : Reads s.heap (.ref p) (.tuple [.int x2, .int x3]) ([] ++ ([] ++ [])) := .tuple g3 g4 g5 (.cons (.int x2 t1) (.cons (.int x3 t2) .nil))
    have ry : Reads s.heap (.ref p') (.tuple [.int y2, .int y3]) ([] ++ ([] ++ [])) := .tuple g3' g4' g5' (.cons (.int y2 t1') (.cons (.int y3 t2') .nil))
    have eq2 := SeqAt.eqAt_reads _ _ A s _ _ _ _ rx ry (by simp [PyData.canLay0, PyData.canLayAll0]) (by simp [PyData.canLay0, PyData.canLayAll0]) (by
      have : min (PyData.depth (.tuple [.int x2, .int x3])) (PyData.depth (.tuple [.int y2, .int y3])) ≤ 8 := Nat.le_trans (Nat.min_le_left _ _) (by simp [PyData.depth, PyData.depthAll])
      omega)
    rw [eqv_pair] at eq2
    refine PySem.W.kat_yes (PySem.W.kat_cons (eq2 prog w _ _ ?_))
    refine PySem.W.kat_go (fun q2 => ?_) (fun q2 => ?_)
    · have e2 := of_decide_eq_true q2
      refine PySem.W.kat_yes (PySem.W.kat_nil ⟨rfl, ?_⟩)
      symm
      show lt3 (x1, x2, x3) (y1, y2, y3) = false
      rw [lt3_no]
      unfold Lt3
      simp only
      omega
    · have e2 := of_decide_eq_false q2
      refine PySem.W.kat_no (PySem.W.kat_one _ _ (HT.lt_tupInts ⟨o2, g3, g4, m2, g5⟩ ⟨o2', g3', g4', m2', g5'⟩ (ns := [x2, x3]) (ms := [y2, y3]) (.cons _ _ (.cons _ _ .nil)) (.cons _ _ (.cons _ _ .nil)) (by omega) ⟨rfl, ?_⟩))
      show HT.lexLt [x2, x3] [y2, y3] = lt3 (x1, x2, x3) (y1, y2, y3)
      rw [Bool.eq_iff_iff]
      unfold lt3
      rw [decide_eq_true_iff, HT.lexLt_cons, HT.lexLt_cons, HT.lexLt_nil_nil]
      unfold Lt3
      simp only
      by_cases c1 : x2 = y2
      · rw [if_pos c1]
        by_cases c2 : x3 = y3
        · exact absurd ⟨c1, c2⟩ e2
        · rw [if_neg c2, decide_eq_true_iff]
          omega
      · rw [if_neg c1, decide_eq_true_iff]
        omega
  · have ex : ¬ x1 = y1 := fun z => by
      rw [z, beq_self_eq_true] at q
      cases q
    refine PySem.W.kat_no (oneLt_int ⟨rfl, ?_⟩)
    rw [Bool.eq_iff_iff]
    unfold lt3
    rw [decide_eq_true_iff, decide_eq_true_iff]
    unfold Lt3
    simp only
    omega
theorem tn_firsts {h : Heap} {k : Value → I3} : ∀ {vs : List Value}, (∀ v ∈ vs, Tn h v (k v)) → ∃ fs : List Value, PySem.W.KatTups h vs fs ∧ fs.length = vs.length ∧ ∀ f ∈ fs, ∃ x t, f = Value.int x t
  | [], _ => ⟨[], PySem.W.KatTups.nil, rfl, fun _ m => nomatch m⟩
  | v :: r, ht => by
    obtain ⟨fs, a, b, c⟩ := tn_firsts (vs := r) fun u m => ht u (List.mem_cons_of_mem _ m)
    obtain ⟨ad, p, o1, _, t0, _, _, m1, _, e, g1, g2, g3, _⟩ := ht v (List.mem_cons_self ..)
    subst e
    refine ⟨.int (k (.ref ad)).1 t0 :: fs, PySem.W.KatTups.cons g1 g2 g3 rfl a, congrArg (· + 1) b, fun f mf => ?_⟩
    rcases List.mem_cons.mp mf with z | z
    · exact ⟨_, _, z⟩
    · exact c f z
/-- what a sort of such keys asks -/
theorem tn_sorts {vs : List Value} {k : Value → I3} (hu : A.units + 8 < cLine) (ht : ∀ v ∈ vs, Tn s.heap v (k v)) (h2 : 2 ≤ vs.length) :
    ∃ κ, (∀ (Q : SortKind → Shared → Prop) (E : Value → Shared → Prop), Q κ s → wpAny (model prog w) A (keyKind' vs.toArray) Q E s) ∧ SrtO.Cmp prog w A s κ (fun p => p.1 ∈ vs) (SrtO.lt2 fun v u => lt3 (k v) (k u)) := by
  obtain ⟨fs, f1, f2, f3⟩ := tn_firsts ht
  refine ⟨tuples' true, fun Q E hq => ?_, tn_cmp hu ht⟩
  refine PySem.W.kat_kind (T := .type "int") f1 (by omega) (fun f mf => ?_) (by rfl) ?_
  · obtain ⟨x, t, e⟩ := f3 f mf
    subst e
    exact PySem.W.Looks.now
  · have e : (Value.type "int" != Value.type "tuple") = true := by decide +kernel
    exact (congrArg (fun b => Q (tuples' b) _) e).mpr hq
end
section
variable {X : Cx} {pins : List (Addr × Obj)} {σ : L2.St} {H : Hp} {s : Shared}
theorem tn_of {t p : Addr} {n f e : Int} (I : Inv X pins σ H s) (ht : H t = some (.tup [.int n, .ref p])) (hp : H p = some (.tup [.int f, .int e])) : Tn s.heap (.ref t) (dec3 H [.int n, .ref p]) := by
  obtain ⟨_, its, r1, o1, g1, c1, m1, d1⟩ := I.hok _ _ ht
  obtain ⟨_, its2, r2, o2, g2, c2, m2, d2⟩ := I.hok _ _ hp
  obtain ⟨u1, u2, e1, ri, rj⟩ := vals2 r1
  obtain ⟨u3, u4, e2, rk, rl⟩ := vals2 r2
  subst e1 e2
  obtain ⟨t0, q0⟩ := ri
  obtain ⟨t1, q1⟩ := rk
  obtain ⟨t2, q2⟩ := rl
  obtain rfl : u2 = Value.ref p := rj
  subst q0 q1 q2
  have e3 : dec3 H [.int n, .ref p] = (n, f, e) := by
    show (n, pairOf H (.ref p)) = (n, f, e)
    rw [pairOf_at hp]
  rw [e3]
  exact ⟨t, p, o1, o2, t0, t1, t2, m1, m2, rfl, g1, c1, d1, g2, c2, d2⟩
/-- sorted(l, key=f), f makes of each item, a tuple of two numbers, a tuple of a number and the item -/
theorem keyed_int {f l : Addr} {fo : Obj} {xs : List V} {num : V → Int} {P : Hp → Prop} {Q : VK} {E : Value → Shared → Prop} (I : Inv X pins σ H s) (p0 : P H) (fn : H f = none) (ffr : f ∉ frs X.stack)
    (gf : s.heap.get? f = some fo) (hs : SqL X.K H l xs) (hu : X.A.units + 16 < cLine) (hP : ∀ H', P H' → ∀ x ∈ xs, ∃ t a b, x = V.ref t ∧ H' t = some (.tup [.int a, .int b]))
    (turn : ∀ (x : V) (u : Value) (H' : Hp) (s' : Shared), x ∈ xs → RelV x u → P H' → Inv X pins σ H' s' → s'.heap.get? f = some fo →
      wpAny (model X.prog X.w) X.A.in1.in1 (call (.ref f) [u]) (CE X.stack X.prog X.w H' s' fun v H'' => P H'' ∧ ∃ t, v = .ref t ∧ H'' t = some (.tup [.int (num x), x])) (fun _ _ => False) s')
    (q : ∀ (ys : List V) (p : Addr) (H' : Hp), P H' → ys.Perm xs → ys.Pairwise (fun x y => lt3 (num y, pairOf H' y) (num x, pairOf H' x) = false) → H' p = none → Q (.ref p) (upd H' p (.lst ys))) :
    wpAny (model X.prog X.w) X.A (call (.builtin "sorted") [.ref l] [(Str.ofString "key", .ref f)]) (EP X pins σ Q) E s := by
  refine keyed_sorted (κ := fun x => [.int (num x), x]) (P := P) (lk := lk3) lk3_swo I p0 fn ffr gf hs (fun x hx => ?_) turn (fun ts G s' I' p' facts h2 => ?_) fun ys p G p' perm srt n => q ys p G p' perm srt n
  · obtain ⟨t, _, _, e, _⟩ := hP H p0 x hx
    exact ⟨t, e⟩
  · refine tn_sorts (k := fun u => dec3 G (tupOf G u)) (by show X.A.units + 1 + 1 + 8 < cLine; omega) (fun v hv => ?_) (by rw [List.length_map]; exact h2)
    obtain ⟨t, mt, e⟩ := List.mem_map.mp hv
    subst e
    obtain ⟨x, mx, ht⟩ := facts t mt
    obtain ⟨p, a, b, e, hp⟩ := hP G p' x mx
    subst e
    show Tn _ _ (dec3 G (tupOf G (.ref t)))
    rw [tupOf_at ht]
    exact tn_of I' ht hp
end
end SfKey
/-! sorted(e, key=lambda x: ..) as an expression. -/
namespace SfKey
open PySem PySem.Spec PyProof.Rows L2 LamX SfLam
theorem frz_notTbl {o : Obj} {u : HO} (ps : Array Value) : HO.frz o u ≠ .tbl ps := fun z => nomatch z
theorem sql_ext {K : PySem.W.Frag} {H H' : Hp} {l : Addr} {xs : List V} (h : SqL K H l xs) (e : ExtN H H') : SqL K H' l xs := by
  rcases h with (h | ⟨o, h⟩) | h
  · exact .inl (.inl (e _ _ h fun ps z => nomatch z))
  · exact .inl (.inr ⟨o, e _ _ h fun ps z => nomatch z⟩)
  · exact .inr h
/-- e: a list of tuples of two numbers; the key of each: a tuple of a number and it -/
def tSortLam (K : PySem.W.Frag) (T : List (Addr × Str)) (i : Nat) (te tb : TE) : TE := fun σ H Q => te σ H fun v H1 => ∃ (l : Addr) (xs : List V) (num : V → Int), v = .ref l ∧ SqL K H1 l xs ∧ Tabs T H1 ∧
  (∀ x ∈ xs, ∃ t a b, x = V.ref t ∧ H1 t = some (.tup [.int a, .int b])) ∧
  (∀ x ∈ xs, ∀ H', ExtN H1 H' → Tabs T H' → tb (σ.set i (some x)) H' fun v H'' => ExtN H' H'' ∧ Tabs T H'' ∧ ∃ t, v = .ref t ∧ H'' t = some (.tup [.int (num x), x])) ∧
  ∀ (ys : List V) (p : Addr) (H' : Hp), ExtN H1 H' → Tabs T H' → ys.Perm xs → ys.Pairwise (fun x y => lt3 (num y, pairOf H' y) (num x, pairOf H' x) = false) → H' p = none → Q (.ref p) (upd H' p (.lst ys))
theorem pe_sortLam {X : Cx} {e body : Expr} {te tb : TE} {T : List (Addr × Str)} {c P : Addr} {params : Arguments} {scope : Scope} {par : Str} {i k : Nat} {p pos lpos kpos : Pos} (hg : Gl X "sorted") (hm : X.mg "sorted" = none) (he : PE X e te)
    (TB : TabB X.base X.mg c P) (hcode : X.env.code = .ref c) (hmT : (P, X.env.qual ++ "<lambda>") ∈ T) (hu : ∀ p ∈ T, p.1 = P → p.2 = X.env.qual ++ "<lambda>") (hr : Room (k + 3) X.A) (L : L1 X.env.scope scope par) (hdef : defaultsOf params X.env = ([], []))
    (hb : ∀ (q : Str) (cl : List (Str × Addr)) (pm cv ctv u : Value), bindArgs (PySem.W.kla_fn "<lambda>" q params body scope cl pm cv ctv) ⟨[u], []⟩ = pure [(par, u)]) (nd : X.N.Nodup) (hi : X.N[i]? = some par)
    (hbody : ∀ (A : Around) (s : Shared) (H : Hp) (f c' : Addr), Room k (A.deeper (envL X scope s.heap.objs.size f c')) → PE (lamX X A s H scope f c') body tb)
    (h1 : backTo pos (starEach [e] X.env) = (false, eval e X.env) :: backTo pos (starEach [] X.env) := by rfl) (h2 : (backTo pos (starEach [e] X.env)).any (·.1) = false := by rfl) :
    PE X (.Call (.Name "sorted" p) [e] [⟨some "key", .Lambda params body scope lpos, kpos⟩] pos) (tSortLam X.K T i te tb) := by
  refine ⟨fun pins s σ H Q I h => ?_⟩
  refine wpAny_Call_Name_kw (ld_blt I hg hm (show bootBuiltins (Str.ofString "sorted") = some (.builtin "sorted") by decide +kernel) ?_ (by decide) (by decide))
  refine PyProof.Rows.callWith_kw ?_ h1 h2 (by rfl) (by rfl)
  rw [h1]
  refine Calls.spliced_cons (thn (he.run pins s σ H _ I h) fun u0 s1 ⟨v0, H1, I1, r1, q1⟩ => ?_)
  refine Calls.spliced_nil ?_
  obtain ⟨l, xs, num, ev, hs, hT, hx, turn, q⟩ := q1
  subst ev
  obtain rfl : u0 = Value.ref l := r1
  show wpAny _ _ (evalAll ((do let v ← eval (.Lambda params body scope lpos) X.env; standAt pos; pure v) :: (backToKw pos (keywordEach [] X.env)).map (·.2))) _ _ s1
  refine wpAny_evalAll_cons (wpAny_bind (lam_make2 I1 TB hcode hmT hu hT hdef (L.cells I1.ok) fun f c' pm ctv H2 s2 I2 eN T2 hf hfn hfr hco => wpAny_bind (wpAny_standAt (wpAny_pure ?_))))
  refine wpAny_evalAll_nil ?_
  show wpAny _ _ (call (.builtin "sorted") [.ref l] [(Str.ofString "key", .ref f)]) _ _ s2
  refine keyed_int (num := num) (P := fun G => ExtN H2 G ∧ Tabs T G) I2 ⟨ExtN.refl H2, T2⟩ hfn hfr hf (sql_ext hs eN) (by have := hr.units; omega) (fun G hG x mx => ?_) (fun x u G s' mx ru hG I' gf => ?_) fun ys p G hG perm srt n => q ys p G (eN.trans hG.1) hG.2 perm srt n
  · obtain ⟨t, a, b, e1, e2⟩ := hx x mx
    exact ⟨t, a, b, e1, hG.1 _ _ (eN _ _ e2 fun ps z => nomatch z) fun ps z => nomatch z⟩
  · have hc' : G c' = some (CodeO c' (X.env.qual ++ "<lambda>")) := hG.1 _ _ hco codeO_ne
    have hr2 : Room (k + 1) X.A.in1.in1 := Room.in1 (Room.in1 hr)
    refine wpAny_mono (lam_call (k := k) (Q := fun v H'' => ExtN G H'' ∧ Tabs T H'' ∧ ∃ t, v = .ref t ∧ H'' t = some (.tup [.int (num x), x])) I' L gf hb hc' hr2 (I'.env0.in1.in1) nd hi ru hbody (turn x mx G (eN.trans hG.1) hG.2)) (fun v s'' hv => ?_) fun _ _ z => z
    obtain ⟨y, H'', a1, a2, a3, a4, a5, e3, e4, e5⟩ := hv
    exact ⟨y, H'', a1, a2, a3, a4, a5, ⟨hG.1.trans e3, e4⟩, e5⟩
end SfKey
/-! sorted of a list of tuples of a number and a tuple of two numbers. -/
namespace SfKey
open PySem PySem.Spec PyProof.Rows L2
/-- what such a tuple tells -/
def kOf (H : Hp) : V → I3
  | .ref t => match H t with | some (.tup l) => dec3 H l | _ => (0, 0, 0)
  | _ => (0, 0, 0)
theorem kOf_at {H : Hp} {t p : Addr} {n f e : Int} (ht : H t = some (.tup [.int n, .ref p])) (hp : H p = some (.tup [.int f, .int e])) : kOf H (.ref t) = (n, f, e) := by
  show (match H t with | some (.tup l) => dec3 H l | _ => (0, 0, 0)) = (n, f, e)
  rw [ht]
  show (n, pairOf H (.ref p)) = (n, f, e)
  rw [pairOf_at hp]
/-- a new list of them, ascending -/
def rSort3 (K : PySem.W.Frag) : List V → Hp → VK → Prop := fun vs H Q => ∃ (a : Addr) (xs : List V), vs = [V.ref a] ∧ SqL K H a xs ∧ (∀ x ∈ xs, ∃ t n p f e, x = V.ref t ∧ H t = some (.tup [.int n, .ref p]) ∧ H p = some (.tup [.int f, .int e])) ∧
  ∀ ys p, ys.Perm xs → ys.Pairwise (fun x y => lt3 (kOf H y) (kOf H x) = false) → H p = none → Q (.ref p) (upd H p (.lst ys))
theorem cr_sort3 {X : Cx} (hu : X.A.units + 16 < cLine) : CallR X (.builtin "sorted") (rSort3 X.K) := by
  intro pins s σ H vs us Q I r h
  obtain ⟨l, xs, ev, hs, hx, q⟩ := h
  subst ev
  obtain ⟨its, rv, pl, lz⟩ := I.list hs
  obtain ⟨u, eu, ru⟩ := vals1 r
  subst eu
  cases ru
  obtain ⟨e1, e2⟩ := refs_back rv fun x m => let ⟨t, _, _, _, _, e, _⟩ := hx x m; ⟨t, e⟩
  have len := rv.length
  have of_it : ∀ v ∈ its, ∃ t n p f e, v = Value.ref t ∧ H t = some (.tup [.int n, .ref p]) ∧ H p = some (.tup [.int f, .int e]) := fun v hv => by
    obtain ⟨t, et⟩ := e2 v hv
    subst et
    obtain ⟨t', n, p, f, e, z, a, b⟩ := hx (V.ref t) (by rw [e1]; exact List.mem_map.mpr ⟨_, hv, rfl⟩)
    cases z
    exact ⟨t, n, p, f, e, rfl, a, b⟩
  have swo : SrtO.Swo fun u v => lt3 (kOf H (backV u)) (kOf H (backV v)) := ⟨fun x y h => lt3_swo.asym _ _ h, fun x y z a b => lt3_swo.tr _ _ _ a b⟩
  refine SrtO.sorted_ord swo pl.isList (by omega) (fun h2 g a ha kk => ?_) fun out so sb => ?_
  · intro g' keep
    refine tn_sorts (A := X.A.in1.in1) (k := fun u => kOf H (backV u)) (by show X.A.units + 1 + 1 + 8 < cLine; omega) (fun v hv => ?_) h2
    obtain ⟨t, n, p, f, e, z, ht, hp⟩ := of_it v hv
    subst z
    obtain ⟨b, b', o1, o2, t0, t1, t2, m1, m2, w1, w2, w3, w4, w5, w6, w7⟩ := tn_of I ht hp
    have ek : dec3 H [.int n, .ref p] = (n, f, e) := by
      show (n, pairOf H (.ref p)) = (n, f, e)
      rw [pairOf_at hp]
    rw [ek] at w4 w7
    have old : ∀ b o, s.heap.get? b = some o → g'.get? b = some o := fun b o q => let ⟨nb, gb⟩ := kk b o q; keep b o nb gb
    show Tn g' (.ref t) (kOf H (.ref t))
    rw [kOf_at ht hp]
    exact ⟨b, b', o1, o2, t0, t1, t2, m1, m2, w1, old _ _ w2, w3, w4, old _ _ w5, w6, w7⟩
  · have back : ∀ u ∈ out, ∃ a, u = Value.ref a := fun u hu => e2 u (sb.perm.mem_iff.mp hu)
    obtain ⟨n, hn⟩ := sortedAll_at s.heap its out.toArray
    have pm : (out.map backV).Perm xs := by
      rw [e1]
      exact sb.perm.map backV
    have lz2 : (out.map backV).length ≤ sizeLine := by
      rw [pm.length_eq]
      exact lz
    have le : s.heap.objs.size ≤ s.heap.objs.size + 1 := Nat.le_succ _
    refine ⟨.ref (s.heap.objs.size + 1), upd H (s.heap.objs.size + 1) (.lst (out.map backV)), I.laid (t' := s.toks) (fun b o e => sortedAll_old e) le ⟨lz2, out, n, vals_back back, hn⟩, rfl, q _ _ pm ?_ (I.hok.fresh le)⟩
    rw [List.pairwise_map]
    exact so
end SfKey
/-! is_ready. -/
namespace K36
open PySem PySem.Spec PyProof.Rows L2
/-- what is done -/
def DoneAt (H : Hp) (d : Addr) (S : List B) : Prop := H d = some (.dT (dB S fun _ => .bl true))
def readyB (bs S : List B) (b : B) : Bool := (parts bs b).all fun c => decide (c ∈ S)
def spRd : Sp := fun vs H Q _ => ∃ (d dn p : Addr) (bs S : List B) (b : B), vs = [.ref d, .ref dn, .ref p] ∧ PartsAt H d bs ∧ DoneAt H dn S ∧ H p = some (.tup [.int b.1, .int b.2]) ∧ b ∈ bs ∧ ∀ H', Same H H' → Q (.bl (readyB bs S b)) H'
theorem scRd : FnScope ["parts", "done", "block", "part"] ["parts", "done", "block"] (defScope sPIsReady) := ⟨rfl, rfl, rfl, by decide +kernel, rfl, by decide +kernel, by decide +kernel⟩
theorem parts_few {bs : List B} {b : B} : (parts bs b).length ≤ 2 := by
  unfold parts
  exact List.length_filter_le _ _
section
variable {P : Program} {w : World} {K : PySem.W.Frag} {mg : Str → Option Value} {base : Heap} {f : Addr} {fd : FuncData}
theorem ok_rd (F : FnP K dPIsReady f fd) (gA : mg "all" = none) : FnOk P w K mg base CX0 1 f fd ["parts", "done", "block"] spRd := by
  refine F.ok scRd (fun vs H Q E h => ?_) (fun cdv A outer s H vs Q E hr h => ⟨_, PSs.nox (pss_one (ps_ret (pe_and
    (pe_cmp (pc_din (hu_of hr) (pv 2) (pv 0)) rfl)
    (pe_one (pe_callB (cr_all rfl) rfl gA (by decide +kernel) (pa_cons (pe_lc (own := [("part", 3)]) (g := gName 3) (tt := tYes) (te := tDIn (tVar 3) (tVar 1)) rfl scRd.nd (pi_list (pe_dget (hu_of hr) (pv 0) (pv 2) (fun _ _ => rfl))) (blkOk_by (N := ["parts", "done", "block", "part"]) (sc := defScope sPIsReady) (by decide +kernel))
      (fun _ _ _ _ _ => pg_name (i := 3) scRd.nd rfl (.inl rfl)) (fun _ _ _ _ _ => pts_nil)
      (fun _ _ _ _ _ => pe_cmp (pc_din (hu_of hr) (pv 3) (pv 1)) rfl)) pa_nil)))))), ?_⟩)
  · obtain ⟨d, dn, p, bs, S, b, rfl, _⟩ := h
    rfl
  · obtain ⟨d, dn, p, bs, S, b, rfl, ⟨ls, eD, at_⟩, dn1, tp, mb, k⟩ := h
    obtain ⟨ys, eY, bY⟩ := at_ b mb
    have g1 := DGet.t (k := kB b) eD tp
    rw [dB_get mb] at g1
    refine ⟨_, rfl, _, rfl, d, _, rfl, g1, true, rfl, itT rfl ?_⟩
    refine ⟨_, rfl, _, rfl, d, _, rfl, g1, ls b, rfl, ⟨_, SqL.of eY⟩, fun L hL => ?_⟩
    refine lc_it (walk_list (xs := ys)) (fun j G => Same H G ∧ G L = some (.lst (((parts bs b).take j).map fun c => V.bl (decide (c ∈ S))))) ⟨same_new hL, by rw [upd_same]; simp⟩ (fun j G _ q => SqL.of (q.1 _ _ eY)) ?_ ?_
    · rintro j x G1 G2 hj ⟨sm, eL⟩ ⟨eG, hx⟩
      subst eG
      obtain ⟨c, hc, q, eq, tq⟩ := bY.get hx
      subst eq
      have g2 := DGet.t (k := kB c) (sm _ _ dn1) (sm _ _ tq)
      have es : (valV (dB S fun _ => V.bl true) (kB c)).isSome = decide (c ∈ S) := by
        by_cases m : c ∈ S
        · rw [dB_get m, decide_eq_true m]
          rfl
        · rw [dB_no m, decide_eq_false m]
          rfl
      refine ⟨rfl, _, rfl, _, rfl, dn, _, rfl, g2, _, eL, ?_, fun a o e => ?_, ?_⟩
      · have a1 := parts_few (bs := bs) (b := b)
        rw [List.length_map, List.length_take, sizeLine_eq]
        omega
      · rw [upd_ne (ne_of_none e hL)]
        exact sm _ _ e
      · rw [upd_same, es, take_one hc, List.map_append]
        rfl
    · rintro G ⟨sm, eL⟩
      refine ⟨L, (parts bs b).map fun c => decide (c ∈ S), rfl, SqL.of ?_, ?_⟩
      · rw [eL, bY.len, List.take_length, List.map_map]
        rfl
      · have q := k G sm
        unfold readyB at q
        rw [List.all_map]
        exact q
end
end K36
/-! steps_run: its term. -/
namespace K36
open PySem PySem.Spec PyProof.Rows L2 LamX SfLam SfKey
/-- a def's promise, its code object told of -/
theorem FnP.okC {P : Program} {w : World} {K : PySem.W.Frag} {mg : Str → Option Value} {base : Heap} {d : He.DefD} {f : Addr} {fd : FuncData} {CX : CXT} {N ps : List Str} {k : Nat} {sp : Sp}
    (F : FnP K d f fd) (S : FnScope N ps d.scope) (len : ∀ vs H Q E, sp vs H Q E → vs.length = ps.length)
    (walk : ∀ (A : Around) (outer : List Env) (s : Shared) (H : Hp) (vs : List V) (Q : VK) (E : XK), Room k (A.deeper (envOfC d.qual d.scope s.heap.objs.size f fd.code)) → sp vs H Q E →
      ∃ t, PSs (cxOf CX P w K mg base N d.qual d.scope f fd.code A outer s H E) d.body t ∧ t { nx := fun _ H' => Q .non H', rt := Q } (start N vs) H) : FnOk P w K mg base CX (k + 1) f fd ps sp := by
  obtain ⟨oc, od, dV, kV, doc, pm, an, cdv, ct, osl, rfl, lk, hcd, _, _⟩ := F.ex
  refine ⟨len, fun A outer s H args us vs Q E hr e0 hb r hsp => ?_⟩
  have hl := len _ _ _ _ hsp
  have keeps : ∀ b o, base.get? b = some o → s.heap.get? b = some o := fun b o e => (e0.bs b o e).1
  have KX : K.In s.heap := e0.mod.kin.keeps keeps
  have lim : s.heap.NoLimit := e0.mod.nolimit.keeps keeps
  have kinds : ∀ y ∈ ps.zip us, d.scope.names.lookup y.1 = some .local ∨ (d.scope.names.lookup y.1 = some .cell ∧ ((cellsFrom (s.heap.objs.size + 1) d.scope.names []).lookup y.1).isSome = true) := by
    rintro ⟨n, v⟩ hy
    rcases S.par n (List.of_mem_zip hy).1 with q | q
    · exact .inl q
    · exact .inr ⟨q, PySem.W.cellsFrom_some _ _ _ (.inl q)⟩
  refine codeAny_call_function hr.depth (KX _ _ lk) rfl S.co S.gen rfl (PySem.W.codeRec_of KX hcd) (hb _ _ _ _ ?_)
  refine wpAny_newFunctionEnv_cells S.kind kinds fun env he s1 x => ?_
  subst he
  refine ⟨lim.keeps x.toInCall.keep, codeAny_func ?_⟩
  obtain ⟨t, ht, hq⟩ := walk A outer s H vs Q E (hr.deeper _) hsp
  have I : Inv (cxOf CX P w K mg base N d.qual d.scope f cdv A outer s H E) [] (start N vs) H s1 := inv_start S hr.hd e0 hl r x
  refine wpAny_mono (ht.run [] s1 (start N vs) H _ I hq) (fun fl s' hs => ?_) fun e s' hs => hs
  have fin : ∀ {σ' : L2.St} {H' : Hp} {v : V} {u : Value}, Inv (cxOf CX P w K mg base N d.qual d.scope f cdv A outer s H E) [] σ' H' s' → RelV v u → Q v H' → CE outer P w H s Q u s' := by
    intro σ' H' v u J rv q
    exact ⟨v, H', J.os, J.bare, J.base, J.hok, rv, q⟩
  cases fl with
  | ret u =>
    obtain ⟨v, σ', H', J, rv, q⟩ := hs
    exact fin J rv q
  | next =>
    obtain ⟨σ', H', J, q⟩ := hs
    exact fin (v := V.non) (u := Value.none) J rfl q
  | brk =>
    obtain ⟨_, _, _, q⟩ := hs
    exact False.elim q
  | cont =>
    obtain ⟨_, _, _, q⟩ := hs
    exact False.elim q
def nSR : List Str := ["grouping", "hands", "losses", "parts", "deep", "done", "steps", "ready", "taken", "lost", "block", "one"]
theorem scSR : FnScope nSR ["grouping", "hands", "losses"] (defScope sPStepsRun) := ⟨rfl, rfl, rfl, by decide +kernel, rfl, by decide +kernel, by decide +kernel⟩
/-- the lambda's names -/
def lamScopeOf (st : Stmt) (sc : Scope) : Scope := match st with
  | .Assign _ (.Subscript (.Call _ _ [⟨_, .Lambda _ _ s _, _⟩] _) _ _) _ => s
  | _ => sc
def whileBody (st : Stmt) : List Stmt := match st with
  | .While _ b _ _ => b
  | _ => []
def srLam : Scope := lamScopeOf ((whileBody ((defBody sPStepsRun).getD 3 (.Pass ⟨0, 0, 0, 0⟩))).getD 1 (.Pass ⟨0, 0, 0, 0⟩)) (defScope sPStepsRun)
theorem lamSR : L1 (defScope sPStepsRun) srLam "one" := l1_by (by decide +kernel)
end K36
/-! Orders of blocks, what a run does. -/
namespace K36
open PySem PySem.Spec PyProof.Rows L2 SfKey
structure Lin (lt : B → B → Bool) : Prop where
  tr : ∀ a b c, lt b a = false → lt c b = false → lt c a = false
  tot : ∀ a b, lt b a = false ∨ lt a b = false
  anti : ∀ a b, lt b a = false → lt a b = false → a = b
/-- a list in an order -/
def sortB (lt : B → B → Bool) (l : List B) : List B := l.mergeSort fun a b => !lt b a
theorem sortB_perm {lt : B → B → Bool} {l : List B} : (sortB lt l).Perm l := List.mergeSort_perm l _
theorem sortB_pw {lt : B → B → Bool} (L : Lin lt) (l : List B) : (sortB lt l).Pairwise fun a b => lt b a = false := by
  refine List.Pairwise.imp (fun {a b} h => ?_) (List.pairwise_mergeSort (le := fun a b => !lt b a) (fun a b c h1 h2 => ?_) (fun a b => ?_) l)
  · simpa using h
  · simp only [Bool.not_eq_true'] at h1 h2 ⊢
    exact L.tr a b c h1 h2
  · rcases L.tot a b with h | h <;> simp [h]
theorem sortB_eq {lt : B → B → Bool} (L : Lin lt) {ys l : List B} (p : ys.Perm l) (w : ys.Pairwise fun a b => lt b a = false) : ys = sortB lt l :=
  List.Perm.eq_of_pairwise (le := fun a b => lt b a = false) (fun a b _ _ h1 h2 => L.anti a b h1 h2) w (sortB_pw L l) (p.trans sortB_perm.symm)
theorem sortB_congr {lt : B → B → Bool} (L : Lin lt) {l m : List B} (p : l.Perm m) : sortB lt l = sortB lt m := sortB_eq L (sortB_perm.trans p) (sortB_pw L l)
/-- blocks by their numbers -/
theorem lin_bLt : Lin bLt := by
  have no : ∀ {a b : B}, bLt a b = false → ¬ (a.1 < b.1 ∨ a.1 = b.1 ∧ a.2 < b.2) := fun h z => by rw [bLt_iff.mpr z] at h; cases h
  have of : ∀ {a b : B}, ¬ (a.1 < b.1 ∨ a.1 = b.1 ∧ a.2 < b.2) → bLt a b = false := fun h => by rw [Bool.eq_false_iff]; exact fun z => h (bLt_iff.mp z)
  refine ⟨fun a b c h1 h2 => of ?_, fun a b => ?_, fun a b h1 h2 => ?_⟩
  · have := no h1
    have := no h2
    omega
  · by_cases h : bLt b a = false
    · exact .inl h
    · refine .inr (of ?_)
      rw [Bool.not_eq_false, bLt_iff] at h
      omega
  · have h1 := no h1
    have h2 := no h2
    exact Prod.ext (by omega) (by omega)
/-- the key of a block: deepest first -/
def keyB (bs : List B) (b : B) : I3 := (-dep bs b, b.1, b.2)
def dLt (bs : List B) (a b : B) : Bool := lt3 (keyB bs a) (keyB bs b)
theorem lin_dLt (bs : List B) : Lin (dLt bs) := by
  refine ⟨fun a b c h1 h2 => lt3_no.mpr ?_, fun a b => ?_, fun a b h1 h2 => ?_⟩
  · have h1 := lt3_no.mp h1
    have h2 := lt3_no.mp h2
    unfold Lt3 keyB at *
    simp only at *
    omega
  · by_cases h : dLt bs b a = false
    · exact .inl h
    · refine .inr (lt3_no.mpr ?_)
      rw [Bool.not_eq_false] at h
      have h := of_decide_eq_true h
      unfold Lt3 keyB at *
      simp only at *
      omega
  · have h1 := lt3_no.mp h1
    have h2 := lt3_no.mp h2
    unfold Lt3 keyB at h1 h2
    simp only at h1 h2
    exact Prod.ext (by omega) (by omega)
/-- what may be done -/
def readyL (bs S : List B) : List B := bs.filter fun b => !decide (b ∈ S) && readyB bs S b
/-- what is done next -/
def chosenB (bs S : List B) (h : Nat) : List B := (sortB (dLt bs) (readyL bs S)).take h
/-- what isn't lost of it -/
def keptB (bs S : List B) (h : Nat) (lost : List B) : List B := (chosenB bs S h).filter fun b => !decide (b ∈ lost)
theorem mem_chosen {bs S : List B} {h : Nat} {b : B} (m : b ∈ chosenB bs S h) : b ∈ bs ∧ b ∉ S ∧ readyB bs S b = true := by
  have m1 := sortB_perm.mem_iff.mp (List.mem_of_mem_take m)
  have m2 := List.mem_filter.mp m1
  have m3 := m2.2
  simp only [Bool.and_eq_true, Bool.not_eq_true', decide_eq_false_iff_not] at m3
  exact ⟨m2.1, m3⟩
theorem readyB_congr {bs S S' : List B} (h : ∀ b, b ∈ S ↔ b ∈ S') (b : B) : readyB bs S b = readyB bs S' b := by
  unfold readyB
  congr 1
  funext c
  exact decide_eq_decide.mpr (h c)
theorem chosen_congr {bs S S' : List B} {h : Nat} (e : ∀ b, b ∈ S ↔ b ∈ S') : chosenB bs S h = chosenB bs S' h := by
  unfold chosenB readyL
  rw [show (fun b => !decide (b ∈ S) && readyB bs S b) = fun b => !decide (b ∈ S') && readyB bs S' b from by
    funext b
    rw [readyB_congr e b, decide_eq_decide.mpr (e b)]]
/-- the steps of a run: what is done so far, the number of steps so far -/
def runF (bs : List B) (h : Nat) (ls : List (List B)) : Nat → List B → Nat → List (List B)
  | 0, _, _ => []
  | n + 1, S, i => if S.length < bs.length then sortB bLt (keptB bs S h (ls.getD i [])) :: runF bs h ls n (S ++ sortB bLt (keptB bs S h (ls.getD i []))) (i + 1) else []
/-- so many turns are enough -/
def runM (bs : List B) (ls : List (List B)) (S : List B) (i : Nat) : Nat := (bs.length - S.length) + (ls.length - i)
/-- the steps of a run -/
def runS (bs : List B) (h : Nat) (ls : List (List B)) : List (List B) := runF bs h ls (runM bs ls [] 0) [] 0
theorem len_sub : ∀ {l m : List B}, l.Nodup → (∀ x ∈ l, x ∈ m) → l.length ≤ m.length
  | [], _, _, _ => Nat.zero_le _
  | a :: t, m, nd, h => by
    have ha := h a (List.mem_cons_self ..)
    have nd2 := List.nodup_cons.mp nd
    have q := len_sub (l := t) (m := m.erase a) nd2.2 fun x hx => (List.mem_erase_of_ne fun e => nd2.1 (by rw [← e]; exact hx)).mpr (h x (List.mem_cons_of_mem _ hx))
    rw [List.length_erase_of_mem ha] at q
    have := List.length_pos_of_mem ha
    rw [List.length_cons]
    omega
/-- what is narrowest of the rest may be done -/
theorem ready_some {n : Int} {bs S : List B} (good : ∀ b ∈ bs, OkB n b) (nd : S.Nodup) (sub : ∀ b ∈ S, b ∈ bs) (bnd : bs.Nodup) (lt : S.length < bs.length) : readyL bs S ≠ [] := by
  intro z
  have no : ∀ b ∈ bs, b ∉ S → readyB bs S b = false := fun b hb hS => by
    rw [Bool.eq_false_iff]
    intro r
    have m : b ∈ readyL bs S := List.mem_filter.mpr ⟨hb, by rw [decide_eq_false hS, r]; rfl⟩
    rw [z] at m
    exact nomatch m
  have all : ∀ (k : Nat) (b : B), b ∈ bs → (b.2 - b.1).toNat ≤ k → b ∈ S := by
    intro k
    induction k with
    | zero =>
      intro b hb hk
      have g := good b hb
      unfold OkB at g
      omega
    | succ k ih =>
      intro b hb hk
      by_cases hS : b ∈ S
      · exact hS
      · have r := no b hb hS
        exfalso
        unfold readyB at r
        rw [List.all_eq_false] at r
        obtain ⟨c, hc, nc⟩ := r
        have m := List.mem_filter.mp hc
        have cb : c ∈ bs := of_decide_eq_true m.2
        refine nc (decide_eq_true (ih c cb ?_))
        have g := good b hb
        have gc := good c cb
        have m1 := m.1
        rw [List.mem_cons, List.mem_singleton] at m1
        have lo : b.1 + 1 ≤ midOf bs b := by
          unfold midOf
          have q : ∀ (l : List Int) (a : Int), a ≤ l.foldl max a := by
            intro l
            induction l with
            | nil => exact fun a => Int.le_refl a
            | cons x t ih => exact fun a => Int.le_trans (Int.le_max_left a x) (ih (max a x))
          exact q _ _
        have hi : midOf bs b < b.2 := by
          unfold midOf
          have q : ∀ (l : List Int) (a e : Int), a < e → (∀ x ∈ l, x < e) → l.foldl max a < e := by
            intro l
            induction l with
            | nil => exact fun a e h _ => h
            | cons x t ih =>
              intro a e h hx
              exact ih (max a x) e (Int.max_lt.mpr ⟨h, hx x (List.mem_cons_self ..)⟩) fun y hy => hx y (List.mem_cons_of_mem _ hy)
          refine q _ _ _ ?_ fun x hx => ?_
          · unfold OkB at g
            omega
          · obtain ⟨d, hd, e⟩ := List.mem_map.mp hx
            have w := (List.mem_filter.mp hd).2
            simp only [Bool.and_eq_true, decide_eq_true_eq] at w
            omega
        unfold OkB at g gc
        rcases m1 with e | e
        · subst e
          simp only at *
          omega
        · subst e
          simp only at *
          omega
  have p := len_sub bnd fun b hb => all _ b hb (Nat.le_refl _)
  omega
/-! ### a run's steps -/
/-- what is done by now -/
structure RunAt (bs S : List B) : Prop where
  nd : S.Nodup
  sub : ∀ b ∈ S, b ∈ bs
theorem RunAt.le {bs S : List B} (R : RunAt bs S) : S.length ≤ bs.length := len_sub R.nd R.sub
theorem RunAt.nil {bs : List B} : RunAt bs [] := ⟨.nil, fun _ h => nomatch h⟩
theorem kept_nodup {bs S : List B} {h : Nat} {lost : List B} (bnd : bs.Nodup) : (keptB bs S h lost).Nodup :=
  (((sortB_perm.nodup_iff.mpr (bnd.sublist List.filter_sublist)).sublist (List.take_sublist ..))).sublist List.filter_sublist
theorem RunAt.next {bs S : List B} {h : Nat} {lost : List B} (bnd : bs.Nodup) (R : RunAt bs S) {M : List B} (p : M.Perm (keptB bs S h lost)) : RunAt bs (S ++ M) := by
  refine ⟨List.nodup_append.mpr ⟨R.nd, p.nodup_iff.mpr (kept_nodup bnd), fun a ha b hb e => ?_⟩, fun b hb => ?_⟩
  · subst e
    exact (mem_chosen (List.mem_filter.mp (p.mem_iff.mp hb)).1).2.1 ha
  · rcases List.mem_append.mp hb with m | m
    · exact R.sub b m
    · exact (mem_chosen (List.mem_filter.mp (p.mem_iff.mp m)).1).1
theorem chosen_some {n : Int} {bs S : List B} {h : Nat} (good : ∀ b ∈ bs, OkB n b) (bnd : bs.Nodup) (R : RunAt bs S) (lt : S.length < bs.length) (hh : 1 ≤ h) : chosenB bs S h ≠ [] := by
  have r := ready_some good R.nd R.sub bnd lt
  have l1 : (sortB (dLt bs) (readyL bs S)).length = (readyL bs S).length := sortB_perm.length_eq
  intro z
  have q : (chosenB bs S h).length = 0 := by rw [z]; rfl
  unfold chosenB at q
  rw [List.length_take, l1] at q
  have : 0 < (readyL bs S).length := List.length_pos_iff.mpr r
  omega
theorem run_less {n : Int} {bs S : List B} {h i : Nat} {ls : List (List B)} (good : ∀ b ∈ bs, OkB n b) (bnd : bs.Nodup) (R : RunAt bs S) (lt : S.length < bs.length) (hh : 1 ≤ h) {M : List B} (p : M.Perm (keptB bs S h (ls.getD i []))) :
    runM bs ls (S ++ M) (i + 1) < runM bs ls S i := by
  unfold runM
  rw [List.length_append]
  by_cases hi : i < ls.length
  · omega
  · have e : ls.getD i [] = [] := by rw [List.getD_eq_getElem?_getD, List.getElem?_eq_none (by omega)]; rfl
    rw [e] at p
    have q : keptB bs S h [] = chosenB bs S h := by
      unfold keptB
      exact List.filter_eq_self.mpr fun b _ => by simp
    rw [q] at p
    have c := chosen_some good bnd R lt hh
    have : 0 < M.length := by
      rw [p.length_eq]
      exact List.length_pos_iff.mpr c
    omega
theorem runF_go {bs S : List B} {h i m : Nat} {ls : List (List B)} (lt : S.length < bs.length) (hm : runM bs ls S i ≤ m) :
    runF bs h ls m S i = sortB bLt (keptB bs S h (ls.getD i [])) :: runF bs h ls (m - 1) (S ++ sortB bLt (keptB bs S h (ls.getD i []))) (i + 1) := by
  unfold runM at hm
  obtain ⟨k, rfl⟩ : ∃ k, m = k + 1 := ⟨m - 1, by omega⟩
  rw [runF, if_pos lt]
  rfl
theorem runF_stop {bs S : List B} {h i m : Nat} {ls : List (List B)} (ge : ¬ S.length < bs.length) : runF bs h ls m S i = [] := by
  cases m with
  | zero => rfl
  | succ k => rw [runF, if_neg ge]
/-- a run, told from within: what has been told, what is done, how many steps -/
def Told (bs : List B) (h : Nat) (ls : List (List B)) (pre : List (List B)) (S : List B) : Prop := ∃ m, runM bs ls S pre.length ≤ m ∧ runS bs h ls = pre ++ runF bs h ls m S pre.length
theorem Told.start {bs : List B} {h : Nat} {ls : List (List B)} : Told bs h ls [] [] := ⟨_, Nat.le_refl _, rfl⟩
theorem Told.next {n : Int} {bs S : List B} {h : Nat} {ls pre : List (List B)} (good : ∀ b ∈ bs, OkB n b) (bnd : bs.Nodup) (R : RunAt bs S) (lt : S.length < bs.length) (hh : 1 ≤ h) (T : Told bs h ls pre S) :
    Told bs h ls (pre ++ [sortB bLt (keptB bs S h (ls.getD pre.length []))]) (S ++ sortB bLt (keptB bs S h (ls.getD pre.length []))) := by
  obtain ⟨m, hm, e⟩ := T
  have q := run_less (h := h) (i := pre.length) (ls := ls) good bnd R lt hh (sortB_perm (lt := bLt))
  refine ⟨m - 1, ?_, ?_⟩
  · rw [List.length_append]
    show runM _ _ _ (pre.length + 1) ≤ _
    omega
  · rw [e, runF_go lt hm, List.append_assoc, List.length_append]
    rfl
theorem Told.done {bs S : List B} {h : Nat} {ls pre : List (List B)} (ge : ¬ S.length < bs.length) (T : Told bs h ls pre S) : runS bs h ls = pre := by
  obtain ⟨m, _, e⟩ := T
  rw [e, runF_stop ge, List.append_nil]
theorem runF_len {bs : List B} {h : Nat} {ls : List (List B)} : ∀ {m : Nat} {S : List B} {i : Nat}, (runF bs h ls m S i).length ≤ m
  | 0, _, _ => Nat.le_refl _
  | m + 1, S, i => by
    rw [runF]
    split
    · rw [List.length_cons]
      exact Nat.succ_le_succ runF_len
    · exact Nat.zero_le _
theorem runS_len {bs : List B} {h : Nat} {ls : List (List B)} : (runS bs h ls).length ≤ bs.length + ls.length := runF_len
theorem Told.le {bs S : List B} {h : Nat} {ls pre : List (List B)} (T : Told bs h ls pre S) : pre.length ≤ bs.length + ls.length := by
  obtain ⟨m, _, e⟩ := T
  have q := runS_len (bs := bs) (h := h) (ls := ls)
  rw [e, List.length_append] at q
  omega
end K36
/-! What stays: all but the table; all but one object. Blocks as data. -/
namespace K36
open PySem PySem.Spec PyProof.Rows L2 LamX SfKey
theorem Sb.of {a : Addr} {G G' : Hp} (s : Same G G') : Sb a G G' := fun b o _ e => s b o e
theorem extN_sb {H G G' : Hp} {a : Addr} (e : ExtN H G) (h : H a = none) (s : Sb a G G') : ExtN H G' := fun b o hb nt => s b o (ne_of_none hb h) (e b o hb nt)
theorem extN_same {H G G' : Hp} (e : ExtN H G) (s : Same G G') : ExtN H G' := e.trans (ExtN.of s)
theorem tabs_sb {T : List (Addr × Str)} {G G' : Hp} {a : Addr} {u : HO} (t : Tabs T G) (ha : G a = some u) (n1 : ∀ ps, u ≠ .tbl ps) (n2 : ∀ c q, u ≠ CodeO c q) (s : Sb a G G') : Tabs T G' := fun p hp => by
  obtain ⟨ps, h1, h2, h3⟩ := t p hp
  refine ⟨ps, s _ _ (ne_of h1 ha (n1 ps).symm) h1, h2, fun pos cv hc => ?_⟩
  obtain ⟨c, e1, e2⟩ := h3 pos cv hc
  exact ⟨c, e1, s _ _ (ne_of e2 ha (n2 _ _).symm) e2⟩
theorem Tb.ext {H H' : Hp} {v : V} {b : B} (h : Tb H v b) (e : ExtN H H') : Tb H' v b := h.imp fun _ q => ⟨q.1, e _ _ q.2 (fun ps z => nomatch z)⟩
theorem Lb.ext {H H' : Hp} {xs : List V} {bs : List B} (h : Lb H xs bs) (e : ExtN H H') : Lb H' xs bs := by
  induction h with
  | nil => exact .nil
  | cons a _ ih => exact .cons (a.ext e) ih
theorem Lb.sb {G G' : Hp} {a : Addr} {u : HO} {xs : List V} {bs : List B} (h : Lb G xs bs) (ha : G a = some u) (nt : ∀ l, u ≠ .tup l) (s : Sb a G G') : Lb G' xs bs := by
  induction h with
  | nil => exact .nil
  | cons q _ ih =>
    obtain ⟨p, e1, e2⟩ := q
    exact .cons ⟨p, e1, s _ _ (ne_of e2 ha (nt _).symm) e2⟩ ih
theorem PartsAt.ext {H H' : Hp} {d : Addr} {bs : List B} (h : PartsAt H d bs) (e : ExtN H H') : PartsAt H' d bs := by
  obtain ⟨ls, e1, at_⟩ := h
  refine ⟨ls, e _ _ e1 (fun ps z => nomatch z), fun b hb => ?_⟩
  obtain ⟨xs, e2, l⟩ := at_ b hb
  exact ⟨xs, e _ _ e2 (fun ps z => nomatch z), l.ext e⟩
/-- what isn't there but for a table -/
def NewN (H : Hp) (a : Addr) : Prop := ∀ o, H a = some o → ∃ ps, o = .tbl ps
theorem newN_of {H G : Hp} {a : Addr} (e : ExtN H G) (h : G a = none) : NewN H a := fun o ho => by
  cases o with
  | tbl ps => exact ⟨ps, rfl⟩
  | _ =>
    rw [e _ _ ho (fun ps z => nomatch z)] at h
    cases h
theorem NewN.back {H G : Hp} {a : Addr} (e : ExtN H G) (h : NewN G a) : NewN H a := fun o ho => by
  cases o with
  | tbl ps => exact ⟨ps, rfl⟩
  | _ =>
    obtain ⟨ps, z⟩ := h _ (e _ _ ho (fun ps z => nomatch z))
    cases z
/-- lists of blocks -/
def LAt (H : Hp) (v : V) (bs : List B) : Prop := ∃ a zs, v = .ref a ∧ H a = some (.lst zs) ∧ Lb H zs bs ∧ zs.length < 2 ^ 20
def LL (H : Hp) (ys : List V) (ls : List (List B)) : Prop := Paired (LAt H) ys ls
theorem LAt.ext {H H' : Hp} {v : V} {bs : List B} (h : LAt H v bs) (e : ExtN H H') : LAt H' v bs := by
  obtain ⟨a, zs, h1, h2, h3, h4⟩ := h
  exact ⟨a, zs, h1, e _ _ h2 (fun ps z => nomatch z), h3.ext e, h4⟩
theorem LL.ext {H H' : Hp} {ys : List V} {ls : List (List B)} (h : LL H ys ls) (e : ExtN H H') : LL H' ys ls := by
  induction h with
  | nil => exact .nil
  | cons a _ ih => exact .cons (a.ext e) ih
theorem LL.get {H : Hp} {ys : List V} {ls : List (List B)} (h : LL H ys ls) {i : Nat} {x : V} (e : ys[i]? = some x) : ∃ b, ls[i]? = some b ∧ LAt H x b := paired_get h e
theorem LL.len {H : Hp} {ys : List V} {ls : List (List B)} (h : LL H ys ls) : ys.length = ls.length := Paired.length h
/-- the lists of steps, new ones, none of them st -/
def StAt (H G : Hp) (st : Addr) (v : V) (b : List B) : Prop := ∃ a ws, v = .ref a ∧ NewN H a ∧ a ≠ st ∧ G a = some (.lst ws) ∧ Lb G ws b ∧ ws.length < 2 ^ 20
def StepsAt (H G : Hp) (st : Addr) (zs : List V) (rs : List (List B)) : Prop := Paired (StAt H G st) zs rs
theorem StepsAt.ext {H G G' : Hp} {st : Addr} {zs : List V} {rs : List (List B)} (h : StepsAt H G st zs rs) (e : ExtN G G') : StepsAt H G' st zs rs := by
  induction h with
  | nil => exact .nil
  | cons q _ ih =>
    obtain ⟨a, ws, h1, h2, h3, h4, h5, h6⟩ := q
    exact .cons ⟨a, ws, h1, h2, h3, e _ _ h4 (fun ps z => nomatch z), h5.ext e, h6⟩ ih
theorem StepsAt.sbD {H G G' : Hp} {st d : Addr} {zs : List V} {rs : List (List B)} {kvs : List (List Key × V)} (h : StepsAt H G st zs rs) (hd : G d = some (.dT kvs)) (s : Sb d G G') : StepsAt H G' st zs rs := by
  induction h with
  | nil => exact .nil
  | cons q _ ih =>
    obtain ⟨a, ws, h1, h2, h3, h4, h5, h6⟩ := q
    exact .cons ⟨a, ws, h1, h2, h3, s _ _ (ne_of h4 hd fun z => nomatch z) h4, h5.sb hd (fun l z => nomatch z) s, h6⟩ ih
theorem StepsAt.sbS {H G G' : Hp} {st : Addr} {zs ys : List V} {rs : List (List B)} (h : StepsAt H G st zs rs) (hs : G st = some (.lst ys)) (s : Sb st G G') : StepsAt H G' st zs rs := by
  induction h with
  | nil => exact .nil
  | cons q _ ih =>
    obtain ⟨a, ws, h1, h2, h3, h4, h5, h6⟩ := q
    exact .cons ⟨a, ws, h1, h2, h3, s _ _ h3 h4, h5.sb hs (fun l z => nomatch z) s, h6⟩ ih
theorem StepsAt.len {H G : Hp} {st : Addr} {zs : List V} {rs : List (List B)} (h : StepsAt H G st zs rs) : zs.length = rs.length := Paired.length h
theorem paired_snoc {α β : Type} {R : α → β → Prop} {xs : List α} {ys : List β} {x : α} {y : β} (h : Paired R xs ys) (t : R x y) : Paired R (xs ++ [x]) (ys ++ [y]) := by
  induction h with
  | nil => exact .cons t .nil
  | cons a _ ih => exact .cons a ih
/-! ### perms -/
theorem lb_perm {H : Hp} {ys xs : List V} (p : ys.Perm xs) : ∀ {bs : List B}, Lb H xs bs → ∃ cs, Lb H ys cs ∧ cs.Perm bs := by
  induction p with
  | nil => exact fun {bs} h => ⟨bs, h, .refl _⟩
  | cons x _ ih =>
    intro bs h
    cases h with
    | cons a r =>
      obtain ⟨cs, h1, h2⟩ := ih r
      exact ⟨_ :: cs, .cons a h1, h2.cons _⟩
  | swap x y l =>
    intro bs h
    cases h with
    | cons a r =>
      cases r with
      | cons b r => exact ⟨_ :: _ :: _, .cons b (.cons a r), .swap ..⟩
  | trans _ _ ih1 ih2 =>
    intro bs h
    obtain ⟨cs, h1, h2⟩ := ih2 h
    obtain ⟨ds, h3, h4⟩ := ih1 h1
    exact ⟨ds, h3, h4.trans h2⟩
theorem lb_pw {H : Hp} {R : V → V → Prop} {S : B → B → Prop} (hRS : ∀ x y a b, Tb H x a → Tb H y b → R x y → S a b) {ys : List V} {cs : List B} (h : Lb H ys cs) (w : ys.Pairwise R) : cs.Pairwise S := by
  induction h with
  | nil => exact .nil
  | cons a r ih =>
    cases w with
    | cons w1 w2 =>
      refine .cons (fun c hc => ?_) (ih w2)
      obtain ⟨i, hi⟩ := List.mem_iff_getElem?.mp hc
      have li : i < _ := (List.getElem?_eq_some_iff.mp hi).1
      rw [← Lb.len r] at li
      obtain ⟨b, hb, tb⟩ := Lb.get r (List.getElem?_eq_getElem li)
      rw [hi] at hb
      cases hb
      exact hRS _ _ _ _ a tb (w1 _ (List.getElem_mem li))
theorem paired_perm {R : V → B → Prop} {ys xs : List V} (p : ys.Perm xs) : ∀ {bs : List B}, Paired R xs bs → ∃ cs, Paired R ys cs ∧ cs.Perm bs := by
  induction p with
  | nil => exact fun {bs} h => ⟨bs, h, .refl _⟩
  | cons x _ ih =>
    intro bs h
    cases h with
    | cons a r =>
      obtain ⟨cs, h1, h2⟩ := ih r
      exact ⟨_ :: cs, .cons a h1, h2.cons _⟩
  | swap x y l =>
    intro bs h
    cases h with
    | cons a r =>
      cases r with
      | cons b r => exact ⟨_ :: _ :: _, .cons b (.cons a r), .swap ..⟩
  | trans _ _ ih1 ih2 =>
    intro bs h
    obtain ⟨cs, h1, h2⟩ := ih2 h
    obtain ⟨ds, h3, h4⟩ := ih1 h1
    exact ⟨ds, h3, h4.trans h2⟩
theorem paired_pw {T : V → B → Prop} {R : V → V → Prop} {S : B → B → Prop} (hRS : ∀ x y a b, T x a → T y b → R x y → S a b) {ys : List V} {cs : List B} (h : Paired T ys cs) (w : ys.Pairwise R) : cs.Pairwise S := by
  induction h with
  | nil => exact .nil
  | cons a r ih =>
    cases w with
    | cons w1 w2 =>
      refine .cons (fun c hc => ?_) (ih w2)
      obtain ⟨i, hi⟩ := List.mem_iff_getElem?.mp hc
      have li : i < _ := (List.getElem?_eq_some_iff.mp hi).1
      have ll := Paired.length r
      rw [← ll] at li
      obtain ⟨b, hb, tb⟩ := paired_get r (List.getElem?_eq_getElem li)
      rw [hi] at hb
      cases hb
      exact hRS _ _ _ _ a tb (w1 _ (List.getElem_mem li))
theorem lb_mem {H : Hp} {xs : List V} {bs : List B} (h : Lb H xs bs) {x : V} (m : x ∈ xs) : ∃ b ∈ bs, Tb H x b := by
  obtain ⟨i, hi⟩ := List.mem_iff_getElem?.mp m
  obtain ⟨b, hb, t⟩ := h.get hi
  exact ⟨b, List.mem_of_getElem? hb, t⟩
theorem take_lb {H : Hp} : ∀ {n : Nat} {xs : List V} {bs : List B}, Lb H xs bs → Lb H (xs.take n) (bs.take n)
  | 0, _, _, _ => by rw [List.take_zero, List.take_zero]; exact .nil
  | n + 1, _, _, .nil => by rw [List.take_nil, List.take_nil]; exact .nil
  | n + 1, _, _, .cons a r => by rw [List.take_succ_cons, List.take_succ_cons]; exact .cons a (take_lb r)
theorem cutT (ys : List V) (k : Nat) : cutV ys none (some (k : Int)) = ys.take k := by
  unfold cutV
  rw [HT.sIx_nat, HT.sIx_none, List.drop_zero, Nat.sub_zero]
  by_cases h : k ≤ ys.length
  · rw [Nat.min_eq_left h]
  · rw [Nat.min_eq_right (by omega), List.take_length, List.take_of_length_le (by omega)]
/-! ### as data -/
def pd (b : B) : PyData := .tuple [.int b.1, .int b.2]
theorem dp_lb {K : PySem.W.Frag} {H : Hp} {xs : List V} {bs : List B} (h : Lb H xs bs) : DpAll K H xs (bs.map pd) := by
  induction h with
  | nil => exact .nil
  | cons q _ ih =>
    obtain ⟨p, e1, e2⟩ := q
    subst e1
    exact .cons (.tup (SqT.of e2) (.cons (.int _) (.cons (.int _) .nil))) ih
theorem pd_lay (bs : List B) : PyData.canLayAll0 (bs.map pd) = true := by
  induction bs with
  | nil => rfl
  | cons a t ih =>
    rw [List.map_cons]
    simp only [PyData.canLayAll0, pd, PyData.canLay0, Bool.and_true, Bool.true_and]
    exact ih
theorem pd_depth (bs : List B) : PyData.depthAll (bs.map pd) ≤ 1 := by
  induction bs with
  | nil => simp [PyData.depthAll]
  | cons a t ih =>
    rw [List.map_cons]
    simp only [PyData.depthAll, pd, PyData.depth]
    omega
theorem shaped_pd (b : B) : SeqAt.shaped (pd b) = true := by
  unfold SeqAt.shaped pd
  simp [PyData.canLay0, PyData.canLayAll0, PyData.depth, PyData.depthAll]
theorem shaped_pds (bs : List B) : SeqAt.shaped (.list (bs.map pd)) = true := by
  unfold SeqAt.shaped
  have h1 := pd_lay bs
  have h2 := pd_depth bs
  simp only [PyData.canLay0, h1, Bool.true_and, decide_eq_true_eq]
  show PyData.depthAll _ + 1 ≤ 64
  omega
theorem eqv_pd (a b : B) : PyData.eqv (pd a) (pd b) = decide (a = b) := by
  rw [Bool.eq_iff_iff]
  simp [PyData.eqv, PyData.eqvAll, pd, Prod.ext_iff]
theorem any_pds (bs : List B) (b : B) : ((bs.map pd).any fun z => PyData.eqv z (pd b)) = decide (b ∈ bs) := by
  rw [Bool.eq_iff_iff, List.any_eq_true, decide_eq_true_eq]
  constructor
  · rintro ⟨z, hz, e⟩
    obtain ⟨a, ha, rfl⟩ := List.mem_map.mp hz
    rw [eqv_pd, decide_eq_true_eq] at e
    rw [← e]
    exact ha
  · intro h
    exact ⟨pd b, List.mem_map.mpr ⟨b, h, rfl⟩, by rw [eqv_pd, decide_eq_true_eq]⟩
end K36
/-! steps_run. -/
namespace K36
open PySem PySem.Spec PyProof.Rows L2 LamX SfLam SfKey
/-- the name of the lambda -/
def lamN : Str := "steps_run.<locals>.<lambda>"
theorem hu65 {A : Around} {k : Nat} (hr : Room k A) : A.units + 65 < cLine := by
  have := hr.un
  omega
/-- what the lambda tells -/
def tKey : TE := tTup (tCons (tUn (rU fun i => .int (-i)) (tDGet (tVar 4) (tVar 11))) (tCons (tVar 11) tNil))
def TbL (Pt : Addr) : List (Addr × Str) := [(Pt, lamN)]
/-- what steps_run, run and schedule are given -/
structure RunIn (H : Hp) (l : Addr) (n : Int) (xs : List V) (bs : List B) (N : Int) : Prop where
  el : H l = some (.lst xs)
  lb : Lb H xs bs
  lz : xs.length < 2 ^ 20
  up : UpB bs
  good : ∀ b ∈ bs, OkB N b
  hands : 1 ≤ n
theorem RunIn.ext {H H' : Hp} {l : Addr} {n : Int} {xs : List V} {bs : List B} {N : Int} (r : RunIn H l n xs bs N) (e : ExtN H H') : RunIn H' l n xs bs N := ⟨e _ _ r.el (fun ps z => nomatch z), r.lb.ext e, r.lz, r.up, r.good, r.hands⟩
def spSR (Pt : Addr) : Sp := fun vs H Q _ => ∃ (l ll : Addr) (n N : Int) (xs ys : List V) (bs : List B) (ls : List (List B)), vs = [.ref l, .int n, .ref ll] ∧ RunIn H l n xs bs N ∧ H ll = some (.lst ys) ∧ LL H ys ls ∧ ys.length < 2 ^ 20 ∧ Tabs (TbL Pt) H ∧
  ∀ p zs H', ExtN H H' → Tabs (TbL Pt) H' → NewN H p → H' p = some (.lst zs) → StepsAt H H' p zs (runS bs n.toNat ls) → Q (.ref p) H'
/-- e, read otherwise -/
theorem pe_mono {X : Cx} {e : Expr} {te te' : TE} (he : PE X e te) (h : ∀ σ H Q, te' σ H Q → te σ H Q) : PE X e te' := ⟨fun pins s σ H Q I q => he.run pins s σ H Q I (h σ H Q q)⟩
theorem filt_step {bs : List B} {p : B → Bool} {j : Nat} {b : B} (hb : bs[j]? = some b) : (bs.take (j + 1)).filter p = (bs.take j).filter p ++ (if p b then [b] else []) := by
  rw [take_one hb, List.filter_append, List.filter_cons]
  split <;> rfl
/-- what is lost in this step -/
def tLost : TE := fun σ H Q => ∃ (st ll : Addr) (zs ys : List V) (ls : List (List B)), σ[6]? = some (some (.ref st)) ∧ σ[2]? = some (some (.ref ll)) ∧ H st = some (.lst zs) ∧ H ll = some (.lst ys) ∧ LL H ys ls ∧
  ∀ a ws G, Same H G → G a = some (.lst ws) → Lb G ws (ls.getD zs.length []) → Q (.ref a) G
theorem lost_rd {K : PySem.W.Frag} : ∀ (σ : L2.St) (H : Hp) (Q : VK), tLost σ H Q → tIf (tTest (tOp (rI0 fun i j => V.bl (decide (i < j))) (tCB (fun xs H Q => ∃ p ys, xs = [V.ref p] ∧ (SqL K H p ys ∨ SqT K H p ys) ∧ Q (V.int ys.length) H) (tCons (tVar 6) tNil)) (tCB (fun xs H Q => ∃ p ys, xs = [V.ref p] ∧ (SqL K H p ys ∨ SqT K H p ys) ∧ Q (V.int ys.length) H) (tCons (tVar 2) tNil))))
    (tOp (rIxL K) (tVar 2) (tCB (fun xs H Q => ∃ p ys, xs = [V.ref p] ∧ (SqL K H p ys ∨ SqT K H p ys) ∧ Q (V.int ys.length) H) (tCons (tVar 6) tNil))) (tLst tNil) σ H Q := by
  rintro σ H Q ⟨st, ll, zs, ys, ls, v6, v2, eS, eL, lL, k⟩
  refine ⟨_, v6, st, zs, rfl, .inl (SqL.of eS), _, v2, ll, ys, rfl, .inl (SqL.of eL), _, _, rfl, rfl, _, rfl, ?_⟩
  by_cases lt : zs.length < ys.length
  · refine itT (decide_eq_true (by omega)) ?_
    have hv := List.getElem?_eq_getElem lt
    obtain ⟨b, hb, a, ws, ea, ha, la, _⟩ := lL.get hv
    refine ⟨_, v2, _, v6, st, zs, rfl, .inl (SqL.of eS), ll, ys, _, _, rfl, rfl, SqL.of eL, atI_nat hv, ?_⟩
    rw [ea]
    refine k a ws H (fun _ _ e => e) ha ?_
    rw [List.getD_eq_getElem?_getD, hb]
    exact la
  · refine itF (decide_eq_false (by omega)) ?_
    refine ⟨Nat.zero_le _, fun a ha => k a [] _ (same_new ha) upd_same ?_⟩
    rw [List.getD_eq_getElem?_getD, List.getElem?_eq_none (by rw [← lL.len]; omega)]
    exact .nil
section
variable {P : Program} {w : World} {K : PySem.W.Frag} {mg : Str → Option Value} {base : Heap} {f fBP fBD fR c Pt : Addr} {fd fdBP fdBD fdR : FuncData}
theorem ok_sr (F : FnP K dPStepsRun f fd) (hc : fd.code = .ref c) (TB : LamX.TabB base mg c Pt) (FB : FnP K dPBlockParts fBP fdBP) (GB : FnOk P w K mg base CX0 2 fBP fdBP ["grouping"] spBP) (gB : mg "block_parts" = some (.ref fBP)) (FD : FnP K dPBlockDepths fBD fdBD) (GD : FnOk P w K mg base CX0 1 fBD fdBD ["grouping"] spBD) (gD : mg "block_depths" = some (.ref fBD))
    (FR : FnP K dPIsReady fR fdR) (GR : FnOk P w K mg base CX0 1 fR fdR ["parts", "done", "block"] spRd) (gR : mg "is_ready" = some (.ref fR)) (gLe : mg "len" = none) (gSo : mg "sorted" = none) :
    FnOk P w K mg base CX0 5 f fd ["grouping", "hands", "losses"] (spSR Pt) := by
  have bB : Binds K fdBP ["grouping"] [] := FB.bindsN fun _ _ _ _ _ _ us hl => match us, hl with | [_], _ => rfl
  have bD : Binds K fdBD ["grouping"] [] := FD.bindsN fun _ _ _ _ _ _ us hl => match us, hl with | [_], _ => rfl
  have bR : Binds K fdR ["parts", "done", "block"] [] := FR.bindsN fun _ _ _ _ _ _ us hl => match us, hl with | [_, _, _], _ => rfl
  refine F.okC scSR (fun vs H Q E h => ?_) (fun A outer s H vs Q E hr h => ⟨_, PSs.nox (
    pss_cons (ps_asg (pe_tup (pa_cons (pe_call GB (hr.mono (by decide)) rfl gB FB.kp bB .nil pass0 (pa_cons (pv 0) pa_nil)) (pa_cons (pe_call GD (hr.mono (by decide)) rfl gD FD.kp bD .nil pass0 (pa_cons (pv 0) pa_nil)) pa_nil)))
        (pg_tup rfl (pgs_cons (pg_name (i := 3) scSR.nd rfl (.inr rfl)) (pgs_cons (pg_name (i := 4) scSR.nd rfl (.inr rfl)) pgs_nil))))
    (pss_cons (ps_set (i := 5) scSR.nd rfl (.inr rfl) pe_dnewT)
    (pss_cons (ps_set (i := 6) scSR.nd rfl (.inl rfl) (pe_lst pa_nil))
    (pss_cons (ps_while PassesOwn.never (pt_cmpR op_lt (pe_callB call_len_dT rfl gLe (by decide +kernel) (pa_cons (pv 5) pa_nil)) (pe_callB call_len_seq rfl gLe (by decide +kernel) (pa_cons (pv 0) pa_nil)) (nomark _))
      (pss_cons (ps_setLc (i := 7) (own := [("block", 10)]) (g := gName 10) (te := tVar 10) rfl scSR.nd rfl rfl (sw_true rfl rfl rfl (by decide +kernel)) (pi_list (pv 0)) (blkOk_by (N := nSR) (sc := defScope sPStepsRun) (by decide +kernel))
          (fun _ _ _ _ _ => pg_name (i := 10) scSR.nd rfl (.inl rfl)) (fun _ _ _ _ _ => pts_one (PW.pt (pw_and (pt_cmp (pc_dnotin (hu_of hr) (pv 10) (pv 5))) (pw_and1 (pt_val (pe_call GR (hr.mono (by decide)) rfl gR FR.kp bR .nil pass0 (pa_cons (pv 3) (pa_cons (pv 5) (pa_cons (pv 10) pa_nil)))))))))
          (fun _ _ _ _ _ => pv 10))
      (pss_cons (ps_set (i := 8) scSR.nd rfl (.inl rfl) (pe_slice sl_list (pe_sortLam (T := TbL Pt) (i := 11) (k := 1) (par := "one") (tb := tKey) rfl gSo (pv 7) TB (by show fd.code = _; exact hc) (by show (Pt, _) ∈ TbL Pt; exact List.mem_singleton.mpr rfl) (fun p hp _ => by rw [List.mem_singleton.mp hp]; rfl) hr lamSR rfl
          (fun _ _ _ _ _ _ => rfl) scSR.nd rfl (fun A' s' H' f' c' hr' => pe_tup (pa_cons (pe_un un_neg (pe_dget (hu_of hr') (pv 4) (pv 11) (fun _ _ => rfl))) (pa_cons (pv 11) pa_nil)))) po_none (po_some (pv 1))))
      (pss_cons (ps_set (i := 9) scSR.nd rfl (.inr rfl) (pe_mono (te' := tLost) (pe_ifExp (pt_cmpR op_lt (pe_callB call_len_seq rfl gLe (by decide +kernel) (pa_cons (pv 6) pa_nil)) (pe_callB call_len_seq rfl gLe (by decide +kernel) (pa_cons (pv 2) pa_nil)) (nomark _))
          (pe_ix ix_list (pv 2) (pe_callB call_len_seq rfl gLe (by decide +kernel) (pa_cons (pv 6) pa_nil)) (fun _ _ => rfl)) (pe_lst pa_nil)) lost_rd))
      (pss_cons (ps_expr (pe_bm PySem.F.plainAttrs_list PySem.F.slot_list_append PySem.F.type_list_append mt_append (pv 6) (pa_cons (pe_callB cr_sortedPO rfl gSo (by decide +kernel) (pa_cons
          (pe_lc (own := [("block", 10)]) (g := gName 10) (tt := tTest (tOp (rNotInD K) (tVar 10) (tVar 9))) (te := tVar 10) rfl scSR.nd (pi_list (pv 8)) (blkOk_by (N := nSR) (sc := defScope sPStepsRun) (by decide +kernel))
            (fun _ _ _ _ _ => pg_name (i := 10) scSR.nd rfl (.inl rfl)) (fun _ _ _ _ _ => pts_one (pt_cmpR (op_notInD (hu65 hr)) (pv 10) (pv 9) rfl)) (fun _ _ _ _ _ => pv 10)) pa_nil)) pa_nil)))
      (pss_one (ps_for PassesOwn.never rfl (pi_list (pe_ix ix_list (pv 6) (pe_un un_neg pe_int) (fun _ _ => rfl))) (pg_name (i := 10) scSR.nd rfl (.inl rfl)) (pss_one (ps_dput (hu_of hr) (pv 5) (pv 10) pe_bl rfl)))))))))
    (pss_one (ps_ret (pv 6))))))), ?_⟩)
  · obtain ⟨l, ll, n, N, xs, ys, bs, ls, rfl, _⟩ := h
    rfl
  · obtain ⟨l, ll, n, N, xs, ys, bs, ls, rfl, R0, eLL, lL, yz, hT, k⟩ := h
    have bz : bs.length < 2 ^ 20 := by
      rw [← R0.lb.len]
      exact R0.lz
    have lz : ls.length < 2 ^ 20 := by
      rw [← lL.len]
      exact yz
    have nd := R0.up.nodup
    have hh : 1 ≤ n.toNat := by
      have := R0.hands
      omega
    have hn : ((n.toNat : Nat) : Int) = n := Int.toNat_of_nonneg (by have := R0.hands; omega)
    have two : 2 ≤ sizeLine := by
      rw [sizeLine_eq]
      decide
    refine ⟨_, rfl, l, xs, bs, N, rfl, R0.el, R0.lb, R0.lz, R0.up, R0.good, fun d1 H1 s1 n1 pA => ?_⟩
    refine ⟨_, rfl, l, xs, bs, rfl, s1 _ _ R0.el, R0.lb.same s1, R0.lz, nd, fun d2 H2 s2 n2 eD => ?_⟩
    refine ⟨two, fun t ht => ?_⟩
    have s3 : Same H2 (upd H2 t (.tup [.ref d1, .ref d2])) := same_new ht
    refine ⟨t, _, rfl, SqT.of upd_same, rfl, _, _, rfl, _, _, rfl, rfl, ?_⟩
    generalize hG3 : upd H2 t (.tup [.ref d1, .ref d2]) = H3 at s3 ⊢
    have pA3 : PartsAt H3 d1 bs := (pA.ext (ExtN.of s2)).ext (ExtN.of s3)
    have eD3 := s3 _ _ eD
    have s03 : Same H H3 := (s1.trans s2).trans s3
    have e03 : ExtN H H3 := ExtN.of s03
    intro dn hdn
    refine ⟨by rw [sizeLine_eq]; exact Nat.zero_le _, fun st hst => ?_⟩
    have s34 : Same H3 (upd H3 dn (.dT [])) := same_new hdn
    have s45 : Same (upd H3 dn (.dT [])) (upd (upd H3 dn (.dT [])) st (.lst [])) := same_new hst
    have hst3 : H3 st = none := s34.free hst
    have ned : dn ≠ st := ne_of_none upd_same hst
    obtain ⟨W, hW⟩ : ∃ W : Nat → L2.St → Hp → Prop, W = fun m σ G => ∃ (S : List B) (pre : List (List B)) (zs : List V) (u7 u8 u9 u10 : Option V), m = runM bs ls S pre.length ∧
      σ = [some (.ref l), some (.int n), some (.ref ll), some (.ref d1), some (.ref d2), some (.ref dn), some (.ref st), u7, u8, u9, u10, none] ∧ ExtN H3 G ∧ Tabs (TbL Pt) G ∧ DoneAt G dn S ∧ G st = some (.lst zs) ∧ StepsAt H G st zs pre ∧ RunAt bs S ∧ Told bs n.toNat ls pre S := ⟨_, rfl⟩
    refine ⟨W, ⟨runM bs ls [] 0, ?_⟩, ?_⟩
    · rw [hW]
      refine ⟨[], [], [], none, none, none, none, rfl, rfl, (ExtN.of s34).trans (ExtN.of s45), ((hT.ext s03).ext s34).ext s45, ?_, upd_same, .nil, RunAt.nil, Told.start⟩
      show upd _ st _ dn = _
      rw [upd_ne ned, upd_same]
      rfl
    · intro m σ G h
      rw [hW] at h
      obtain ⟨S, pre, zs, u7, u8, u9, u10, rfl, rfl, eG, tG, dG, sG, stG, RA, TD⟩ := h
      have pz := TD.le
      have e0G : ExtN H G := e03.trans eG
      have R := R0.ext e0G
      refine ⟨_, rfl, dn, _, rfl, dG, _, rfl, l, xs, rfl, .inl (SqL.of R.el), _, _, rfl, rfl, _, rfl, ?_⟩
      by_cases lt : S.length < bs.length
      · refine itT (decide_eq_true (by rw [dB_len, R0.lb.len]; omega)) ?_
        refine ⟨fun σ' G' => ∃ m', m' < runM bs ls S pre.length ∧ W m' σ' G', fun _ _ h => h, ?_⟩
        have pG := pA3.ext eG
        have dG2 : G d2 = some (.dT (dB bs fun b => .int (dep bs b))) := eG _ _ eD3 (fun ps z => nomatch z)
        have lLG := lL.ext e0G
        have eLG : G ll = some (.lst ys) := e0G _ _ eLL (fun ps z => nomatch z)
        -- ready
        refine ⟨_, rfl, l, rfl, ⟨_, SqL.of R.el⟩, fun L hL => ?_⟩
        refine lc_it (walk_list (xs := xs)) (fun j G' => Same G G' ∧ ∃ rs, G' L = some (.lst rs) ∧ rs.length ≤ j ∧ Lb G' rs ((bs.take j).filter fun b => !decide (b ∈ S) && readyB bs S b)) ⟨same_new hL, [], upd_same, Nat.le_refl _, .nil⟩ (fun j G' _ q => SqL.of (q.1 _ _ R.el)) ?_ ?_
        · rintro j x G1 G2 hj ⟨sm, rs, eZ, rz, bZ⟩ ⟨eq, hx⟩
          subst eq
          obtain ⟨b, hb, q, eq, tq⟩ := R.lb.get hx
          subst eq
          have mb : b ∈ bs := List.mem_of_getElem? hb
          have step := filt_step (p := fun b => !decide (b ∈ S) && readyB bs S b) hb
          refine ⟨rfl, _, rfl, _, rfl, dn, _, rfl, DGet.t (k := kB b) (sm _ _ dG) (sm _ _ tq), _, rfl, ?_⟩
          by_cases mS : b ∈ S
          · rw [decide_eq_true mS] at step
            refine itF (by rw [dB_get mS]; rfl) ⟨sm, rs, eZ, by omega, ?_⟩
            rw [step]
            simpa using bZ
          · rw [decide_eq_false mS] at step
            refine itT (by rw [dB_no mS]; rfl) ⟨_, rfl, _, rfl, _, rfl, d1, dn, q, bs, S, b, rfl, pG.ext (ExtN.of sm), sm _ _ dG, sm _ _ tq, mb, fun G3 s3 => ⟨_, rfl, ?_⟩⟩
            cases hr : readyB bs S b with
            | true =>
              rw [hr] at step
              refine ⟨_, rfl, rs, s3 _ _ eZ, ?_, fun a o e => ?_, rs ++ [.ref q], upd_same, ?_, ?_⟩
              · rw [sizeLine_eq]
                rw [R.lb.len] at hj
                omega
              · rw [upd_ne (ne_of_none e hL)]
                exact s3 _ _ (sm _ _ e)
              · rw [List.length_append]
                show rs.length + 1 ≤ j + 1
                omega
              · rw [step]
                refine lb_snoc ((bZ.same s3).sb (s3 _ _ eZ) (fun l z => nomatch z) (Sb.upd (.inr rfl))) ⟨q, rfl, ?_⟩
                have tq3 := s3 _ _ (sm _ _ tq)
                rw [upd_ne (ne_of tq3 (s3 _ _ eZ) (fun z => nomatch z))]
                exact tq3
            | false =>
              rw [hr] at step
              refine ⟨sm.trans s3, rs, s3 _ _ eZ, by omega, ?_⟩
              rw [step]
              simpa using bZ.same s3
        rintro G1 ⟨sm, rs, eZ, rz, bZ⟩
        rw [R.lb.len, List.take_length] at bZ
        have bZ : Lb G1 rs (readyL bs S) := bZ
        have tG1 := tG.ext sm
        -- taken
        refine ⟨_, rfl, L, rs, fun v => -dep bs (pairOf G1 v), rfl, SqL.of eZ, tG1, fun x mx => ?_, fun x mx H' e' t' => ?_, fun ys1 p G3 e3 t3 perm pw hp => ?_⟩
        · obtain ⟨b, _, q, e1, e2⟩ := lb_mem bZ mx
          exact ⟨q, b.1, b.2, e1, e2⟩
        · obtain ⟨b, mb, q, e1, e2⟩ := lb_mem bZ mx
          subst e1
          have mbs : b ∈ bs := (List.mem_filter.mp mb).1
          have tq := e' _ _ e2 (fun ps z => nomatch z)
          have dq := e' _ _ (sm _ _ dG2) (fun ps z => nomatch z)
          have g1 := DGet.t (k := kB b) dq tq
          rw [dB_get mbs] at g1
          refine ⟨_, rfl, _, rfl, d2, _, rfl, g1, _, rfl, _, rfl, two, fun u hu => ⟨ExtN.of (same_new hu), t'.ext (same_new hu), u, rfl, ?_⟩⟩
          rw [upd_same]
          show some (HO.tup [V.int (-dep bs b), V.ref q]) = some (HO.tup [V.int (-dep bs (pairOf G1 (.ref q))), V.ref q])
          rw [pairOf_at e2]
        refine ⟨_, rfl, n, rfl, p, ys1, rfl, SqL.of upd_same, fun p' hp' => ?_⟩
        -- what is taken
        have e34 : ExtN G3 (upd (upd G3 p (.lst ys1)) p' (.lst (cutV ys1 none (some n)))) := (ExtN.of (same_new hp)).trans (ExtN.of (same_new hp'))
        have hT4 : Tabs (TbL Pt) (upd (upd G3 p (.lst ys1)) p' (.lst (cutV ys1 none (some n)))) := (t3.ext (same_new hp)).ext (same_new hp')
        have eTk : (upd (upd G3 p (.lst ys1)) p' (.lst (cutV ys1 none (some n)))) p' = some (.lst (ys1.take n.toNat)) := by
          rw [upd_same]
          have q := cutT ys1 n.toNat
          rw [hn] at q
          rw [q]
        obtain ⟨cs, lc, pc⟩ := lb_perm perm bZ
        have srt : cs = sortB (dLt bs) (readyL bs S) := by
          refine sortB_eq (lin_dLt bs) pc (lb_pw (fun x y a b ta tb hxy => ?_) lc pw)
          obtain ⟨qa, ea, ga⟩ := ta
          obtain ⟨qb, eb, gb⟩ := tb
          subst ea eb
          have hxy : lt3 (-dep bs (pairOf G1 (.ref qb)), pairOf G3 (.ref qb)) (-dep bs (pairOf G1 (.ref qa)), pairOf G3 (.ref qa)) = false := hxy
          rw [pairOf_at ga, pairOf_at gb, pairOf_at (e3 _ _ ga (fun ps z => nomatch z)), pairOf_at (e3 _ _ gb (fun ps z => nomatch z))] at hxy
          exact hxy
        have lT : Lb G3 (ys1.take n.toNat) (chosenB bs S n.toNat) := by
          unfold chosenB
          rw [← srt]
          exact take_lb (lc.ext e3)
        have lTk := lT.ext e34
        have chLe : (chosenB bs S n.toNat).length ≤ bs.length := len_sub ((sortB_perm.nodup_iff.mpr (nd.sublist List.filter_sublist)).sublist (List.take_sublist ..)) fun b hb => (mem_chosen hb).1
        generalize (upd (upd G3 p (.lst ys1)) p' (.lst (cutV ys1 none (some n)))) = G4 at e34 hT4 eTk lTk ⊢
        have eG4 : ExtN G G4 := ((ExtN.of sm).trans e3).trans e34
        -- lost
        refine ⟨st, ll, zs, ys, ls, rfl, rfl, eG4 _ _ sG (fun ps z => nomatch z), eG4 _ _ eLG (fun ps z => nomatch z), lLG.ext eG4, fun lo ws G5 s5 eLo bLo => ?_⟩
        have zp : zs.length = pre.length := stG.len
        rw [zp] at bLo
        generalize hlost : ls.getD pre.length [] = lost at bLo
        have eG5 : ExtN G G5 := extN_same eG4 s5
        have lT5 := lTk.same s5
        have eT5 := s5 _ _ eTk
        -- kept
        refine ⟨_, rfl, .inl ⟨rfl, _, SqL.of (eG5 _ _ sG (fun ps z => nomatch z))⟩, ?_⟩
        refine ⟨_, rfl, p', rfl, ⟨_, SqL.of eT5⟩, fun L2 hL2 => ?_⟩
        refine lc_it (walk_list (xs := ys1.take n.toNat)) (fun j G' => Same G5 G' ∧ ∃ rs, G' L2 = some (.lst rs) ∧ rs.length ≤ j ∧ Lb G' rs (((chosenB bs S n.toNat).take j).filter fun b => !decide (b ∈ lost))) ⟨same_new hL2, [], upd_same, Nat.le_refl _, .nil⟩ (fun j G' _ q => SqL.of (q.1 _ _ eT5)) ?_ ?_
        · rintro j x G6 G7 hj ⟨sm6, rs6, eZ6, rz6, bZ6⟩ ⟨eq, hx⟩
          subst eq
          obtain ⟨b, hb, q, eq, tq⟩ := lT5.get hx
          subst eq
          have step := filt_step (p := fun b => !decide (b ∈ lost)) hb
          have tq6 := sm6 _ _ tq
          refine ⟨rfl, _, rfl, _, rfl, pd b, lost.map pd, .tup (SqT.of tq6) (.cons (.int _) (.cons (.int _) .nil)), .lst (SqL.of (sm6 _ _ eLo)) (dp_lb (bLo.same sm6)), shaped_pd b, shaped_pds lost, _, rfl, ?_⟩
          rw [any_pds]
          by_cases mL : b ∈ lost
          · rw [decide_eq_true mL] at step ⊢
            refine ⟨sm6, rs6, eZ6, by omega, ?_⟩
            rw [step]
            simpa using bZ6
          · rw [decide_eq_false mL] at step ⊢
            refine ⟨_, rfl, rs6, eZ6, ?_, fun a o e => ?_, rs6 ++ [.ref q], upd_same, ?_, ?_⟩
            · rw [sizeLine_eq]
              have := lT5.len
              omega
            · rw [upd_ne (ne_of_none e hL2)]
              exact sm6 _ _ e
            · rw [List.length_append]
              show rs6.length + 1 ≤ j + 1
              omega
            · rw [step]
              refine lb_snoc (bZ6.sb eZ6 (fun l z => nomatch z) (Sb.upd (.inr rfl))) ⟨q, rfl, ?_⟩
              rw [upd_ne (ne_of tq6 eZ6 (fun z => nomatch z))]
              exact tq6
        rintro G6 ⟨sm6, rs6, eZ6, rz6, bZ6⟩
        rw [lT5.len, List.take_length] at bZ6
        have bZ6 : Lb G6 rs6 (keptB bs S n.toNat lost) := bZ6
        refine ⟨L2, rs6, pairOf G6, rfl, SqL.of eZ6, fun x mx => ?_, fun ys2 p2 so sb hp2 => ?_⟩
        · obtain ⟨b, _, q, e1, e2⟩ := lb_mem bZ6 mx
          subst e1
          exact ⟨q, rfl, by rw [pairOf_at e2]; exact e2⟩
        obtain ⟨ms, lm, pm⟩ := lb_perm sb.perm bZ6
        have srt2 : ms = sortB bLt (keptB bs S n.toNat lost) := by
          refine sortB_eq lin_bLt pm (lb_pw (fun x y a b ta tb hxy => ?_) lm so)
          obtain ⟨qa, ea, ga⟩ := ta
          obtain ⟨qb, eb, gb⟩ := tb
          subst ea eb
          have hxy : SrtO.lexB (pairOf G6 (.ref qb)) (pairOf G6 (.ref qa)) = false := hxy
          rw [pairOf_at ga, pairOf_at gb] at hxy
          rw [Bool.eq_false_iff]
          intro z
          exact SrtO.lexB_no.mp hxy (bLt_iff.mp z)
        have eG6 : ExtN G G6 := extN_same eG5 sm6
        have s67 : Same G6 (upd G6 p2 (.lst ys2)) := same_new hp2
        have eG7 : ExtN G (upd G6 p2 (.lst ys2)) := extN_same eG6 s67
        have st7 : (upd G6 p2 (.lst ys2)) st = some (.lst zs) := eG7 _ _ sG (fun ps z => nomatch z)
        have dn7 := eG7 _ _ dG (fun ps z => nomatch z)
        have lm7 := lm.same s67
        have nst : p2 ≠ st := fun z => by
          have q := eG6 _ _ sG (fun ps z => nomatch z)
          rw [← z, hp2] at q
          cases q
        have tb7 : Tabs (TbL Pt) (upd G6 p2 (.lst ys2)) := ((hT4.ext s5).ext sm6).ext s67
        refine ⟨st, zs, _, rfl, rfl, st7, ?_, ?_⟩
        · rw [sizeLine_eq]
          omega
        have p27 : (upd G6 p2 (.lst ys2)) p2 = some (.lst ys2) := upd_same
        have nw : NewN H p2 := newN_of (e0G.trans eG6) hp2
        have e37 : ExtN H3 (upd G6 p2 (.lst ys2)) := eG.trans eG7
        generalize (upd G6 p2 (.lst ys2)) = G7 at s67 eG7 st7 dn7 lm7 tb7 p27 e37 ⊢
        have sb8 : Sb st G7 (upd G7 st (.lst (zs ++ [.ref p2]))) := Sb.upd (.inr rfl)
        have st8 : (upd G7 st (.lst (zs ++ [.ref p2]))) st = some (.lst (zs ++ [.ref p2])) := upd_same
        generalize (upd G7 st (.lst (zs ++ [.ref p2]))) = G8 at sb8 st8 ⊢
        have dn8 : DoneAt G8 dn S := sb8 _ _ ned dn7
        have p28 := sb8 _ _ nst p27
        have lm8 := lm7.sb st7 (fun l z => nomatch z) sb8
        have tb8 := tabs_sb tb7 st7 (fun ps z => nomatch z) (fun c q z => nomatch z) sb8
        have e38 := extN_sb e37 hst3 sb8
        have stp8 : StepsAt H G8 st (zs ++ [.ref p2]) (pre ++ [ms]) := by
          refine paired_snoc ((stG.ext eG7).sbS st7 sb8) ⟨p2, ys2, rfl, nw, nst, p28, lm8, ?_⟩
          have a1 := lm.len
          have a2 := pm.length_eq
          have a3 : (keptB bs S n.toNat lost).length ≤ (chosenB bs S n.toNat).length := List.length_filter_le ..
          omega
        -- done
        have atL : atI (zs ++ [V.ref p2]) (-1) = some (.ref p2) := atI_last zs (.ref p2)
        have RN := RA.next nd (lost := lost) pm
        have msl : ms.length ≤ bs.length := len_sub (List.nodup_append.mp RN.nd).2.1 fun b hb => RN.sub b (List.mem_append_right _ hb)
        refine ⟨_, rfl, 1, rfl, st, zs ++ [.ref p2], -1, .ref p2, rfl, rfl, SqL.of st8, atL, p2, rfl, ⟨_, SqL.of p28⟩, ?_⟩
        refine for_it (walk_list (xs := ys2)) (fun i τ G' => (∃ v10, τ = [some (.ref l), some (.int n), some (.ref ll), some (.ref d1), some (.ref d2), some (.ref dn), some (.ref st), some (.ref L), some (.ref p'), some (.ref lo), v10, none]) ∧ Sb dn G8 G' ∧ DoneAt G' dn (S ++ ms.take i)) ⟨⟨_, rfl⟩, Sb.refl, by rw [List.take_zero, List.append_nil]; exact dn8⟩ (fun i τ G' _ q => SqL.of (q.2.1 _ _ (ne_of p28 dn8 (fun z => nomatch z)) p28)) ?_ ?_
        · rintro i x τ G9 G10 hi ⟨⟨v10, rfl⟩, sm9, dn9⟩ ⟨eq, hx⟩
          subst eq
          obtain ⟨b, hb, q, eq, tq⟩ := lm8.get hx
          subst eq
          have tq9 := sm9 _ _ (ne_of tq dn8 (fun z => nomatch z)) tq
          have fresh : b ∉ S ++ ms.take i := fun m => by
            have w := RN.nd
            rcases List.mem_append.mp m with z | z
            · exact (List.nodup_append.mp w).2.2 b z b (List.mem_of_getElem? hb) rfl
            · exact notAhead (List.nodup_append.mp w).2.1 hb z
          refine ⟨_, rfl, _, rfl, dn, _, rfl, DPut.t (k := kB b) dn9 tq9 ?_, ⟨_, rfl⟩, sm9.trans (Sb.upd (.inr rfl)), ?_⟩
          · rw [dB_len, sizeLine_eq, List.length_append, List.length_take]
            have := RA.le
            omega
          · unfold DoneAt
            rw [upd_same, dB_put (g := fun _ => V.bl true) fresh, take_one hb, List.append_assoc]
        · rintro τ G9 ⟨⟨v10, rfl⟩, sm9, dn9⟩
          rw [lm8.len, List.take_length] at dn9
          rw [srt2] at dn9 stp8 RN pm
          subst hlost
          refine ⟨_, run_less R0.good nd RA lt hh pm, ?_⟩
          rw [hW]
          refine ⟨_, _, _, _, _, _, _, ?_, rfl, extN_sb e38 hdn sm9, tabs_sb tb8 dn8 (fun ps z => nomatch z) (fun c q z => nomatch z) sm9, dn9, sm9 _ _ ned.symm st8, stp8.sbD dn8 sm9, RN, TD.next R0.good nd RA lt hh⟩
          rw [List.length_append]
          rfl
      · refine itF (decide_eq_false (by rw [dB_len, R0.lb.len]; omega)) ?_
        refine ⟨_, rfl, k st zs G e0G tG ?_ sG ?_⟩
        · exact newN_of e03 hst3
        · rw [TD.done lt]
          exact stG
end
end K36
/-! schedule, are_losses, check_losses, run. -/
namespace K36
open PySem PySem.Spec PyProof.Rows L2 LamX SfKey
theorem inner_it {J : It} {n : Nat} {Gd : Hp → Prop} {Y : Nat → Hp → V → Hp → Prop} (wk : Walk J n Gd Y) {g : TG} {tt : TT} {te : TE} {vs : List Nat} {σ : L2.St} {H1 : Hp} {D : Addr} {Qd : Hp → Prop} (Pv : Nat → Hp → Prop) (h0 : Pv 0 H1) (hG : ∀ i H, i ≤ n → Pv i H → Gd H)
    (hs : ∀ i x H H', i < n → Pv i H → Y i H x H' → g x (wipe σ vs) H' fun τ H2 => wipe τ vs = wipe σ vs ∧ tt τ H2 fun b H3 =>
      if b = true then te τ H3 fun y H4 => ∃ acc, H4 D = some (.lst acc) ∧ acc.length < sizeLine ∧ Pv (i + 1) (upd H4 D (.lst (acc ++ [y]))) else Pv (i + 1) H3) (hd : ∀ H, Pv n H → Qd H) :
    ∃ W : Nat → Nat → Hp → Prop, (∃ m, W 0 m H1) ∧ ∀ i m G, W i m G →
      (J.stop i G ∧ Qd G) ∨ (J.go i G ∧ ∃ Nx : Hp → Prop, (∀ G', Nx G' → ∃ m', m' < m ∧ W (i + 1) m' G') ∧ ∀ x G', J.yld i G x G' → g x (wipe σ vs) G' fun τ H2 => wipe τ vs = wipe σ vs ∧ tt τ H2 fun b H3 =>
        if b = true then te τ H3 fun y H4 => ∃ acc, H4 D = some (.lst acc) ∧ acc.length < sizeLine ∧ Nx (upd H4 D (.lst (acc ++ [y]))) else Nx H3) := by
  refine ⟨fun i m G => m = n - i ∧ (i ≤ n ∧ Pv i G), ⟨n, rfl, Nat.zero_le _, h0⟩, fun i m G hw => ?_⟩
  obtain ⟨em, li, pv⟩ := hw
  subst em
  rcases Nat.lt_or_ge i n with lt | ge
  · exact .inr ⟨wk.goes i G lt (hG i G li pv), Pv (i + 1), fun G' p' => ⟨n - (i + 1), by omega, rfl, lt, p'⟩, fun x G' y => hs i x G G' lt pv (wk.yields i G x G' lt (hG i G li pv) y)⟩
  · obtain rfl : i = n := Nat.le_antisymm li ge
    exact .inl ⟨wk.stops G (hG _ G li pv), hd G pv⟩
theorem lc2_it {J : It} {n : Nat} {Gd : Hp → Prop} {Y : Nat → Hp → V → Hp → Prop} (wk : Walk J n Gd Y) {g g1 : TG} {tt tt1 : TT} {wi1 : TI} {te : TE} {vs vs1 : List Nat} {σ : L2.St} {H1 : Hp} {D : Addr} {Qd : Hp → Prop} (Pv : Nat → Hp → Prop) (h0 : Pv 0 (upd H1 D (.lst []))) (hG : ∀ i H, i ≤ n → Pv i H → Gd H)
    (hs : ∀ i x H H', i < n → Pv i H → Y i H x H' → g x (wipe σ vs) H' fun τ H2 => wipe τ vs = wipe σ vs ∧ tt τ H2 fun b H3 =>
      if b = true then wi1 τ H3 fun J1 H4 => ∃ W1 : Nat → Nat → Hp → Prop, (∃ m, W1 0 m H4) ∧ ∀ j k H, W1 j k H →
        (J1.stop j H ∧ Pv (i + 1) H) ∨ (J1.go j H ∧ ∃ Nx1 : Hp → Prop, (∀ H', Nx1 H' → ∃ k', k' < k ∧ W1 (j + 1) k' H') ∧ ∀ x H', J1.yld j H x H' → g1 x (wipe τ vs1) H' fun υ H5 => wipe υ vs1 = wipe τ vs1 ∧ tt1 υ H5 fun b H6 =>
          if b = true then te υ H6 fun y H7 => ∃ acc, H7 D = some (.lst acc) ∧ acc.length < sizeLine ∧ Nx1 (upd H7 D (.lst (acc ++ [y]))) else Nx1 H6)
      else Pv (i + 1) H3) (hd : ∀ H, Pv n H → Qd H) :
    ∃ W : Nat → Nat → Hp → Prop, (∃ m, W 0 m (upd H1 D (.lst []))) ∧ ∀ i m G, W i m G →
      (J.stop i G ∧ Qd G) ∨ (J.go i G ∧ ∃ Nx : Hp → Prop, (∀ G', Nx G' → ∃ m', m' < m ∧ W (i + 1) m' G') ∧ ∀ x G', J.yld i G x G' → g x (wipe σ vs) G' fun τ H2 => wipe τ vs = wipe σ vs ∧ tt τ H2 fun b H3 =>
        if b = true then wi1 τ H3 fun J1 H4 => ∃ W1 : Nat → Nat → Hp → Prop, (∃ m, W1 0 m H4) ∧ ∀ j k H, W1 j k H →
          (J1.stop j H ∧ Nx H) ∨ (J1.go j H ∧ ∃ Nx1 : Hp → Prop, (∀ H', Nx1 H' → ∃ k', k' < k ∧ W1 (j + 1) k' H') ∧ ∀ x H', J1.yld j H x H' → g1 x (wipe τ vs1) H' fun υ H5 => wipe υ vs1 = wipe τ vs1 ∧ tt1 υ H5 fun b H6 =>
            if b = true then te υ H6 fun y H7 => ∃ acc, H7 D = some (.lst acc) ∧ acc.length < sizeLine ∧ Nx1 (upd H7 D (.lst (acc ++ [y]))) else Nx1 H6)
        else Nx H3) := by
  refine ⟨fun i m G => m = n - i ∧ (i ≤ n ∧ Pv i G), ⟨n, rfl, Nat.zero_le _, h0⟩, fun i m G hw => ?_⟩
  obtain ⟨em, li, pv⟩ := hw
  subst em
  rcases Nat.lt_or_ge i n with lt | ge
  · exact .inr ⟨wk.goes i G lt (hG i G li pv), Pv (i + 1), fun G' p' => ⟨n - (i + 1), by omega, rfl, lt, p'⟩, fun x G' y => hs i x G G' lt pv (wk.yields i G x G' lt (hG i G li pv) y)⟩
  · obtain rfl : i = n := Nat.le_antisymm li ge
    exact .inl ⟨wk.stops G (hG _ G li pv), hd G pv⟩
theorem paired_imp {α β : Type} {R S : α → β → Prop} (h : ∀ x y, R x y → S x y) : ∀ {xs : List α} {ys : List β}, Paired R xs ys → Paired S xs ys
  | _, _, .nil => .nil
  | _, _, .cons a r => .cons (h _ _ a) (paired_imp h r)
theorem take_sum {ls : List (List B)} {i : Nat} {l : List B} (h : ls[i]? = some l) : ((ls.take (i + 1)).map List.length).sum = ((ls.take i).map List.length).sum + l.length := by
  rw [List.take_add_one, h]
  simp
theorem take_sum_le (ls : List (List B)) (i : Nat) : ((ls.take i).map List.length).sum ≤ (ls.map List.length).sum := by
  have q : (ls.map List.length).sum = (((ls.take i) ++ (ls.drop i)).map List.length).sum := by rw [List.take_append_drop]
  rw [q, List.map_append, List.sum_append]
  omega
/-- a grouping and hands as given -/
structure GrIn (H : Hp) (l : Addr) (n : Int) (xs : List V) (bs : List B) : Prop where
  el : H l = some (.lst xs)
  lb : Lb H xs bs
  lz : xs.length < 2 ^ 20
  gr : Gr (bs.length + 1) bs
  hands : 1 ≤ n
theorem GrIn.ext {H H' : Hp} {l : Addr} {n : Int} {xs : List V} {bs : List B} (r : GrIn H l n xs bs) (e : ExtN H H') : GrIn H' l n xs bs := ⟨e _ _ r.el (fun ps z => nomatch z), r.lb.ext e, r.lz, r.gr, r.hands⟩
theorem GrIn.run {H : Hp} {l : Addr} {n : Int} {xs : List V} {bs : List B} (r : GrIn H l n xs bs) : RunIn H l n xs bs (bs.length + 1) := ⟨r.el, r.lb, r.lz, r.gr.up, r.gr.good, r.hands⟩
/-- losses of a grouping -/
structure LsOk (bs : List B) (ls : List (List B)) : Prop where
  each : ∀ l ∈ ls, (∀ b ∈ l, OkB (bs.length + 1) b) ∧ UpB l ∧ ∀ b ∈ l, b ∈ bs
  tot : (ls.map List.length).sum < 2 ^ 20
structure LsIn (H : Hp) (ll : Addr) (ys : List V) (bs : List B) (ls : List (List B)) : Prop where
  el : H ll = some (.lst ys)
  lL : LL H ys ls
  yz : ys.length < 2 ^ 20
  ok : LsOk bs ls
theorem LsIn.ext {H H' : Hp} {ll : Addr} {ys : List V} {bs : List B} {ls : List (List B)} (r : LsIn H ll ys bs ls) (e : ExtN H H') : LsIn H' ll ys bs ls := ⟨e _ _ r.el (fun ps z => nomatch z), r.lL.ext e, r.yz, r.ok⟩
def spSch (Pt : Addr) : Sp := fun vs H Q _ => ∃ (l : Addr) (n : Int) (xs : List V) (bs : List B), vs = [.ref l, .int n] ∧ GrIn H l n xs bs ∧ Tabs (TbL Pt) H ∧
  ∀ p zs H', ExtN H H' → Tabs (TbL Pt) H' → NewN H p → H' p = some (.lst zs) → StepsAt H H' p zs (runS bs n.toNat []) → Q (.ref p) H'
theorem scSch : FnScope ["grouping", "hands"] ["grouping", "hands"] (defScope sPSchedule) := ⟨rfl, rfl, rfl, by decide +kernel, rfl, by decide +kernel, by decide +kernel⟩
def spAL : Sp := fun vs H Q _ => ∃ (l ll : Addr) (xs ys : List V) (bs : List B) (ls : List (List B)), vs = [.ref l, .ref ll] ∧ H l = some (.lst xs) ∧ Lb H xs bs ∧ xs.length < 2 ^ 20 ∧ LsIn H ll ys bs ls ∧ ∀ H', Same H H' → Q (.bl true) H'
theorem scAL : FnScope ["grouping", "value", "lost", "block"] ["grouping", "value"] (defScope sPAreLosses) := ⟨rfl, rfl, rfl, by decide +kernel, rfl, by decide +kernel, by decide +kernel⟩
def spCL : Sp := fun vs H Q _ => ∃ (l ll : Addr) (n : Int) (xs ys : List V) (bs : List B) (ls : List (List B)), vs = [.ref l, .int n, .ref ll] ∧ GrIn H l n xs bs ∧ LsIn H ll ys bs ls ∧ ∀ H', Same H H' → Q .non H'
theorem scCL : FnScope ["grouping", "hands", "losses"] ["grouping", "hands", "losses"] (defScope sPCheckLosses) := ⟨rfl, rfl, rfl, by decide +kernel, rfl, by decide +kernel, by decide +kernel⟩
def spRun (Pt : Addr) : Sp := fun vs H Q _ => ∃ (l ll : Addr) (n : Int) (xs ys : List V) (bs : List B) (ls : List (List B)), vs = [.ref l, .int n, .ref ll] ∧ GrIn H l n xs bs ∧ LsIn H ll ys bs ls ∧ Tabs (TbL Pt) H ∧
  ∀ p zs H', ExtN H H' → Tabs (TbL Pt) H' → NewN H p → H' p = some (.lst zs) → StepsAt H H' p zs (runS bs n.toNat ls) → Q (.ref p) H'
theorem scRun : FnScope ["grouping", "hands", "losses"] ["grouping", "hands", "losses"] (defScope sPRun) := ⟨rfl, rfl, rfl, by decide +kernel, rfl, by decide +kernel, by decide +kernel⟩
section
variable {P : Program} {w : World} {K : PySem.W.Frag} {mg : Str → Option Value} {base : Heap} {f fC fS fB fA Pt : Addr} {fd fdC fdS fdB fdA : FuncData}
theorem ok_sch (F : FnP K dPSchedule f fd) (FC : FnP K dPCheckRun fC fdC) (GC : FnOk P w K mg base CX0 7 fC fdC ["grouping", "hands"] spCR) (gC : mg "check_run" = some (.ref fC)) (FS : FnP K dPStepsRun fS fdS) (GS : FnOk P w K mg base CX0 5 fS fdS ["grouping", "hands", "losses"] (spSR Pt)) (gS : mg "steps_run" = some (.ref fS)) :
    FnOk P w K mg base CX0 8 f fd ["grouping", "hands"] (spSch Pt) := by
  have bC : Binds K fdC ["grouping", "hands"] [] := FC.bindsN fun _ _ _ _ _ _ us hl => match us, hl with | [_, _], _ => rfl
  have bS : Binds K fdS ["grouping", "hands", "losses"] [] := FS.bindsN fun _ _ _ _ _ _ us hl => match us, hl with | [_, _, _], _ => rfl
  refine F.ok scSch (fun vs H Q E h => ?_) (fun cdv A outer s H vs Q E hr h => ⟨_, PSs.nox (
    pss_cons (ps_expr (pe_call GC hr rfl gC FC.kp bC .nil pass0 (pa_cons (pv 0) (pa_cons (pv 1) pa_nil))))
    (pss_one (ps_ret (pe_call GS (hr.mono (by decide)) rfl gS FS.kp bS .nil pass0 (pa_cons (pv 0) (pa_cons (pv 1) (pa_cons (pe_lst pa_nil) pa_nil))))))), ?_⟩)
  · obtain ⟨l, n, xs, bs, rfl, _⟩ := h
    rfl
  · obtain ⟨l, n, xs, bs, rfl, R, hT, k⟩ := h
    refine ⟨_, rfl, _, rfl, l, n, xs, bs, rfl, R.el, R.lb, R.lz, R.gr, R.hands, fun H1 s1 => ?_⟩
    refine ⟨_, rfl, _, rfl, Nat.zero_le _, fun e he => ?_⟩
    have s2 : Same H1 (upd H1 e (.lst [])) := same_new he
    have e2 : ExtN H (upd H1 e (.lst [])) := (ExtN.of s1).trans (ExtN.of s2)
    refine ⟨l, e, n, _, xs, [], bs, [], rfl, (R.ext e2).run, upd_same, .nil, by decide, (hT.ext s1).ext s2, fun p zs H' e3 t3 nw ez st => ?_⟩
    refine k p zs H' (e2.trans e3) t3 (nw.back e2) ez ?_
    refine paired_imp (fun x y q => ?_) st
    obtain ⟨a, ws, h1, h2, h3⟩ := q
    exact ⟨a, ws, h1, h2.back e2, h3⟩
theorem ok_al (F : FnP K dPAreLosses f fd) (FB : FnP K dPIsBlockList fB fdB) (GB : FnOk P w K mg base CX0 4 fB fdB ["size", "value"] spBL) (gB : mg "is_block_list" = some (.ref fB)) (gIs : mg "isinstance" = none) (gLi : mg "list" = none) (gAl : mg "all" = none) (gLe : mg "len" = none) :
    FnOk P w K mg base CX0 5 f fd ["grouping", "value"] spAL := by
  have bB : Binds K fdB ["size", "value"] [] := FB.bindsN fun _ _ _ _ _ _ us hl => match us, hl with | [_, _], _ => rfl
  refine F.ok scAL (fun vs H Q E h => ?_) (fun cdv A outer s H vs Q E hr h => ⟨_, PSs.nox (
    pss_cons (ps_if (PW.pt (pw_or (pt_not (pt_val (pe_callB call_isi rfl gIs (by decide +kernel) (pa_cons (pv 1) (pa_cons (pe_bltn (v := .ty "list") rfl gLi (by decide +kernel) rfl) pa_nil)))))
        (pw_or1 (pt_not (pt_val (pe_callB (cr_all rfl) rfl gAl (by decide +kernel) (pa_cons (pe_lc (own := [("lost", 2)]) (g := gName 2) (tt := tYes) (te := tCall spBL [] E0 (tCons (tOp (rI0 fun i j => V.int (i + j)) (tCB (fun xs H Q => ∃ p ys, xs = [V.ref p] ∧ (SqL K H p ys ∨ SqT K H p ys) ∧ Q (V.int ys.length) H) (tCons (tVar 0) tNil)) (tC (.int 1))) (tCons (tVar 2) tNil))) rfl scAL.nd (pi_list (pv 1)) (blkOk_by (N := ["grouping", "value", "lost", "block"]) (sc := defScope sPAreLosses) (by decide +kernel))
          (fun _ _ _ _ _ => pg_name (i := 2) scAL.nd rfl (.inl rfl)) (fun _ _ _ _ _ => pts_nil)
          (fun _ _ _ _ _ => pe_call GB hr rfl gB FB.kp bB .nil pass0 (pa_cons (pe_op op_add (pe_callB call_len_seq rfl gLe (by decide +kernel) (pa_cons (pv 0) pa_nil)) pe_int) (pa_cons (pv 2) pa_nil)))) pa_nil))))))) (pss_one (ps_ret pe_bl)) pss_nil)
    (pss_one (ps_ret (pe_callB (cr_all rfl) rfl gAl (by decide +kernel) (pa_cons (pe_lc2 (own := [("lost", 2), ("block", 3)]) (vs1 := [3]) (g := gName 2) (g1 := gName 3) (tt := tYes) (tt1 := tYes) (wi1 := iList K (tVar 2)) (te := tOp (rInD K) (tVar 3) (tVar 0)) rfl scAL.nd (pi_list (pv 1)) (blkOk_by (N := ["grouping", "value", "lost", "block"]) (sc := defScope sPAreLosses) (by decide +kernel)) (by decide)
          (fun _ _ _ _ _ => pg_name (i := 2) scAL.nd rfl (.inl rfl)) (fun _ _ _ _ _ => pts_nil) (fun _ _ _ _ _ => pi_list (pv 2))
          (fun _ _ _ _ _ => pg_name (i := 3) scAL.nd rfl (.inl rfl)) (fun _ _ _ _ _ => pts_nil)
          (fun _ _ _ _ _ => pe_cmpR (op_inD (hu65 hr)) (pv 3) (pv 0) rfl)) pa_nil))))), ?_⟩)
  · obtain ⟨l, ll, xs, ys, bs, ls, rfl, _⟩ := h
    rfl
  · obtain ⟨l, ll, xs, ys, bs, ls, rfl, e1, lb, lz, LI, k⟩ := h
    refine ⟨_, rfl, .ref ll, .ty "list", .type "list", .type "list", true, rfl, .ty _, .base (.lst LI.el), kit_ty (by decide +kernel), true, rfl, itF rfl ?_⟩
    refine ⟨_, rfl, ll, rfl, ⟨_, SqL.of LI.el⟩, fun D hD => ?_⟩
    refine lc_it (walk_list (xs := ys)) (fun i H' => H' D = some (.lst (List.replicate i (V.bl true))) ∧ Same H H') ⟨upd_same, same_new hD⟩ (fun i H' _ q => SqL.of (q.2 _ _ LI.el)) ?_ ?_
    · rintro i x G1 G2 hi ⟨eD, sm⟩ ⟨eq, hx⟩
      subst eq
      obtain ⟨lo, hlo, a, zs, ea, ha, la, zz⟩ := LI.lL.get hx
      subst ea
      have ok := LI.ok.each lo (List.mem_of_getElem? hlo)
      refine ⟨rfl, _, rfl, l, xs, rfl, .inl (SqL.of (sm _ _ e1)), _, 1, rfl, rfl, _, rfl, _, a, zs, lo, rfl, sm _ _ ha, la.same sm, zz, ?_, ok.2.1, fun G3 s3 => ⟨_, s3 _ _ eD, ?_, ?_, fun a o e => ?_⟩⟩
      · rw [lb.len]
        exact ok.1
      · have := LI.yz
        rw [List.length_replicate, sizeLine_eq]
        omega
      · rw [upd_same, ← List.replicate_succ']
      · rw [upd_ne (ne_of_none e hD)]
        exact s3 _ _ (sm _ _ e)
    rintro G1 ⟨eD, sm⟩
    refine ⟨D, List.replicate ys.length true, rfl, SqL.of (by rw [eD, List.map_replicate]), ?_⟩
    rw [show (List.replicate ys.length true).all id = true by simp]
    refine ⟨true, rfl, itF rfl ?_⟩
    refine ⟨_, rfl, ll, rfl, ⟨_, SqL.of (sm _ _ LI.el)⟩, fun D2 hD2 => ?_⟩
    refine lc2_it (walk_list (xs := ys)) (fun i G => Same G1 G ∧ G D2 = some (.lst (List.replicate ((ls.take i).map List.length).sum (V.bl true)))) ⟨same_new hD2, by rw [upd_same]; rfl⟩ (fun i G _ q => SqL.of (q.1 _ _ (sm _ _ LI.el))) ?_ ?_
    · rintro i x G2 G3 hi ⟨s2, e2⟩ ⟨eq, hx⟩
      subst eq
      obtain ⟨lo, hlo, a, zs, ea, ha, la, zz⟩ := LI.lL.get hx
      subst ea
      have ok := LI.ok.each lo (List.mem_of_getElem? hlo)
      have ha2 := s2 _ _ (sm _ _ ha)
      have la2 := (la.same sm).same s2
      have tl := take_sum_le ls (i + 1)
      rw [take_sum hlo] at tl
      have tz := LI.ok.tot
      refine ⟨rfl, _, rfl, a, rfl, ⟨_, SqL.of ha2⟩, ?_⟩
      refine inner_it (walk_list (xs := zs)) (fun j G => Same G1 G ∧ G D2 = some (.lst (List.replicate (((ls.take i).map List.length).sum + j) (V.bl true)))) ⟨s2, e2⟩ (fun j G _ q => SqL.of (q.1 _ _ (sm _ _ ha))) ?_ ?_
      · rintro j y G4 G5 hj ⟨s4, e4⟩ ⟨eq, hy⟩
        subst eq
        obtain ⟨b, hb, q, eq, tq⟩ := la.get hy
        subst eq
        have tq4 := s4 _ _ (sm _ _ tq)
        refine ⟨rfl, _, rfl, _, rfl, pd b, bs.map pd, .tup (SqT.of tq4) (.cons (.int _) (.cons (.int _) .nil)), .lst (SqL.of (s4 _ _ (sm _ _ e1))) (dp_lb ((lb.same sm).same s4)), shaped_pd b, shaped_pds bs, _, e4, ?_, fun a o e => ?_, ?_⟩
        · rw [List.length_replicate, sizeLine_eq]
          have := la.len
          omega
        · rw [upd_ne (ne_of_none e hD2)]
          exact s4 _ _ e
        · rw [upd_same, any_pds, decide_eq_true (ok.2.2 b (List.mem_of_getElem? hb)), ← List.replicate_succ']
          rfl
      · rintro G4 ⟨s4, e4⟩
        refine ⟨s4, ?_⟩
        rw [take_sum hlo, ← la.len]
        exact e4
    rintro G2 ⟨s2, e2⟩
    refine ⟨D2, List.replicate ((ls.take ys.length).map List.length).sum true, rfl, SqL.of (by rw [e2, List.map_replicate]), ?_⟩
    rw [show ∀ c, (List.replicate c true).all id = true by intro c; simp]
    exact k G2 (sm.trans s2)
theorem ok_cl (F : FnP K dPCheckLosses f fd) (FC : FnP K dPCheckRun fC fdC) (GC : FnOk P w K mg base CX0 7 fC fdC ["grouping", "hands"] spCR) (gC : mg "check_run" = some (.ref fC)) (FA : FnP K dPAreLosses fA fdA) (GA : FnOk P w K mg base CX0 5 fA fdA ["grouping", "value"] spAL) (gA : mg "are_losses" = some (.ref fA)) :
    FnOk P w K mg base CX0 8 f fd ["grouping", "hands", "losses"] spCL := by
  have bC : Binds K fdC ["grouping", "hands"] [] := FC.bindsN fun _ _ _ _ _ _ us hl => match us, hl with | [_, _], _ => rfl
  have bA : Binds K fdA ["grouping", "value"] [] := FA.bindsN fun _ _ _ _ _ _ us hl => match us, hl with | [_, _], _ => rfl
  refine F.ok scCL (fun vs H Q E h => ?_) (fun cdv A outer s H vs Q E hr h => ⟨_, PSs.nox (
    pss_cons (ps_expr (pe_call GC hr rfl gC FC.kp bC .nil pass0 (pa_cons (pv 0) (pa_cons (pv 1) pa_nil))))
    (pss_one (ps_if (pt_not (pt_val (pe_call GA (hr.mono (by decide)) rfl gA FA.kp bA .nil pass0 (pa_cons (pv 0) (pa_cons (pv 2) pa_nil))))) (pss_one ps_dead) pss_nil))), ?_⟩)
  · obtain ⟨l, ll, n, xs, ys, bs, ls, rfl, _⟩ := h
    rfl
  · obtain ⟨l, ll, n, xs, ys, bs, ls, rfl, R, LI, k⟩ := h
    refine ⟨_, rfl, _, rfl, l, n, xs, bs, rfl, R.el, R.lb, R.lz, R.gr, R.hands, fun H1 s1 => ?_⟩
    exact ⟨_, rfl, _, rfl, l, ll, xs, ys, bs, ls, rfl, s1 _ _ R.el, R.lb.same s1, R.lz, LI.ext (ExtN.of s1), fun H2 s2 => ⟨true, rfl, itF rfl (k H2 (s1.trans s2))⟩⟩
theorem ok_run (F : FnP K dPRun f fd) (FC : FnP K dPCheckLosses fC fdC) (GC : FnOk P w K mg base CX0 8 fC fdC ["grouping", "hands", "losses"] spCL) (gC : mg "check_losses" = some (.ref fC)) (FS : FnP K dPStepsRun fS fdS) (GS : FnOk P w K mg base CX0 5 fS fdS ["grouping", "hands", "losses"] (spSR Pt)) (gS : mg "steps_run" = some (.ref fS)) :
    FnOk P w K mg base CX0 9 f fd ["grouping", "hands", "losses"] (spRun Pt) := by
  have bC : Binds K fdC ["grouping", "hands", "losses"] [] := FC.bindsN fun _ _ _ _ _ _ us hl => match us, hl with | [_, _, _], _ => rfl
  have bS : Binds K fdS ["grouping", "hands", "losses"] [] := FS.bindsN fun _ _ _ _ _ _ us hl => match us, hl with | [_, _, _], _ => rfl
  refine F.ok scRun (fun vs H Q E h => ?_) (fun cdv A outer s H vs Q E hr h => ⟨_, PSs.nox (
    pss_cons (ps_expr (pe_call GC hr rfl gC FC.kp bC .nil pass0 (pa_cons (pv 0) (pa_cons (pv 1) (pa_cons (pv 2) pa_nil)))))
    (pss_one (ps_ret (pe_call GS (hr.mono (by decide)) rfl gS FS.kp bS .nil pass0 (pa_cons (pv 0) (pa_cons (pv 1) (pa_cons (pv 2) pa_nil))))))), ?_⟩)
  · obtain ⟨l, ll, n, xs, ys, bs, ls, rfl, _⟩ := h
    rfl
  · obtain ⟨l, ll, n, xs, ys, bs, ls, rfl, R, LI, hT, k⟩ := h
    refine ⟨_, rfl, _, rfl, _, rfl, l, ll, n, xs, ys, bs, ls, rfl, R, LI, fun H1 s1 => ?_⟩
    have e1 : ExtN H H1 := ExtN.of s1
    have L1 := LI.ext e1
    refine ⟨_, rfl, _, rfl, _, rfl, l, ll, n, _, xs, ys, bs, ls, rfl, (R.ext e1).run, L1.el, L1.lL, L1.yz, hT.ext s1, fun p zs H' e3 t3 nw ez st => ?_⟩
    refine k p zs H' (e1.trans e3) t3 (nw.back e1) ez (paired_imp (fun x y q => ?_) st)
    obtain ⟨a, ws, h1, h2, h3⟩ := q
    exact ⟨a, ws, h1, h2.back e1, h3⟩
end
end K36
/-! bar_numbers, bars_left, costly_steps. -/
namespace K36
open PySem PySem.Spec PyProof.Rows L2 LamX SfKey SfVal
/-- the greatest of them -/
def maxD (ds : List Int) (d : Int) : Int := match ds with | [] => d | n :: r => r.foldl max n
/-- how many are no less -/
def cntGe (ds : List Int) (k : Int) : Nat := (ds.filter fun x => decide (k ≤ x)).length
def barAt (ds : List Int) (h k : Int) : Int := k + ((cntGe ds k : Int) + h - 1) / h
def barsOf (ds : List Int) (h : Int) : List Int := (List.range (maxD ds (-1) + 1).toNat).map fun k : Nat => barAt ds h (k : Int)
theorem maxD_lt {ds : List Int} {c d : Int} (h : ∀ x ∈ ds, x < c) (hd : d < c) : maxD ds d < c := by
  have q : ∀ (l : List Int) (a : Int), a < c → (∀ x ∈ l, x < c) → l.foldl max a < c := by
    intro l
    induction l with
    | nil => exact fun a h _ => h
    | cons x t ih =>
      intro a h hx
      exact ih (max a x) (Int.max_lt.mpr ⟨h, hx x (List.mem_cons_self ..)⟩) fun y hy => hx y (List.mem_cons_of_mem _ hy)
  cases ds with
  | nil => exact hd
  | cons x t => exact q t x (h x (List.mem_cons_self ..)) fun y hy => h y (List.mem_cons_of_mem _ hy)
theorem maxD_ge {ds : List Int} {d c : Int} (hd : c ≤ d) (h : ∀ x ∈ ds, c ≤ x) : c ≤ maxD ds d := by
  have q : ∀ (l : List Int) (a : Int), a ≤ l.foldl max a := by
    intro l
    induction l with
    | nil => exact fun a => Int.le_refl a
    | cons x t ih => exact fun a => Int.le_trans (Int.le_max_left a x) (ih (max a x))
  cases ds with
  | nil => exact hd
  | cons x t => exact Int.le_trans (h x (List.mem_cons_self ..)) (q t x)
def spDN : Sp := fun vs H Q _ => ∃ (l : Addr) (ds : List Int), vs = [.ref l] ∧ H l = some (.lst (ds.map V.int)) ∧ (∀ x ∈ ds, 0 ≤ x ∧ x < 2 ^ 20) ∧ ds.length < 2 ^ 20 ∧ ∀ p H', Same H H' → H p = none → H' p = some (.lst ((List.range (maxD ds (-1) + 1).toNat).map fun k : Nat => V.int (cntGe ds (k : Int)))) → Q (.ref p) H'
abbrev nDN : List Str := ["deep", "least", "depth"]
theorem scDN : FnScope nDN ["deep"] (defScope sPDepthNumbers) := ⟨rfl, rfl, rfl, by decide +kernel, rfl, by decide +kernel, by decide +kernel⟩
def dnScope : Scope := match (defBody sPDepthNumbers).getD 0 (.Pass ⟨0, 0, 0, 0⟩) with
  | .Return (some (.ListComp _ _ s _)) _ => s
  | _ => defScope sPDepthNumbers
def spSB : Sp := fun vs H Q _ => ∃ (l : Addr) (ns : List Int) (h : Int), vs = [.ref l, .int h] ∧ H l = some (.lst (ns.map V.int)) ∧ (∀ x ∈ ns, 0 ≤ x) ∧ ns.length < sizeLine ∧ 1 ≤ h ∧ h < 2 ^ 20 ∧ ∀ p H', Same H H' → H p = none → H' p = some (.lst (ns.zipIdx.map fun m : Int × Nat => V.int ((m.2 : Int) + (m.1 + h - 1) / h))) → Q (.ref p) H'
abbrev nSB : List Str := ["numbers", "hands", "bar", "many"]
theorem scSB : FnScope nSB ["numbers", "hands"] (defScope sPStepsByNumbers) := ⟨rfl, rfl, rfl, by decide +kernel, rfl, by decide +kernel, by decide +kernel⟩
def spBN : Sp := fun vs H Q _ => ∃ (l : Addr) (ds : List Int) (h : Int), vs = [.ref l, .int h] ∧ H l = some (.lst (ds.map V.int)) ∧ (∀ x ∈ ds, 0 ≤ x ∧ x < 2 ^ 20) ∧ ds.length < 2 ^ 20 ∧ 1 ≤ h ∧ h < 2 ^ 20 ∧ ∀ p H', Same H H' → H p = none → H' p = some (.lst ((barsOf ds h).map V.int)) → Q (.ref p) H'
abbrev nBN : List Str := ["deep", "hands"]
theorem scBN : FnScope nBN ["deep", "hands"] (defScope sPBarNumbers) := ⟨rfl, rfl, rfl, by decide +kernel, rfl, by decide +kernel, by decide +kernel⟩
theorem range_zipIdx (f : Nat → Int) (n : Nat) : ((List.range n).map f).zipIdx = (List.range n).map fun k => (f k, k) := by
  refine List.ext_getElem? fun i => ?_
  rw [List.getElem?_zipIdx, List.getElem?_map, List.getElem?_map]
  cases h : (List.range n)[i]? with
  | none => rfl
  | some k =>
    have e := List.getElem?_range (n := n) (i := i)
    rcases Nat.lt_or_ge i n with lt | ge
    · rw [e lt] at h
      cases h
      simp
    · rw [List.getElem?_eq_none (by rw [List.length_range]; exact ge)] at h
      cases h
section
variable {P : Program} {w : World} {K : PySem.W.Frag} {mg : Str → Option Value} {base : Heap} {f fD fS : Addr} {fd fdD fdS : FuncData}
theorem ok_dn (F : FnP K dPDepthNumbers f fd) (gLe : mg "len" = none) (gMa : mg "max" = none) (gRa : mg "range" = none) : FnOk P w K mg base CX0 1 f fd ["deep"] spDN := by
  refine F.ok scDN (fun vs H Q E h => ?_) (fun cdv A outer s H vs Q E hr h => ⟨_, PSs.nox (
    pss_one (ps_ret (pe_lc (own := [("least", 1)]) (g := gName 1) (tt := tYes) (te := tCB (fun xs H Q => ∃ p ys, xs = [V.ref p] ∧ (SqL K H p ys ∨ SqT K H p ys) ∧ Q (V.int ys.length) H) (tCons (tLc (iList K (tVar 0)) (gName 2) (tTest (tOp (rI0 fun i j => V.bl (decide (j ≤ i))) (tVar 2) (tVar 1))) (tVar 2) [2]) tNil)) rfl scDN.nd (pi_range1 rfl gRa (pa_cons (pe_op op_add (pe_callBK (cr_maxD rfl (by have := hr.un; exact (show (A.deeper _).units + 8 < cLine by omega))) rfl gMa (by decide +kernel) (pa_cons (pv 0) pa_nil) (pk_cons (pe_un un_neg pe_int) pk_nil)) pe_int) pa_nil)) (blkOk_by (N := nDN) (sc := defScope sPDepthNumbers) (by decide +kernel))
      (fun _ _ _ _ _ => pg_name (i := 1) scDN.nd rfl (.inr rfl)) (fun _ _ _ _ _ => pts_nil)
      (fun _ _ _ _ _ => pe_callB call_len_seq rfl gLe (by decide +kernel) (pa_cons (pe_lc (own := [("depth", 2)]) (g := gName 2) rfl scDN.nd (pi_list (pv 0)) (blkOk_by (N := nDN) (sc := relS dnScope (defScope sPDepthNumbers)) (by decide +kernel))
          (fun _ _ _ _ _ => pg_name (i := 2) scDN.nd rfl (.inl rfl)) (fun _ _ _ _ _ => pts_one (pt_cmpR op_ge (pv 2) (pv 1) (nomark _))) (fun _ _ _ _ _ => pv 2)) pa_nil))))), ?_⟩)
  · obtain ⟨l, ds, rfl, _⟩ := h
    rfl
  · obtain ⟨l, ds, rfl, e1, hd, dz, k⟩ := h
    have m1 : -1 ≤ maxD ds (-1) := maxD_ge (by decide) fun x hx => by have := (hd x hx).1; omega
    have m2 : maxD ds (-1) < 2 ^ 20 := maxD_lt (fun x hx => (hd x hx).2) (by decide)
    refine ⟨_, rfl, 1, rfl, l, ds, -1, rfl, rfl, SqL.of e1, maxD ds (-1), 1, rfl, rfl, maxD ds (-1) + 1, rfl, by omega, by omega, fun D hD => ?_⟩
    refine lc_it (walk_range (lo := 0) (n := (maxD ds (-1) + 1).toNat)) (fun i G => Same H G ∧ G D = some (.lst ((List.range i).map fun k : Nat => V.int (cntGe ds (k : Int))))) ⟨same_new hD, upd_same⟩ (fun _ _ _ _ => True.intro) ?_ ?_
    · rintro i x G G0 hi ⟨sm, eD⟩ ⟨eq, hx⟩
      subst eq hx
      refine ⟨rfl, _, rfl, l, rfl, ⟨_, SqL.of (sm _ _ e1)⟩, fun L hL => ?_⟩
      refine lc_it (walk_list (xs := ds.map V.int)) (fun j G' => Same G0 G' ∧ G' L = some (.lst (((ds.take j).filter fun x => decide ((0 + (i : Int)) ≤ x)).map V.int))) ⟨same_new hL, by rw [upd_same]; rfl⟩ (fun j G' _ q => SqL.of (q.1 _ _ (sm _ _ e1))) ?_ ?_
      · rintro j y G1 G2 hj ⟨s3, eL⟩ ⟨eq, hy⟩
        subst eq
        rw [List.getElem?_map] at hy
        cases hk : ds[j]? with
        | none =>
          rw [hk] at hy
          cases hy
        | some x =>
          rw [hk] at hy
          cases hy
          have step : (ds.take (j + 1)).filter (fun x => decide ((0 + (i : Int)) ≤ x)) = (ds.take j).filter (fun x => decide ((0 + (i : Int)) ≤ x)) ++ (if decide ((0 + (i : Int)) ≤ x) then [x] else []) := by
            rw [List.take_add_one, hk, List.filter_append]
            congr 1
            show List.filter _ [x] = _
            rw [List.filter_cons]
            split <;> rfl
          refine ⟨rfl, _, rfl, _, rfl, x, 0 + (i : Int), rfl, rfl, _, rfl, ?_⟩
          by_cases c : (0 + (i : Int)) ≤ x
          · rw [decide_eq_true c] at step
            refine itT (decide_eq_true c) ⟨_, rfl, _, eL, ?_, fun a o e => ?_, ?_⟩
            · have a1 := List.length_filter_le (fun x : Int => decide ((0 + (i : Int)) ≤ x)) (ds.take j)
              rw [List.length_take] at a1
              rw [List.length_map, sizeLine_eq]
              omega
            · rw [upd_ne (ne_of_none e hL)]
              exact s3 _ _ e
            · rw [upd_same, step, List.map_append]
              rfl
          · rw [decide_eq_false c] at step
            refine itF (decide_eq_false c) ⟨s3, ?_⟩
            rw [step]
            simpa using eL
      · rintro G1 ⟨s3, eL⟩
        rw [List.length_map, List.take_length] at eL
        have eD1 := s3 _ _ eD
        refine ⟨L, _, rfl, .inl (SqL.of eL), _, eD1, ?_, fun a o e => ?_, ?_⟩
        · rw [List.length_map, List.length_range, sizeLine_eq]
          omega
        · rw [upd_ne (ne_of_none e hD)]
          exact s3 _ _ (sm _ _ e)
        · rw [upd_same, List.range_succ, List.map_append]
          have q : (0 + (i : Int)) = (i : Int) := Int.zero_add _
          rw [List.length_map, q]
          rfl
    · rintro G ⟨sm, eD⟩
      exact k D G sm hD eD
theorem ok_sb (F : FnP K dPStepsByNumbers f fd) (gE : mg "enumerate" = none) : FnOk P w K mg base CX0 1 f fd ["numbers", "hands"] spSB := by
  refine F.ok scSB (fun vs H Q E h => ?_) (fun cdv A outer s H vs Q E hr h => ⟨_, PSs.nox (
    pss_one (ps_ret (pe_lc (own := [("bar", 2), ("many", 3)]) (g := gTup K 2 (gCons (gName 2) (gCons (gName 3) gNil))) rfl scSB.nd (pi_enum rfl gE (pa_cons (pv 0) pa_nil)) (blkOk_by (N := nSB) (sc := defScope sPStepsByNumbers) (by decide +kernel))
      (fun _ _ _ _ _ => pg_tup rfl (pgs_cons (pg_name (i := 2) scSB.nd rfl (.inl rfl)) (pgs_cons (pg_name (i := 3) scSB.nd rfl (.inl rfl)) pgs_nil))) (fun _ _ _ _ _ => pts_nil)
      (fun _ _ _ _ _ => pe_op op_add (pv 2) (pe_op op_fdiv (pe_op op_sub (pe_op op_add (pv 3) (pv 1)) pe_int) (pv 1)))))), ?_⟩)
  · obtain ⟨l, ns, h, rfl, _⟩ := h
    rfl
  · obtain ⟨l, ns, h, rfl, e1, pos, nz, h1, h20, k⟩ := h
    refine ⟨_, rfl, l, _, rfl, SqL.of e1, fun D hD => ?_⟩
    refine lc_it walk_enum (fun i G => Same H G ∧ G D = some (.lst ((ns.zipIdx.take i).map fun m : Int × Nat => V.int ((m.2 : Int) + (m.1 + h - 1) / h)))) ⟨same_new hD, by rw [upd_same]; rfl⟩ (fun i G _ q => SqL.of (q.1 _ _ e1)) ?_ ?_
    · rintro i x G1 G2 hi ⟨sm, eD⟩ ⟨T, x1, x2, ex, hT, eG, h1', h2⟩
      subst ex eG
      cases h1'
      replace h2 : (ns.map V.int)[i]? = some x2 := h2
      rw [List.getElem?_map] at h2
      cases hk : ns[i]? with
      | none =>
        rw [hk] at h2
        cases h2
      | some z =>
        rw [hk] at h2
        cases h2
        have nT : D ≠ T := ne_of_none eD hT
        have hz := pos z (List.mem_of_getElem? hk)
        have sT : Same G1 (upd G1 T (.tup [.int (i : Nat), .int z])) := same_new hT
        refine ⟨T, [.int (i : Nat), .int z], rfl, SqT.of upd_same, rfl, _, _, rfl, _, _, rfl, rfl, rfl, _, rfl, _, rfl, _, rfl, z, h, rfl, rfl, z + h, 1, rfl, rfl, _, rfl, z + h - 1, h, rfl, rfl, ⟨by omega, by omega⟩, _, _, rfl, rfl, _, (sT _ _ eD), ?_, fun a o e => ?_, ?_⟩
        · have a1 : i < ns.length := (List.getElem?_eq_some_iff.mp hk).1
          rw [List.length_map, List.length_take]
          omega
        · rw [upd_ne (ne_of_none e hD)]
          exact sT _ _ (sm _ _ e)
        · have q : ns.zipIdx.take (i + 1) = ns.zipIdx.take i ++ [(z, i)] := by
            rw [List.take_add_one, List.getElem?_zipIdx, hk]
            simp
          rw [upd_same, q, List.map_append]
          rfl
    · rintro G ⟨sm, eD⟩
      rw [List.length_map, List.take_of_length_le (by rw [List.length_zipIdx]; exact Nat.le_refl _)] at eD
      exact k D G sm hD eD
theorem ok_bn (F : FnP K dPBarNumbers f fd) (FD : FnP K dPDepthNumbers fD fdD) (GD : FnOk P w K mg base CX0 1 fD fdD ["deep"] spDN) (gD : mg "depth_numbers" = some (.ref fD)) (FS : FnP K dPStepsByNumbers fS fdS) (GS : FnOk P w K mg base CX0 1 fS fdS ["numbers", "hands"] spSB) (gS : mg "steps_by_numbers" = some (.ref fS)) : FnOk P w K mg base CX0 2 f fd ["deep", "hands"] spBN := by
  have bD : Binds K fdD ["deep"] [] := FD.bindsN fun _ _ _ _ _ _ us hl => match us, hl with | [_], _ => rfl
  have bS : Binds K fdS ["numbers", "hands"] [] := FS.bindsN fun _ _ _ _ _ _ us hl => match us, hl with | [_, _], _ => rfl
  refine F.ok scBN (fun vs H Q E h => ?_) (fun cdv A outer s H vs Q E hr h => ⟨_, PSs.nox (
    pss_one (ps_ret (pe_call GS hr rfl gS FS.kp bS .nil pass0 (pa_cons (pe_call GD hr rfl gD FD.kp bD .nil pass0 (pa_cons (pv 0) pa_nil)) (pa_cons (pv 1) pa_nil))))), ?_⟩)
  · obtain ⟨l, ds, h, rfl, _⟩ := h
    rfl
  · obtain ⟨l, ds, n, rfl, e1, hd, dz, h1, h2, k⟩ := h
    have m1 : -1 ≤ maxD ds (-1) := maxD_ge (by decide) fun x hx => by have := (hd x hx).1; omega
    have m2 : maxD ds (-1) < 2 ^ 20 := maxD_lt (fun x hx => (hd x hx).2) (by decide)
    refine ⟨_, rfl, l, ds, rfl, e1, hd, dz, fun p H1 s1 np ep => ?_⟩
    have eq : ((List.range (maxD ds (-1) + 1).toNat).map fun k : Nat => V.int (cntGe ds (k : Int))) = ((List.range (maxD ds (-1) + 1).toNat).map fun k : Nat => (cntGe ds (k : Int) : Int)).map V.int := by
      rw [List.map_map]
      rfl
    rw [eq] at ep
    refine ⟨_, rfl, p, _, n, rfl, ep, fun x hx => ?_, ?_, h1, h2, fun p2 H2 s2 np2 ep2 => k p2 H2 (s1.trans s2) (s1.free np2) ?_⟩
    · obtain ⟨k, _, rfl⟩ := List.mem_map.mp hx
      omega
    · rw [List.length_map, List.length_range, sizeLine_eq]
      omega
    · rw [ep2, range_zipIdx, List.map_map]
      unfold barsOf
      rw [List.map_map]
      rfl
end
end K36
/-! bars_left, costly_steps. -/
namespace K36
open PySem PySem.Spec PyProof.Rows L2 LamX SfKey SfVal
/-- what is left ahead of a step -/
def leftAt (bs : List B) (rs : List (List B)) (i : Nat) : List B := bs.filter fun b => (rs.take i).all fun s => !decide (b ∈ s)
/-- the greatest number of what is left -/
def barTop (bs : List B) (h : Int) (l : List B) : Int := maxD (barsOf (l.map (dep bs)) h) 0
def barsLeft (bs : List B) (h : Int) (rs : List (List B)) : List Int := (List.range (rs.length + 1)).map fun i => barTop bs h (leftAt bs rs i)
theorem leftAt_zero {bs : List B} {rs : List (List B)} : leftAt bs rs 0 = bs := List.filter_eq_self.mpr fun b _ => by simp
theorem leftAt_step {bs : List B} {rs : List (List B)} {i : Nat} {s : List B} (h : rs[i]? = some s) : leftAt bs rs (i + 1) = (leftAt bs rs i).filter fun b => !decide (b ∈ s) := by
  unfold leftAt
  rw [List.filter_filter]
  refine List.filter_congr fun b _ => ?_
  rw [List.take_add_one, h, List.all_append, Bool.and_comm]
  simp
theorem leftAt_le {bs : List B} {rs : List (List B)} {i : Nat} : (leftAt bs rs i).length ≤ bs.length := List.length_filter_le ..
theorem leftAt_sub {bs : List B} {rs : List (List B)} {i : Nat} {b : B} (h : b ∈ leftAt bs rs i) : b ∈ bs := (List.mem_filter.mp h).1
theorem dep_range {n : Int} {bs : List B} {b : B} (good : ∀ b ∈ bs, OkB n b) (hb : b ∈ bs) : 0 ≤ dep bs b ∧ dep bs b < bs.length := by
  unfold dep
  have a1 := List.length_filter_le (fun c : B => decide (c.1 ≤ b.1) && decide (b.2 ≤ c.2)) bs
  have a2 : 0 < (bs.filter fun c : B => decide (c.1 ≤ b.1) && decide (b.2 ≤ c.2)).length := List.length_pos_of_mem (a := b) (List.mem_filter.mpr ⟨hb, by simp⟩)
  omega
theorem lock_same {G H' : Hp} {d : Addr} {u : HO} {od : Obj} (h : G d = some u) (s : Same (upd G d (.frz od u)) H') : Same G (upd H' d u) := fun b o e => by
  by_cases q : b = d
  · subst q
    rw [upd_same, ← h]
    exact e
  · rw [upd_ne q]
    refine s _ _ ?_
    rw [upd_ne q]
    exact e
/-- max(bar_numbers(list(left.values()), hands), default=0) -/
def tTop (K : PySem.W.Frag) : TE := tCKw (rMaxD K) (tCons (tCall spBN [] E0 (tCons (tVals (tVar 3)) (tCons (tVar 1) tNil))) tNil) (tCons (tC (.int 0)) tNil)
theorem top_rd {K : PySem.W.Frag} {σ : L2.St} {H : Hp} {Q : VK} {d : Addr} {n N : Int} {bs li : List B} (v3 : σ[3]? = some (some (.ref d))) (v1 : σ[1]? = some (some (.int n))) (hd : H d = some (.dT (dB li fun b => .int (dep bs b)))) (good : ∀ b ∈ bs, OkB N b) (bz : bs.length < 2 ^ 20) (sub : ∀ b ∈ li, b ∈ bs) (lz : li.length ≤ bs.length) (n1 : 1 ≤ n) (n2 : n < 2 ^ 20)
    (k : ∀ G, Same H G → Q (.int (barTop bs n li)) G) : tTop K σ H Q := by
  refine ⟨_, v3, d, _, rfl, hd, fun p hp => ?_⟩
  have s1 : Same H (upd H p (.lst (isVals (dB li fun b => .int (dep bs b))))) := same_new hp
  refine ⟨_, v1, p, li.map (dep bs), n, rfl, ?_, fun x hx => ?_, ?_, n1, n2, fun q G s2 nq eq => ?_⟩
  · rw [upd_same]
    unfold isVals dB
    rw [List.map_map, List.map_map]
    rfl
  · obtain ⟨b, hb, e⟩ := List.mem_map.mp hx
    have := dep_range good (sub b hb)
    omega
  · rw [List.length_map]
    omega
  · exact ⟨q, barsOf (li.map (dep bs)) n, 0, rfl, rfl, SqL.of eq, k G (s1.trans s2)⟩
section
variable {P : Program} {w : World} {K : PySem.W.Frag} {mg : Str → Option Value} {base : Heap} {f fC fS fD fB Pt : Addr} {fd fdC fdS fdD fdB : FuncData}
theorem hu8 {A : Around} {k : Nat} (hr : Room k A) : A.units + 8 < cLine := by
  have := hr.un
  omega
end
end K36
/-! costly_steps. -/
namespace K36
open PySem PySem.Spec PyProof.Rows L2 LamX SfKey
/-- where the next number is no less -/
def costlyOf (ns : List Int) : List Nat := (List.range (ns.length - 1)).filter fun i => decide (ns.getD i 0 ≤ ns.getD (i + 1) 0)
theorem atI_int {ns : List Int} {i : Nat} (h : i < ns.length) : atI (ns.map V.int) (i : Int) = some (V.int (ns.getD i 0)) := by
  refine atI_nat ?_
  rw [List.getElem?_map, List.getD_eq_getElem?_getD, List.getElem?_eq_getElem h]
  rfl
section
variable {P : Program} {w : World} {K : PySem.W.Frag} {mg : Str → Option Value} {base : Heap} {f fB Pt : Addr} {fd fdB : FuncData}
end
end K36
/-! The law's own: cut, block_depths, ready, chosen. -/
namespace K36
open PySem PySem.Spec PyProof.Rows L2 LamX SfKey
theorem foldl_max_mem : ∀ (l : List Int) (a : Int), l.foldl max a = a ∨ l.foldl max a ∈ l
  | [], _ => .inl rfl
  | x :: t, a => by
    rw [List.foldl_cons]
    rcases foldl_max_mem t (max a x) with h | h
    · rw [h]
      by_cases c : a ≤ x
      · rw [Int.max_eq_right c]
        exact .inr (List.mem_cons_self ..)
      · rw [Int.max_eq_left (by omega)]
        exact .inl rfl
    · exact .inr (List.mem_cons_of_mem _ h)
theorem foldl_max_ge : ∀ (l : List Int) (a : Int), a ≤ l.foldl max a ∧ ∀ x ∈ l, x ≤ l.foldl max a
  | [], a => ⟨Int.le_refl a, fun x h => nomatch h⟩
  | x :: t, a => by
    rw [List.foldl_cons]
    obtain ⟨h1, h2⟩ := foldl_max_ge t (max a x)
    refine ⟨Int.le_trans (Int.le_max_left a x) h1, fun y hy => ?_⟩
    rcases List.mem_cons.mp hy with e | e
    · rw [e]
      exact Int.le_trans (Int.le_max_right a x) h1
    · exact h2 y e
theorem filt_map_snoc {β : Type} {bs : List B} {p : B → Bool} {f : B → β} {j : Nat} {b : B} (hb : bs[j]? = some b) : ((bs.take (j + 1)).filter p).map f = ((bs.take j).filter p).map f ++ (if p b then [f b] else []) := by
  rw [filt_step hb, List.map_append]
  split <;> rfl
abbrev nLBD : List Str := ["_law_grouping", "_law_found", "_law_first", "_law_end", "_law_block"]
theorem scLBD : FnScope nLBD ["_law_grouping"] (defScope sBlockdepths) := ⟨rfl, rfl, rfl, by decide +kernel, rfl, by decide +kernel, by decide +kernel⟩
section
variable {P : Program} {w : World} {K : PySem.W.Frag} {mg : Str → Option Value} {base : Heap} {f : Addr} {fd : FuncData}
theorem ok_lbd (F : FnP K dBlockdepths f fd) (gLe : mg "len" = none) : FnOk P w K mg base CX0 1 f fd ["_law_grouping"] spBD := by
  refine F.ok scLBD (fun vs H Q E h => ?_) (fun cdv A outer s H vs Q E hr h => ⟨_, PSs.nox (
    pss_cons (ps_set (i := 1) scLBD.nd rfl (.inl rfl) pe_dnewT)
    (pss_cons (ps_for PassesOwn.never rfl (pi_list (pv 0)) (g := gTup K 2 (gCons (gName 2) (gCons (gName 3) gNil)))
        (pg_tup rfl (pgs_cons (pg_name (i := 2) scLBD.nd rfl (.inr rfl)) (pgs_cons (pg_name (i := 3) scLBD.nd rfl (.inr rfl)) pgs_nil)))
      (pss_one (ps_dput (hu_of hr) (pv 1) (pe_tup (pa_cons (pv 2) (pa_cons (pv 3) pa_nil)))
        (pe_op op_sub (pe_callB call_len_seq rfl gLe (by decide +kernel) (pa_cons (pe_lc (own := [("_law_block", 4)]) (g := gName 4) (tt := tAnd (tTest (tOp (rI0 fun i j => V.bl (decide (i ≤ j))) (tOp (rIxT K) (tVar 4) (tC (.int 0))) (tVar 2))) (tTest (tOp (rI0 fun i j => V.bl (decide (i ≤ j))) (tVar 3) (tOp (rIxT K) (tVar 4) (tC (.int 1)))))) (te := tVar 4) rfl scLBD.nd (pi_list (pv 0)) (blkOk_by (N := nLBD) (sc := defScope sBlockdepths) (by decide +kernel))
          (fun _ _ _ _ _ => pg_name (i := 4) scLBD.nd rfl (.inl rfl))
          (fun _ _ _ _ _ => pts_one (PW.pt (pw_and (pt_cmpR op_le (pe_ix ix_tup (pv 4) pe_int (fun _ _ => rfl)) (pv 2) (nomark _)) (pw_and1 (pt_cmpR op_le (pv 3) (pe_ix ix_tup (pv 4) pe_int (fun _ _ => rfl)) (nomark _))))))
          (fun _ _ _ _ _ => pv 4)) pa_nil)) pe_int) rfl)))
    (pss_one (ps_ret (pv 1))))), ?_⟩)
  · obtain ⟨l, xs, bs, rfl, _⟩ := h
    rfl
  · obtain ⟨l, xs, bs, rfl, e1, lb, lz, nd, k⟩ := h
    intro d hd
    have s0 : Same H (upd H d (.dT [])) := same_new hd
    refine ⟨_, rfl, l, rfl, ⟨_, SqL.of (s0 _ _ e1)⟩, ?_⟩
    refine for_it (walk_list (xs := xs)) (fun i τ G => (∃ u2 u3, τ = [some (.ref l), some (.ref d), u2, u3, none]) ∧ Same H G ∧ G d = some (.dT (dB (bs.take i) fun b => .int (dep bs b)))) ⟨⟨_, _, rfl⟩, s0, upd_same⟩ (fun i τ G _ q => SqL.of (q.2.1 _ _ e1)) ?_ ?_
    · rintro i x τ G1 G2 hi ⟨⟨u2, u3, rfl⟩, sm, eD⟩ ⟨eG, hx⟩
      subst eG
      obtain ⟨b, hb, p, ep, tb⟩ := lb.get hx
      subst ep
      refine ⟨p, [.int b.1, .int b.2], rfl, SqT.of (sm _ _ tb), rfl, _, _, rfl, _, _, rfl, rfl, ?_⟩
      refine ⟨_, rfl, l, rfl, ⟨_, SqL.of (sm _ _ e1)⟩, fun L hL => ?_⟩
      refine lc_it (walk_list (xs := xs)) (fun j G' => Same G2 G' ∧ ∃ ys, G' L = some (.lst ys) ∧ ys.length = ((bs.take j).filter fun c => decide (c.1 ≤ b.1) && decide (b.2 ≤ c.2)).length) ⟨same_new hL, [], upd_same, rfl⟩ (fun j G' _ q => SqL.of (q.1 _ _ (sm _ _ e1))) ?_ ?_
      · rintro j y G3 G4 hj ⟨s3, ys, eL, el⟩ ⟨eG, hy⟩
        subst eG
        obtain ⟨c, hc, q, eq, tq⟩ := lb.get hy
        subst eq
        have tq4 := SqT.of (K := K) (s3 _ _ (sm _ _ tq))
        have lens : ys.length < sizeLine := by
          have a1 := List.length_filter_le (fun c : B => decide (c.1 ≤ b.1) && decide (b.2 ≤ c.2)) (bs.take j)
          rw [List.length_take] at a1
          rw [el, sizeLine_eq]
          rw [lb.len] at lz
          omega
        have step := filt_step (p := fun c : B => decide (c.1 ≤ b.1) && decide (b.2 ≤ c.2)) hc
        refine ⟨rfl, _, rfl, q, _, 0, .int c.1, rfl, rfl, tq4, rfl, _, rfl, c.1, b.1, rfl, rfl, _, rfl, ?_⟩
        by_cases h1 : c.1 ≤ b.1
        · refine itT (decide_eq_true h1) ⟨_, rfl, _, rfl, q, _, 1, .int c.2, rfl, rfl, tq4, rfl, b.2, c.2, rfl, rfl, _, rfl, ?_⟩
          by_cases h2 : b.2 ≤ c.2
          · rw [decide_eq_true h1, decide_eq_true h2] at step
            refine itT (decide_eq_true h2) ⟨_, rfl, _, eL, lens, fun a o e => ?_, _, upd_same, ?_⟩
            · rw [upd_ne (ne_of_none e hL)]
              exact s3 _ _ e
            · rw [step, List.length_append, List.length_append, el]
              rfl
          · rw [decide_eq_true h1, decide_eq_false h2] at step
            refine itF (decide_eq_false h2) ⟨s3, ys, eL, ?_⟩
            rw [step]
            simpa using el
        · rw [decide_eq_false h1] at step
          refine itF (decide_eq_false h1) ⟨s3, ys, eL, ?_⟩
          rw [step]
          simpa using el
      · rintro G' ⟨s3, ys, eL, el⟩
        rw [lb.len, List.take_length] at el
        have eD' := s3 _ _ eD
        refine ⟨L, _, rfl, .inl (SqL.of eL), _, 1, rfl, rfl, _, rfl, _, rfl, _, rfl, (by show 2 ≤ sizeLine; rw [sizeLine_eq]; decide), fun t ht => ?_⟩
        have nd' : d ≠ t := ne_of_none eD' ht
        have sT : Same H (upd G' t (.tup [.int b.1, .int b.2])) := (sm.trans s3).trans (same_new ht)
        have room : (dB (bs.take i) fun b => .int (dep bs b)).length < sizeLine := by
          rw [dB_len, List.length_take, sizeLine_eq]
          rw [lb.len] at lz
          omega
        refine ⟨d, _, rfl, DPut.t (k := kB b) (by rw [upd_ne nd']; exact eD') upd_same room, ⟨_, _, rfl⟩, fun a o e => ?_, ?_⟩
        · rw [upd_ne (ne_of_none e hd)]
          exact sT _ _ e
        · rw [upd_same, take_one hb, ← dB_put (notAhead nd hb), el]
          rfl
    · rintro τ G ⟨⟨u2, u3, rfl⟩, sm, eD⟩
      refine ⟨_, rfl, k d G sm hd ?_⟩
      rw [eD, lb.len, List.take_length]
end
end K36
/-! The law's own: ready, chosen. -/
namespace K36
open PySem PySem.Spec PyProof.Rows L2 LamX SfKey
/-- a part is a block just if it is wide -/
def WideOk (bs : List B) : Prop := ∀ b ∈ bs, ∀ c ∈ [(b.1, midOf bs b), (midOf bs b, b.2)], (c ∈ bs ↔ 1 < c.2 - c.1)
/-- a list of blocks at an address -/
def ListAt (H : Hp) (l : Addr) (bs : List B) : Prop := ∃ xs, H l = some (.lst xs) ∧ Lb H xs bs ∧ xs.length < 2 ^ 20
theorem ListAt.same {H G : Hp} {l : Addr} {bs : List B} (h : ListAt H l bs) (s : Same H G) : ListAt G l bs := by
  obtain ⟨xs, e, lb, lz⟩ := h
  exact ⟨xs, s _ _ e, lb.same s, lz⟩
theorem ListAt.len {H : Hp} {l : Addr} {bs : List B} (h : ListAt H l bs) : bs.length < 2 ^ 20 := by
  obtain ⟨xs, e, lb, lz⟩ := h
  rw [← lb.len]
  exact lz
section
variable {P : Program} {w : World} {K : PySem.W.Frag} {mg : Str → Option Value} {base : Heap} {f fC : Addr} {fd fdC : FuncData}
end
end K36
/-! The law's own: chosen, bar. -/
namespace K36
open PySem PySem.Spec PyProof.Rows L2 LamX SfKey
/-- the law's greatest number -/
def lawBar (bs : List B) (h : Int) (L : List B) : Int := (List.range bs.length).foldl (fun acc (k : Nat) => if 0 < cntGe (L.map (dep bs)) (k : Int) then max acc (barAt (L.map (dep bs)) h (k : Int)) else acc) 0
def spLBar : Sp := fun vs H Q _ => ∃ (l lf : Addr) (n : Int) (bs L : List B), vs = [.ref l, .ref lf, .int n] ∧ ListAt H l bs ∧ bs.Nodup ∧ ListAt H lf L ∧ (∀ b ∈ L, b ∈ bs) ∧ 1 ≤ n ∧ n < 2 ^ 20 ∧ ∀ G, Same H G → Q (.int (lawBar bs n L)) G
abbrev nLBar : List Str := ["_law_grouping", "_law_left", "_law_hands", "_law_deep", "_law_found", "_law_at", "_law_many", "_law_block"]
theorem scLBar : FnScope nLBar ["_law_grouping", "_law_left", "_law_hands"] (defScope sBar) := ⟨rfl, rfl, rfl, by decide +kernel, rfl, by decide +kernel, by decide +kernel⟩
section
variable {P : Program} {w : World} {K : PySem.W.Frag} {mg : Str → Option Value} {base : Heap} {f fD fR : Addr} {fd fdD fdR : FuncData}
theorem hu16 {A : Around} {k : Nat} (hr : Room k A) : A.units + 16 < cLine := by
  have := hr.un
  omega
end
end K36
/-! The law's own: bar. -/
namespace K36
open PySem PySem.Spec PyProof.Rows L2 LamX SfKey
theorem cnt_map (bs L : List B) (k : Int) : cntGe (L.map (dep bs)) k = (L.filter fun c => decide (k ≤ dep bs c)).length := by
  unfold cntGe
  rw [List.filter_map, List.length_map]
  rfl
section
variable {P : Program} {w : World} {K : PySem.W.Frag} {mg : Str → Option Value} {base : Heap} {f fD fR : Addr} {fd fdD fdR : FuncData}
theorem ok_lbar (F : FnP K dBar f fd) (FD : FnP K dBlockdepths fD fdD) (GD : FnOk P w K mg base CX0 1 fD fdD ["_law_grouping"] spBD) (gD : mg "_law_block_depths" = some (.ref fD)) (gLe : mg "len" = none) (gRa : mg "range" = none) (gMa : mg "max" = none) :
    FnOk P w K mg base CX0 2 f fd ["_law_grouping", "_law_left", "_law_hands"] spLBar := by
  have bD : Binds K fdD ["_law_grouping"] [] := FD.bindsN fun _ _ _ _ _ _ us hl => match us, hl with | [_], _ => rfl
  refine F.ok scLBar (fun vs H Q E h => ?_) (fun cdv A outer s H vs Q E hr h => ⟨_, PSs.nox (
    pss_cons (ps_asg (pe_tup (pa_cons (pe_call GD hr rfl gD FD.kp bD .nil pass0 (pa_cons (pv 0) pa_nil)) (pa_cons pe_int pa_nil))) (pg_tup rfl (pgs_cons (pg_name (i := 3) scLBar.nd rfl (.inr rfl)) (pgs_cons (pg_name (i := 4) scLBar.nd rfl (.inl rfl)) pgs_nil))))
    (pss_cons (ps_for PassesOwn.never rfl (pi_range1 rfl gRa (pa_cons (pe_callB call_len_seq rfl gLe (by decide +kernel) (pa_cons (pv 0) pa_nil)) pa_nil)) (pg_name (i := 5) scLBar.nd rfl (.inr rfl))
      (pss_cons (ps_set (i := 6) scLBar.nd rfl (.inl rfl) (pe_callB call_len_seq rfl gLe (by decide +kernel) (pa_cons (pe_lc (own := [("_law_block", 7)]) (g := gName 7) (tt := tTest (tOp (rI0 fun i j => V.bl (decide (j ≤ i))) (tDGet (tVar 3) (tVar 7)) (tVar 5))) (te := tVar 7) rfl scLBar.nd (pi_list (pv 1)) (blkOk_by (N := nLBar) (sc := defScope sBar) (by decide +kernel))
          (fun _ _ _ _ _ => pg_name (i := 7) scLBar.nd rfl (.inl rfl)) (fun _ _ _ _ _ => pts_one (pt_cmpR op_ge (pe_dget (hu_of hr) (pv 3) (pv 7) (fun _ _ => rfl)) (pv 5) (nomark _))) (fun _ _ _ _ _ => pv 7)) pa_nil)))
      (pss_one (ps_if (pt_cmpR op_gt (pv 6) pe_int (nomark _)) (pss_one (ps_set (i := 4) scLBar.nd rfl (.inl rfl) (pe_callB (call_max2 rfl) rfl gMa (by decide +kernel) (pa_cons (pv 4) (pa_cons (pe_op op_add (pv 5) (pe_op op_fdiv (pe_op op_sub (pe_op op_add (pv 6) (pv 2)) pe_int) (pv 2))) pa_nil))))) pss_nil))))
    (pss_one (ps_ret (pv 4))))), ?_⟩)
  · obtain ⟨l, lf, n, bs, L, rfl, _⟩ := h
    rfl
  · obtain ⟨l, lf, n, bs, L, rfl, LA, nd, FA, sub, n1, n2, k⟩ := h
    have bz := LA.len
    have fz := FA.len
    obtain ⟨xs, e1, lb, lz⟩ := id LA
    obtain ⟨fs, e2, lF, _⟩ := id FA
    have two : 2 ≤ sizeLine := by
      rw [sizeLine_eq]
      decide
    refine ⟨_, rfl, l, xs, bs, rfl, e1, lb, lz, nd, fun d G1 s1 nd1 eD => ?_⟩
    refine ⟨two, fun t ht => ?_⟩
    have s2 := same_new (o := .tup [.ref d, .int 0]) ht
    refine ⟨t, _, rfl, SqT.of upd_same, rfl, _, _, rfl, _, _, rfl, rfl, ?_⟩
    have eD2 := s2 _ _ eD
    have s12 := s1.trans s2
    generalize (upd G1 t (.tup [.ref d, .int 0])) = G2 at s2 eD2 s12 ⊢
    refine ⟨_, rfl, l, xs, rfl, .inl (SqL.of (s12 _ _ e1)), (xs.length : Int), rfl, by omega, by omega, ?_⟩
    rw [show (xs.length : Int).toNat = bs.length by rw [Int.toNat_natCast, lb.len]]
    refine for_range (lo := 0) (n := bs.length) (fun i τ G => (∃ u5 u6, τ = [some (.ref l), some (.ref lf), some (.int n), some (.ref d), some (.int ((List.range i).foldl (fun acc (k : Nat) => if 0 < cntGe (L.map (dep bs)) (k : Int) then max acc (barAt (L.map (dep bs)) n (k : Int)) else acc) 0)), u5, u6, none]) ∧ Same G2 G) ⟨⟨_, _, rfl⟩, fun _ _ e => e⟩ ?_ ?_
    · rintro i τ G hi ⟨⟨u5, u6, rfl⟩, s3⟩
      have e2' := s3 _ _ (s12 _ _ e2)
      have eD3 := s3 _ _ eD2
      refine ⟨_, rfl, lf, rfl, ⟨_, SqL.of e2'⟩, fun D hD => ?_⟩
      refine lc_it (walk_list (xs := fs)) (fun j G' => Same G G' ∧ ∃ ys, G' D = some (.lst ys) ∧ ys.length = ((L.take j).filter fun c => decide ((0 + (i : Int)) ≤ dep bs c)).length) ⟨same_new hD, [], upd_same, rfl⟩ (fun j G' _ q => SqL.of (q.1 _ _ e2')) ?_ ?_
      · rintro j y G3 G4 hj ⟨s4, ys, eY, el⟩ ⟨eG, hy⟩
        subst eG
        obtain ⟨c, hc, q, eq, tq⟩ := lF.get hy
        subst eq
        have mc : c ∈ bs := sub c (List.mem_of_getElem? hc)
        have tq4 := s4 _ _ (s3 _ _ (s12 _ _ tq))
        have g1 := DGet.t (k := kB c) (s4 _ _ eD3) tq4
        rw [dB_get mc] at g1
        have step := filt_step (p := fun c => decide ((0 + (i : Int)) ≤ dep bs c)) hc
        refine ⟨rfl, _, rfl, _, rfl, d, _, rfl, g1, _, rfl, dep bs c, 0 + (i : Int), rfl, rfl, _, rfl, ?_⟩
        by_cases m : (0 + (i : Int)) ≤ dep bs c
        · rw [decide_eq_true m] at step
          refine itT (decide_eq_true m) ⟨_, rfl, ys, eY, ?_, fun a o e => ?_, _, upd_same, ?_⟩
          · have a1 := List.length_filter_le (fun c => decide ((0 + (i : Int)) ≤ dep bs c)) (L.take j)
            rw [List.length_take] at a1
            rw [el, sizeLine_eq]
            omega
          · rw [upd_ne (ne_of_none e hD)]
            exact s4 _ _ e
          · rw [step, List.length_append, List.length_append, el]
            rfl
        · rw [decide_eq_false m] at step
          refine itF (decide_eq_false m) ⟨s4, ys, eY, ?_⟩
          rw [step]
          simpa using el
      rintro G3 ⟨s4, ys, eY, el⟩
      have ef : ys.length = cntGe (L.map (dep bs)) (i : Int) := by
        rw [el, lF.len, List.take_length, cnt_map, Int.zero_add]
      refine ⟨D, ys, rfl, .inl (SqL.of eY), ?_⟩
      refine ⟨_, rfl, (ys.length : Int), 0, rfl, rfl, _, rfl, ?_⟩
      have stp : (List.range (i + 1)).foldl (fun acc (k : Nat) => if 0 < cntGe (L.map (dep bs)) (k : Int) then max acc (barAt (L.map (dep bs)) n (k : Int)) else acc) 0 = (if 0 < cntGe (L.map (dep bs)) (i : Int) then max ((List.range i).foldl (fun acc (k : Nat) => if 0 < cntGe (L.map (dep bs)) (k : Int) then max acc (barAt (L.map (dep bs)) n (k : Int)) else acc) 0) (barAt (L.map (dep bs)) n (i : Int)) else ((List.range i).foldl (fun acc (k : Nat) => if 0 < cntGe (L.map (dep bs)) (k : Int) then max acc (barAt (L.map (dep bs)) n (k : Int)) else acc) 0)) := by
        rw [List.range_succ, List.foldl_append]
        rfl
      rw [stp]
      generalize ((List.range i).foldl (fun acc (k : Nat) => if 0 < cntGe (L.map (dep bs)) (k : Int) then max acc (barAt (L.map (dep bs)) n (k : Int)) else acc) 0) = acc
      by_cases c : 0 < cntGe (L.map (dep bs)) (i : Int)
      · rw [if_pos c]
        refine itT (decide_eq_true (by omega)) ?_
        refine ⟨_, rfl, _, rfl, _, rfl, _, rfl, _, _, rfl, rfl, _, _, rfl, rfl, _, rfl, _, _, rfl, rfl, ⟨by omega, by omega⟩, _, _, rfl, rfl, acc, _, rfl, ⟨some (.int (0 + (i : Int))), some (.int (ys.length : Int)), ?_⟩, s3.trans s4⟩
        have ev : (if 0 + (i : Int) + ((ys.length : Int) + n - 1) / n > acc then 0 + (i : Int) + ((ys.length : Int) + n - 1) / n else acc) = max acc (barAt (L.map (dep bs)) n (i : Int)) := by
          unfold barAt
          rw [← ef, Int.zero_add]
          split
          · rw [Int.max_eq_right (by omega)]
          · rw [Int.max_eq_left (by omega)]
        rw [ev]
        rfl
      · rw [if_neg c]
        exact itF (decide_eq_false (by omega)) ⟨⟨_, _, rfl⟩, s3.trans s4⟩
    · rintro τ G ⟨⟨u5, u6, rfl⟩, s3⟩
      exact ⟨_, rfl, k G (s12.trans s3)⟩
end
end K36
/-! The law's own: run. -/
namespace K36
open PySem PySem.Spec PyProof.Rows L2 LamX SfKey
theorem kept_congr {bs S S' lost : List B} {h : Nat} (e : ∀ b, b ∈ S ↔ b ∈ S') : keptB bs S h lost = keptB bs S' h lost := by
  unfold keptB
  rw [chosen_congr e]
theorem runF_perm {bs : List B} {h : Nat} {ls : List (List B)} : ∀ {m : Nat} {S S' : List B} {i : Nat}, S.Perm S' → runF bs h ls m S i = runF bs h ls m S' i
  | 0, _, _, _, _ => rfl
  | m + 1, S, S', i, p => by
    have e : keptB bs S h (ls.getD i []) = keptB bs S' h (ls.getD i []) := kept_congr fun b => p.mem_iff
    rw [runF, runF, p.length_eq, e, runF_perm (p.append_right _)]
theorem Told.perm {bs S S' : List B} {h : Nat} {ls pre : List (List B)} (T : Told bs h ls pre S) (p : S.Perm S') : Told bs h ls pre S' := by
  obtain ⟨m, hm, e⟩ := T
  refine ⟨m, ?_, ?_⟩
  · unfold runM at hm ⊢
    rw [← p.length_eq]
    exact hm
  · rw [e, runF_perm p]
theorem paired_app {α β : Type} {R : α → β → Prop} {xs xs' : List α} {ys ys' : List β} (h : Paired R xs ys) (t : Paired R xs' ys') : Paired R (xs ++ xs') (ys ++ ys') := by
  induction h with
  | nil => exact t
  | cons a _ ih => exact .cons a ih
/-- what is lost in this step, by the law -/
def tLost2 : TE := fun σ H Q => ∃ (i : Nat) (ll : Addr) (ys : List V) (ls : List (List B)), σ[5]? = some (some (.int (i : Int))) ∧ σ[2]? = some (some (.ref ll)) ∧ H ll = some (.lst ys) ∧ LL H ys ls ∧
  ∀ a ws G, Same H G → G a = some (.lst ws) → Lb G ws (ls.getD i []) → Q (.ref a) G
theorem lost2_rd {K : PySem.W.Frag} : ∀ (σ : L2.St) (H : Hp) (Q : VK), tLost2 σ H Q → tIf (tTest (tOp (rI0 fun i j => V.bl (decide (i < j))) (tVar 5) (tCB (fun xs H Q => ∃ p ys, xs = [V.ref p] ∧ (SqL K H p ys ∨ SqT K H p ys) ∧ Q (V.int ys.length) H) (tCons (tVar 2) tNil))))
    (tOp (rIxL K) (tVar 2) (tVar 5)) (tLst tNil) σ H Q := by
  rintro σ H Q ⟨i, ll, ys, ls, v5, v2, eL, lL, k⟩
  refine ⟨_, v5, _, v2, ll, ys, rfl, .inl (SqL.of eL), _, _, rfl, rfl, _, rfl, ?_⟩
  by_cases lt : i < ys.length
  · refine itT (decide_eq_true (by omega)) ?_
    have hv := List.getElem?_eq_getElem lt
    obtain ⟨b, hb, a, ws, ea, ha, la, _⟩ := lL.get hv
    refine ⟨_, v2, _, v5, ll, ys, _, _, rfl, rfl, SqL.of eL, atI_nat hv, ?_⟩
    rw [ea]
    refine k a ws H (fun _ _ e => e) ha ?_
    rw [List.getD_eq_getElem?_getD, hb]
    exact la
  · refine itF (decide_eq_false (by omega)) ?_
    refine ⟨Nat.zero_le _, fun a ha => k a [] _ (same_new ha) upd_same ?_⟩
    rw [List.getD_eq_getElem?_getD, List.getElem?_eq_none (by rw [← lL.len]; omega)]
    exact .nil
/-- a grouping for the law -/
structure WellG (bs : List B) : Prop where
  gr : Gr (bs.length + 1) bs
  wide : WideOk bs
theorem LL.same {H G : Hp} {ys : List V} {ls : List (List B)} (h : LL H ys ls) (s : Same H G) : LL G ys ls := h.ext (ExtN.of s)
section
variable {P : Program} {w : World} {K : PySem.W.Frag} {mg : Str → Option Value} {base : Heap} {f fC : Addr} {fd fdC : FuncData}
end
end K36
/-! What a grouping that is drawn block by block is. -/
namespace K36
open PySem PySem.Spec PyProof.Rows L2
def In (c b : B) : Prop := b.1 ≤ c.1 ∧ c.2 ≤ b.2
def Off (c b : B) : Prop := c.2 ≤ b.1 ∨ b.2 ≤ c.1
/-- blocks found, intervals waiting -/
structure PT (n : Int) (F W : List B) : Prop where
  good : ∀ b ∈ F, OkB n b
  wgood : ∀ w ∈ W, 0 ≤ w.1 ∧ w.1 < w.2 ∧ w.2 ≤ n
  split : ∀ b ∈ F, ∃ m, b.1 < m ∧ m < b.2 ∧ ((b.1, m) ∈ F ∨ (b.1, m) ∈ W ∨ m = b.1 + 1) ∧ ((m, b.2) ∈ F ∨ (m, b.2) ∈ W ∨ b.2 = m + 1) ∧ ∀ c, c ∈ F ∨ c ∈ W → c ≠ b → In c b → c.2 ≤ m ∨ m ≤ c.1
  wf : ∀ w ∈ W, ∀ b ∈ F, (In w b ∧ w ≠ b) ∨ Off w b
  ww : W.Pairwise Off
  ff : ∀ b ∈ F, ∀ c ∈ F, In b c ∨ In c b ∨ Off b c
  nd : F.Nodup
  many : (F.length : Int) + (W.map fun w => w.2 - w.1 - 1).sum = n - 1
theorem PT.start {n : Int} (h : 1 ≤ n) : PT n [] [(0, n)] where
  good := fun b hb => nomatch hb
  wgood := fun w hw => by
    rw [List.mem_singleton] at hw
    subst hw
    exact ⟨Int.le_refl 0, by show (0 : Int) < n; omega, Int.le_refl n⟩
  split := fun b hb => nomatch hb
  wf := fun w _ b hb => nomatch hb
  ww := List.pairwise_singleton _ _
  ff := fun b hb => nomatch hb
  nd := .nil
  many := by simp
theorem PT.leaf {n : Int} {F W : List B} {w : B} (h : PT n F (W ++ [w])) (hw : w.2 - w.1 ≤ 1) : PT n F W := by
  have wg := h.wgood w (List.mem_append_right _ (List.mem_singleton.mpr rfl))
  refine ⟨h.good, fun v hv => h.wgood v (List.mem_append_left _ hv), fun b hb => ?_, fun v hv => h.wf v (List.mem_append_left _ hv), (List.pairwise_append.mp h.ww).1, h.ff, h.nd, ?_⟩
  · obtain ⟨m, h1, h2, h3, h4, h5⟩ := h.split b hb
    refine ⟨m, h1, h2, ?_, ?_, fun c hc => h5 c (hc.imp id fun z => List.mem_append_left _ z)⟩
    · rcases h3 with z | z | z
      · exact .inl z
      · rcases List.mem_append.mp z with y | y
        · exact .inr (.inl y)
        · rw [List.mem_singleton] at y
          subst y
          exact .inr (.inr (by simp only at hw wg; omega))
      · exact .inr (.inr z)
    · rcases h4 with z | z | z
      · exact .inl z
      · rcases List.mem_append.mp z with y | y
        · exact .inr (.inl y)
        · rw [List.mem_singleton] at y
          subst y
          exact .inr (.inr (by simp only at hw wg; omega))
      · exact .inr (.inr z)
  · have q := h.many
    rw [List.map_append, List.sum_append] at q
    simp only [List.map_cons, List.map_nil, List.sum_cons, List.sum_nil] at q
    omega
theorem PT.cut {n : Int} {F W : List B} {a e m : Int} (h : PT n F (W ++ [(a, e)])) (h1 : a < m) (h2 : m < e) : PT n (F ++ [(a, e)]) (W ++ [(a, m), (m, e)]) := by
  have wg := h.wgood (a, e) (List.mem_append_right _ (List.mem_singleton.mpr rfl))
  simp only at wg
  have wfl : ∀ b ∈ F, (In (a, e) b ∧ (a, e) ≠ b) ∨ Off (a, e) b := h.wf (a, e) (List.mem_append_right _ (List.mem_singleton.mpr rfl))
  have wwl : ∀ v ∈ W, Off v (a, e) := fun v hv => (List.pairwise_append.mp h.ww).2.2 v hv (a, e) (List.mem_singleton.mpr rfl)
  have wwg : ∀ v ∈ W, v.1 < v.2 := fun v hv => (h.wgood v (List.mem_append_left _ hv)).2.1
  have nF : (a, e) ∉ F := fun z => by
    rcases wfl _ z with ⟨_, y⟩ | y
    · exact y rfl
    · unfold Off at y
      simp only at y
      omega
  have memW : ∀ {c : B}, c ∈ W ++ [(a, m), (m, e)] → c ∈ W ∨ c = (a, m) ∨ c = (m, e) := fun hc => by
    rcases List.mem_append.mp hc with z | z
    · exact .inl z
    · simp only [List.mem_cons, List.not_mem_nil, or_false] at z
      exact .inr z
  have memF : ∀ {c : B}, c ∈ F ++ [(a, e)] → c ∈ F ∨ c = (a, e) := fun hc => by
    rcases List.mem_append.mp hc with z | z
    · exact .inl z
    · exact .inr (List.mem_singleton.mp z)
  refine ⟨fun b hb => ?_, fun w hw => ?_, fun b hb => ?_, fun w hw b hb => ?_, ?_, fun b hb c hc => ?_, ?_, ?_⟩
  · rcases memF hb with z | z
    · exact h.good b z
    · subst z
      unfold OkB
      simp only
      omega
  · rcases memW hw with z | z | z
    · exact h.wgood w (List.mem_append_left _ z)
    · subst z
      simp only
      omega
    · subst z
      simp only
      omega
  · rcases memF hb with z | z
    · obtain ⟨k, k1, k2, k3, k4, k5⟩ := h.split b z
      refine ⟨k, k1, k2, ?_, ?_, fun c hc nc ic => ?_⟩
      · rcases k3 with y | y | y
        · exact .inl (List.mem_append_left _ y)
        · rcases List.mem_append.mp y with x | x
          · exact .inr (.inl (List.mem_append_left _ x))
          · exact .inl (List.mem_append_right _ x)
        · exact .inr (.inr y)
      · rcases k4 with y | y | y
        · exact .inl (List.mem_append_left _ y)
        · rcases List.mem_append.mp y with x | x
          · exact .inr (.inl (List.mem_append_left _ x))
          · exact .inl (List.mem_append_right _ x)
        · exact .inr (.inr y)
      · have ae : ∀ {c : B}, c.1 < c.2 → a ≤ c.1 → c.2 ≤ e → In c b → c.2 ≤ k ∨ k ≤ c.1 := fun {c} cw c1 c2 ic => by
          rcases wfl b z with ⟨y, ny⟩ | y
          · have q := k5 (a, e) (.inr (List.mem_append_right _ (List.mem_singleton.mpr rfl))) ny y
            simp only at q
            omega
          · unfold Off In at *
            simp only at y
            omega
        rcases hc with x | x
        · rcases memF x with y | y
          · exact k5 c (.inl y) nc ic
          · subst y
            exact ae (by simp only; omega) (Int.le_refl _) (Int.le_refl _) ic
        · rcases memW x with y | y | y
          · exact k5 c (.inr (List.mem_append_left _ y)) nc ic
          · subst y
            exact ae (by simp only; omega) (by simp only; omega) (by simp only; omega) ic
          · subst y
            exact ae (by simp only; omega) (by simp only; omega) (by simp only; omega) ic
    · subst z
      refine ⟨m, h1, h2, .inr (.inl (by simp)), .inr (.inl (by simp)), fun c hc nc ic => ?_⟩
      rcases hc with x | x
      · rcases memF x with y | y
        · have gc := h.good c y
          unfold OkB at gc
          rcases wfl c y with ⟨v, nv⟩ | v
          · unfold In at v ic
            simp only at v ic
            exact absurd (Prod.ext (by simp only; omega) (by simp only; omega)) nv
          · unfold Off In at *
            simp only at v ic
            omega
        · exact absurd y nc
      · rcases memW x with y | y | y
        · have v := wwl c y
          have v2 := wwg c y
          unfold Off In at *
          simp only at v ic
          omega
        · subst y
          exact .inl (Int.le_refl _)
        · subst y
          exact .inr (Int.le_refl _)
  · rcases memF hb with z | z
    · rcases memW hw with y | y | y
      · exact h.wf w (List.mem_append_left _ y) b z
      · subst y
        have gb := h.good b z
        unfold OkB at gb
        rcases wfl b z with ⟨v, nv⟩ | v
        · refine .inl ⟨?_, fun q => ?_⟩
          · unfold In at *
            simp only at *
            omega
          · subst q
            unfold In at v
            simp only at v
            omega
        · refine .inr ?_
          unfold Off at *
          simp only at *
          omega
      · subst y
        rcases wfl b z with ⟨v, nv⟩ | v
        · refine .inl ⟨?_, fun q => ?_⟩
          · unfold In at *
            simp only at *
            omega
          · subst q
            unfold In at v
            simp only at v
            omega
        · refine .inr ?_
          unfold Off at *
          simp only at *
          omega
    · subst z
      rcases memW hw with y | y | y
      · exact .inr (wwl w y)
      · subst y
        refine .inl ⟨?_, fun q => ?_⟩
        · unfold In
          simp only
          omega
        · have := congrArg Prod.snd q
          simp only at this
          omega
      · subst y
        refine .inl ⟨?_, fun q => ?_⟩
        · unfold In
          simp only
          omega
        · have := congrArg Prod.fst q
          simp only at this
          omega
  · rw [List.pairwise_append]
    refine ⟨(List.pairwise_append.mp h.ww).1, ?_, fun v hv c hc => ?_⟩
    · refine .cons (fun c hc => ?_) (List.pairwise_singleton _ _)
      rw [List.mem_singleton] at hc
      subst hc
      exact .inl (Int.le_refl _)
    · have q := wwl v hv
      have q2 := wwg v hv
      simp only [List.mem_cons, List.not_mem_nil, or_false] at hc
      unfold Off at *
      simp only at q
      rcases hc with z | z
      · subst z
        simp only
        omega
      · subst z
        simp only
        omega
  · rcases memF hb with z | z
    · rcases memF hc with y | y
      · exact h.ff b z c y
      · subst y
        rcases wfl b z with ⟨v, _⟩ | v
        · exact .inr (.inl v)
        · exact .inr (.inr (v.elim .inr .inl))
    · subst z
      rcases memF hc with y | y
      · rcases wfl c y with ⟨v, _⟩ | v
        · exact .inl v
        · exact .inr (.inr v)
      · subst y
        exact .inl ⟨Int.le_refl _, Int.le_refl _⟩
  · refine List.nodup_append.mpr ⟨h.nd, List.pairwise_singleton _ _, fun x hx y hy q => ?_⟩
    rw [List.mem_singleton] at hy
    subst hy
    subst q
    exact nF hx
  · have q := h.many
    rw [List.map_append, List.sum_append] at q ⊢
    simp only [List.map_cons, List.map_nil, List.sum_cons, List.sum_nil, List.length_append, List.length_cons, List.length_nil] at q ⊢
    omega
/-- a grouping: each block is cut in two -/
structure Tree (bs : List B) : Prop where
  gr : Gr (bs.length + 1) bs
  split : ∀ b ∈ bs, ∃ m, b.1 < m ∧ m < b.2 ∧ ((b.1, m) ∈ bs ∨ m = b.1 + 1) ∧ ((m, b.2) ∈ bs ∨ b.2 = m + 1) ∧ ∀ c ∈ bs, c ≠ b → In c b → c.2 ≤ m ∨ m ≤ c.1
  lam : ∀ b ∈ bs, ∀ c ∈ bs, In b c ∨ In c b ∨ Off b c
theorem PT.tree {n : Int} {F : List B} (h : PT n F []) : Tree (sortB bLt F) ∧ ((sortB bLt F).length : Int) = n - 1 := by
  have p : (sortB bLt F).Perm F := sortB_perm
  have ln : ((sortB bLt F).length : Int) = n - 1 := by
    have q := h.many
    simp only [List.map_nil, List.sum_nil] at q
    rw [p.length_eq]
    omega
  have lam : ∀ b ∈ sortB bLt F, ∀ c ∈ sortB bLt F, In b c ∨ In c b ∨ Off b c := fun b hb c hc => h.ff b (p.mem_iff.mp hb) c (p.mem_iff.mp hc)
  have pw := sortB_pw lin_bLt F
  have nd := p.nodup_iff.mpr h.nd
  have up : (sortB bLt F).Pairwise fun a b => bLt a b = true := by
    have both : (sortB bLt F).Pairwise fun a b => bLt b a = false ∧ a ≠ b := List.pairwise_and_iff.mpr ⟨pw, nd⟩
    refine both.imp fun {a b} q => ?_
    by_cases z : bLt a b = true
    · exact z
    · exact absurd (lin_bLt.anti a b q.1 (by simpa using z)) q.2
  have en : ((sortB bLt F).length : Int) + 1 = n := by omega
  refine ⟨⟨⟨fun b hb => ?_, pair_up up, fun i j a b lt ha hb q => ?_, by omega⟩, fun b hb => ?_, lam⟩, ln⟩
  · rw [en]
    exact h.good b (p.mem_iff.mp hb)
  · have l := lam a (List.mem_of_getElem? ha) b (List.mem_of_getElem? hb)
    unfold In Off at l
    omega
  · obtain ⟨m, h1, h2, h3, h4, h5⟩ := h.split b (p.mem_iff.mp hb)
    refine ⟨m, h1, h2, ?_, ?_, fun c hc => h5 c (.inl (p.mem_iff.mp hc))⟩
    · rcases h3 with z | z | z
      · exact .inl (p.mem_iff.mpr z)
      · exact nomatch z
      · exact .inr z
    · rcases h4 with z | z | z
      · exact .inl (p.mem_iff.mpr z)
      · exact nomatch z
      · exact .inr z
/-- where a block is cut -/
theorem Tree.mid {bs : List B} (T : Tree bs) {b : B} (hb : b ∈ bs) {m : Int} (h1 : b.1 < m) (h3 : (b.1, m) ∈ bs ∨ m = b.1 + 1) (h2 : m < b.2) (h5 : ∀ c ∈ bs, c ≠ b → In c b → c.2 ≤ m ∨ m ≤ c.1) : midOf bs b = m := by
  unfold midOf
  obtain ⟨g1, g2⟩ := foldl_max_ge ((bs.filter fun c => decide (c.1 = b.1) && decide (c.2 < b.2)).map (·.2)) (b.1 + 1)
  have le : ((bs.filter fun c => decide (c.1 = b.1) && decide (c.2 < b.2)).map (·.2)).foldl max (b.1 + 1) ≤ m := by
    rcases foldl_max_mem ((bs.filter fun c => decide (c.1 = b.1) && decide (c.2 < b.2)).map (·.2)) (b.1 + 1) with z | z
    · rw [z]
      omega
    · obtain ⟨c, hc, e⟩ := List.mem_map.mp z
      have w := List.mem_filter.mp hc
      have w2 := w.2
      simp only [Bool.and_eq_true, decide_eq_true_eq] at w2
      have gc := T.gr.good c w.1
      unfold OkB at gc
      have q := h5 c w.1 (fun y => by rw [y] at w2; omega) ⟨by omega, by omega⟩
      rw [← e]
      omega
  rcases h3 with z | z
  · have q := g2 m (List.mem_map.mpr ⟨(b.1, m), List.mem_filter.mpr ⟨z, by simp [h2]⟩, rfl⟩)
    omega
  · omega
theorem Tree.cut {bs : List B} (T : Tree bs) {b : B} (hb : b ∈ bs) : b.1 < midOf bs b ∧ midOf bs b < b.2 ∧ ((b.1, midOf bs b) ∈ bs ∨ midOf bs b = b.1 + 1) ∧ ((midOf bs b, b.2) ∈ bs ∨ b.2 = midOf bs b + 1) ∧ ∀ c ∈ bs, c ≠ b → In c b → c.2 ≤ midOf bs b ∨ midOf bs b ≤ c.1 := by
  obtain ⟨m, h1, h2, h3, h4, h5⟩ := T.split b hb
  rw [T.mid hb h1 h3 h2 h5]
  exact ⟨h1, h2, h3, h4, h5⟩
theorem Tree.wide {bs : List B} (T : Tree bs) : WideOk bs := by
  intro b hb c hc
  obtain ⟨h1, h2, h3, h4, _⟩ := T.cut hb
  constructor
  · intro m
    have g := T.gr.good c m
    unfold OkB at g
    omega
  · intro wd
    simp only [List.mem_cons, List.not_mem_nil, or_false] at hc
    rcases hc with z | z
    · subst z
      simp only at wd
      rcases h3 with y | y
      · exact y
      · omega
    · subst z
      simp only at wd
      rcases h4 with y | y
      · exact y
      · omega
theorem Tree.well {bs : List B} (T : Tree bs) : WellG bs := ⟨T.gr, T.wide⟩
end K36
/-! The law's own: grown. -/
namespace K36
open PySem PySem.Spec PyProof.Rows L2 LamX SfKey
theorem lb_unsnoc {H : Hp} : ∀ {bs : List B} {w : B} {ws : List V}, Lb H ws (bs ++ [w]) → ∃ ws' x, ws = ws' ++ [x] ∧ Lb H ws' bs ∧ Tb H x w
  | [], w, _, .cons a .nil => ⟨[], _, rfl, .nil, a⟩
  | b :: bs, w, _, .cons a r => by
    obtain ⟨ws', x, e, l, t⟩ := lb_unsnoc r
    exact ⟨_ :: ws', x, by rw [e]; rfl, .cons a l, t⟩
theorem sb_new {p a : Addr} {H G : Hp} {o : HO} (s : Sb p H G) (h : H a = none) : Sb p H (upd G a o) := fun b u n e => by
  rw [upd_ne (ne_of_none e h)]
  exact s b u n e
theorem sb_same {p : Addr} {H G G' : Hp} (s : Sb p H G) (t : Same G G') : Sb p H G' := fun b u n e => t _ _ (s b u n e)
theorem sb_free {p a : Addr} {H G : Hp} (s : Sb p H G) (np : a ≠ p) (h : G a = none) : H a = none := by
  cases e : H a with
  | none => rfl
  | some o =>
    rw [s a o np e] at h
    cases h
theorem Pu.upd {H : Hp} {p a : Addr} {t : Int} {o : HO} (h : Pu H p t) (n : p ≠ a) : Pu (upd H a o) p t := by
  obtain ⟨x1, x2, x3, x4, e, r⟩ := h
  exact ⟨x1, x2, x3, x4, by rw [upd_ne n]; exact e, r⟩
theorem Pu.at_ {H : Hp} {p : Addr} {t : Int} (h : Pu H p t) : ∃ xs, H p = some (.lst xs) := by
  obtain ⟨x1, x2, x3, x4, e, r⟩ := h
  exact ⟨_, e⟩
def wt (W : List B) : Nat := (W.map fun w => (2 * (w.2 - w.1) - 1).toNat).sum
theorem wt_app (W V : List B) : wt (W ++ V) = wt W + wt V := by
  unfold wt
  rw [List.map_append, List.sum_append]
theorem PT.few {n : Int} {F W : List B} (h : PT n F W) : (F.length : Int) ≤ n - 1 := by
  have q := h.many
  have nn : 0 ≤ (W.map fun w => w.2 - w.1 - 1).sum := by
    have g := h.wgood
    clear q h
    induction W with
    | nil => exact Int.le_refl 0
    | cons a t ih =>
      have a1 := g a (List.mem_cons_self ..)
      have a2 := ih fun w hw => g w (List.mem_cons_of_mem _ hw)
      rw [List.map_cons, List.sum_cons]
      omega
  omega
theorem PT.wfew {n : Int} {F W : List B} (h : PT n F W) : W.length ≤ wt W := by
  have g := h.wgood
  clear h
  induction W with
  | nil => exact Nat.le_refl 0
  | cons a t ih =>
    have a1 := g a (List.mem_cons_self ..)
    have a2 := ih fun w hw => g w (List.mem_cons_of_mem _ hw)
    unfold wt at a2 ⊢
    rw [List.map_cons, List.sum_cons, List.length_cons]
    omega
def spGrown : Sp := fun vs H Q _ => ∃ (pu : Addr) (n t : Int), vs = [.ref pu, .int n] ∧ Pu H pu t ∧ t ≤ 2 ^ 39 ∧ 1 ≤ n ∧ n ≤ 12 ∧ ∀ p bs G, Sb pu H G → Pu G pu (t + 12) → H p = none → ListAt G p bs → Tree bs → (bs.length : Int) = n - 1 → Q (.ref p) G
abbrev nGr : List Str := ["_law_purse_here", "_law_size", "_law_found", "_law_waiting", "_law_first", "_law_end", "_law_cut"]
theorem scGr : FnScope nGr ["_law_purse_here", "_law_size"] (defScope sGrown) := ⟨rfl, rfl, rfl, by decide +kernel, rfl, by decide +kernel, by decide +kernel⟩
section
variable {P : Program} {w : World} {K : PySem.W.Frag} {mg : Str → Option Value} {base : Heap} {f fD : Addr} {fd fdD : FuncData}
theorem hu64 {A : Around} {k : Nat} (hr : Room k A) : A.units + 64 < cLine := hr.units
theorem ok_grown (F : FnP K dGrown f fd) (FD : FnP K dDraw fD fdD) (GD : FnOk P w K mg base CX0 2 fD fdD ["_law_purse_here", "_law_many"] spDraw) (gD : mg "_law_draw" = some (.ref fD)) (gSo : mg "sorted" = none) :
    FnOk P w K mg base CX0 3 f fd ["_law_purse_here", "_law_size"] spGrown := by
  have bD : Binds K fdD ["_law_purse_here", "_law_many"] [] := FD.bindsN fun _ _ _ _ _ _ us hl => match us, hl with | [_, _], _ => rfl
  refine F.ok scGr (fun vs H Q E h => ?_) (fun cdv A outer s H vs Q E hr h => ⟨_, PSs.nox (
    pss_cons (ps_par (i := 2) (j := 3) rfl scGr.nd rfl rfl (by decide) rfl rfl (pa_cons (pe_lst pa_nil) (pa_cons (pe_lst (pa_cons (pe_tup (pa_cons pe_int (pa_cons (pv 1) pa_nil))) pa_nil)) pa_nil)) (by rfl))
    (pss_cons (ps_while PassesOwn.never (pt_cmpR (op_neD (hu64 hr)) (pv 3) (pe_lst pa_nil) (nomark _))
      (pss_cons (ps_asg (pe_bm0 PySem.F.plainAttrs_list PySem.F.slot_list_pop PySem.F.type_list_pop mt_pop (pv 3)) (pg_tup rfl (pgs_cons (pg_name (i := 4) scGr.nd rfl (.inl rfl)) (pgs_cons (pg_name (i := 5) scGr.nd rfl (.inl rfl)) pgs_nil))))
      (pss_one (ps_if (pt_cmpR op_gt (pe_op op_sub (pv 5) (pv 4)) pe_int (nomark _))
        (pss_cons (ps_expr (pe_bm PySem.F.plainAttrs_list PySem.F.slot_list_append PySem.F.type_list_append mt_append (pv 2) (pa_cons (pe_tup (pa_cons (pv 4) (pa_cons (pv 5) pa_nil))) pa_nil)))
        (pss_cons (ps_set (i := 6) scGr.nd rfl (.inl rfl) (pe_op op_add (pe_op op_add (pv 4) pe_int) (pe_call GD hr rfl gD FD.kp bD .nil pass0 (pa_cons (pv 0) (pa_cons (pe_op op_sub (pe_op op_sub (pv 5) (pv 4)) pe_int) pa_nil)))))
        (pss_one (ps_set (i := 3) scGr.nd rfl (.inl rfl) (pe_op op_cat (pv 3) (pe_lst (pa_cons (pe_tup (pa_cons (pv 4) (pa_cons (pv 6) pa_nil))) (pa_cons (pe_tup (pa_cons (pv 6) (pa_cons (pv 5) pa_nil))) pa_nil)))))))) pss_nil))))
    (pss_one (ps_ret (pe_callB cr_sortedPO rfl gSo (by decide +kernel) (pa_cons (pv 2) pa_nil)))))), ?_⟩)
  · obtain ⟨pu, n, t, rfl, _⟩ := h
    rfl
  · obtain ⟨pu, n, t, rfl, PU, tz, n1, n2, k⟩ := h
    have two : 2 ≤ sizeLine := by
      rw [sizeLine_eq]
      decide
    have one : 1 ≤ sizeLine := by
      rw [sizeLine_eq]
      decide
    obtain ⟨px, ePu⟩ := PU.at_
    refine ⟨Nat.zero_le _, fun fo hfo => ?_⟩
    have nfp : fo ≠ pu := ne_of_none' hfo ePu
    refine ⟨_, rfl, two, fun tt htt => ?_⟩
    have s2 := same_new (o := .tup [.int 0, .int n]) htt
    refine ⟨one, fun wl hwl => ?_⟩
    have s1 := same_new (o := .lst []) hfo
    have s3 := same_new (o := .lst [.ref tt]) hwl
    have s12 := s1.trans s2
    have s13 := s12.trans s3
    have eFo := s3 _ _ (s2 _ _ (upd_same (H := H) (a := fo) (o := .lst [])))
    have eTt := s3 _ _ (upd_same (H := upd H fo (.lst [])) (a := tt) (o := .tup [.int 0, .int n]))
    have eWl : (upd (upd (upd H fo (.lst [])) tt (.tup [.int 0, .int n])) wl (.lst [.ref tt])) wl = some (.lst [.ref tt]) := upd_same
    have hwl0 : H wl = none := s12.free hwl
    have nwf : wl ≠ fo := ne_of_none' hwl (s2 _ _ upd_same)
    generalize (upd (upd (upd H fo (.lst [])) tt (.tup [.int 0, .int n])) wl (.lst [.ref tt])) = H3 at s3 s13 eFo eTt eWl ⊢
    refine ⟨_, _, rfl, ?_⟩
    obtain ⟨W, hW⟩ : ∃ W : Nat → L2.St → Hp → Prop, W = fun m σ G => ∃ (Fd Wt : List B) (wl : Addr) (fs ws : List V) (u4 u5 u6 : Option V), m = wt Wt ∧
      σ = [some (.ref pu), some (.int n), some (.ref fo), some (.ref wl), u4, u5, u6] ∧ Sb pu H G ∧ Pu G pu (t + Fd.length) ∧ G fo = some (.lst fs) ∧ Lb G fs Fd ∧ wl ≠ fo ∧ H wl = none ∧ G wl = some (.lst ws) ∧ Lb G ws Wt ∧ PT n Fd Wt ∧ wt Wt ≤ 23 := ⟨_, rfl⟩
    refine ⟨W, ⟨wt [(0, n)], ?_⟩, ?_⟩
    · rw [hW]
      refine ⟨[], [(0, n)], wl, [], [.ref tt], none, none, none, rfl, rfl, Sb.of s13, ?_, eFo, .nil, nwf, hwl0, eWl, .cons ⟨tt, rfl, eTt⟩ .nil, PT.start n1, ?_⟩
      · exact (PU.keep s13).mono (by show t ≤ t + ((0 : Nat) : Int); omega)
      · unfold wt
        simp only [List.map_cons, List.map_nil, List.sum_cons, List.sum_nil]
        omega
    · intro m σ G h
      rw [hW] at h
      obtain ⟨Fd, Wt, wl, fs, ws, u4, u5, u6, rfl, rfl, sb, PG, eF, lF, nwf, nwl, eW, lW, pt, wz⟩ := h
      have nwp : wl ≠ pu := ne_of_none' nwl ePu
      have few := pt.few
      refine ⟨_, rfl, Nat.zero_le _, fun e he => ?_⟩
      have s4 := same_new (o := .lst []) he
      have eE : (upd G e (.lst [])) e = some (.lst []) := upd_same
      have sb4 := sb_same sb s4
      have PG4 := PG.keep s4
      have eF4 := s4 _ _ eF
      have lF4 := lF.same s4
      have eW4 := s4 _ _ eW
      have lW4 := lW.same s4
      generalize (upd G e (.lst [])) = G4 at s4 eE sb4 PG4 eF4 lF4 eW4 lW4 ⊢
      refine ⟨.list (Wt.map pd), .list [], .lst (SqL.of eW4) (dp_lb lW4), .lst (SqL.of eE) .nil, shaped_pds Wt, by rfl, _, rfl, ?_⟩
      by_cases hw : Wt = []
      · subst hw
        refine itF (by simp [PyData.eqv, PyData.eqvAll]) ?_
        refine ⟨_, rfl, fo, fs, pairOf G4, rfl, SqL.of eF4, fun x mx => ?_, fun ys2 p2 so sbt hp2 => ?_⟩
        · obtain ⟨b, _, q, e1, e2⟩ := lb_mem lF4 mx
          subst e1
          exact ⟨q, rfl, by rw [pairOf_at e2]; exact e2⟩
        obtain ⟨ms, lm, pm⟩ := lb_perm sbt.perm lF4
        have srt2 : ms = sortB bLt Fd := by
          refine sortB_eq lin_bLt pm (lb_pw (fun x y a b ta tb hxy => ?_) lm so)
          obtain ⟨qa, ea, ga⟩ := ta
          obtain ⟨qb, eb, gb⟩ := tb
          subst ea eb
          have hxy : SrtO.lexB (pairOf G4 (.ref qb)) (pairOf G4 (.ref qa)) = false := hxy
          rw [pairOf_at ga, pairOf_at gb] at hxy
          rw [Bool.eq_false_iff]
          intro z
          exact SrtO.lexB_no.mp hxy (bLt_iff.mp z)
        have s5 := same_new (o := .lst ys2) hp2
        obtain ⟨T, ln⟩ := pt.tree
        obtain ⟨px4, ePu4⟩ := PG4.at_
        have np2 : p2 ≠ pu := ne_of_none' hp2 ePu4
        refine k p2 (sortB bLt Fd) _ (sb_same sb4 s5) ((PG4.keep s5).mono (by omega)) (sb_free sb4 np2 hp2) ⟨ys2, upd_same, ?_, ?_⟩ T ln
        · rw [← srt2]
          exact lm.same s5
        · have a1 := lm.len
          have a2 := pm.length_eq
          omega
      · refine itT ?_ ?_
        · cases Wt with
          | nil => exact absurd rfl hw
          | cons a r => simp [PyData.eqv, PyData.eqvAll]
        obtain ⟨W', w0, eWt⟩ : ∃ W' w0, Wt = W' ++ [w0] := ⟨Wt.dropLast, Wt.getLast hw, (List.dropLast_concat_getLast hw).symm⟩
        subst eWt
        obtain ⟨ws', x, ews, lW', tx⟩ := lb_unsnoc lW4
        subst ews
        obtain ⟨q, ex, tq⟩ := tx
        subst ex
        refine ⟨fun σ' G' => ∃ m', m' < wt (W' ++ [w0]) ∧ W m' σ' G', fun _ _ h => h, ?_⟩
        refine ⟨_, rfl, .inl ⟨rfl, _, SqL.of eW4⟩, wl, ws' ++ [.ref q], .ref q, rfl, rfl, eW4, by simp, ?_⟩
        rw [List.dropLast_concat]
        have s5 : Sb wl G4 (upd G4 wl (.lst ws')) := Sb.upd (.inr rfl)
        have eW5 : (upd G4 wl (.lst ws')) wl = some (.lst ws') := upd_same
        have sb5 : Sb pu H (upd G4 wl (.lst ws')) := sb_new sb4 nwl
        have PG5 : Pu (upd G4 wl (.lst ws')) pu (t + Fd.length) := PG4.upd nwp.symm
        generalize (upd G4 wl (.lst ws')) = G5 at s5 eW5 sb5 PG5 ⊢
        have eF5 := s5 _ _ nwf.symm eF4
        have lF5 := lF4.sb eW4 (fun l z => nomatch z) s5
        have lW5 := lW'.sb eW4 (fun l z => nomatch z) s5
        have tq5 := s5 _ _ (ne_of tq eW4 (fun z => nomatch z)) tq
        refine ⟨q, [.int w0.1, .int w0.2], rfl, SqT.of tq5, rfl, _, _, rfl, _, _, rfl, rfl, ?_⟩
        refine ⟨_, rfl, _, rfl, _, _, rfl, rfl, w0.2 - w0.1, 1, rfl, rfl, _, rfl, ?_⟩
        by_cases wd : 1 < w0.2 - w0.1
        · refine itT (decide_eq_true wd) ?_
          refine ⟨_, rfl, .inl ⟨rfl, _, SqL.of eF5⟩, _, rfl, _, rfl, two, fun u hu => ?_⟩
          have s6 := same_new (o := .tup [.int w0.1, .int w0.2]) hu
          have tU : (upd G5 u (.tup [.int w0.1, .int w0.2])) u = some (.tup [.int w0.1, .int w0.2]) := upd_same
          have sb6 := sb_same sb5 s6
          have PG6 := PG5.keep s6
          have eF6 := s6 _ _ eF5
          have lF6 := lF5.same s6
          have eW6 := s6 _ _ eW5
          have lW6 := lW5.same s6
          generalize (upd G5 u (.tup [.int w0.1, .int w0.2])) = G6 at s6 tU sb6 PG6 eF6 lF6 eW6 lW6 ⊢
          have fl := lF6.len
          refine ⟨fo, fs, .ref u, rfl, rfl, eF6, by rw [sizeLine_eq]; omega, ?_⟩
          have s7 : Sb fo G6 (upd G6 fo (.lst (fs ++ [.ref u]))) := Sb.upd (.inr rfl)
          have eF7 : (upd G6 fo (.lst (fs ++ [.ref u]))) fo = some (.lst (fs ++ [.ref u])) := upd_same
          have sb7 : Sb pu H (upd G6 fo (.lst (fs ++ [.ref u]))) := sb_new sb6 hfo
          have PG7 : Pu (upd G6 fo (.lst (fs ++ [.ref u]))) pu (t + Fd.length) := PG6.upd nfp.symm
          generalize (upd G6 fo (.lst (fs ++ [.ref u]))) = G7 at s7 eF7 sb7 PG7 ⊢
          have tU7 := s7 _ _ (ne_of tU eF6 (fun z => nomatch z)) tU
          have lF7 : Lb G7 (fs ++ [.ref u]) (Fd ++ [w0]) := lb_snoc (lF6.sb eF6 (fun l z => nomatch z) s7) ⟨u, rfl, tU7⟩
          have eW7 := s7 _ _ nwf eW6
          have lW7 := lW6.sb eF6 (fun l z => nomatch z) s7
          obtain ⟨px7, ePu7⟩ := PG7.at_
          have wg := pt.wgood w0 (List.mem_append_right _ (List.mem_singleton.mpr rfl))
          refine ⟨_, rfl, _, 1, rfl, rfl, _, rfl, _, rfl, _, rfl, _, _, rfl, rfl, w0.2 - w0.1, 1, rfl, rfl, pu, _, w0.2 - w0.1 - 1, rfl, PG7, by omega, by omega, by omega, fun d G8 d0 d1 s8 PG8 => ?_⟩
          have eF8 := s8 _ _ nfp eF7
          have lF8 := lF7.sb ePu7 (fun l z => nomatch z) s8
          have eW8 := s8 _ _ nwp eW7
          have lW8 := lW7.sb ePu7 (fun l z => nomatch z) s8
          have sb8 := sb7.trans s8
          refine ⟨_, _, rfl, rfl, ?_⟩
          -- the two parts
          refine ⟨_, rfl, _, rfl, _, rfl, two, fun v1 hv1 => ?_⟩
          have s9 := same_new (o := .tup [.int w0.1, .int (w0.1 + 1 + d)]) hv1
          refine ⟨_, rfl, _, rfl, two, fun v2 hv2 => ?_⟩
          have s10 := same_new (o := .tup [.int (w0.1 + 1 + d), .int w0.2]) hv2
          refine ⟨two, fun l2 hl2 => ?_⟩
          have s11 := same_new (o := .lst [.ref v1, .ref v2]) hl2
          have t1 := s11 _ _ (s10 _ _ (upd_same (H := G8) (a := v1) (o := .tup [.int w0.1, .int (w0.1 + 1 + d)])))
          have t2 := s11 _ _ (upd_same (H := upd G8 v1 (.tup [.int w0.1, .int (w0.1 + 1 + d)])) (a := v2) (o := .tup [.int (w0.1 + 1 + d), .int w0.2]))
          have tl : (upd (upd (upd G8 v1 (.tup [.int w0.1, .int (w0.1 + 1 + d)])) v2 (.tup [.int (w0.1 + 1 + d), .int w0.2])) l2 (.lst [.ref v1, .ref v2])) l2 = some (.lst [.ref v1, .ref v2]) := upd_same
          have s8b := s9.trans (s10.trans s11)
          generalize (upd (upd (upd G8 v1 (.tup [.int w0.1, .int (w0.1 + 1 + d)])) v2 (.tup [.int (w0.1 + 1 + d), .int w0.2])) l2 (.lst [.ref v1, .ref v2])) = G9 at s8b t1 t2 tl ⊢
          have wl1 := lW8.len
          have wl2 := pt.wfew
          rw [List.length_append] at wl2
          refine ⟨wl, l2, ws', [.ref v1, .ref v2], rfl, rfl, s8b _ _ eW8, tl, ?_, fun wl' hwl' => ?_⟩
          · rw [sizeLine_eq]
            show ws'.length + 2 ≤ _
            omega
          have s12' := same_new (o := .lst (ws' ++ [.ref v1, .ref v2])) hwl'
          have sAll := s8b.trans s12'
          obtain ⟨px9, ePu9⟩ := (PG8.keep s8b).at_
          have PTn := pt.cut (a := w0.1) (e := w0.2) (m := w0.1 + 1 + d) (by omega) (by omega)
          have wtl : wt (W' ++ [(w0.1, w0.1 + 1 + d), (w0.1 + 1 + d, w0.2)]) < wt (W' ++ [w0]) := by
            rw [wt_app, wt_app]
            unfold wt
            simp only [List.map_cons, List.map_nil, List.sum_cons, List.sum_nil]
            omega
          refine ⟨_, wtl, ?_⟩
          rw [hW]
          refine ⟨Fd ++ [w0], W' ++ [(w0.1, w0.1 + 1 + d), (w0.1 + 1 + d, w0.2)], wl', fs ++ [.ref u], ws' ++ [.ref v1, .ref v2], some (.int w0.1), some (.int w0.2), some (.int (w0.1 + 1 + d)), rfl, rfl, sb_same sb8 sAll, ?_, sAll _ _ eF8, lF8.same sAll, ne_of_none' hwl' (s8b _ _ eF8), sb_free (sb_same sb8 s8b) (ne_of_none' hwl' ePu9) hwl', upd_same, ?_, PTn, by omega⟩
          · refine (PG8.keep sAll).mono ?_
            rw [List.length_append]
            show t + (Fd.length : Int) + 1 ≤ t + ((Fd.length + 1 : Nat) : Int)
            omega
          · exact paired_app (lW8.same sAll) (.cons ⟨v1, rfl, s12' _ _ t1⟩ (.cons ⟨v2, rfl, s12' _ _ t2⟩ .nil))
        · refine itF (decide_eq_false wd) ?_
          have wtl : wt W' < wt (W' ++ [w0]) := by
            have wg := pt.wgood w0 (List.mem_append_right _ (List.mem_singleton.mpr rfl))
            rw [wt_app]
            unfold wt
            simp only [List.map_cons, List.map_nil, List.sum_cons, List.sum_nil]
            omega
          refine ⟨_, wtl, ?_⟩
          rw [hW]
          exact ⟨Fd, W', wl, fs, ws', some (.int w0.1), some (.int w0.2), u6, rfl, rfl, sb5, PG5, eF5, lF5, nwf, nwl, eW5, lW5, pt.leaf (by omega), by omega⟩
end
end K36
/-! The law's own: losses. -/
namespace K36
open PySem PySem.Spec PyProof.Rows L2 LamX SfKey
theorem pu_ne {H : Hp} {p l : Addr} {t : Int} {xs : List V} {bs : List B} (h : Pu H p t) (e : H l = some (.lst xs)) (lb : Lb H xs bs) : l ≠ p := fun z => by
  obtain ⟨x1, x2, x3, x4, e2, _⟩ := h
  rw [z, e2] at e
  cases e
  cases lb with
  | cons a _ =>
    obtain ⟨q, e3, _⟩ := a
    cases e3
theorem ListAt.sb {H G : Hp} {p l : Addr} {t : Int} {bs : List B} (h : ListAt H l bs) (P : Pu H p t) (s : Sb p H G) : ListAt G l bs := by
  obtain ⟨xs, e, lb, lz⟩ := h
  obtain ⟨px, eP⟩ := P.at_
  exact ⟨xs, s _ _ (pu_ne P e lb) e, lb.sb eP (fun l z => nomatch z) s, lz⟩
theorem StepsAt.sbP {H G G' : Hp} {st p : Addr} {zs px ys : List V} {rs : List (List B)} (h : StepsAt H G st zs rs) (hp : H p = some (.lst px)) (hg : G p = some (.lst ys)) (s : Sb p G G') : StepsAt H G' st zs rs := by
  induction h with
  | nil => exact .nil
  | cons q _ ih =>
    obtain ⟨a, ws, h1, h2, h3, h4, h5, h6⟩ := q
    have na : a ≠ p := fun z => by
      obtain ⟨ps, y⟩ := h2 _ (by rw [z]; exact hp)
      cases y
    exact .cons ⟨a, ws, h1, h2, h3, s _ _ na h4, h5.sb hg (fun l z => nomatch z) s, h6⟩ ih
theorem StepsAt.ll {H G : Hp} {st : Addr} {zs : List V} {rs : List (List B)} (h : StepsAt H G st zs rs) : LL G zs rs := paired_imp (fun v b q => by
  obtain ⟨a, ws, h1, h2, h3, h4, h5, h6⟩ := q
  exact ⟨a, ws, h1, h4, h5, h6⟩) h
theorem up_of {l : List B} (nd : l.Nodup) : UpB (sortB bLt l) := by
  have p : (sortB bLt l).Perm l := sortB_perm
  have both : (sortB bLt l).Pairwise fun a b => bLt b a = false ∧ a ≠ b := List.pairwise_and_iff.mpr ⟨sortB_pw lin_bLt l, p.nodup_iff.mpr nd⟩
  refine pair_up (both.imp fun {a b} q => ?_)
  by_cases z : bLt a b = true
  · exact z
  · exact absurd (lin_bLt.anti a b q.1 (by simpa using z)) q.2
section
variable {P : Program} {w : World} {K : PySem.W.Frag} {mg : Str → Option Value} {base : Heap} {f fD fC : Addr} {fd fdD fdC : FuncData}
end
end K36
/-! How bars fall. -/
namespace K36
open PySem PySem.Spec PyProof.Rows L2
def cn (bs L : List B) (k : Int) : Nat := cntGe (L.map (dep bs)) k
theorem cn_eq (bs L : List B) (k : Int) : cn bs L k = (L.filter fun c => decide (k ≤ dep bs c)).length := cnt_map bs L k
def bA (bs L : List B) (h k : Int) : Int := barAt (L.map (dep bs)) h k
theorem bA_eq (bs L : List B) (h k : Int) : bA bs L h k = k + ((cn bs L k : Int) + h - 1) / h := rfl
structure IsTop (bs : List B) (h : Int) (L : List B) (v : Int) : Prop where
  got : v = 0 ∨ ∃ k : Nat, 0 < cn bs L k ∧ v = bA bs L h k
  all : ∀ k : Nat, 0 < cn bs L k → bA bs L h k ≤ v
  pos : 0 ≤ v
theorem IsTop.uniq {bs L : List B} {h v u : Int} (a : IsTop bs h L v) (b : IsTop bs h L u) : v = u := by
  have q : ∀ {v u : Int}, IsTop bs h L v → IsTop bs h L u → v ≤ u := fun {v u} a b => by
    rcases a.got with z | ⟨k, hk, z⟩
    · rw [z]
      exact b.pos
    · rw [z]
      exact b.all k hk
  exact Int.le_antisymm (q a b) (q b a)
theorem cn_pos {bs L : List B} {k : Int} : 0 < cn bs L k ↔ ∃ b ∈ L, k ≤ dep bs b := by
  rw [cn_eq, List.length_pos_iff_exists_mem]
  constructor
  · rintro ⟨b, hb⟩
    have m := List.mem_filter.mp hb
    exact ⟨b, m.1, of_decide_eq_true m.2⟩
  · rintro ⟨b, hb, hk⟩
    exact ⟨b, List.mem_filter.mpr ⟨hb, decide_eq_true hk⟩⟩
theorem bA_pos {bs L : List B} {h : Int} (k : Nat) (hh : 1 ≤ h) : 0 ≤ bA bs L h k := by
  rw [bA_eq]
  have : 0 ≤ ((cn bs L k : Int) + h - 1) / h := Int.ediv_nonneg (by omega) (by omega)
  omega
theorem maxD_mem {ds : List Int} {d : Int} : (ds = [] ∧ maxD ds d = d) ∨ maxD ds d ∈ ds := by
  cases ds with
  | nil => exact .inl ⟨rfl, rfl⟩
  | cons x t =>
    refine .inr ?_
    show t.foldl max x ∈ x :: t
    rcases foldl_max_mem t x with z | z
    · rw [z]
      exact List.mem_cons_self ..
    · exact List.mem_cons_of_mem _ z
theorem maxD_all {ds : List Int} {d x : Int} (hx : x ∈ ds) : x ≤ maxD ds d := by
  cases ds with
  | nil => exact nomatch hx
  | cons y t =>
    obtain ⟨g1, g2⟩ := foldl_max_ge t y
    rcases List.mem_cons.mp hx with z | z
    · rw [z]
      exact g1
    · exact g2 x z
theorem barTop_is {bs L : List B} {h : Int} (hh : 1 ≤ h) (dp : ∀ b ∈ L, 0 ≤ dep bs b) : IsTop bs h L (barTop bs h L) := by
  have mem : ∀ v, v ∈ barsOf (L.map (dep bs)) h ↔ ∃ k : Nat, k < (maxD (L.map (dep bs)) (-1) + 1).toNat ∧ bA bs L h k = v := fun v => by
    unfold barsOf bA
    rw [List.mem_map]
    constructor
    · rintro ⟨k, hk, e⟩
      exact ⟨k, List.mem_range.mp hk, e⟩
    · rintro ⟨k, hk, e⟩
      exact ⟨k, List.mem_range.mpr hk, e⟩
  have inR : ∀ k : Nat, 0 < cn bs L k ↔ k < (maxD (L.map (dep bs)) (-1) + 1).toNat := fun k => by
    rw [cn_pos]
    constructor
    · rintro ⟨b, hb, hk⟩
      have q := maxD_all (d := -1) (List.mem_map.mpr ⟨b, hb, rfl⟩ : dep bs b ∈ L.map (dep bs))
      omega
    · intro hk
      rcases maxD_mem (ds := L.map (dep bs)) (d := -1) with ⟨_, z⟩ | z
      · rw [z] at hk
        omega
      · obtain ⟨b, hb, e⟩ := List.mem_map.mp z
        exact ⟨b, hb, by omega⟩
  unfold barTop
  refine ⟨?_, fun k hk => maxD_all ((mem _).mpr ⟨k, (inR k).mp hk, rfl⟩), ?_⟩
  · rcases maxD_mem (ds := barsOf (L.map (dep bs)) h) (d := 0) with ⟨_, z⟩ | z
    · exact .inl z
    · obtain ⟨k, hk, e⟩ := (mem _).mp z
      exact .inr ⟨k, (inR k).mpr hk, e.symm⟩
  · rcases maxD_mem (ds := barsOf (L.map (dep bs)) h) (d := 0) with ⟨_, z⟩ | z
    · rw [z]
      exact Int.le_refl 0
    · obtain ⟨k, hk, e⟩ := (mem _).mp z
      rw [← e]
      exact bA_pos k hh
theorem lawBar_is {bs L : List B} {h : Int} (hh : 1 ≤ h) (dp : ∀ b ∈ L, dep bs b < bs.length) : IsTop bs h L (lawBar bs h L) := by
  have go : ∀ m : Nat, ((List.range m).foldl (fun acc (k : Nat) => if 0 < cntGe (L.map (dep bs)) (k : Int) then max acc (barAt (L.map (dep bs)) h (k : Int)) else acc) 0 = 0 ∨ ∃ k : Nat, 0 < cn bs L k ∧ (List.range m).foldl (fun acc (k : Nat) => if 0 < cntGe (L.map (dep bs)) (k : Int) then max acc (barAt (L.map (dep bs)) h (k : Int)) else acc) 0 = bA bs L h k) ∧
      (∀ k : Nat, k < m → 0 < cn bs L k → bA bs L h k ≤ (List.range m).foldl (fun acc (k : Nat) => if 0 < cntGe (L.map (dep bs)) (k : Int) then max acc (barAt (L.map (dep bs)) h (k : Int)) else acc) 0) ∧ 0 ≤ (List.range m).foldl (fun acc (k : Nat) => if 0 < cntGe (L.map (dep bs)) (k : Int) then max acc (barAt (L.map (dep bs)) h (k : Int)) else acc) 0 := by
    intro m
    induction m with
    | zero => exact ⟨.inl rfl, fun k hk => absurd hk (Nat.not_lt_zero k), Int.le_refl 0⟩
    | succ m ih =>
      obtain ⟨i1, i2, i3⟩ := ih
      rw [List.range_succ, List.foldl_append, List.foldl_cons, List.foldl_nil]
      generalize (List.range m).foldl (fun acc (k : Nat) => if 0 < cntGe (L.map (dep bs)) (k : Int) then max acc (barAt (L.map (dep bs)) h (k : Int)) else acc) 0 = acc at i1 i2 i3 ⊢
      by_cases c : 0 < cntGe (L.map (dep bs)) (m : Int)
      · rw [if_pos c]
        refine ⟨?_, fun k hk hc => ?_, Int.le_trans i3 (Int.le_max_left ..)⟩
        · by_cases z : acc ≤ barAt (L.map (dep bs)) h (m : Int)
          · rw [Int.max_eq_right z]
            exact .inr ⟨m, c, rfl⟩
          · rw [Int.max_eq_left (by omega)]
            exact i1
        · by_cases z : k = m
          · subst z
            exact Int.le_max_right ..
          · exact Int.le_trans (i2 k (by omega) hc) (Int.le_max_left ..)
      · rw [if_neg c]
        refine ⟨i1, fun k hk hc => ?_, i3⟩
        by_cases z : k = m
        · subst z
          exact absurd hc c
        · exact i2 k (by omega) hc
  obtain ⟨g1, g2, g3⟩ := go bs.length
  refine ⟨g1, fun k hk => ?_, g3⟩
  obtain ⟨b, hb, hk2⟩ := cn_pos.mp hk
  exact g2 k (by have := dp b hb; omega) hk
/-! ### how many -/
theorem filt_split (A : List B) (p : B → Bool) : (A.filter p).length + (A.filter fun b => !p b).length = A.length := by
  induction A with
  | nil => rfl
  | cons a t ih =>
    rw [List.filter_cons, List.filter_cons]
    cases p a <;> simp <;> omega
theorem cn_less {bs L K : List B} {k : Int} (nL : L.Nodup) : cn bs L k ≤ cn bs (L.filter fun b => !decide (b ∈ K)) k + K.length := by
  rw [cn_eq, cn_eq, List.filter_filter]
  have q := filt_split (L.filter fun c => decide (k ≤ dep bs c)) fun b => decide (b ∈ K)
  rw [List.filter_filter, List.filter_filter] at q
  have a1 : (L.filter fun b => decide (b ∈ K) && decide (k ≤ dep bs b)).length ≤ K.length := len_sub (nL.sublist List.filter_sublist) fun b hb => by
    have m := (List.mem_filter.mp hb).2
    simp only [Bool.and_eq_true, decide_eq_true_eq] at m
    exact m.1
  have a2 : (L.filter fun b => decide (k ≤ dep bs b) && !decide (b ∈ K)) = L.filter fun b => !decide (b ∈ K) && decide (k ≤ dep bs b) := by
    congr 1
    funext b
    exact Bool.and_comm ..
  rw [a2]
  omega
theorem cn_exact {bs L K : List B} {k : Int} (nK : K.Nodup) (sub : ∀ b ∈ K, b ∈ L ∧ k ≤ dep bs b) : cn bs (L.filter fun b => !decide (b ∈ K)) k + K.length ≤ cn bs L k := by
  rw [cn_eq, cn_eq, List.filter_filter]
  have q := filt_split (L.filter fun c => decide (k ≤ dep bs c)) fun b => decide (b ∈ K)
  rw [List.filter_filter, List.filter_filter] at q
  have a1 : K.length ≤ (L.filter fun b => decide (b ∈ K) && decide (k ≤ dep bs b)).length := len_sub nK fun b hb => List.mem_filter.mpr ⟨(sub b hb).1, by simp [hb, (sub b hb).2]⟩
  have a2 : (L.filter fun b => decide (k ≤ dep bs b) && !decide (b ∈ K)) = L.filter fun b => !decide (b ∈ K) && decide (k ≤ dep bs b) := by
    congr 1
    funext b
    exact Bool.and_comm ..
  rw [a2]
  omega
theorem cn_mono {bs L : List B} {p : B → Bool} {k : Int} : cn bs (L.filter p) k ≤ cn bs L k := by
  rw [cn_eq, cn_eq, List.filter_filter]
  have e : L.filter (fun a => decide (k ≤ dep bs a) && p a) = (L.filter fun a => decide (k ≤ dep bs a)).filter p := by
    rw [List.filter_filter]
    congr 1
    funext b
    exact Bool.and_comm ..
  rw [e]
  exact List.length_filter_le ..
/-! ### parents -/
theorem mem_parts {bs : List B} {b c : B} : c ∈ parts bs b ↔ (c = (b.1, midOf bs b) ∨ c = (midOf bs b, b.2)) ∧ c ∈ bs := by
  unfold parts
  rw [List.mem_filter]
  simp
def Cn (bs : List B) (b : B) : List B := bs.filter fun c => decide (c.1 ≤ b.1) && decide (b.2 ≤ c.2)
theorem mem_Cn {bs : List B} {b c : B} : c ∈ Cn bs b ↔ c ∈ bs ∧ In b c := by
  unfold Cn In
  rw [List.mem_filter]
  simp
theorem dep_Cn (bs : List B) (b : B) : dep bs b = ((Cn bs b).length : Int) - 1 := rfl
theorem Tree.nd {bs : List B} (T : Tree bs) : bs.Nodup := T.gr.up.nodup
theorem Tree.child {bs : List B} (T : Tree bs) {x c : B} (hx : x ∈ bs) (hc : c ∈ parts bs x) : dep bs x + 1 ≤ dep bs c := by
  obtain ⟨e, cb⟩ := mem_parts.mp hc
  obtain ⟨h1, h2, _, _, _⟩ := T.cut hx
  have q : (c :: Cn bs x).length ≤ (Cn bs c).length := by
    refine len_sub (List.nodup_cons.mpr ⟨fun m => ?_, T.nd.sublist List.filter_sublist⟩) fun y hy => ?_
    · have i := (mem_Cn.mp m).2
      unfold In at i
      rcases e with z | z <;> subst z <;> simp only at i <;> omega
    · rcases List.mem_cons.mp hy with z | z
      · subst z
        exact mem_Cn.mpr ⟨cb, Int.le_refl _, Int.le_refl _⟩
      · obtain ⟨yb, i⟩ := mem_Cn.mp z
        refine mem_Cn.mpr ⟨yb, ?_⟩
        unfold In at *
        rcases e with z | z <;> subst z <;> simp only <;> omega
  rw [List.length_cons] at q
  rw [dep_Cn, dep_Cn]
  omega
theorem Tree.up1 {bs : List B} (T : Tree bs) {x y : B} (hy : y ∈ bs) (hx : x ∈ parts bs y) : dep bs x ≤ dep bs y + 1 := by
  obtain ⟨e, xb⟩ := mem_parts.mp hx
  obtain ⟨h1, h2, _, _, h5⟩ := T.cut hy
  have gx := T.gr.good x xb
  unfold OkB at gx
  have q : (Cn bs x).length ≤ (x :: Cn bs y).length := by
    refine len_sub (T.nd.sublist List.filter_sublist) fun c hc => ?_
    obtain ⟨cb, i⟩ := mem_Cn.mp hc
    by_cases z : c = x
    · rw [z]
      exact List.mem_cons_self ..
    · refine List.mem_cons_of_mem _ (mem_Cn.mpr ⟨cb, ?_⟩)
      rcases T.lam c cb y hy with l | l | l
      · by_cases zy : c = y
        · rw [zy]
          exact ⟨Int.le_refl _, Int.le_refl _⟩
        · have k := h5 c cb zy l
          exfalso
          refine z (Prod.ext ?_ ?_) <;> unfold In at * <;> rcases e with w | w <;> subst w <;> simp only at * <;> omega
      · exact l
      · exfalso
        unfold In Off at *
        rcases e with w | w <;> subst w <;> simp only at * <;> omega
  rw [List.length_cons] at q
  rw [dep_Cn, dep_Cn]
  omega
theorem Tree.parent {bs : List B} (T : Tree bs) {x : B} (hx : x ∈ bs) (hd : 1 ≤ dep bs x) : ∃ y ∈ bs, x ∈ parts bs y := by
  have gx := T.gr.good x hx
  unfold OkB at gx
  have go : ∀ (w : Nat) (y : B), y ∈ bs → y ≠ x → In x y → (y.2 - y.1).toNat ≤ w → ∃ y ∈ bs, x ∈ parts bs y := by
    intro w
    induction w with
    | zero =>
      intro y hy _ _ hw
      have g := T.gr.good y hy
      unfold OkB at g
      omega
    | succ w ih =>
      intro y hy ne i hw
      obtain ⟨h1, h2, h3, h4, h5⟩ := T.cut hy
      have k := h5 x hx (fun z => ne z.symm) i
      unfold In at i
      rcases k with k | k
      · rcases h3 with m | m
        · by_cases z : (y.1, midOf bs y) = x
          · exact ⟨y, hy, mem_parts.mpr ⟨.inl z.symm, hx⟩⟩
          · exact ih _ m z ⟨i.1, k⟩ (by simp only; omega)
        · omega
      · rcases h4 with m | m
        · by_cases z : (midOf bs y, y.2) = x
          · exact ⟨y, hy, mem_parts.mpr ⟨.inr z.symm, hx⟩⟩
          · exact ih _ m z ⟨k, i.2⟩ (by simp only; omega)
        · omega
  have two : ∃ y ∈ Cn bs x, y ≠ x := by
    refine Classical.byContradiction fun no => ?_
    have q : (Cn bs x).length ≤ [x].length := len_sub (T.nd.sublist List.filter_sublist) fun y hy => by
      rw [List.mem_singleton]
      exact Classical.byContradiction fun z => no ⟨y, hy, z⟩
    rw [dep_Cn] at hd
    simp at q
    omega
  obtain ⟨y, hy, ne⟩ := two
  obtain ⟨yb, i⟩ := mem_Cn.mp hy
  exact go _ y yb ne i (Nat.le_refl _)
theorem Tree.one {bs : List B} (T : Tree bs) {x y c : B} (hx : x ∈ bs) (hy : y ∈ bs) (cx : c ∈ parts bs x) (cy : c ∈ parts bs y) : x = y := by
  have lem : ∀ {x y : B}, x ∈ bs → y ∈ bs → c ∈ parts bs x → c ∈ parts bs y → In x y → x = y := fun {x y} hx hy cx cy i => by
    by_cases z : x = y
    · exact z
    · obtain ⟨ex, cb⟩ := mem_parts.mp cx
      obtain ⟨ey, _⟩ := mem_parts.mp cy
      obtain ⟨a1, a2, _, _, _⟩ := T.cut hx
      obtain ⟨b1, b2, _, _, b5⟩ := T.cut hy
      have k := b5 x hx z i
      exfalso
      unfold In at i
      rcases ex with e1 | e1 <;> rcases ey with e2 | e2 <;> rw [e1] at e2 <;> have p1 := congrArg Prod.fst e2 <;> have p2 := congrArg Prod.snd e2 <;> simp only at p1 p2 <;> omega
  obtain ⟨ex, cb⟩ := mem_parts.mp cx
  obtain ⟨ey, _⟩ := mem_parts.mp cy
  obtain ⟨a1, a2, _, _, _⟩ := T.cut hx
  obtain ⟨b1, b2, _, _, _⟩ := T.cut hy
  have gc := T.gr.good c cb
  unfold OkB at gc
  rcases T.lam x hx y hy with l | l | l
  · exact lem hx hy cx cy l
  · exact (lem hy hx cy cx l).symm
  · exfalso
    unfold Off at l
    rcases ex with e1 | e1 <;> rcases ey with e2 | e2 <;> rw [e1] at e2 gc <;> have p1 := congrArg Prod.fst e2 <;> have p2 := congrArg Prod.snd e2 <;> simp only at p1 p2 gc <;> omega
end K36
/-! How bars fall in a step, and in a run. -/
namespace K36
open PySem PySem.Spec PyProof.Rows L2
/-- what is done has its parts done -/
def Closed (bs S : List B) : Prop := ∀ b ∈ S, ∀ c ∈ parts bs b, c ∈ S
def rest (bs S : List B) : List B := bs.filter fun b => !decide (b ∈ S)
theorem mem_rest {bs S : List B} {b : B} : b ∈ rest bs S ↔ b ∈ bs ∧ b ∉ S := by
  unfold rest
  rw [List.mem_filter]
  simp
theorem rest_app {bs S M : List B} : rest bs (S ++ M) = (rest bs S).filter fun b => !decide (b ∈ M) := by
  unfold rest
  rw [List.filter_filter]
  refine List.filter_congr fun b _ => ?_
  rw [Bool.eq_iff_iff]
  simp only [List.mem_append, Bool.not_eq_true', decide_eq_false_iff_not, not_or, Bool.and_eq_true]
  exact And.comm
theorem rest_perm {bs S M M' : List B} (p : ∀ b, b ∈ M ↔ b ∈ M') : rest bs (S ++ M) = rest bs (S ++ M') := by
  unfold rest
  refine List.filter_congr fun b _ => ?_
  rw [Bool.eq_iff_iff]
  simp [p b]
theorem Closed.next {bs S K : List B} (c : Closed bs S) (h : ∀ b ∈ K, readyB bs S b = true) : Closed bs (S ++ K) := by
  intro b hb c' hc
  rcases List.mem_append.mp hb with z | z
  · exact List.mem_append_left _ (c b z c' hc)
  · have r := h b z
    unfold readyB at r
    rw [List.all_eq_true] at r
    exact List.mem_append_left _ (of_decide_eq_true (r c' hc))
theorem ceil_le {a b h : Int} (hh : 1 ≤ h) (q : a ≤ b) : (a + h - 1) / h ≤ (b + h - 1) / h := Int.ediv_le_ediv (by omega) (by omega)
theorem ceil_less {a h : Int} (hh : 1 ≤ h) : (a - h + h - 1) / h = (a + h - 1) / h - 1 := by
  have e : a - h + h - 1 = (a + h - 1) + (-1) * h := by omega
  rw [e, Int.add_mul_ediv_right _ _ (by omega)]
  omega
theorem ceil_one {a h : Int} (hh : 1 ≤ h) (q : 1 ≤ a) : 1 ≤ (a + h - 1) / h := by
  have e := ceil_le (h := h) hh q
  have e2 : (1 + h - 1) / h = 1 := by
    rw [show (1 + h - 1) = h by omega]
    exact Int.ediv_self (by omega)
  omega
theorem ceil_few {a h : Int} (hh : 1 ≤ h) (q : a ≤ h) : (a + h - 1) / h ≤ 1 := by
  have e := ceil_le (h := h) hh q
  have e2 : (h + h - 1) / h ≤ 1 := by
    have : (h + h - 1) / h < 2 := Int.ediv_lt_of_lt_mul (by omega) (by omega)
    omega
  omega
section
variable {bs S K : List B} {h : Nat} (T : Tree bs) (c : Closed bs S) (hh : 1 ≤ h)
include T
theorem rest_dep : ∀ b ∈ rest bs S, 0 ≤ dep bs b := fun b hb => (dep_range T.gr.good (mem_rest.mp hb).1).1
theorem rest_top (hh : 1 ≤ h) : IsTop bs h (rest bs S) (barTop bs h (rest bs S)) := barTop_is (by omega) (rest_dep T)
theorem fall_mono (hh : 1 ≤ h) : barTop bs h (rest bs (S ++ K)) ≤ barTop bs h (rest bs S) := by
  have t1 := rest_top (S := S ++ K) T hh
  have t2 := rest_top (S := S) T hh
  rcases t1.got with z | ⟨k, hk, z⟩
  · rw [z]
    exact t2.pos
  · rw [z]
    rw [rest_app] at hk ⊢
    have m := cn_mono (bs := bs) (L := rest bs S) (p := fun b => !decide (b ∈ K)) (k := (k : Int))
    have a := t2.all k (by omega)
    rw [bA_eq] at a ⊢
    have q := ceil_le (a := (cn bs ((rest bs S).filter fun b => !decide (b ∈ K)) k : Int)) (b := (cn bs (rest bs S) k : Int)) (h := (h : Int)) (by omega) (by omega)
    omega
theorem fall_one (c : Closed bs S) (hh : 1 ≤ h) (hK : ∀ b ∈ K, b ∈ chosenB bs S h) (nK : K.Nodup) : barTop bs h (rest bs S) ≤ barTop bs h (rest bs (S ++ K)) + 1 := by
  have t1 := rest_top (S := S ++ K) T hh
  have t2 := rest_top (S := S) T hh
  have kl : K.length ≤ h := by
    have q := len_sub nK hK
    unfold chosenB at q
    rw [List.length_take] at q
    omega
  rcases t2.got with z | ⟨k, hk, z⟩
  · rw [z]
    have := t1.pos
    omega
  · rw [z]
    have less := cn_less (bs := bs) (L := rest bs S) (K := K) (k := (k : Int)) (T.nd.sublist List.filter_sublist)
    rw [← rest_app] at less
    by_cases p : 0 < cn bs (rest bs (S ++ K)) k
    · have a := t1.all k p
      rw [bA_eq] at a ⊢
      have q := ceil_le (a := (cn bs (rest bs S) k : Int) - h) (b := (cn bs (rest bs (S ++ K)) k : Int)) (h := (h : Int)) (by omega) (by omega)
      rw [ceil_less (by omega)] at q
      omega
    · have q := ceil_few (a := (cn bs (rest bs S) k : Int)) (h := (h : Int)) (by omega) (by omega)
      rw [bA_eq]
      cases k with
      | zero =>
        have := t1.pos
        omega
      | succ j =>
        obtain ⟨x, hx, dx⟩ := cn_pos.mp hk
        obtain ⟨xb, xS⟩ := mem_rest.mp hx
        obtain ⟨y, yb, xy⟩ := T.parent xb (by omega)
        have up := T.up1 yb xy
        have yS : y ∉ S := fun m => xS (c y m x xy)
        have yK : y ∉ K := fun m => by
          have r := (mem_chosen (hK y m)).2.2
          unfold readyB at r
          rw [List.all_eq_true] at r
          exact xS (of_decide_eq_true (r x xy))
        have yL : y ∈ rest bs (S ++ K) := mem_rest.mpr ⟨yb, fun m => (List.mem_append.mp m).elim yS yK⟩
        have pj : 0 < cn bs (rest bs (S ++ K)) (j : Int) := cn_pos.mpr ⟨y, yL, by omega⟩
        have a := t1.all j pj
        rw [bA_eq] at a
        have q2 := ceil_one (a := (cn bs (rest bs (S ++ K)) j : Int)) (h := (h : Int)) (by omega) (by omega)
        omega
/-- each block that is left has a part that was left ahead of the step -/
theorem left_less (c : Closed bs S) {k : Nat} (hk : ∀ b ∈ rest bs (S ++ K), (k : Int) ≤ dep bs b → readyB bs S b = false) : cn bs (rest bs (S ++ K)) k ≤ cn bs (rest bs S) ((k : Int) + 1) := by
  rw [cn_eq, cn_eq]
  have ex : ∀ b, b ∈ (rest bs (S ++ K)).filter (fun c => decide ((k : Int) ≤ dep bs c)) → ∃ d ∈ parts bs b, d ∉ S := fun b hb => by
    have m := List.mem_filter.mp hb
    have r := hk b m.1 (of_decide_eq_true m.2)
    unfold readyB at r
    rw [List.all_eq_false] at r
    obtain ⟨d, hd, nd⟩ := r
    exact ⟨d, hd, fun z => nd (decide_eq_true z)⟩
  have g : ∃ g : B → B, ∀ b, b ∈ (rest bs (S ++ K)).filter (fun c => decide ((k : Int) ≤ dep bs c)) → g b ∈ parts bs b ∧ g b ∉ S := by
    refine ⟨fun b => ((parts bs b).find? fun d => !decide (d ∈ S)).getD b, fun b hb => ?_⟩
    obtain ⟨d, hd, nd⟩ := ex b hb
    cases e : (parts bs b).find? fun d => !decide (d ∈ S) with
    | none =>
      have q := List.find?_eq_none.mp e d hd
      simp [nd] at q
    | some d' =>
      show ((parts bs b).find? fun d => !decide (d ∈ S)).getD b ∈ parts bs b ∧ ((parts bs b).find? fun d => !decide (d ∈ S)).getD b ∉ S
      rw [e]
      refine ⟨List.mem_of_find?_eq_some e, ?_⟩
      have q := List.find?_some e
      simpa using q
  obtain ⟨g, hg⟩ := g
  have nd : (((rest bs (S ++ K)).filter fun c => decide ((k : Int) ≤ dep bs c)).map g).Nodup := by
    rw [List.Nodup, List.pairwise_map]
    refine List.Pairwise.imp_of_mem (fun {a b} ha hb ne e => ?_) ((T.nd.sublist List.filter_sublist).sublist List.filter_sublist)
    have ga := (hg a ha).1
    have gb := (hg b hb).1
    rw [← e] at gb
    exact ne (T.one (mem_rest.mp (List.mem_filter.mp ha).1).1 (mem_rest.mp (List.mem_filter.mp hb).1).1 ga gb)
  have q := len_sub (m := (rest bs S).filter fun c => decide ((k : Int) + 1 ≤ dep bs c)) nd fun y hy => by
    obtain ⟨b, hb, e⟩ := List.mem_map.mp hy
    obtain ⟨h1, h2⟩ := hg b hb
    rw [e] at h1 h2
    have m := List.mem_filter.mp hb
    have d := T.child (mem_rest.mp m.1).1 h1
    have d2 := of_decide_eq_true m.2
    exact List.mem_filter.mpr ⟨mem_rest.mpr ⟨(mem_parts.mp h1).2, h2⟩, decide_eq_true (by omega)⟩
  rw [List.length_map] at q
  exact q
theorem fall_exact (c : Closed bs S) (hh : 1 ≤ h) (some_ : rest bs S ≠ []) : barTop bs h (rest bs (S ++ chosenB bs S h)) + 1 ≤ barTop bs h (rest bs S) := by
  have t1 := rest_top (S := S ++ chosenB bs S h) T hh
  have t2 := rest_top (S := S) T hh
  have rnd : (readyL bs S).Nodup := T.nd.sublist List.filter_sublist
  have snd : (sortB (dLt bs) (readyL bs S)).Nodup := sortB_perm.nodup_iff.mpr rnd
  have cnd : (chosenB bs S h).Nodup := snd.sublist (List.take_sublist ..)
  rcases t1.got with z | ⟨k, hk, z⟩
  · rw [z]
    obtain ⟨x, hx⟩ := List.exists_mem_of_ne_nil _ some_
    have p0 : 0 < cn bs (rest bs S) ((0 : Nat) : Int) := cn_pos.mpr ⟨x, hx, rest_dep T x hx⟩
    have a := t2.all 0 p0
    rw [bA_eq] at a
    have q := ceil_one (a := (cn bs (rest bs S) ((0 : Nat) : Int) : Int)) (h := (h : Int)) (by omega) (by omega)
    omega
  · rw [z]
    by_cases all : h ≤ (readyL bs S).length ∧ ∀ b ∈ chosenB bs S h, (k : Int) ≤ dep bs b
    · have len : (chosenB bs S h).length = h := by
        unfold chosenB
        rw [List.length_take, sortB_perm.length_eq]
        omega
      have q := cn_exact (bs := bs) (L := rest bs S) (K := chosenB bs S h) (k := (k : Int)) cnd fun b hb => ⟨mem_rest.mpr ⟨(mem_chosen hb).1, (mem_chosen hb).2.1⟩, all.2 b hb⟩
      rw [← rest_app, len] at q
      have a := t2.all k (by omega)
      rw [bA_eq] at a ⊢
      have q2 := ceil_le (a := (cn bs (rest bs (S ++ chosenB bs S h)) k : Int)) (b := (cn bs (rest bs S) k : Int) - h) (h := (h : Int)) (by omega) (by omega)
      rw [ceil_less (by omega)] at q2
      omega
    · have notR : ∀ b ∈ rest bs (S ++ chosenB bs S h), (k : Int) ≤ dep bs b → readyB bs S b = false := fun b hb dk => by
        rw [Bool.eq_false_iff]
        intro r
        obtain ⟨bb, nb⟩ := mem_rest.mp hb
        rw [List.mem_append, not_or] at nb
        have mr : b ∈ readyL bs S := List.mem_filter.mpr ⟨bb, by rw [decide_eq_false nb.1, r]; rfl⟩
        have ms : b ∈ sortB (dLt bs) (readyL bs S) := sortB_perm.mem_iff.mpr mr
        have sp : sortB (dLt bs) (readyL bs S) = chosenB bs S h ++ (sortB (dLt bs) (readyL bs S)).drop h := (List.take_append_drop h _).symm
        have md : b ∈ (sortB (dLt bs) (readyL bs S)).drop h := by
          rw [sp] at ms
          rcases List.mem_append.mp ms with z | z
          · exact absurd z nb.2
          · exact z
        have big : h ≤ (readyL bs S).length := by
          have l1 := List.length_pos_of_mem md
          rw [List.length_drop, sortB_perm.length_eq] at l1
          omega
        refine all ⟨big, fun x hx => ?_⟩
        have pw := sortB_pw (lin_dLt bs) (readyL bs S)
        rw [sp, List.pairwise_append] at pw
        have no := SfKey.lt3_no.mp (pw.2.2 x hx b md)
        unfold SfKey.Lt3 keyB at no
        simp only at no
        omega
      have q := left_less T c (K := chosenB bs S h) notR
      have a := t2.all (k + 1) (by
        have e : ((k + 1 : Nat) : Int) = (k : Int) + 1 := rfl
        rw [e]
        omega)
      rw [bA_eq] at a ⊢
      have e : ((k + 1 : Nat) : Int) = (k : Int) + 1 := rfl
      rw [e] at a
      have q2 := ceil_le (a := (cn bs (rest bs (S ++ chosenB bs S h)) k : Int)) (b := (cn bs (rest bs S) ((k : Int) + 1) : Int)) (h := (h : Int)) (by omega) (by omega)
      omega
end
/-! ### a run -/
theorem runF_at {bs : List B} {h : Nat} {ls : List (List B)} : ∀ {m : Nat} {S : List B} {i j : Nat} {s : List B}, (runF bs h ls m S i)[j]? = some s → (S ++ ((runF bs h ls m S i).take j).flatten).length < bs.length ∧ s = sortB bLt (keptB bs (S ++ ((runF bs h ls m S i).take j).flatten) h (ls.getD (i + j) []))
  | 0, S, i, j, s, e => by
    rw [runF] at e
    simp at e
  | m + 1, S, i, j, s, e => by
    rw [runF] at e ⊢
    by_cases lt : S.length < bs.length
    · rw [if_pos lt] at e ⊢
      cases j with
      | zero =>
        rw [List.getElem?_cons_zero] at e
        cases e
        simpa using lt
      | succ j =>
        rw [List.getElem?_cons_succ] at e
        have q := runF_at e
        rw [List.take_succ_cons, List.flatten_cons, ← List.append_assoc]
        rw [show i + (j + 1) = i + 1 + j by omega]
        exact q
    · rw [if_neg lt] at e
      simp at e
theorem run_over {n : Int} {bs : List B} {h : Nat} {ls : List (List B)} (good : ∀ b ∈ bs, OkB n b) (bnd : bs.Nodup) (hh : 1 ≤ h) : ∀ {m : Nat} {S : List B} {i : Nat}, RunAt bs S → runM bs ls S i ≤ m → ¬ (S ++ (runF bs h ls m S i).flatten).length < bs.length
  | 0, S, i, R, hm => by
    unfold runM at hm
    rw [runF]
    simp
    omega
  | m + 1, S, i, R, hm => by
    rw [runF]
    by_cases lt : S.length < bs.length
    · rw [if_pos lt, List.flatten_cons, ← List.append_assoc]
      have q := run_less (h := h) (i := i) (ls := ls) good bnd R lt hh (sortB_perm (lt := bLt))
      exact run_over good bnd hh (R.next bnd sortB_perm) (by omega)
    · rw [if_neg lt]
      simpa using lt
/-- what is done ahead of a step -/
def doneAt (rs : List (List B)) (i : Nat) : List B := (rs.take i).flatten
theorem left_rest {bs : List B} {rs : List (List B)} {i : Nat} : leftAt bs rs i = rest bs (doneAt rs i) := by
  unfold leftAt rest doneAt
  refine List.filter_congr fun b _ => ?_
  rw [Bool.eq_iff_iff]
  simp only [List.all_eq_true, Bool.not_eq_true', decide_eq_false_iff_not, List.mem_flatten, not_exists, not_and]
theorem doneAt_succ {rs : List (List B)} {i : Nat} {s : List B} (e : rs[i]? = some s) : doneAt rs (i + 1) = doneAt rs i ++ s := by
  unfold doneAt
  rw [List.take_add_one, e, List.flatten_append]
  simp
section
variable {bs : List B} {h : Nat} {ls : List (List B)} (T : Tree bs) (hh : 1 ≤ h)
theorem run_at {i : Nat} {s : List B} (e : (runS bs h ls)[i]? = some s) : (doneAt (runS bs h ls) i).length < bs.length ∧ s = sortB bLt (keptB bs (doneAt (runS bs h ls) i) h (ls.getD i [])) := by
  have q := runF_at e
  rw [List.nil_append, Nat.zero_add] at q
  exact q
include T
theorem done_ok : ∀ i : Nat, i ≤ (runS bs h ls).length → RunAt bs (doneAt (runS bs h ls) i) ∧ Closed bs (doneAt (runS bs h ls) i)
  | 0, _ => by
    unfold doneAt
    rw [List.take_zero]
    exact ⟨RunAt.nil, fun b hb => nomatch hb⟩
  | i + 1, hi => by
    obtain ⟨R, c⟩ := done_ok i (by omega)
    have e := List.getElem?_eq_getElem (show i < (runS bs h ls).length by omega)
    obtain ⟨_, es⟩ := run_at e
    rw [doneAt_succ e, es]
    exact ⟨R.next T.nd sortB_perm, c.next fun b hb => (mem_chosen (List.mem_filter.mp (sortB_perm.mem_iff.mp hb)).1).2.2⟩
theorem bars_at (i : Nat) (hi : i ≤ (runS bs h ls).length) : (barsLeft bs h (runS bs h ls)).getD i 0 = barTop bs h (rest bs (doneAt (runS bs h ls) i)) := by
  unfold barsLeft
  rw [List.getD_eq_getElem?_getD, List.getElem?_map, List.getElem?_range (by omega), ← left_rest]
  rfl
theorem bars_fall (hh : 1 ≤ h) (i : Nat) (hi : i < (runS bs h ls).length) : (barsLeft bs h (runS bs h ls)).getD (i + 1) 0 ≤ (barsLeft bs h (runS bs h ls)).getD i 0 ∧ (barsLeft bs h (runS bs h ls)).getD i 0 ≤ (barsLeft bs h (runS bs h ls)).getD (i + 1) 0 + 1 ∧
    (ls.getD i [] = [] → (barsLeft bs h (runS bs h ls)).getD (i + 1) 0 + 1 ≤ (barsLeft bs h (runS bs h ls)).getD i 0) := by
  have e := List.getElem?_eq_getElem hi
  obtain ⟨lt, es⟩ := run_at e
  obtain ⟨R, c⟩ := done_ok (h := h) (ls := ls) T i (by omega)
  rw [bars_at T i (by omega), bars_at T (i + 1) (by omega), doneAt_succ e, es]
  refine ⟨fall_mono T hh, fall_one T c hh (fun b hb => (List.mem_filter.mp (sortB_perm.mem_iff.mp hb)).1) (sortB_perm.nodup_iff.mpr (kept_nodup T.nd)), fun z => ?_⟩
  have ek : rest bs (doneAt (runS bs h ls) i ++ sortB bLt (keptB bs (doneAt (runS bs h ls) i) h (ls.getD i []))) = rest bs (doneAt (runS bs h ls) i ++ chosenB bs (doneAt (runS bs h ls) i) h) := by
    refine rest_perm fun b => ?_
    rw [sortB_perm.mem_iff, z]
    unfold keptB
    rw [List.mem_filter]
    simp
  rw [ek]
  refine fall_exact T c hh fun z => ?_
  have q : bs.length ≤ (doneAt (runS bs h ls) i).length := len_sub T.nd fun b hb => Classical.byContradiction fun nb => by
    have m : b ∈ rest bs (doneAt (runS bs h ls) i) := mem_rest.mpr ⟨hb, nb⟩
    rw [z] at m
    exact nomatch m
  omega
theorem bars_end (hh : 1 ≤ h) : (barsLeft bs h (runS bs h ls)).getD (runS bs h ls).length 0 = 0 := by
  rw [bars_at T _ (Nat.le_refl _)]
  have ov := run_over (h := h) (ls := ls) T.gr.good T.nd hh (S := []) (i := 0) RunAt.nil (Nat.le_refl _)
  obtain ⟨R, _⟩ := done_ok (h := h) (ls := ls) T _ (Nat.le_refl _)
  have ed : doneAt (runS bs h ls) (runS bs h ls).length = (runS bs h ls).flatten := by
    unfold doneAt
    rw [List.take_length]
  have len : ¬ (doneAt (runS bs h ls) (runS bs h ls).length).length < bs.length := by
    rw [ed]
    rw [List.nil_append] at ov
    exact ov
  have em : rest bs (doneAt (runS bs h ls) (runS bs h ls).length) = [] := by
    unfold rest
    rw [List.filter_eq_nil_iff]
    intro b hb
    simp only [Bool.not_eq_true', decide_eq_false_iff_not]
    intro nb
    have q := len_sub (m := bs) (List.nodup_cons.mpr ⟨nb, R.nd⟩) fun x hx => by
      rcases List.mem_cons.mp hx with z | z
      · rw [z]
        exact hb
      · exact R.sub x z
    rw [List.length_cons] at q
    omega
  rw [em]
  rfl
theorem bars_zero : (barsLeft bs h (runS bs h ls)).getD 0 0 = barTop bs h bs := by
  rw [bars_at T 0 (Nat.zero_le _)]
  congr 1
  unfold doneAt rest
  rw [List.take_zero]
  simp
end
/-- numbers that fall by one or stay -/
theorem seq_fall (f : Nat → Int) : ∀ n : Nat, (∀ i, i < n → f (i + 1) ≤ f i ∧ f i ≤ f (i + 1) + 1) → f 0 + (((List.range n).filter fun i => decide (f i ≤ f (i + 1))).length : Int) = f n + n
  | 0, _ => by simp
  | n + 1, hf => by
    have ih := seq_fall f n fun i hi => hf i (by omega)
    have q := hf n (by omega)
    rw [List.range_succ, List.filter_append, List.length_append, List.filter_cons]
    by_cases c : f n ≤ f (n + 1)
    · rw [if_pos (decide_eq_true c)]
      simp
      omega
    · rw [if_neg (by simpa using c)]
      simp
      omega
end K36
/-! The law's own: exact, where both are the same. -/
namespace K36
open PySem PySem.Spec PyProof.Rows L2 LamX SfKey
theorem walk_zipT {K : PySem.W.Frag} {a b : Addr} {xs ys : List V} {n : Nat} (hn : n = min xs.length ys.length) : Walk (RZ.ItzT K a b) n (fun H => SqT K H a xs ∧ SqT K H b ys) (YPair (fun i => xs[i]?) (fun i => ys[i]?)) := by
  subst hn
  refine ⟨fun i _ hi q => ?_, fun _ q => ⟨xs, ys, q.1, q.2, by omega⟩, fun i H v H' _ q y => ?_⟩
  · have h1 : i < xs.length := by omega
    have h2 : i < ys.length := by omega
    exact ⟨xs, ys, xs[i], ys[i], q.1, q.2, by simp [h1], by simp [h2]⟩
  · obtain ⟨T, x, z, h1, h2, h3, h4, h5⟩ := y
    exact ⟨T, x, z, h1, h2, h3, h4 xs q.1, h5 ys q.2⟩
/-- the same data, so deep -/
def EqAt (H : Hp) : Nat → V → V → Prop
  | 0, _, _ => False
  | k + 1, v, u => (∃ n : Int, v = .int n ∧ u = .int n) ∨ (∃ a b xs ys, v = .ref a ∧ u = .ref b ∧ H a = some (.lst xs) ∧ H b = some (.lst ys) ∧ xs.length < 2 ^ 22 ∧ Paired (EqAt H k) xs ys) ∨
    ∃ a b xs ys, v = .ref a ∧ u = .ref b ∧ H a = some (.tup xs) ∧ H b = some (.tup ys) ∧ xs.length < 2 ^ 22 ∧ Paired (EqAt H k) xs ys
theorem EqAt.same {H G : Hp} (s : Same H G) : ∀ {k : Nat} {v u : V}, EqAt H k v u → EqAt G k v u
  | 0, _, _, h => h.elim
  | k + 1, v, u, h => by
    rcases h with ⟨n, h1, h2⟩ | ⟨a, b, xs, ys, h1, h2, h3, h4, h5, h6⟩ | ⟨a, b, xs, ys, h1, h2, h3, h4, h5, h6⟩
    · exact .inl ⟨n, h1, h2⟩
    · exact .inr (.inl ⟨a, b, xs, ys, h1, h2, s _ _ h3, s _ _ h4, h5, paired_imp (fun x y q => EqAt.same s q) h6⟩)
    · exact .inr (.inr ⟨a, b, xs, ys, h1, h2, s _ _ h3, s _ _ h4, h5, paired_imp (fun x y q => EqAt.same s q) h6⟩)
def spEx : Nat → Sp
  | 0 => fun _ _ _ _ => False
  | k + 1 => fun vs H Q _ => ∃ v u, vs = [v, u] ∧ (EqAt H (k + 1) v u ∨ ∃ b : Bool, v = .bl b ∧ u = .bl b) ∧ ∀ G, Same H G → Q (.bl true) G
abbrev nEx : List Str := ["_law_mine", "_law_theirs", "_law_alike", "_law_a", "_law_b", "_law_key"]
theorem scEx : FnScope nEx ["_law_mine", "_law_theirs"] (defScope sExact) := ⟨rfl, rfl, rfl, by decide +kernel, rfl, by decide +kernel, by decide +kernel⟩
section
variable {P : Program} {w : World} {K : PySem.W.Frag} {mg : Str → Option Value} {base : Heap} {f : Addr} {fd : FuncData}
theorem ok_ex (F : FnP K dExact f fd) (gE : mg "_law_exact" = some (.ref f)) (gIs : mg "isinstance" = none) (gLi : mg "list" = none) (gTu : mg "tuple" = none) (gDi : mg "dict" = none) (gIn : mg "int" = none) (gBo : mg "bool" = none) (gAl : mg "all" = none) (gLe : mg "len" = none) (gZi : mg "zip" = none) :
    ∀ k : Nat, FnOk P w K mg base CX0 k f fd ["_law_mine", "_law_theirs"] (spEx k)
  | 0 => ⟨fun _ _ _ _ h => h.elim, fun _ _ _ _ _ _ _ _ _ _ _ _ _ h => h.elim⟩
  | k + 1 => by
    have GE := ok_ex F gE gIs gLi gTu gDi gIn gBo gAl gLe gZi k
    have bE : Binds K fd ["_law_mine", "_law_theirs"] [] := F.bindsN fun _ _ _ _ _ _ us hl => match us, hl with | [_, _], _ => rfl
    refine F.ok scEx (fun vs H Q E h => ?_) (fun cdv A outer s H vs Q E hr h => ⟨_, PSs.nox (
      pss_cons (ps_if (pt_val (pe_callB call_isiT rfl gIs (by decide +kernel) (pa_cons (pv 0) (pa_cons (pe_tup (pa_cons (pe_bltn (v := .ty "list") rfl gLi (by decide +kernel) rfl) (pa_cons (pe_bltn (v := .ty "tuple") rfl gTu (by decide +kernel) rfl) pa_nil))) pa_nil))))
        (pss_cons (ps_set (i := 2) scEx.nd rfl (.inl rfl) (pe_and
            (pe_cmpR op_eq (pe_callB call_isi rfl gIs (by decide +kernel) (pa_cons (pv 1) (pa_cons (pe_bltn (v := .ty "list") rfl gLi (by decide +kernel) rfl) pa_nil))) (pe_callB call_isi rfl gIs (by decide +kernel) (pa_cons (pv 0) (pa_cons (pe_bltn (v := .ty "list") rfl gLi (by decide +kernel) rfl) pa_nil))) (nomark _))
            (pe_one (pe_cmpR op_eq (pe_callB call_isi rfl gIs (by decide +kernel) (pa_cons (pv 1) (pa_cons (pe_bltn (v := .ty "tuple") rfl gTu (by decide +kernel) rfl) pa_nil))) (pe_callB call_isi rfl gIs (by decide +kernel) (pa_cons (pv 0) (pa_cons (pe_bltn (v := .ty "tuple") rfl gTu (by decide +kernel) rfl) pa_nil))) (nomark _)))))
        (pss_one (ps_ret (pe_and (pv 2) (pe_and (pe_cmpR op_eq (pe_callB call_len_seq rfl gLe (by decide +kernel) (pa_cons (pv 0) pa_nil)) (pe_callB call_len_seq rfl gLe (by decide +kernel) (pa_cons (pv 1) pa_nil)) (nomark _))
            (pe_one (pe_callB (cr_all rfl) rfl gAl (by decide +kernel) (pa_cons (pe_lc (own := [("_law_a", 3), ("_law_b", 4)]) (g := gTup K 2 (gCons (gName 3) (gCons (gName 4) gNil))) (tt := tYes) (te := tCall (spEx k) [] E0 (tCons (tVar 3) (tCons (tVar 4) tNil))) rfl scEx.nd (RZ.pi_zipA rfl gZi (pa_cons (pv 0) (pa_cons (pv 1) pa_nil))) (blkOk_by (N := nEx) (sc := defScope sExact) (by decide +kernel))
              (fun _ _ _ _ _ => pg_tup rfl (pgs_cons (pg_name (i := 3) scEx.nd rfl (.inl rfl)) (pgs_cons (pg_name (i := 4) scEx.nd rfl (.inl rfl)) pgs_nil))) (fun _ _ _ _ _ => pts_nil)
              (fun _ _ _ _ _ => pe_call GE hr rfl gE F.kp bE .nil pass0 (pa_cons (pv 3) (pa_cons (pv 4) pa_nil)))) pa_nil)))))))) pss_nil)
      (pss_cons (ps_if (pt_val (pe_callB call_isi rfl gIs (by decide +kernel) (pa_cons (pv 0) (pa_cons (pe_bltn (v := .ty "dict") rfl gDi (by decide +kernel) rfl) pa_nil)))) (pss_cons ps_dead (pss_one ps_dead)) pss_nil)
      (pss_cons (ps_set (i := 2) scEx.nd rfl (.inl rfl) (pe_cmpR op_eq (pe_callB call_isi rfl gIs (by decide +kernel) (pa_cons (pv 0) (pa_cons (pe_bltn (v := .ty "int") rfl gIn (by decide +kernel) rfl) pa_nil))) (pe_callB call_isi rfl gIs (by decide +kernel) (pa_cons (pv 1) (pa_cons (pe_bltn (v := .ty "int") rfl gIn (by decide +kernel) rfl) pa_nil))) (nomark _)))
      (pss_one (ps_ret (pe_and (pv 2) (pe_and (pe_cmpR op_eq (pe_callB call_isi rfl gIs (by decide +kernel) (pa_cons (pv 0) (pa_cons (pe_bltn (v := .ty "bool") rfl gBo (by decide +kernel) rfl) pa_nil))) (pe_callB call_isi rfl gIs (by decide +kernel) (pa_cons (pv 1) (pa_cons (pe_bltn (v := .ty "bool") rfl gBo (by decide +kernel) rfl) pa_nil))) (nomark _))
          (pe_one (pe_cmpR op_eq (pv 0) (pv 1) (nomark _)))))))))), ?_⟩)
    · obtain ⟨v, u, rfl, _⟩ := h
      rfl
    · obtain ⟨v, u, rfl, eq, q⟩ := h
      have two : 2 ≤ sizeLine := by
        rw [sizeLine_eq]
        decide
      rcases eq with (⟨n, rfl, rfl⟩ | ⟨a, b, xs, ys, rfl, rfl, ea, eb, lz, pr⟩ | ⟨a, b, xs, ys, rfl, rfl, ea, eb, lz, pr⟩) | ⟨bo, rfl, rfl⟩
      · refine ⟨_, rfl, two, fun tp htp => ?_⟩
        have s1 := same_new (o := .tup [.ty "list", .ty "tuple"]) htp
        have eT : (upd H tp (.tup [.ty "list", .ty "tuple"])) tp = some (.tup [.ty "list", .ty "tuple"]) := upd_same
        generalize (upd H tp (.tup [.ty "list", .ty "tuple"])) = G at s1 eT ⊢
        have tyn : TyX K G (.int n) (.type "int") := .base (.int n)
        refine ⟨.int n, tp, [.ty "list", .ty "tuple"], .type "int", [.type "list", .type "tuple"], false, rfl, eT, .cons (.ty _) (.cons (.ty _) .nil), tyn, (kitAny_cons (b := false) (kit_ty (by decide +kernel)) (fun _ => kitAny_cons (b := false) (kit_ty (by decide +kernel)) (fun _ => kitAny_nil) (fun z => nomatch z)) (fun z => nomatch z)), false, rfl, itF rfl ?_⟩
        refine ⟨_, rfl, .int n, .ty "dict", .type "int", .type "dict", false, rfl, .ty _, tyn, kit_ty (by decide +kernel), false, rfl, itF rfl ?_⟩
        refine ⟨_, rfl, .int n, .ty "int", .type "int", .type "int", true, rfl, .ty _, tyn, kit_ty (by decide +kernel), _, rfl, .int n, .ty "int", .type "int", .type "int", true, rfl, .ty _, tyn, kit_ty (by decide +kernel), rfl, ?_⟩
        refine ⟨_, rfl, true, rfl, itT rfl ?_⟩
        refine ⟨_, rfl, .int n, .ty "bool", .type "int", .type "bool", false, rfl, .ty _, tyn, kit_ty (by decide +kernel), _, rfl, .int n, .ty "bool", .type "int", .type "bool", false, rfl, .ty _, tyn, kit_ty (by decide +kernel), rfl, true, rfl, itT rfl ?_⟩
        refine ⟨_, rfl, _, rfl, rfl, ?_⟩
        rw [decide_eq_true rfl]
        exact q G s1
      · have l1 : xs.length = ys.length := Paired.length pr
        refine ⟨_, rfl, two, fun tp htp => ?_⟩
        have s1 := same_new (o := .tup [.ty "list", .ty "tuple"]) htp
        have eT : (upd H tp (.tup [.ty "list", .ty "tuple"])) tp = some (.tup [.ty "list", .ty "tuple"]) := upd_same
        generalize (upd H tp (.tup [.ty "list", .ty "tuple"])) = G at s1 eT ⊢
        have ea' := s1 _ _ ea
        have eb' := s1 _ _ eb
        have tya : TyX K G (.ref a) (.type "list") := .base (.lst ea')
        have tyb : TyX K G (.ref b) (.type "list") := .base (.lst eb')
        refine ⟨.ref a, tp, [.ty "list", .ty "tuple"], .type "list", [.type "list", .type "tuple"], true, rfl, eT, .cons (.ty _) (.cons (.ty _) .nil), tya, (kitAny_cons (b := true) (kit_ty (by decide +kernel)) (fun z => nomatch z) (fun _ => rfl)), true, rfl, itT rfl ?_⟩
        refine ⟨_, rfl, .ref b, .ty "list", .type "list", .type "list", true, rfl, .ty _, tyb, kit_ty (by decide +kernel), _, rfl, .ref a, .ty "list", .type "list", .type "list", true, rfl, .ty _, tya, kit_ty (by decide +kernel), rfl, true, rfl, itT rfl ?_⟩
        refine ⟨_, rfl, .ref b, .ty "tuple", .type "list", .type "tuple", false, rfl, .ty _, tyb, kit_ty (by decide +kernel), _, rfl, .ref a, .ty "tuple", .type "list", .type "tuple", false, rfl, .ty _, tya, kit_ty (by decide +kernel), rfl, ?_⟩
        refine ⟨_, rfl, true, rfl, itT rfl ?_⟩
        refine ⟨_, rfl, a, xs, rfl, .inl (SqL.of ea'), _, rfl, b, ys, rfl, .inl (SqL.of eb'), rfl, true, congrArg V.bl (decide_eq_true (by rw [l1])), itT rfl ?_⟩
        refine ⟨_, rfl, _, rfl, a, b, xs, ys, rfl, .inl ⟨SqL.of ea', SqL.of eb', fun D hD => ?_⟩⟩
        refine lc_it (walk_zip (n := xs.length) (by omega)) (fun j G' => Same G G' ∧ G' D = some (.lst (List.replicate j (V.bl true)))) ⟨same_new hD, upd_same⟩ (fun j G' _ q => ⟨SqL.of (q.1 _ _ ea'), SqL.of (q.1 _ _ eb')⟩) ?_ ?_
        · rintro j w G3 G4 hj ⟨s3, e3⟩ ⟨T, x, y, ex, hT, eG, hx, hy⟩
          subst ex eG
          obtain ⟨y', hy', exy⟩ := paired_get pr hx
          obtain rfl : y = y' := Option.some.inj (hy.symm.trans hy')
          have s4 := same_new (o := .tup [x, y]) hT
          refine ⟨T, [x, y], rfl, SqT.of upd_same, rfl, _, _, rfl, _, _, rfl, rfl, rfl, ?_⟩
          cases k with
          | zero => exact exy.elim
          | succ k =>
            refine ⟨_, rfl, _, rfl, x, y, rfl, .inl (exy.same (s1.trans (s3.trans s4))), fun G5 s5 => ⟨_, s5 _ _ (s4 _ _ e3), ?_, fun c o e => ?_, ?_⟩⟩
            · rw [List.length_replicate, sizeLine_eq]
              omega
            · rw [upd_ne (ne_of_none e hD)]
              exact s5 _ _ (s4 _ _ (s3 _ _ e))
            · rw [upd_same, ← List.replicate_succ']
        · rintro G3 ⟨s3, e3⟩
          refine ⟨D, List.replicate xs.length true, rfl, SqL.of (by rw [e3, List.map_replicate]), ?_⟩
          rw [show (List.replicate xs.length true).all id = true by simp]
          exact q G3 (s1.trans s3)
      · have l1 : xs.length = ys.length := Paired.length pr
        refine ⟨_, rfl, two, fun tp htp => ?_⟩
        have s1 := same_new (o := .tup [.ty "list", .ty "tuple"]) htp
        have eT : (upd H tp (.tup [.ty "list", .ty "tuple"])) tp = some (.tup [.ty "list", .ty "tuple"]) := upd_same
        generalize (upd H tp (.tup [.ty "list", .ty "tuple"])) = G at s1 eT ⊢
        have ea' := s1 _ _ ea
        have eb' := s1 _ _ eb
        have tya : TyX K G (.ref a) (.type "tuple") := .base (.tup ea')
        have tyb : TyX K G (.ref b) (.type "tuple") := .base (.tup eb')
        refine ⟨.ref a, tp, [.ty "list", .ty "tuple"], .type "tuple", [.type "list", .type "tuple"], true, rfl, eT, .cons (.ty _) (.cons (.ty _) .nil), tya, (kitAny_cons (b := false) (kit_ty (by decide +kernel)) (fun _ => kitAny_cons (b := true) (kit_ty (by decide +kernel)) (fun z => nomatch z) (fun _ => rfl)) (fun z => nomatch z)), true, rfl, itT rfl ?_⟩
        refine ⟨_, rfl, .ref b, .ty "list", .type "tuple", .type "list", false, rfl, .ty _, tyb, kit_ty (by decide +kernel), _, rfl, .ref a, .ty "list", .type "tuple", .type "list", false, rfl, .ty _, tya, kit_ty (by decide +kernel), rfl, true, rfl, itT rfl ?_⟩
        refine ⟨_, rfl, .ref b, .ty "tuple", .type "tuple", .type "tuple", true, rfl, .ty _, tyb, kit_ty (by decide +kernel), _, rfl, .ref a, .ty "tuple", .type "tuple", .type "tuple", true, rfl, .ty _, tya, kit_ty (by decide +kernel), rfl, ?_⟩
        refine ⟨_, rfl, true, rfl, itT rfl ?_⟩
        refine ⟨_, rfl, a, xs, rfl, .inr (SqT.of ea'), _, rfl, b, ys, rfl, .inr (SqT.of eb'), rfl, true, congrArg V.bl (decide_eq_true (by rw [l1])), itT rfl ?_⟩
        refine ⟨_, rfl, _, rfl, a, b, xs, ys, rfl, .inr ⟨SqT.of ea', SqT.of eb', fun D hD => ?_⟩⟩
        refine lc_it (walk_zipT (n := xs.length) (by omega)) (fun j G' => Same G G' ∧ G' D = some (.lst (List.replicate j (V.bl true)))) ⟨same_new hD, upd_same⟩ (fun j G' _ q => ⟨SqT.of (q.1 _ _ ea'), SqT.of (q.1 _ _ eb')⟩) ?_ ?_
        · rintro j w G3 G4 hj ⟨s3, e3⟩ ⟨T, x, y, ex, hT, eG, hx, hy⟩
          subst ex eG
          obtain ⟨y', hy', exy⟩ := paired_get pr hx
          obtain rfl : y = y' := Option.some.inj (hy.symm.trans hy')
          have s4 := same_new (o := .tup [x, y]) hT
          refine ⟨T, [x, y], rfl, SqT.of upd_same, rfl, _, _, rfl, _, _, rfl, rfl, rfl, ?_⟩
          cases k with
          | zero => exact exy.elim
          | succ k =>
            refine ⟨_, rfl, _, rfl, x, y, rfl, .inl (exy.same (s1.trans (s3.trans s4))), fun G5 s5 => ⟨_, s5 _ _ (s4 _ _ e3), ?_, fun c o e => ?_, ?_⟩⟩
            · rw [List.length_replicate, sizeLine_eq]
              omega
            · rw [upd_ne (ne_of_none e hD)]
              exact s5 _ _ (s4 _ _ (s3 _ _ e))
            · rw [upd_same, ← List.replicate_succ']
        · rintro G3 ⟨s3, e3⟩
          refine ⟨D, List.replicate xs.length true, rfl, SqL.of (by rw [e3, List.map_replicate]), ?_⟩
          rw [show (List.replicate xs.length true).all id = true by simp]
          exact q G3 (s1.trans s3)
      · refine ⟨_, rfl, two, fun tp htp => ?_⟩
        have s1 := same_new (o := .tup [.ty "list", .ty "tuple"]) htp
        have eT : (upd H tp (.tup [.ty "list", .ty "tuple"])) tp = some (.tup [.ty "list", .ty "tuple"]) := upd_same
        generalize (upd H tp (.tup [.ty "list", .ty "tuple"])) = G at s1 eT ⊢
        have tyn : TyX K G (.bl bo) (.type "bool") := .base (.bl bo)
        refine ⟨.bl bo, tp, [.ty "list", .ty "tuple"], .type "bool", [.type "list", .type "tuple"], false, rfl, eT, .cons (.ty _) (.cons (.ty _) .nil), tyn, (kitAny_cons (b := false) (kit_ty (by decide +kernel)) (fun _ => kitAny_cons (b := false) (kit_ty (by decide +kernel)) (fun _ => kitAny_nil) (fun z => nomatch z)) (fun z => nomatch z)), false, rfl, itF rfl ?_⟩
        refine ⟨_, rfl, .bl bo, .ty "dict", .type "bool", .type "dict", false, rfl, .ty _, tyn, kit_ty (by decide +kernel), false, rfl, itF rfl ?_⟩
        refine ⟨_, rfl, .bl bo, .ty "int", .type "bool", .type "int", true, rfl, .ty _, tyn, kit_ty (by decide +kernel), _, rfl, .bl bo, .ty "int", .type "bool", .type "int", true, rfl, .ty _, tyn, kit_ty (by decide +kernel), rfl, ?_⟩
        refine ⟨_, rfl, true, rfl, itT rfl ?_⟩
        refine ⟨_, rfl, .bl bo, .ty "bool", .type "bool", .type "bool", true, rfl, .ty _, tyn, kit_ty (by decide +kernel), _, rfl, .bl bo, .ty "bool", .type "bool", .type "bool", true, rfl, .ty _, tyn, kit_ty (by decide +kernel), rfl, true, rfl, itT rfl ?_⟩
        refine ⟨_, rfl, _, rfl, rfl, ?_⟩
        rw [decide_eq_true rfl]
        exact q G s1
end
end K36
/-! The law's own: same. -/
namespace K36
open PySem PySem.Spec PyProof.Rows L2 LamX SfKey
/-- u in G is a copy of what v is in H0, all of it new to H -/
def CpAt (H0 H G : Hp) : Nat → V → V → Prop
  | 0, _, _ => False
  | k + 1, v, u => (∃ n : Int, v = .int n ∧ u = .int n) ∨ (∃ a b xs ys, v = .ref a ∧ u = .ref b ∧ H0 a = some (.lst xs) ∧ H b = none ∧ G b = some (.lst ys) ∧ xs.length < 2 ^ 22 ∧ Paired (CpAt H0 H G k) xs ys) ∨
    ∃ a b xs ys, v = .ref a ∧ u = .ref b ∧ H0 a = some (.tup xs) ∧ H b = none ∧ G b = some (.tup ys) ∧ xs.length < 2 ^ 22 ∧ Paired (CpAt H0 H G k) xs ys
theorem CpAt.weak {H0 H H' G G' : Hp} (hn : ∀ b, H b = none → H' b = none) (hg : ∀ b o, H b = none → G b = some o → G' b = some o) : ∀ {k : Nat} {v u : V}, CpAt H0 H G k v u → CpAt H0 H' G' k v u
  | 0, _, _, h => h.elim
  | k + 1, v, u, h => by
    rcases h with ⟨n, h1, h2⟩ | ⟨a, b, xs, ys, h1, h2, h3, h4, h5, h6, h7⟩ | ⟨a, b, xs, ys, h1, h2, h3, h4, h5, h6, h7⟩
    · exact .inl ⟨n, h1, h2⟩
    · exact .inr (.inl ⟨a, b, xs, ys, h1, h2, h3, hn _ h4, hg _ _ h4 h5, h6, paired_imp (fun x y q => CpAt.weak hn hg q) h7⟩)
    · exact .inr (.inr ⟨a, b, xs, ys, h1, h2, h3, hn _ h4, hg _ _ h4 h5, h6, paired_imp (fun x y q => CpAt.weak hn hg q) h7⟩)
def spSm : Nat → Sp
  | 0 => fun _ _ _ _ => False
  | k + 1 => fun vs H Q _ => ∃ v H0, vs = [v] ∧ Same H0 H ∧ EqAt H0 (k + 1) v v ∧ ∀ u G, Same H G → CpAt H0 H G (k + 1) v u → Q u G
section
variable {P : Program} {w : World} {K : PySem.W.Frag} {mg : Str → Option Value} {base : Heap} {f : Addr} {fd : FuncData}
end
end K36
/-! list(range(a, b, c)). -/
namespace SfRg
open PySem PySem.Spec PyProof.Rows L2
def rgDown (a c : Int) (n : Nat) : List V := (List.range n).map fun i : Nat => V.int (a + (i : Int) * c)
def tRg3 (ta : TA) : TE := fun σ H Q => ta σ H fun vs H1 => ∃ (a b c : Int) (n : Nat), vs = [.int a, .int b, .int c] ∧ RgC a b c n ∧ n ≤ 2 ^ 24 ∧ ∀ q, H1 q = none → Q (.ref q) (upd H1 q (.lst (rgDown a c n)))
theorem pe_listRg3 {X : Cx} {a b c : Expr} {ta : TA} {p p2 pos pos2 : Pos} (calm : X.calm = true) (hg : Gl X "list") (hm : X.mg "list" = none) (gr : Gl X "range") (mr : X.mg "range" = none) (ha : PA X [a, b, c] ta)
    (h1 : starEach [a, b, c] X.env = (false, eval a X.env) :: starEach [b, c] X.env := by rfl) (h2 : (backTo pos2 (starEach [b, c] X.env)).any (·.1) = false := by rfl)
    (h3 : starEach [.Call (.Name "range" p2) [a, b, c] [] pos2] X.env = (false, eval (.Call (.Name "range" p2) [a, b, c] [] pos2) X.env) :: starEach [] X.env := by rfl) :
    PE X (.Call (.Name "list" p) [.Call (.Name "range" p2) [a, b, c] [] pos2] [] pos) (tRg3 ta) := by
  refine ⟨fun pins s σ H Q I hyp => ?_⟩
  refine Call_ (ld_blt I hg hm boot_list (PyProof.Rows.callWith_type1 (args_cons (Call_ (ld_blt I gr mr boot_range (PyProof.Rows.callWith_type1 (thn (ha.run pos2 pins s σ H _ I hyp) fun us s1 ⟨vs, H1, I1, r1, q1⟩ => ?_) h1 h2))) h3) h3))
  obtain ⟨i, j, k, n, e, ⟨c0, c1, c2, c3⟩, nz, q⟩ := q1
  subst e
  cases r1 with
  | cons r rr =>
    cases rr with
    | cons r' rr =>
      cases rr with
      | cons r'' rr =>
        cases rr
        obtain ⟨t, et⟩ := r
        obtain ⟨t', et'⟩ := r'
        obtain ⟨t'', et''⟩ := r''
        subst et et' et''
        refine call_range_3 c0 ?_ (.inl (PyProof.noPylong_small c1))
        have I2 : Inv X pins σ H1 { s1 with heap := s1.heap.push { cls := .type "range", data := .fields #[.int i t, .int j t', .int k t''] } } := I1.kept (t' := s1.toks) fun b o e => Heap.get?_push_of_some _ e
        refine args_nil ?_
        refine call_list_range (n := n) (I2.ok.hd calm) (IsRange.new ..) c2 c3 nz fun h' tk acc c' hk e' hi => ?_
        refine ⟨.ref _, upd H1 _ (.lst (rgDown i k n)), I2.laid hk (Nat.le_refl _) ⟨?_, acc.toList, c', ?_, ?_⟩, rfl, q _ (I2.hok.fresh (Nat.le_refl _))⟩
        · show (rgDown i k n).length ≤ sizeLine
          unfold rgDown
          rw [List.length_map, List.length_range, sizeLine_eq]
          omega
        · have ln : acc.toList.length = n := by rw [Array.length_toList]; exact hi.1
          unfold rgDown
          rw [← ln]
          refine vals_of_get acc.toList _ fun m u hm => ?_
          obtain ⟨t, et⟩ := hi.2 m u (by rw [← hm, Array.getElem?_toList])
          exact ⟨t, et⟩
        · rw [Array.toArray_toList]
          exact e'
end SfRg
/-! What the law's right leans on. -/
namespace K36
open PySem PySem.Spec PyProof.Rows L2 LamX SfKey
theorem EqAt.mono {H : Hp} : ∀ {k : Nat} {v u : V}, EqAt H k v u → EqAt H (k + 1) v u
  | 0, _, _, h => h.elim
  | k + 1, v, u, h => by
    rcases h with ⟨n, h1, h2⟩ | ⟨a, b, xs, ys, h1, h2, h3, h4, h5, h6⟩ | ⟨a, b, xs, ys, h1, h2, h3, h4, h5, h6⟩
    · exact .inl ⟨n, h1, h2⟩
    · exact .inr (.inl ⟨a, b, xs, ys, h1, h2, h3, h4, h5, paired_imp (fun x y q => EqAt.mono q) h6⟩)
    · exact .inr (.inr ⟨a, b, xs, ys, h1, h2, h3, h4, h5, paired_imp (fun x y q => EqAt.mono q) h6⟩)
theorem EqAt.le {H : Hp} {v u : V} {j k : Nat} (h : EqAt H j v u) (l : j ≤ k) : EqAt H k v u := by
  induction l with
  | refl => exact h
  | step _ ih => exact ih.mono
theorem paired_both {α β γ : Type} {R : α → β → Prop} {S : γ → β → Prop} {U : α → γ → Prop} (h : ∀ x y z, R x z → S y z → U x y) : ∀ {xs : List α} {zs : List β} {ys : List γ}, Paired R xs zs → Paired S ys zs → Paired U xs ys
  | _, _, _, .nil, .nil => .nil
  | _, _, _, .cons a r, .cons b t => .cons (h _ _ _ a b) (paired_both h r t)
theorem eq_tb {H : Hp} {v u : V} {b : B} (h : Tb H v b) (k : Tb H u b) : EqAt H 2 v u := by
  obtain ⟨p, e1, e2⟩ := h
  obtain ⟨q, e3, e4⟩ := k
  exact .inr (.inr ⟨p, q, _, _, e1, e3, e2, e4, (by show 2 < 2 ^ 22; decide), .cons (.inl ⟨_, rfl, rfl⟩) (.cons (.inl ⟨_, rfl, rfl⟩) .nil)⟩)
/-- two lists of the same blocks -/
theorem eq_lb {H : Hp} {p q : Addr} {xs ys : List V} {bs : List B} (hp : H p = some (.lst xs)) (hq : H q = some (.lst ys)) (lx : Lb H xs bs) (ly : Lb H ys bs) (lz : xs.length < 2 ^ 22) : EqAt H 3 (.ref p) (.ref q) :=
  .inr (.inl ⟨p, q, xs, ys, rfl, rfl, hp, hq, lz, paired_both (R := Tb H) (S := Tb H) (fun x y z a b => eq_tb a b) lx ly⟩)
theorem eq_ll {H : Hp} {p q : Addr} {xs ys : List V} {ls : List (List B)} (hp : H p = some (.lst xs)) (hq : H q = some (.lst ys)) (lx : LL H xs ls) (ly : LL H ys ls) (lz : xs.length < 2 ^ 22) : EqAt H 4 (.ref p) (.ref q) :=
  .inr (.inl ⟨p, q, xs, ys, rfl, rfl, hp, hq, lz, paired_both (R := LAt H) (S := LAt H) (fun x y z a b => by
    obtain ⟨a1, w1, e1, h1, l1, z1⟩ := a
    obtain ⟨a2, w2, e2, h2, l2, z2⟩ := b
    rw [e1, e2]
    exact eq_lb h1 h2 l1 l2 (by omega)) lx ly⟩)
theorem paired_map {α β : Type} {R : α → β → Prop} {f : γ → α} {g : γ → β} (h : ∀ x, R (f x) (g x)) : ∀ l : List γ, Paired R (l.map f) (l.map g)
  | [] => .nil
  | x :: t => .cons (h x) (paired_map h t)
theorem eq_ints {H : Hp} {p q : Addr} {ns : List Int} (hp : H p = some (.lst (ns.map V.int))) (hq : H q = some (.lst (ns.map V.int))) (lz : ns.length < 2 ^ 22) : EqAt H 2 (.ref p) (.ref q) :=
  .inr (.inl ⟨p, q, _, _, rfl, rfl, hp, hq, by rw [List.length_map]; exact lz, paired_map (fun x => .inl ⟨x, rfl, rfl⟩) ns⟩)
theorem eq_nats {H : Hp} {p q : Addr} {ns : List Nat} (hp : H p = some (.lst (ns.map fun j : Nat => V.int (j : Int)))) (hq : H q = some (.lst (ns.map fun j : Nat => V.int (j : Int)))) (lz : ns.length < 2 ^ 22) : EqAt H 2 (.ref p) (.ref q) :=
  .inr (.inl ⟨p, q, _, _, rfl, rfl, hp, hq, by rw [List.length_map]; exact lz, paired_map (fun x => .inl ⟨(x : Int), rfl, rfl⟩) ns⟩)
/-- a copy of lists of blocks -/
theorem cp_tb {H0 H G : Hp} {v u : V} {b : B} {k : Nat} (h : Tb H0 v b) (c : CpAt H0 H G (k + 2) v u) : ∃ q, u = .ref q ∧ H q = none ∧ G q = some (.tup [.int b.1, .int b.2]) := by
  obtain ⟨p, e1, e2⟩ := h
  rcases c with ⟨n, h1, _⟩ | ⟨a, q, xs, ys, h1, h2, h3, h4, h5, h6, h7⟩ | ⟨a, q, xs, ys, h1, h2, h3, h4, h5, h6, h7⟩
  · rw [e1] at h1
    cases h1
  · rw [e1] at h1
    cases h1
    rw [e2] at h3
    cases h3
  · rw [e1] at h1
    cases h1
    rw [e2] at h3
    cases h3
    cases h7 with
    | cons a1 r1 =>
      cases r1 with
      | cons a2 r2 =>
        cases r2
        rcases a1 with ⟨n1, x1, x2⟩ | ⟨a, b, xs, ys, x1, _⟩ | ⟨a, b, xs, ys, x1, _⟩
        · rcases a2 with ⟨n2, y1, y2⟩ | ⟨a, b, xs, ys, y1, _⟩ | ⟨a, b, xs, ys, y1, _⟩
          · cases x1
            cases y1
            subst x2 y2
            exact ⟨q, h2, h4, h5⟩
          · cases y1
          · cases y1
        · cases x1
        · cases x1
theorem paired_cp {R : V → β → Prop} {C : V → V → Prop} {S : V → β → Prop} (h : ∀ x y z, R x z → C x y → S y z) : ∀ {xs ys : List V} {zs : List β}, Paired R xs zs → Paired C xs ys → Paired S ys zs
  | _, _, _, .nil, .nil => .nil
  | _, _, _, .cons a r, .cons b t => .cons (h _ _ _ a b) (paired_cp h r t)
theorem paired_len2 {C : V → V → Prop} {xs ys : List V} (h : Paired C xs ys) : xs.length = ys.length := Paired.length h
theorem cp_la {H0 H G : Hp} {v u : V} {bs : List B} {k : Nat} (h : LAt H0 v bs) (c : CpAt H0 H G (k + 3) v u) : ∃ q, u = .ref q ∧ H q = none ∧ ∃ ws, G q = some (.lst ws) ∧ Lb G ws bs ∧ ws.length < 2 ^ 20 := by
  obtain ⟨p, zs, e1, e2, lb, lz⟩ := h
  rcases c with ⟨n, h1, _⟩ | ⟨a, q, xs, ys, h1, h2, h3, h4, h5, h6, h7⟩ | ⟨a, q, xs, ys, h1, h2, h3, h4, h5, h6, h7⟩
  · rw [e1] at h1
    cases h1
  · rw [e1] at h1
    cases h1
    rw [e2] at h3
    cases h3
    refine ⟨q, h2, h4, ys, h5, paired_cp (fun x y z a b => ?_) lb h7, ?_⟩
    · obtain ⟨q', w1, _, w3⟩ := cp_tb a b
      exact ⟨q', w1, w3⟩
    · have := paired_len2 h7
      omega
  · rw [e1] at h1
    cases h1
    rw [e2] at h3
    cases h3
theorem cp_ll {H0 H G : Hp} {p : Addr} {u : V} {zs : List V} {ls : List (List B)} {k : Nat} (hp : H0 p = some (.lst zs)) (h : LL H0 zs ls) (c : CpAt H0 H G (k + 4) (.ref p) u) : ∃ q ws, u = .ref q ∧ H q = none ∧ G q = some (.lst ws) ∧ LL G ws ls ∧ ws.length = zs.length := by
  rcases c with ⟨n, h1, _⟩ | ⟨a, q, xs, ys, h1, h2, h3, h4, h5, h6, h7⟩ | ⟨a, q, xs, ys, h1, h2, h3, h4, h5, h6, h7⟩
  · cases h1
  · cases h1
    rw [hp] at h3
    cases h3
    refine ⟨q, ys, h2, h4, h5, paired_cp (fun x y z a b => ?_) h h7, (paired_len2 h7).symm⟩
    obtain ⟨q', w1, _, ws, w3, w4, w5⟩ := cp_la a b
    exact ⟨q', ws, w1, w3, w4, w5⟩
  · cases h1
    rw [hp] at h3
    cases h3
theorem atI_last2 {α : Type} (xs : List α) (u v : α) : atI (xs ++ [u] ++ [v]) (-2) = some u := by
  unfold atI
  have e : ixN (xs ++ [u] ++ [v]).length (-2) = some xs.length := by
    unfold ixN
    rw [if_neg (by decide)]
    have l : (xs ++ [u] ++ [v]).length = xs.length + 2 := by simp
    rw [l]
    simp
    omega
  rw [e]
  simp
theorem run0 {bs : List B} {h : Nat} (T : Tree bs) (hh : 1 ≤ h) : ((runS bs h []).length : Int) = barTop bs h bs ∧ costlyOf (barsLeft bs h (runS bs h [])) = [] ∧ barsLeft bs h (runS bs h []) = (List.range ((runS bs h []).length + 1)).map fun i : Nat => ((runS bs h []).length : Int) - (i : Int) := by
  have fall := bars_fall (ls := []) T hh
  have bend := bars_end (ls := []) T hh
  have bz := bars_zero (ls := []) (h := h) T
  have nbl : (barsLeft bs h (runS bs h [])).length = (runS bs h []).length + 1 := by
    unfold barsLeft
    rw [List.length_map, List.length_range]
  generalize runS bs h [] = r at fall bend bz nbl ⊢
  generalize barsLeft bs h r = N at fall bend bz nbl ⊢
  have down : ∀ j : Nat, j ≤ r.length → N.getD (r.length - j) 0 = j := by
    intro j
    induction j with
    | zero =>
      intro _
      exact bend
    | succ j ih =>
      intro hj
      have i1 := ih (by omega)
      obtain ⟨f1, f2, f3⟩ := fall (r.length - (j + 1)) (by omega)
      have f3 := f3 (by simp)
      rw [show r.length - (j + 1) + 1 = r.length - j by omega, i1] at f2 f3
      have e : ((j + 1 : Nat) : Int) = (j : Int) + 1 := rfl
      omega
  have at_ : ∀ i : Nat, i ≤ r.length → N.getD i 0 = (r.length : Int) - (i : Int) := fun i hi => by
    have q := down (r.length - i) (by omega)
    rw [show r.length - (r.length - i) = i by omega] at q
    omega
  refine ⟨?_, ?_, ?_⟩
  · rw [← bz, at_ 0 (by omega)]
    simp
  · unfold costlyOf
    rw [List.filter_eq_nil_iff]
    intro i hi
    have li := List.mem_range.mp hi
    rw [decide_eq_true_eq, at_ i (by omega), at_ (i + 1) (by omega)]
    have e : ((i + 1 : Nat) : Int) = (i : Int) + 1 := rfl
    omega
  · refine List.ext_getElem (by simp [nbl]) fun i h1 h2 => ?_
    have q := at_ i (by omega)
    rw [List.getD_eq_getElem?_getD, List.getElem?_eq_getElem h1] at q
    simpa using q
theorem inV_nats {c : Nat} {xs : List Nat} (h : c ∈ xs) : inV (.int (c : Int)) (xs.map fun j : Nat => V.int (j : Int)) = true := by
  unfold inV
  rw [List.any_eq_true]
  refine ⟨.int (c : Int), List.mem_map.mpr ⟨c, h, rfl⟩, ?_⟩
  simp [eqV]
theorem dp_ints {K : PySem.W.Frag} {H : Hp} : ∀ ns : List Int, DpAll K H (ns.map V.int) (ns.map PyData.int)
  | [] => .nil
  | n :: t => .cons (.int n) (dp_ints t)
theorem shaped_ints (ns : List Int) : SeqAt.shaped (.list (ns.map PyData.int)) = true := by
  have h1 : PyData.canLayAll0 (ns.map PyData.int) = true := by
    induction ns with
    | nil => rfl
    | cons a t ih =>
      rw [List.map_cons]
      simp only [PyData.canLayAll0, PyData.canLay0, Bool.true_and]
      exact ih
  have h2 : PyData.depthAll (ns.map PyData.int) ≤ 0 := by
    clear h1
    induction ns with
    | nil => simp [PyData.depthAll]
    | cons a t ih =>
      rw [List.map_cons]
      simp only [PyData.depthAll, PyData.depth]
      omega
  unfold SeqAt.shaped
  simp only [PyData.canLay0, h1, Bool.true_and, decide_eq_true_eq]
  show PyData.depthAll _ + 1 ≤ 64
  omega
theorem eqv_ints (ns : List Int) : PyData.eqv (.list (ns.map PyData.int)) (.list (ns.map PyData.int)) = true := by
  show PyData.eqvAll (ns.map PyData.int) (ns.map PyData.int) = true
  induction ns with
  | nil => rfl
  | cons a t ih =>
    rw [List.map_cons]
    simp only [PyData.eqvAll, PyData.eqv, beq_self_eq_true, Bool.true_and]
    first | exact ih | simpa using ih
end K36
/-! numbers_of, bar_steps, greatest_bar, is_greatest_bar; profile_of, profile, profile_steps, steps_of. -/
namespace K36
open PySem PySem.Spec PyProof.Rows L2 LamX SfKey SfVal
/-- the numbers of a grouping's bars -/
def numsB (bs : List B) (h : Int) : List Int := barsOf (bs.map (dep bs)) h
/-- the profile -/
def profB (bs : List B) : List Int := (List.range (maxD (bs.map (dep bs)) (-1) + 1).toNat).map fun k : Nat => (cntGe (bs.map (dep bs)) (k : Int) : Int)
theorem profB_len {bs : List B} : (profB bs).length = (maxD (bs.map (dep bs)) (-1) + 1).toNat := by
  unfold profB
  rw [List.length_map, List.length_range]
theorem numsB_len {bs : List B} {h : Int} : (numsB bs h).length = (maxD (bs.map (dep bs)) (-1) + 1).toNat := by
  unfold numsB barsOf
  rw [List.length_map, List.length_range]
/-- the place of the first greatest -/
def topAt (ns : List Int) : Nat := ns.idxOf (maxD ns 0)
theorem maxD_in {ns : List Int} {d : Int} (h : 0 < ns.length) : maxD ns d ∈ ns := by
  rcases maxD_mem (ds := ns) (d := d) with q | q
  · rw [q.1] at h
    exact absurd h (by decide)
  · exact q
theorem topAt_lt {ns : List Int} (h : 0 < ns.length) : topAt ns < ns.length := List.idxOf_lt_length_of_mem (maxD_in h)
theorem topAt_get {ns : List Int} (h : 0 < ns.length) : ns.getD (topAt ns) 0 = maxD ns 0 := by
  rw [List.getD_eq_getElem?_getD, List.getElem?_eq_getElem (topAt_lt h)]
  exact List.getElem_idxOf (topAt_lt h)
/-- no whole number of at least 0 -/
def IsNo (K : PySem.W.Frag) (H : Hp) (v : V) : Prop := (∃ t, TyX K H v t ∧ PySem.W.kitOne K t (.type "int") = some false) ∨ (∃ b, v = .bl b) ∨ ∃ i : Int, v = .int i ∧ i < 0
def spCount2 (K : PySem.W.Frag) : Sp := fun vs H Q _ => ∃ v, vs = [v] ∧ ((IsNo K H v ∧ Q (.bl false) H) ∨ ∃ i : Int, v = .int i ∧ 0 ≤ i ∧ Q (.bl true) H)
def spNO : Sp := fun vs H Q _ => ∃ (l : Addr) (n : Int) (xs : List V) (bs : List B), vs = [.ref l, .int n] ∧ GrIn H l n xs bs ∧ n < 2 ^ 20 ∧ ∀ p H', Same H H' → H p = none → H' p = some (.lst ((numsB bs n).map V.int)) → Q (.ref p) H'
theorem scNO : FnScope ["grouping", "hands"] ["grouping", "hands"] (defScope sPNumbersOf) := ⟨rfl, rfl, rfl, by decide +kernel, rfl, by decide +kernel, by decide +kernel⟩
def spBSt : Sp := fun vs H Q _ => ∃ (l : Addr) (n : Int) (k : Nat) (xs : List V) (bs : List B), vs = [.ref l, .int n, .int k] ∧ GrIn H l n xs bs ∧ n < 2 ^ 20 ∧ k < (numsB bs n).length ∧ ∀ H', Same H H' → Q (.int ((numsB bs n).getD k 0)) H'
theorem scBSt : FnScope ["grouping", "hands", "depth", "numbers"] ["grouping", "hands", "depth"] (defScope sPBarSteps) := ⟨rfl, rfl, rfl, by decide +kernel, rfl, by decide +kernel, by decide +kernel⟩
def spGB : Sp := fun vs H Q _ => ∃ (l : Addr) (n : Int) (xs : List V) (bs : List B), vs = [.ref l, .int n] ∧ GrIn H l n xs bs ∧ n < 2 ^ 20 ∧ ∀ H', Same H H' → Q (if 0 < (numsB bs n).length then .int (topAt (numsB bs n) : Nat) else .non) H'
theorem scGB : FnScope ["grouping", "hands", "numbers"] ["grouping", "hands"] (defScope sPGreatestBar) := ⟨rfl, rfl, rfl, by decide +kernel, rfl, by decide +kernel, by decide +kernel⟩
def spIGB (K : PySem.W.Frag) : Sp := fun vs H Q _ => ∃ (l : Addr) (n : Int) (v : V) (xs : List V) (bs : List B), vs = [.ref l, .int n, v] ∧ GrIn H l n xs bs ∧ n < 2 ^ 20 ∧
  (((∀ H', Same H H' → IsNo K H' v) ∧ ∀ H', Same H H' → Q (.bl false) H') ∨ ∃ i : Int, v = .int i ∧ 0 ≤ i ∧ ∀ H', Same H H' → Q (.bl (decide (i < (numsB bs n).length) && decide ((numsB bs n).getD i.toNat 0 = maxD (numsB bs n) 0))) H')
theorem scIGB : FnScope ["grouping", "hands", "value", "numbers"] ["grouping", "hands", "value"] (defScope sPIsGreatestBar) := ⟨rfl, rfl, rfl, by decide +kernel, rfl, by decide +kernel, by decide +kernel⟩
def spPO : Sp := fun vs H Q _ => ∃ (l : Addr) (xs : List V) (bs : List B), vs = [.ref l] ∧ H l = some (.lst xs) ∧ Lb H xs bs ∧ xs.length < 2 ^ 20 ∧ Gr (bs.length + 1) bs ∧ ∀ p H', Same H H' → H p = none → H' p = some (.lst ((profB bs).map V.int)) → Q (.ref p) H'
theorem scPO : FnScope ["grouping"] ["grouping"] (defScope sPProfileOf) := ⟨rfl, rfl, rfl, by decide +kernel, rfl, by decide +kernel, by decide +kernel⟩
theorem scPr : FnScope ["grouping"] ["grouping"] (defScope sPProfile) := ⟨rfl, rfl, rfl, by decide +kernel, rfl, by decide +kernel, by decide +kernel⟩
def spPS : Sp := fun vs H Q _ => ∃ (l : Addr) (n : Int) (bs : List B), vs = [.ref l, .int n] ∧ H l = some (.lst ((profB bs).map V.int)) ∧ bs.length < 2 ^ 20 ∧ Gr (bs.length + 1) bs ∧ 1 ≤ n ∧ n < 2 ^ 20 ∧ ∀ H', Same H H' → Q (.int (maxD (numsB bs n) 0)) H'
theorem scPS : FnScope ["numbers", "hands"] ["numbers", "hands"] (defScope sPProfileSteps) := ⟨rfl, rfl, rfl, by decide +kernel, rfl, by decide +kernel, by decide +kernel⟩
def spSO : Sp := fun vs H Q _ => ∃ (l : Addr) (n : Int) (xs : List V) (bs : List B), vs = [.ref l, .int n] ∧ GrIn H l n xs bs ∧ n < 2 ^ 20 ∧ ∀ H', Same H H' → Q (.int (maxD (numsB bs n) 0)) H'
theorem scSO : FnScope ["grouping", "hands"] ["grouping", "hands"] (defScope sPStepsOf) := ⟨rfl, rfl, rfl, by decide +kernel, rfl, by decide +kernel, by decide +kernel⟩
theorem dep_all {bs : List B} (G : Gr (bs.length + 1) bs) (bz : bs.length < 2 ^ 20) : ∀ x ∈ bs.map (dep bs), 0 ≤ x ∧ x < 2 ^ 20 := fun x hx => by
  obtain ⟨b, hb, rfl⟩ := List.mem_map.mp hx
  have := dep_range G.good hb
  omega
theorem vals_dep {bs li : List B} : isVals (dB li fun b => .int (dep bs b)) = (li.map (dep bs)).map V.int := by
  unfold isVals dB
  rw [List.map_map, List.map_map]
  rfl
theorem nums_zip {bs : List B} {n : Int} : (profB bs).zipIdx.map (fun m : Int × Nat => V.int ((m.2 : Int) + (m.1 + n - 1) / n)) = (numsB bs n).map V.int := by
  unfold profB numsB barsOf
  rw [range_zipIdx, List.map_map, List.map_map]
  rfl
section
variable {P : Program} {w : World} {K : PySem.W.Frag} {mg : Str → Option Value} {base : Heap} {f fC fD fB fN fK fS fP fA : Addr} {fd fdC fdD fdB fdN fdK fdS fdP fdA : FuncData}
theorem ok_count2 (F : FnP K dPIsCount f fd) (gIs : mg "isinstance" = none) (gI : mg "int" = none) (gB : mg "bool" = none) : FnOk P w K mg base CX0 1 f fd ["value"] (spCount2 K) := by
  refine F.ok scCount (fun vs H Q E h => ?_) (fun cdv A outer s H vs Q E hr h => ⟨_, PSs.nox (pss_one (ps_ret (pe_and
    (pe_callB call_isi rfl gIs (by decide +kernel) (pa_cons (pv 0) (pa_cons (pe_bltn (v := .ty "int") rfl gI (by decide +kernel) rfl) pa_nil)))
    (pe_and (pe_not (pe_callB call_isi rfl gIs (by decide +kernel) (pa_cons (pv 0) (pa_cons (pe_bltn (v := .ty "bool") rfl gB (by decide +kernel) rfl) pa_nil))))
    (pe_one (pe_cmpR op_ge (pv 0) pe_int (nomark _))))))), ?_⟩)
  · obtain ⟨v, rfl, _⟩ := h
    rfl
  · obtain ⟨v, rfl, (⟨(⟨t, ty, kt⟩ | ⟨b, rfl⟩ | ⟨i, rfl, hi⟩), k⟩ | ⟨i, rfl, hi, k⟩)⟩ := h
    · exact ⟨_, rfl, v, .ty "int", t, .type "int", false, rfl, .ty _, ty, kt, false, rfl, itF rfl k⟩
    · refine ⟨_, rfl, .bl b, .ty "int", .type "bool", .type "int", true, rfl, .ty _, .base (.bl b), kit_ty (by decide +kernel), true, rfl, itT rfl ?_⟩
      exact ⟨_, rfl, .bl b, .ty "bool", .type "bool", .type "bool", true, rfl, .ty _, .base (.bl b), kit_ty (by decide +kernel), true, rfl, false, rfl, itF rfl k⟩
    · refine ⟨_, rfl, .int i, .ty "int", .type "int", .type "int", true, rfl, .ty _, .base (.int i), kit_ty (by decide +kernel), true, rfl, itT rfl ?_⟩
      refine ⟨_, rfl, .int i, .ty "bool", .type "int", .type "bool", false, rfl, .ty _, .base (.int i), kit_ty (by decide +kernel), false, rfl, true, rfl, itT rfl ?_⟩
      refine ⟨_, rfl, _, _, rfl, rfl, ?_⟩
      show Q (V.bl (decide (0 ≤ i))) H
      rw [decide_eq_false (by omega)]
      exact k
    · refine ⟨_, rfl, .int i, .ty "int", .type "int", .type "int", true, rfl, .ty _, .base (.int i), kit_ty (by decide +kernel), true, rfl, itT rfl ?_⟩
      refine ⟨_, rfl, .int i, .ty "bool", .type "int", .type "bool", false, rfl, .ty _, .base (.int i), kit_ty (by decide +kernel), false, rfl, true, rfl, itT rfl ?_⟩
      refine ⟨_, rfl, _, _, rfl, rfl, ?_⟩
      show Q (V.bl (decide (0 ≤ i))) H
      rw [decide_eq_true hi]
      exact k
theorem ok_no (F : FnP K dPNumbersOf f fd) (FD : FnP K dPBlockDepths fD fdD) (GD : FnOk P w K mg base CX0 1 fD fdD ["grouping"] spBD) (gD : mg "block_depths" = some (.ref fD)) (FB : FnP K dPBarNumbers fB fdB) (GB : FnOk P w K mg base CX0 2 fB fdB ["deep", "hands"] spBN) (gB : mg "bar_numbers" = some (.ref fB)) (gLi : mg "list" = none) :
    FnOk P w K mg base CX0 3 f fd ["grouping", "hands"] spNO := by
  have bD : Binds K fdD ["grouping"] [] := FD.bindsN fun _ _ _ _ _ _ us hl => match us, hl with | [_], _ => rfl
  have bB : Binds K fdB ["deep", "hands"] [] := FB.bindsN fun _ _ _ _ _ _ us hl => match us, hl with | [_, _], _ => rfl
  refine F.ok scNO (fun vs H Q E h => ?_) (fun cdv A outer s H vs Q E hr h => ⟨_, PSs.nox (
    pss_one (ps_ret (pe_call GB hr rfl gB FB.kp bB .nil pass0 (pa_cons (pe_vals rfl (pe_call GD (hr.mono (by decide)) rfl gD FD.kp bD .nil pass0 (pa_cons (pv 0) pa_nil)) rfl gLi) (pa_cons (pv 1) pa_nil))))), ?_⟩)
  · obtain ⟨l, n, xs, bs, rfl, _⟩ := h
    rfl
  · obtain ⟨l, n, xs, bs, rfl, R, n2, k⟩ := h
    have bz : bs.length < 2 ^ 20 := by
      rw [← R.lb.len]
      exact R.lz
    refine ⟨_, rfl, l, xs, bs, rfl, R.el, R.lb, R.lz, R.gr.up.nodup, fun d H1 s1 d0 eD => ⟨d, _, rfl, eD, fun p hp => ?_⟩⟩
    have s2 := same_new (o := .lst (isVals (dB bs fun b => .int (dep bs b)))) hp
    refine ⟨_, rfl, p, bs.map (dep bs), n, rfl, ?_, dep_all R.gr bz, by rw [List.length_map]; exact bz, R.hands, n2, fun q G s3 q0 eq => ?_⟩
    · rw [upd_same, vals_dep]
    · exact k q G (s1.trans (s2.trans s3)) (s1.free (s2.free q0)) eq
end
end K36
namespace K36
open PySem PySem.Spec PyProof.Rows L2 LamX SfKey SfVal
theorem eqV_int {i j : Int} : eqV (.int i) (.int j) = decide (i = j) := by
  by_cases h : i = j
  · subst h
    simp [eqV]
  · simp [eqV, h]
theorem flat_ints (ns : List Int) : (ns.map V.int).all flatV = true := by
  rw [List.all_eq_true]
  intro x hx
  obtain ⟨i, _, rfl⟩ := List.mem_map.mp hx
  rfl
section
variable {P : Program} {w : World} {K : PySem.W.Frag} {mg : Str → Option Value} {base : Heap} {f fC fD fB fN fK fS fP fA : Addr} {fd fdC fdD fdB fdN fdK fdS fdP fdA : FuncData}
theorem ok_bst (F : FnP K dPBarSteps f fd) (FK : FnP K dPCheckRun fK fdK) (GK : FnOk P w K mg base CX0 7 fK fdK ["grouping", "hands"] spCR) (gK : mg "check_run" = some (.ref fK)) (FN : FnP K dPNumbersOf fN fdN) (GN : FnOk P w K mg base CX0 3 fN fdN ["grouping", "hands"] spNO) (gN : mg "numbers_of" = some (.ref fN))
    (FC : FnP K dPIsCount fC fdC) (GC : FnOk P w K mg base CX0 1 fC fdC ["value"] spCount) (gC : mg "is_count" = some (.ref fC)) (gLe : mg "len" = none) : FnOk P w K mg base CX0 8 f fd ["grouping", "hands", "depth"] spBSt := by
  have bK : Binds K fdK ["grouping", "hands"] [] := FK.bindsN fun _ _ _ _ _ _ us hl => match us, hl with | [_, _], _ => rfl
  have bN : Binds K fdN ["grouping", "hands"] [] := FN.bindsN fun _ _ _ _ _ _ us hl => match us, hl with | [_, _], _ => rfl
  have bC : Binds K fdC ["value"] [] := FC.bindsN fun _ _ _ _ _ _ us hl => match us, hl with | [_], _ => rfl
  refine F.ok scBSt (fun vs H Q E h => ?_) (fun cdv A outer s H vs Q E hr h => ⟨_, PSs.nox (
    pss_cons (ps_expr (pe_call GK (hr.mono (by decide)) rfl gK FK.kp bK .nil pass0 (pa_cons (pv 0) (pa_cons (pv 1) pa_nil))))
    (pss_cons (ps_set (i := 3) scBSt.nd rfl (.inl rfl) (pe_call GN (hr.mono (by decide)) rfl gN FN.kp bN .nil pass0 (pa_cons (pv 0) (pa_cons (pv 1) pa_nil))))
    (pss_cons (ps_if (PW.pt (pw_or (pt_not (pt_val (pe_call GC (hr.mono (by decide)) rfl gC FC.kp bC .nil pass0 (pa_cons (pv 2) pa_nil)))) (pw_or1 (pt_cmpR op_ge (pv 2) (pe_callB call_len_seq rfl gLe (by decide +kernel) (pa_cons (pv 3) pa_nil)) (nomark _))))) (pss_one ps_dead) pss_nil)
    (pss_one (ps_ret (pe_ix ix_list (pv 3) (pv 2) (fun _ _ => rfl))))))), ?_⟩)
  · obtain ⟨l, n, k, xs, bs, rfl, _⟩ := h
    rfl
  · obtain ⟨l, n, k, xs, bs, rfl, R, n2, hk, q⟩ := h
    refine ⟨_, rfl, _, rfl, l, n, xs, bs, rfl, R.el, R.lb, R.lz, R.gr, R.hands, fun H1 s1 => ?_⟩
    refine ⟨_, rfl, _, rfl, l, n, xs, bs, rfl, R.ext (ExtN.of s1), n2, fun p G s2 p0 ep => ?_⟩
    refine ⟨_, rfl, (k : Int), rfl, by omega, true, rfl, itF rfl ?_⟩
    refine ⟨_, rfl, _, rfl, p, _, rfl, .inl (SqL.of ep), (k : Int), _, rfl, rfl, _, rfl, ?_⟩
    refine itF (decide_eq_false (by rw [List.length_map]; omega)) ?_
    exact ⟨_, rfl, _, rfl, p, _, _, _, rfl, rfl, SqL.of ep, atI_int hk, q G (s1.trans s2)⟩
theorem ok_gb (F : FnP K dPGreatestBar f fd) (FK : FnP K dPCheckRun fK fdK) (GK : FnOk P w K mg base CX0 7 fK fdK ["grouping", "hands"] spCR) (gK : mg "check_run" = some (.ref fK)) (FN : FnP K dPNumbersOf fN fdN) (GN : FnOk P w K mg base CX0 3 fN fdN ["grouping", "hands"] spNO) (gN : mg "numbers_of" = some (.ref fN))
    (gMa : mg "max" = none) : FnOk P w K mg base CX0 8 f fd ["grouping", "hands"] spGB := by
  have bK : Binds K fdK ["grouping", "hands"] [] := FK.bindsN fun _ _ _ _ _ _ us hl => match us, hl with | [_, _], _ => rfl
  have bN : Binds K fdN ["grouping", "hands"] [] := FN.bindsN fun _ _ _ _ _ _ us hl => match us, hl with | [_, _], _ => rfl
  refine F.ok scGB (fun vs H Q E h => ?_) (fun cdv A outer s H vs Q E hr h => ⟨_, PSs.nox (
    pss_cons (ps_expr (pe_call GK (hr.mono (by decide)) rfl gK FK.kp bK .nil pass0 (pa_cons (pv 0) (pa_cons (pv 1) pa_nil))))
    (pss_cons (ps_set (i := 2) scGB.nd rfl (.inl rfl) (pe_call GN (hr.mono (by decide)) rfl gN FN.kp bN .nil pass0 (pa_cons (pv 0) (pa_cons (pv 1) pa_nil))))
    (pss_one (ps_ret (pe_ifExp (pt_truth (pv 2) (fun _ => rfl)) (pe_bm PySem.F.plainAttrs_list PySem.F.slot_list_index PySem.F.type_list_index mt_index (pv 2) (pa_cons (pe_callB (cr_max rfl) rfl gMa (by decide +kernel) (pa_cons (pv 2) pa_nil)) pa_nil)) pe_non))))), ?_⟩)
  · obtain ⟨l, n, xs, bs, rfl, _⟩ := h
    rfl
  · obtain ⟨l, n, xs, bs, rfl, R, n2, q⟩ := h
    refine ⟨_, rfl, _, rfl, l, n, xs, bs, rfl, R.el, R.lb, R.lz, R.gr, R.hands, fun H1 s1 => ?_⟩
    refine ⟨_, rfl, _, rfl, l, n, xs, bs, rfl, R.ext (ExtN.of s1), n2, fun p G s2 p0 ep => ?_⟩
    have q := q G (s1.trans s2)
    generalize numsB bs n = ns at ep q
    refine ⟨_, rfl, _, .inl ⟨_, SqL.of ep, rfl⟩, ?_⟩
    cases ns with
    | nil => exact itF rfl q
    | cons a t =>
      have pos : 0 < (a :: t).length := Nat.zero_lt_succ _
      rw [if_pos pos] at q
      refine itT rfl ⟨_, rfl, .inl ⟨rfl, _, SqL.of ep⟩, _, rfl, p, a :: t, rfl, SqL.of ep, pos, fun m hm ub => ?_⟩
      have em : m = maxD (a :: t) 0 := Int.le_antisymm (maxD_all hm) (ub _ (maxD_in pos))
      subst em
      have tl := topAt_lt pos
      refine ⟨p, (a :: t).map V.int, .int (maxD (a :: t) 0), topAt (a :: t), .int ((a :: t)[topAt (a :: t)]), rfl, rfl, SqL.of ep, rfl, flat_ints _, ?_, ?_, fun m z hm hz => ?_, q⟩
      · rw [List.getElem?_map, List.getElem?_eq_getElem tl]
        rfl
      · exact eqV_int.trans (decide_eq_true (List.getElem_idxOf tl))
      · rw [List.getElem?_map] at hz
        have hm' : m < (a :: t).length := Nat.lt_trans hm tl
        rw [List.getElem?_eq_getElem hm'] at hz
        cases hz
        have q := List.not_of_lt_findIdx (p := fun x => x == maxD (a :: t) 0) (xs := a :: t) hm
        refine eqV_int.trans (decide_eq_false fun z => ?_)
        simp [z] at q
theorem ok_igb (F : FnP K dPIsGreatestBar f fd) (FK : FnP K dPCheckRun fK fdK) (GK : FnOk P w K mg base CX0 7 fK fdK ["grouping", "hands"] spCR) (gK : mg "check_run" = some (.ref fK)) (FN : FnP K dPNumbersOf fN fdN) (GN : FnOk P w K mg base CX0 3 fN fdN ["grouping", "hands"] spNO) (gN : mg "numbers_of" = some (.ref fN))
    (FC : FnP K dPIsCount fC fdC) (GC : FnOk P w K mg base CX0 1 fC fdC ["value"] (spCount2 K)) (gC : mg "is_count" = some (.ref fC)) (gLe : mg "len" = none) (gMa : mg "max" = none) : FnOk P w K mg base CX0 8 f fd ["grouping", "hands", "value"] (spIGB K) := by
  have bK : Binds K fdK ["grouping", "hands"] [] := FK.bindsN fun _ _ _ _ _ _ us hl => match us, hl with | [_, _], _ => rfl
  have bN : Binds K fdN ["grouping", "hands"] [] := FN.bindsN fun _ _ _ _ _ _ us hl => match us, hl with | [_, _], _ => rfl
  have bC : Binds K fdC ["value"] [] := FC.bindsN fun _ _ _ _ _ _ us hl => match us, hl with | [_], _ => rfl
  refine F.ok scIGB (fun vs H Q E h => ?_) (fun cdv A outer s H vs Q E hr h => ⟨_, PSs.nox (
    pss_cons (ps_expr (pe_call GK (hr.mono (by decide)) rfl gK FK.kp bK .nil pass0 (pa_cons (pv 0) (pa_cons (pv 1) pa_nil))))
    (pss_cons (ps_set (i := 3) scIGB.nd rfl (.inl rfl) (pe_call GN (hr.mono (by decide)) rfl gN FN.kp bN .nil pass0 (pa_cons (pv 0) (pa_cons (pv 1) pa_nil))))
    (pss_one (ps_ret (pe_and (pe_call GC (hr.mono (by decide)) rfl gC FC.kp bC .nil pass0 (pa_cons (pv 2) pa_nil))
      (pe_and (pe_cmpR op_lt (pv 2) (pe_callB call_len_seq rfl gLe (by decide +kernel) (pa_cons (pv 3) pa_nil)) (nomark _))
      (pe_one (pe_cmpR op_eq (pe_ix ix_list (pv 3) (pv 2) (fun _ _ => rfl)) (pe_callB (cr_max rfl) rfl gMa (by decide +kernel) (pa_cons (pv 3) pa_nil)) (nomark _))))))))), ?_⟩)
  · obtain ⟨l, n, v, xs, bs, rfl, _⟩ := h
    rfl
  · obtain ⟨l, n, v, xs, bs, rfl, R, n2, q⟩ := h
    refine ⟨_, rfl, _, rfl, l, n, xs, bs, rfl, R.el, R.lb, R.lz, R.gr, R.hands, fun H1 s1 => ?_⟩
    refine ⟨_, rfl, _, rfl, l, n, xs, bs, rfl, R.ext (ExtN.of s1), n2, fun p G s2 p0 ep => ?_⟩
    have s12 := s1.trans s2
    rcases q with ⟨q1, q2⟩ | ⟨i, rfl, hi, q⟩
    · exact ⟨_, rfl, v, rfl, .inl ⟨q1 G s12, false, rfl, itF rfl (q2 G s12)⟩⟩
    · have q := q G s12
      generalize numsB bs n = ns at ep q
      obtain ⟨k, rfl⟩ : ∃ k : Nat, i = (k : Int) := ⟨i.toNat, (Int.toNat_of_nonneg hi).symm⟩
      refine ⟨_, rfl, .int (k : Int), rfl, .inr ⟨(k : Int), rfl, hi, true, rfl, itT rfl ?_⟩⟩
      refine ⟨_, rfl, _, rfl, p, _, rfl, .inl (SqL.of ep), (k : Int), _, rfl, rfl, _, rfl, ?_⟩
      rw [List.length_map]
      rw [Int.toNat_natCast] at q
      by_cases c : (k : Int) < (ns.length : Int)
      · have ck : k < ns.length := by omega
        have pos : 0 < ns.length := by omega
        rw [decide_eq_true c] at q
        refine itT (decide_eq_true c) ?_
        refine ⟨_, rfl, _, rfl, p, _, _, _, rfl, rfl, SqL.of ep, atI_int ck, _, rfl, p, ns, rfl, SqL.of ep, pos, fun m hm ub => ?_⟩
        have em : m = maxD ns 0 := Int.le_antisymm (maxD_all hm) (ub _ (maxD_in pos))
        subst em
        refine ⟨rfl, ?_⟩
        have ev : decide (V.int (ns.getD k 0) = V.int (maxD ns 0)) = (true && decide (ns.getD k 0 = maxD ns 0)) := by
          rw [Bool.true_and]
          by_cases z : ns.getD k 0 = maxD ns 0
          · rw [decide_eq_true z, decide_eq_true (congrArg V.int z)]
          · rw [decide_eq_false z, decide_eq_false fun y => z (V.int.inj y)]
        rw [ev]
        exact q
      · rw [decide_eq_false c] at q
        exact itF (decide_eq_false c) q
theorem ok_po (F : FnP K dPProfileOf f fd) (FD : FnP K dPBlockDepths fD fdD) (GD : FnOk P w K mg base CX0 1 fD fdD ["grouping"] spBD) (gD : mg "block_depths" = some (.ref fD)) (FB : FnP K dPDepthNumbers fB fdB) (GB : FnOk P w K mg base CX0 1 fB fdB ["deep"] spDN) (gB : mg "depth_numbers" = some (.ref fB)) (gLi : mg "list" = none) :
    FnOk P w K mg base CX0 2 f fd ["grouping"] spPO := by
  have bD : Binds K fdD ["grouping"] [] := FD.bindsN fun _ _ _ _ _ _ us hl => match us, hl with | [_], _ => rfl
  have bB : Binds K fdB ["deep"] [] := FB.bindsN fun _ _ _ _ _ _ us hl => match us, hl with | [_], _ => rfl
  refine F.ok scPO (fun vs H Q E h => ?_) (fun cdv A outer s H vs Q E hr h => ⟨_, PSs.nox (
    pss_one (ps_ret (pe_call GB hr rfl gB FB.kp bB .nil pass0 (pa_cons (pe_vals rfl (pe_call GD hr rfl gD FD.kp bD .nil pass0 (pa_cons (pv 0) pa_nil)) rfl gLi) pa_nil)))), ?_⟩)
  · obtain ⟨l, xs, bs, rfl, _⟩ := h
    rfl
  · obtain ⟨l, xs, bs, rfl, e1, lb, lz, G, k⟩ := h
    have bz : bs.length < 2 ^ 20 := by
      rw [← lb.len]
      exact lz
    refine ⟨_, rfl, l, xs, bs, rfl, e1, lb, lz, G.up.nodup, fun d H1 s1 d0 eD => ⟨d, _, rfl, eD, fun p hp => ?_⟩⟩
    have s2 := same_new (o := .lst (isVals (dB bs fun b => .int (dep bs b)))) hp
    refine ⟨p, bs.map (dep bs), rfl, ?_, dep_all G bz, by rw [List.length_map]; exact bz, fun q H3 s3 q0 eq => ?_⟩
    · rw [upd_same, vals_dep]
    · refine k q H3 (s1.trans (s2.trans s3)) (s1.free (s2.free q0)) ?_
      rw [eq]
      unfold profB
      rw [List.map_map]
      rfl
theorem ok_pr (F : FnP K dPProfile f fd) (FA : FnP K dPCheckAnyGrouping fA fdA) (GA : FnOk P w K mg base CX0 6 fA fdA ["grouping"] spCA) (gA : mg "check_any_grouping" = some (.ref fA)) (FP : FnP K dPProfileOf fP fdP) (GP : FnOk P w K mg base CX0 2 fP fdP ["grouping"] spPO) (gP : mg "profile_of" = some (.ref fP)) :
    FnOk P w K mg base CX0 7 f fd ["grouping"] spPO := by
  have bA : Binds K fdA ["grouping"] [] := FA.bindsN fun _ _ _ _ _ _ us hl => match us, hl with | [_], _ => rfl
  have bP : Binds K fdP ["grouping"] [] := FP.bindsN fun _ _ _ _ _ _ us hl => match us, hl with | [_], _ => rfl
  refine F.ok scPr (fun vs H Q E h => ?_) (fun cdv A outer s H vs Q E hr h => ⟨_, PSs.nox (
    pss_cons (ps_expr (pe_call GA hr rfl gA FA.kp bA .nil pass0 (pa_cons (pv 0) pa_nil)))
    (pss_one (ps_ret (pe_call GP (hr.mono (by decide)) rfl gP FP.kp bP .nil pass0 (pa_cons (pv 0) pa_nil))))), ?_⟩)
  · obtain ⟨l, xs, bs, rfl, _⟩ := h
    rfl
  · obtain ⟨l, xs, bs, rfl, e1, lb, lz, G, k⟩ := h
    refine ⟨_, rfl, l, xs, bs, rfl, e1, lb, lz, G, fun H1 s1 => ?_⟩
    exact ⟨_, rfl, l, xs, bs, rfl, s1 _ _ e1, lb.same s1, lz, G, fun q H3 s3 q0 eq => k q H3 (s1.trans s3) (s1.free q0) eq⟩
theorem ok_ps (F : FnP K dPProfileSteps f fd) (FS : FnP K dPStepsByNumbers fS fdS) (GS : FnOk P w K mg base CX0 1 fS fdS ["numbers", "hands"] spSB) (gS : mg "steps_by_numbers" = some (.ref fS)) (gMa : mg "max" = none) :
    FnOk P w K mg base CX0 2 f fd ["numbers", "hands"] spPS := by
  have bS : Binds K fdS ["numbers", "hands"] [] := FS.bindsN fun _ _ _ _ _ _ us hl => match us, hl with | [_, _], _ => rfl
  refine F.ok scPS (fun vs H Q E h => ?_) (fun cdv A outer s H vs Q E hr h => ⟨_, PSs.nox (
    pss_one (ps_ret (pe_callBK (cr_maxD rfl (hu8 hr)) rfl gMa (by decide +kernel) (pa_cons (pe_call GS hr rfl gS FS.kp bS .nil pass0 (pa_cons (pv 0) (pa_cons (pv 1) pa_nil))) pa_nil) (pk_cons pe_int pk_nil)))), ?_⟩)
  · obtain ⟨l, n, bs, rfl, _⟩ := h
    rfl
  · obtain ⟨l, n, bs, rfl, e1, bz, G, n1, n2, k⟩ := h
    refine ⟨_, rfl, _, rfl, l, profB bs, n, rfl, e1, fun x hx => ?_, ?_, n1, n2, fun p H1 s1 p0 ep => ?_⟩
    · unfold profB at hx
      obtain ⟨j, _, rfl⟩ := List.mem_map.mp hx
      omega
    · have m2 : maxD (bs.map (dep bs)) (-1) < 2 ^ 20 := maxD_lt (fun x hx => (dep_all G bz x hx).2) (by decide)
      rw [profB_len, sizeLine_eq]
      omega
    · rw [nums_zip] at ep
      exact ⟨p, numsB bs n, 0, rfl, rfl, SqL.of ep, k H1 s1⟩
theorem ok_so (F : FnP K dPStepsOf f fd) (FK : FnP K dPCheckRun fK fdK) (GK : FnOk P w K mg base CX0 7 fK fdK ["grouping", "hands"] spCR) (gK : mg "check_run" = some (.ref fK)) (FP : FnP K dPProfileOf fP fdP) (GP : FnOk P w K mg base CX0 2 fP fdP ["grouping"] spPO) (gP : mg "profile_of" = some (.ref fP))
    (FS : FnP K dPProfileSteps fS fdS) (GS : FnOk P w K mg base CX0 2 fS fdS ["numbers", "hands"] spPS) (gS : mg "profile_steps" = some (.ref fS)) : FnOk P w K mg base CX0 8 f fd ["grouping", "hands"] spSO := by
  have bK : Binds K fdK ["grouping", "hands"] [] := FK.bindsN fun _ _ _ _ _ _ us hl => match us, hl with | [_, _], _ => rfl
  have bP : Binds K fdP ["grouping"] [] := FP.bindsN fun _ _ _ _ _ _ us hl => match us, hl with | [_], _ => rfl
  have bS : Binds K fdS ["numbers", "hands"] [] := FS.bindsN fun _ _ _ _ _ _ us hl => match us, hl with | [_, _], _ => rfl
  refine F.ok scSO (fun vs H Q E h => ?_) (fun cdv A outer s H vs Q E hr h => ⟨_, PSs.nox (
    pss_cons (ps_expr (pe_call GK (hr.mono (by decide)) rfl gK FK.kp bK .nil pass0 (pa_cons (pv 0) (pa_cons (pv 1) pa_nil))))
    (pss_one (ps_ret (pe_call GS (hr.mono (by decide)) rfl gS FS.kp bS .nil pass0 (pa_cons (pe_call GP (hr.mono (by decide)) rfl gP FP.kp bP .nil pass0 (pa_cons (pv 0) pa_nil)) (pa_cons (pv 1) pa_nil)))))), ?_⟩)
  · obtain ⟨l, n, xs, bs, rfl, _⟩ := h
    rfl
  · obtain ⟨l, n, xs, bs, rfl, R, n2, k⟩ := h
    refine ⟨_, rfl, _, rfl, l, n, xs, bs, rfl, R.el, R.lb, R.lz, R.gr, R.hands, fun H1 s1 => ?_⟩
    have bz : bs.length < 2 ^ 20 := by
      rw [← R.lb.len]
      exact R.lz
    refine ⟨_, rfl, l, xs, bs, rfl, s1 _ _ R.el, R.lb.same s1, R.lz, R.gr, fun p G s2 p0 ep => ?_⟩
    exact ⟨_, rfl, p, n, bs, rfl, ep, bz, R.gr, R.hands, n2, fun G3 s3 => k G3 (s1.trans (s2.trans s3))⟩
end
end K36
/-! The law's own: profile, numbers. -/
namespace K36
open PySem PySem.Spec PyProof.Rows L2 LamX SfKey SfVal
def spLPr : Sp := fun vs H Q _ => ∃ (l : Addr) (bs : List B), vs = [.ref l] ∧ ListAt H l bs ∧ Gr (bs.length + 1) bs ∧ ∀ p H', Same H H' → H p = none → H' p = some (.lst ((profB bs).map V.int)) → Q (.ref p) H'
abbrev nLPr : List Str := ["_law_grouping", "_law_deep", "_law_at", "_law_depth"]
theorem scLPr : FnScope nLPr ["_law_grouping"] (defScope sProfile) := ⟨rfl, rfl, rfl, by decide +kernel, rfl, by decide +kernel, by decide +kernel⟩
def lprScope : Scope := match (defBody sProfile).getD 1 (.Pass ⟨0, 0, 0, 0⟩) with
  | .Return (some (.ListComp _ _ s _)) _ => s
  | _ => defScope sProfile
def spLNu : Sp := fun vs H Q _ => ∃ (l : Addr) (n : Int) (bs : List B), vs = [.ref l, .int n] ∧ ListAt H l bs ∧ Gr (bs.length + 1) bs ∧ 0 < bs.length ∧ 1 ≤ n ∧ n < 2 ^ 20 ∧ ∀ p H', Same H H' → H p = none → H' p = some (.lst ((numsB bs n).map V.int)) → Q (.ref p) H'
abbrev nLNu : List Str := ["_law_grouping", "_law_hands", "_law_deep", "_law_found", "_law_at", "_law_many", "_law_depth"]
theorem scLNu : FnScope nLNu ["_law_grouping", "_law_hands"] (defScope sNumbers) := ⟨rfl, rfl, rfl, by decide +kernel, rfl, by decide +kernel, by decide +kernel⟩
/-- the list of those that are no less: what a comprehension makes -/
theorem ge_step {ds : List Int} {c : Int} {j : Nat} {x : Int} (hk : ds[j]? = some x) : (ds.take (j + 1)).filter (fun x => decide (c ≤ x)) = (ds.take j).filter (fun x => decide (c ≤ x)) ++ (if decide (c ≤ x) then [x] else []) := by
  rw [List.take_add_one, hk, List.filter_append]
  congr 1
  show List.filter _ [x] = _
  rw [List.filter_cons]
  split <;> rfl
theorem max_neg {ds : List Int} (pos : ∀ x ∈ ds, 0 ≤ x) {m : Int} (hm : m ∈ ds ++ [-1]) (ub : ∀ y ∈ ds ++ [-1], y ≤ m) : m = maxD ds (-1) := by
  have m1 : -1 ≤ maxD ds (-1) := maxD_ge (by decide) fun x hx => by have := pos x hx; omega
  refine Int.le_antisymm ?_ ?_
  · rcases List.mem_append.mp hm with h | h
    · exact maxD_all h
    · rw [List.mem_singleton.mp h]
      exact m1
  · rcases maxD_mem (ds := ds) (d := -1) with ⟨_, q⟩ | q
    · rw [q]
      exact ub _ (List.mem_append.mpr (.inr (List.mem_singleton.mpr rfl)))
    · exact ub _ (List.mem_append.mpr (.inl q))
section
variable {P : Program} {w : World} {K : PySem.W.Frag} {mg : Str → Option Value} {base : Heap} {f fD : Addr} {fd fdD : FuncData}
theorem ok_lpr (F : FnP K dProfile f fd) (FD : FnP K dBlockdepths fD fdD) (GD : FnOk P w K mg base CX0 1 fD fdD ["_law_grouping"] spBD) (gD : mg "_law_block_depths" = some (.ref fD)) (gLe : mg "len" = none) (gMa : mg "max" = none) (gRa : mg "range" = none) (gLi : mg "list" = none) : FnOk P w K mg base CX0 2 f fd ["_law_grouping"] spLPr := by
  have bD : Binds K fdD ["_law_grouping"] [] := FD.bindsN fun _ _ _ _ _ _ us hl => match us, hl with | [_], _ => rfl
  refine F.ok scLPr (fun vs H Q E h => ?_) (fun cdv A outer s H vs Q E hr h => ⟨_, PSs.nox (
    pss_cons (ps_set (i := 1) scLPr.nd rfl (.inr rfl) (pe_vals rfl (pe_call GD hr rfl gD FD.kp bD .nil pass0 (pa_cons (pv 0) pa_nil)) rfl gLi))
    (pss_one (ps_ret (pe_lc (own := [("_law_at", 2)]) (g := gName 2) (tt := tYes) (te := tCB (fun xs H Q => ∃ p ys, xs = [V.ref p] ∧ (SqL K H p ys ∨ SqT K H p ys) ∧ Q (V.int ys.length) H) (tCons (tLc (iList K (tVar 1)) (gName 3) (tTest (tOp (rI0 fun i j => V.bl (decide (j ≤ i))) (tVar 3) (tVar 2))) (tVar 3) [3]) tNil)) rfl scLPr.nd (pi_range1 rfl gRa (pa_cons (pe_op op_add (pe_callB (cr_max rfl) rfl gMa (by decide +kernel) (pa_cons (pe_op op_cat (pv 1) (pe_lst (pa_cons (pe_un un_neg pe_int) pa_nil))) pa_nil)) pe_int) pa_nil)) (blkOk_by (N := nLPr) (sc := defScope sProfile) (by decide +kernel))
      (fun _ _ _ _ _ => pg_name (i := 2) scLPr.nd rfl (.inr rfl)) (fun _ _ _ _ _ => pts_nil)
      (fun _ _ _ _ _ => pe_callB call_len_seq rfl gLe (by decide +kernel) (pa_cons (pe_lc (own := [("_law_depth", 3)]) (g := gName 3) rfl scLPr.nd (pi_list (pv 1)) (blkOk_by (N := nLPr) (sc := relS lprScope (defScope sProfile)) (by decide +kernel))
          (fun _ _ _ _ _ => pg_name (i := 3) scLPr.nd rfl (.inl rfl)) (fun _ _ _ _ _ => pts_one (pt_cmpR op_ge (pv 3) (pv 2) (nomark _))) (fun _ _ _ _ _ => pv 3)) pa_nil)))))), ?_⟩)
  · obtain ⟨l, bs, rfl, _⟩ := h
    rfl
  · obtain ⟨l, bs, rfl, LA, G, k⟩ := h
    have bz := LA.len
    obtain ⟨xs, e1, lb, lz⟩ := id LA
    refine ⟨_, rfl, l, xs, bs, rfl, e1, lb, lz, G.up.nodup, fun d H1 s1 d0 eD => ⟨d, _, rfl, eD, fun p hp => ?_⟩⟩
    have s2 := same_new (o := .lst (isVals (dB bs fun b => .int (dep bs b)))) hp
    have ep : (upd H1 p (.lst (isVals (dB bs fun b => .int (dep bs b))))) p = some (.lst ((bs.map (dep bs)).map V.int)) := by rw [upd_same, vals_dep]
    have s12 := s1.trans s2
    generalize (upd H1 p (.lst (isVals (dB bs fun b => .int (dep bs b))))) = H2 at s2 ep s12
    have da := dep_all G bz
    have dl : (bs.map (dep bs)).length = bs.length := List.length_map ..
    have k : ∀ q H', Same H H' → H q = none → H' q = some (.lst ((List.range (maxD (bs.map (dep bs)) (-1) + 1).toNat).map fun k : Nat => V.int (cntGe (bs.map (dep bs)) (k : Int)))) → Q (.ref q) H' := fun q H' a b c => k q H' a b (by
      rw [c]
      unfold profB
      rw [List.map_map]
      rfl)
    generalize bs.map (dep bs) = ds at ep da dl k
    have m1 : -1 ≤ maxD ds (-1) := maxD_ge (by decide) fun x hx => by have := (da x hx).1; omega
    have m2 : maxD ds (-1) < 2 ^ 20 := maxD_lt (fun x hx => (da x hx).2) (by decide)
    have one : 1 ≤ sizeLine := by
      rw [sizeLine_eq]
      decide
    refine ⟨_, rfl, 1, rfl, one, fun q hq => ?_⟩
    have s3 := same_new (o := .lst [.int (-1)]) hq
    refine ⟨p, q, _, _, rfl, rfl, s3 _ _ ep, upd_same, ?_, fun r hr0 => ?_⟩
    · rw [List.length_map, sizeLine_eq]
      show _ + 1 ≤ _
      omega
    have s4 := s3.trans (same_new (o := .lst ((ds.map V.int) ++ [.int (-1)])) hr0)
    have er : (upd (upd H2 q (.lst [.int (-1)])) r (.lst ((ds.map V.int) ++ [.int (-1)]))) r = some (.lst ((ds ++ [-1]).map V.int)) := by
      rw [upd_same, List.map_append]
      rfl
    refine ⟨r, ds ++ [-1], rfl, SqL.of er, by simp, fun m hm ub => ?_⟩
    have em := max_neg (fun x hx => (da x hx).1) hm ub
    subst em
    refine ⟨maxD ds (-1), 1, rfl, rfl, maxD ds (-1) + 1, rfl, by omega, by omega, fun D hD => ?_⟩
    generalize (upd (upd H2 q (.lst [.int (-1)])) r (.lst ((ds.map V.int) ++ [.int (-1)]))) = G3 at s4 hD ⊢
    have ep := s4 _ _ ep
    refine lc_it (walk_range (lo := 0) (n := (maxD ds (-1) + 1).toNat)) (fun i G => Same G3 G ∧ G D = some (.lst ((List.range i).map fun k : Nat => V.int (cntGe ds (k : Int))))) ⟨same_new hD, upd_same⟩ (fun _ _ _ _ => True.intro) ?_ ?_
    · rintro i x G G0 hi ⟨sm, eD⟩ ⟨eq, hx⟩
      subst eq hx
      refine ⟨rfl, _, rfl, p, rfl, ⟨_, SqL.of (sm _ _ ep)⟩, fun L hL => ?_⟩
      refine lc_it (walk_list (xs := ds.map V.int)) (fun j G' => Same G0 G' ∧ G' L = some (.lst (((ds.take j).filter fun x => decide ((0 + (i : Int)) ≤ x)).map V.int))) ⟨same_new hL, by rw [upd_same]; rfl⟩ (fun j G' _ q => SqL.of (q.1 _ _ (sm _ _ ep))) ?_ ?_
      · rintro j y G1 G2 hj ⟨s3, eL⟩ ⟨eq, hy⟩
        subst eq
        rw [List.getElem?_map] at hy
        cases hk : ds[j]? with
        | none =>
          rw [hk] at hy
          cases hy
        | some x =>
          rw [hk] at hy
          cases hy
          have step := ge_step (c := 0 + (i : Int)) hk
          refine ⟨rfl, _, rfl, _, rfl, x, 0 + (i : Int), rfl, rfl, _, rfl, ?_⟩
          by_cases c : (0 + (i : Int)) ≤ x
          · rw [decide_eq_true c] at step
            refine itT (decide_eq_true c) ⟨_, rfl, _, eL, ?_, fun a o e => ?_, ?_⟩
            · have a1 := List.length_filter_le (fun x : Int => decide ((0 + (i : Int)) ≤ x)) (ds.take j)
              rw [List.length_take] at a1
              rw [List.length_map, sizeLine_eq]
              omega
            · rw [upd_ne (ne_of_none e hL)]
              exact s3 _ _ e
            · rw [upd_same, step, List.map_append]
              rfl
          · rw [decide_eq_false c] at step
            refine itF (decide_eq_false c) ⟨s3, ?_⟩
            rw [step]
            simpa using eL
      · rintro G1 ⟨s3, eL⟩
        rw [List.length_map, List.take_length] at eL
        have eD1 := s3 _ _ eD
        refine ⟨L, _, rfl, .inl (SqL.of eL), _, eD1, ?_, fun a o e => ?_, ?_⟩
        · rw [List.length_map, List.length_range, sizeLine_eq]
          omega
        · rw [upd_ne (ne_of_none e hD)]
          exact s3 _ _ (sm _ _ e)
        · rw [upd_same, List.range_succ, List.map_append]
          have q : (0 + (i : Int)) = (i : Int) := Int.zero_add _
          rw [List.length_map, q]
          rfl
    · rintro G ⟨sm, eD⟩
      exact k D G (s12.trans (s4.trans sm)) ((s12.trans s4).free hD) eD
theorem ok_lnu (F : FnP K dNumbers f fd) (FD : FnP K dBlockdepths fD fdD) (GD : FnOk P w K mg base CX0 1 fD fdD ["_law_grouping"] spBD) (gD : mg "_law_block_depths" = some (.ref fD)) (gLe : mg "len" = none) (gMa : mg "max" = none) (gRa : mg "range" = none) (gLi : mg "list" = none) : FnOk P w K mg base CX0 2 f fd ["_law_grouping", "_law_hands"] spLNu := by
  have bD : Binds K fdD ["_law_grouping"] [] := FD.bindsN fun _ _ _ _ _ _ us hl => match us, hl with | [_], _ => rfl
  refine F.ok scLNu (fun vs H Q E h => ?_) (fun cdv A outer s H vs Q E hr h => ⟨_, PSs.nox (
    pss_cons (ps_set (i := 2) scLNu.nd rfl (.inl rfl) (pe_vals rfl (pe_call GD hr rfl gD FD.kp bD .nil pass0 (pa_cons (pv 0) pa_nil)) rfl gLi))
    (pss_cons (ps_set (i := 3) scLNu.nd rfl (.inl rfl) (pe_lst pa_nil))
    (pss_cons (ps_for PassesOwn.never rfl (pi_range1 rfl gRa (pa_cons (pe_op op_add (pe_callB (cr_max rfl) rfl gMa (by decide +kernel) (pa_cons (pv 2) pa_nil)) pe_int) pa_nil)) (pg_name (i := 4) scLNu.nd rfl (.inr rfl))
      (pss_cons (ps_set (i := 5) scLNu.nd rfl (.inl rfl) (pe_callB call_len_seq rfl gLe (by decide +kernel) (pa_cons (pe_lc (own := [("_law_depth", 6)]) (g := gName 6) (te := tVar 6) rfl scLNu.nd (pi_list (pv 2)) (blkOk_by (N := nLNu) (sc := defScope sNumbers) (by decide +kernel))
          (fun _ _ _ _ _ => pg_name (i := 6) scLNu.nd rfl (.inl rfl)) (fun _ _ _ _ _ => pts_one (pt_cmpR op_ge (pv 6) (pv 4) (nomark _))) (fun _ _ _ _ _ => pv 6)) pa_nil)))
      (pss_one (ps_expr (pe_bm PySem.F.plainAttrs_list PySem.F.slot_list_append PySem.F.type_list_append mt_append (pv 3) (pa_cons (pe_op op_add (pv 4) (pe_op op_fdiv (pe_op op_sub (pe_op op_add (pv 5) (pv 1)) pe_int) (pv 1))) pa_nil))))))
    (pss_one (ps_ret (pv 3)))))), ?_⟩)
  · obtain ⟨l, n, bs, rfl, _⟩ := h
    rfl
  · obtain ⟨l, n, bs, rfl, LA, G, b0, n1, n2, k⟩ := h
    have bz := LA.len
    obtain ⟨xs, e1, lb, lz⟩ := id LA
    refine ⟨_, rfl, l, xs, bs, rfl, e1, lb, lz, G.up.nodup, fun d H1 s1 d0 eD => ⟨d, _, rfl, eD, fun p hp => ?_⟩⟩
    have s2 := same_new (o := .lst (isVals (dB bs fun b => .int (dep bs b)))) hp
    have ep : (upd H1 p (.lst (isVals (dB bs fun b => .int (dep bs b))))) p = some (.lst ((bs.map (dep bs)).map V.int)) := by rw [upd_same, vals_dep]
    have s12 := s1.trans s2
    generalize (upd H1 p (.lst (isVals (dB bs fun b => .int (dep bs b))))) = H2 at s2 ep s12 ⊢
    have da := dep_all G bz
    have dl : (bs.map (dep bs)).length = bs.length := List.length_map ..
    have k : ∀ q H', Same H H' → H q = none → H' q = some (.lst ((barsOf (bs.map (dep bs)) n).map V.int)) → Q (.ref q) H' := k
    generalize bs.map (dep bs) = ds at ep da dl k
    have m1 : -1 ≤ maxD ds (-1) := maxD_ge (by decide) fun x hx => by have := (da x hx).1; omega
    have m2 : maxD ds (-1) < 2 ^ 20 := maxD_lt (fun x hx => (da x hx).2) (by decide)
    refine ⟨by rw [sizeLine_eq]; exact Nat.zero_le _, fun nu hnu => ?_⟩
    have s3 : Same H2 (upd H2 nu (.lst [])) := same_new hnu
    refine ⟨_, rfl, p, ds, rfl, SqL.of (s3 _ _ ep), by omega, fun m hm ub => ?_⟩
    have em : m = maxD ds (-1) := Int.le_antisymm (maxD_all hm) (ub _ (maxD_in (by omega)))
    subst em
    refine ⟨maxD ds (-1), 1, rfl, rfl, maxD ds (-1) + 1, rfl, by omega, by omega, ?_⟩
    refine for_range (lo := 0) (n := (maxD ds (-1) + 1).toNat) (fun i σ G => (∃ u3 u4, σ = [some (.ref l), some (.int n), some (.ref p), some (.ref nu), u3, u4, none]) ∧ Same H2 G ∧ G nu = some (.lst (((List.range i).map fun k : Nat => barAt ds n (k : Int)).map V.int))) ⟨⟨_, _, rfl⟩, s3, upd_same⟩ ?_ ?_
    · rintro i σ G0 hi ⟨⟨u3, u4, rfl⟩, sm, eN⟩
      refine ⟨_, rfl, p, rfl, ⟨_, SqL.of (sm _ _ ep)⟩, fun L hL => ?_⟩
      refine lc_it (walk_list (xs := ds.map V.int)) (fun j G' => Same G0 G' ∧ G' L = some (.lst (((ds.take j).filter fun x => decide ((0 + (i : Int)) ≤ x)).map V.int))) ⟨same_new hL, by rw [upd_same]; rfl⟩ (fun j G' _ q => SqL.of (q.1 _ _ (sm _ _ ep))) ?_ ?_
      · rintro j y G1 G2 hj ⟨s3, eL⟩ ⟨eq, hy⟩
        subst eq
        rw [List.getElem?_map] at hy
        cases hk : ds[j]? with
        | none =>
          rw [hk] at hy
          cases hy
        | some x =>
          rw [hk] at hy
          cases hy
          have step := ge_step (c := 0 + (i : Int)) hk
          refine ⟨rfl, _, rfl, _, rfl, x, 0 + (i : Int), rfl, rfl, _, rfl, ?_⟩
          by_cases c : (0 + (i : Int)) ≤ x
          · rw [decide_eq_true c] at step
            refine itT (decide_eq_true c) ⟨_, rfl, _, eL, ?_, fun a o e => ?_, ?_⟩
            · have a1 := List.length_filter_le (fun x : Int => decide ((0 + (i : Int)) ≤ x)) (ds.take j)
              rw [List.length_take] at a1
              rw [List.length_map, sizeLine_eq]
              omega
            · rw [upd_ne (ne_of_none e hL)]
              exact s3 _ _ e
            · rw [upd_same, step, List.map_append]
              rfl
          · rw [decide_eq_false c] at step
            refine itF (decide_eq_false c) ⟨s3, ?_⟩
            rw [step]
            simpa using eL
      · rintro G1 ⟨s3, eL⟩
        rw [List.length_map, List.take_length] at eL
        have eN1 := s3 _ _ eN
        refine ⟨L, _, rfl, .inl (SqL.of eL), ?_⟩
        refine ⟨_, rfl, .inl ⟨rfl, _, SqL.of eN1⟩, _, rfl, _, rfl, _, rfl, _, _, rfl, rfl, _, _, rfl, rfl, _, rfl, _, _, rfl, rfl, ⟨by omega, by omega⟩, _, _, rfl, rfl, nu, _, _, rfl, rfl, eN1, ?_, ⟨_, _, rfl⟩, fun a o e => ?_, ?_⟩
        · rw [List.length_map, List.length_map, List.length_range, sizeLine_eq]
          omega
        · rw [upd_ne (ne_of_none e hnu)]
          exact s3 _ _ (sm _ _ e)
        · rw [upd_same, List.range_succ, List.map_append, List.map_append]
          have q : (0 + (i : Int)) = (i : Int) := Int.zero_add _
          rw [List.length_map, q]
          rfl
    · rintro σ G ⟨⟨u3, u4, rfl⟩, sm, eN⟩
      exact ⟨_, rfl, k nu G (s12.trans sm) (s12.free hnu) eN⟩
end
end K36
/-! The law's own: right, read. -/
namespace K36
open PySem PySem.Spec PyProof.Rows L2 LamX SfKey SfVal
theorem law_top {bs L : List B} {h : Int} (T : Tree bs) (hh : 1 ≤ h) (sub : ∀ b ∈ L, b ∈ bs) : lawBar bs h L = barTop bs h L :=
  (lawBar_is hh fun b hb => (dep_range T.gr.good (sub b hb)).2).uniq (barTop_is hh fun b hb => (dep_range T.gr.good (sub b hb)).1)
theorem range_getD (N : List Int) : (List.range N.length).map (fun j => N.getD j 0) = N := by
  refine List.ext_getElem (by simp) fun i h1 h2 => ?_
  simp [List.getD_eq_getElem?_getD, h2]
/-- the objects that are no greatest bars -/
def vals13 (N t : Nat) (la ta dd l : Addr) : List V := [.non, .bl true, .bl false, .int (-1), .int (N : Int), .str ("0" : Str), .ref la, .ref ta, .ref dd, .int (10 ^ 20), .int (-((t : Int) + 1)), .ref l, .str (Str.ofString (toString (t : Int)))]
theorem all13 {K : PySem.W.Frag} {G : Hp} {N t : Nat} {la ta dd l : Addr} {x1 x2 x4 : List V} {x3 : List (Key × V)} (e1 : G la = some (.lst x1)) (e2 : G ta = some (.tup x2)) (e3 : G dd = some (.dK x3)) (e4 : G l = some (.lst x4)) (nz : N ≤ 2 ^ 20) :
    ∀ v ∈ vals13 N t la ta dd l, (∀ H', Same G H' → IsNo K H' v) ∨ ∃ i : Int, v = .int i ∧ 0 ≤ i ∧ (N : Int) ≤ i := by
  intro v hv
  unfold vals13 at hv
  simp only [List.mem_cons, List.not_mem_nil, or_false] at hv
  rcases hv with rfl | rfl | rfl | rfl | rfl | rfl | rfl | rfl | rfl | rfl | rfl | rfl | rfl
  · exact .inl fun H' s => .inl ⟨.type "NoneType", .base .non, kit_ty (by decide +kernel)⟩
  · exact .inl fun H' s => .inr (.inl ⟨_, rfl⟩)
  · exact .inl fun H' s => .inr (.inl ⟨_, rfl⟩)
  · exact .inl fun H' s => .inr (.inr ⟨_, rfl, by decide⟩)
  · exact .inr ⟨_, rfl, by omega, Int.le_refl _⟩
  · exact .inl fun H' s => .inl ⟨.type "str", .base (.str _), kit_ty (by decide +kernel)⟩
  · exact .inl fun H' s => .inl ⟨.type "list", .base (.lst (s _ _ e1)), kit_ty (by decide +kernel)⟩
  · exact .inl fun H' s => .inl ⟨.type "tuple", .base (.tup (s _ _ e2)), kit_ty (by decide +kernel)⟩
  · exact .inl fun H' s => .inl ⟨.type "dict", .base (.dK (s _ _ e3)), kit_ty (by decide +kernel)⟩
  · exact .inr ⟨_, rfl, by decide, by have : (10 : Int) ^ 20 = 100000000000000000000 := by decide
                                      omega⟩
  · exact .inl fun H' s => .inr (.inr ⟨_, rfl, by omega⟩)
  · exact .inl fun H' s => .inl ⟨.type "list", .base (.lst (s _ _ e4)), kit_ty (by decide +kernel)⟩
  · exact .inl fun H' s => .inl ⟨.type "str", .base (.str _), kit_ty (by decide +kernel)⟩
def spRt (Pt : Addr) : Sp := fun vs H Q _ => ∃ (l : Addr) (n : Int) (bs : List B), vs = [.ref l, .int n] ∧ ListAt H l bs ∧ Tree bs ∧ 0 < bs.length ∧ bs.length ≤ 11 ∧ 1 ≤ n ∧ n < 2 ^ 20 ∧ Tabs (TbL Pt) H ∧
  ∀ G, ExtN H G → Tabs (TbL Pt) G → Q (.bl true) G
abbrev nRt : List Str := ["_law_grouping", "_law_hands", "_law_numbers_here", "_law_handed", "_law_told", "_law_bar_here", "_law_value", "_law_at"]
theorem scRt : FnScope nRt ["_law_grouping", "_law_hands"] (defScope sRight) := ⟨rfl, rfl, rfl, by decide +kernel, rfl, by decide +kernel, by decide +kernel⟩
section
variable {P : Program} {w : World} {K : PySem.W.Frag} {mg : Str → Option Value} {base : Heap} {f fNu fBs fGB fIG fSc fRu fSO fLB fEx fPr fLP Pt : Addr} {fd fdNu fdBs fdGB fdIG fdSc fdRu fdSO fdLB fdEx fdPr fdLP : FuncData}
theorem ok_rt (F : FnP K dRight f fd)
    (F1 : FnP K dNumbers fNu fdNu) (G1 : FnOk P w K mg base CX0 2 fNu fdNu ["_law_grouping", "_law_hands"] spLNu) (g1 : mg "_law_numbers" = some (.ref fNu))
    (F2 : FnP K dPBarSteps fBs fdBs) (G2 : FnOk P w K mg base CX0 8 fBs fdBs ["grouping", "hands", "depth"] spBSt) (g2 : mg "bar_steps" = some (.ref fBs))
    (F3 : FnP K dPGreatestBar fGB fdGB) (G3 : FnOk P w K mg base CX0 8 fGB fdGB ["grouping", "hands"] spGB) (g3 : mg "greatest_bar" = some (.ref fGB))
    (F4 : FnP K dPIsGreatestBar fIG fdIG) (G4 : FnOk P w K mg base CX0 8 fIG fdIG ["grouping", "hands", "value"] (spIGB K)) (g4 : mg "is_greatest_bar" = some (.ref fIG))
    (F5 : FnP K dPSchedule fSc fdSc) (G5 : FnOk P w K mg base CX0 8 fSc fdSc ["grouping", "hands"] (spSch Pt)) (g5 : mg "schedule" = some (.ref fSc))
    (F6 : FnP K dPRun fRu fdRu) (G6 : FnOk P w K mg base CX0 9 fRu fdRu ["grouping", "hands", "losses"] (spRun Pt)) (g6 : mg "run" = some (.ref fRu))
    (F7 : FnP K dPStepsOf fSO fdSO) (G7 : FnOk P w K mg base CX0 8 fSO fdSO ["grouping", "hands"] spSO) (g7 : mg "steps_of" = some (.ref fSO))
    (F8 : FnP K dBar fLB fdLB) (G8 : FnOk P w K mg base CX0 2 fLB fdLB ["_law_grouping", "_law_left", "_law_hands"] spLBar) (g8 : mg "_law_bar" = some (.ref fLB))
    (F9 : FnP K dExact fEx fdEx) (G9 : FnOk P w K mg base CX0 7 fEx fdEx ["_law_mine", "_law_theirs"] (spEx 7)) (g9 : mg "_law_exact" = some (.ref fEx))
    (Fa : FnP K dPProfile fPr fdPr) (Ga : FnOk P w K mg base CX0 7 fPr fdPr ["grouping"] spPO) (ga : mg "profile" = some (.ref fPr))
    (Fb : FnP K dProfile fLP fdLP) (Gb : FnOk P w K mg base CX0 2 fLP fdLP ["_law_grouping"] spLPr) (gb : mg "_law_profile" = some (.ref fLP))
    (gLe : mg "len" = none) (gRa : mg "range" = none) (gLi : mg "list" = none) (gMa : mg "max" = none) (gIn : mg "int" = none) (gBo : mg "bool" = none) (gIs : mg "isinstance" = none) (gSt : mg "str" = none) :
    FnOk P w K mg base CX0 10 f fd ["_law_grouping", "_law_hands"] (spRt Pt) := by
  have b1 : Binds K fdNu ["_law_grouping", "_law_hands"] [] := F1.bindsN fun _ _ _ _ _ _ us hl => match us, hl with | [_, _], _ => rfl
  have b2 : Binds K fdBs ["grouping", "hands", "depth"] [] := F2.bindsN fun _ _ _ _ _ _ us hl => match us, hl with | [_, _, _], _ => rfl
  have b3 : Binds K fdGB ["grouping", "hands"] [] := F3.bindsN fun _ _ _ _ _ _ us hl => match us, hl with | [_, _], _ => rfl
  have b4 : Binds K fdIG ["grouping", "hands", "value"] [] := F4.bindsN fun _ _ _ _ _ _ us hl => match us, hl with | [_, _, _], _ => rfl
  have b5 : Binds K fdSc ["grouping", "hands"] [] := F5.bindsN fun _ _ _ _ _ _ us hl => match us, hl with | [_, _], _ => rfl
  have b6 : Binds K fdRu ["grouping", "hands", "losses"] [] := F6.bindsN fun _ _ _ _ _ _ us hl => match us, hl with | [_, _, _], _ => rfl
  have b7 : Binds K fdSO ["grouping", "hands"] [] := F7.bindsN fun _ _ _ _ _ _ us hl => match us, hl with | [_, _], _ => rfl
  have b8 : Binds K fdLB ["_law_grouping", "_law_left", "_law_hands"] [] := F8.bindsN fun _ _ _ _ _ _ us hl => match us, hl with | [_, _, _], _ => rfl
  have b9 : Binds K fdEx ["_law_mine", "_law_theirs"] [] := F9.bindsN fun _ _ _ _ _ _ us hl => match us, hl with | [_, _], _ => rfl
  have ba : Binds K fdPr ["grouping"] [] := Fa.bindsN fun _ _ _ _ _ _ us hl => match us, hl with | [_], _ => rfl
  have bb : Binds K fdLP ["_law_grouping"] [] := Fb.bindsN fun _ _ _ _ _ _ us hl => match us, hl with | [_], _ => rfl
  refine F.ok scRt (fun vs H Q E h => ?_) (fun cdv A outer s H vs Q E hr h => ⟨_, PSs.nox (
    pss_cons (ps_asg (pe_tup (pa_cons (pe_call G1 (hr.mono (by decide)) rfl g1 F1.kp b1 .nil pass0 (pa_cons (pv 0) (pa_cons (pv 1) pa_nil))) (pa_cons (pe_callTy call_list_of rfl gLi (by decide +kernel) (pa_cons (pv 0) pa_nil)) pa_nil)))
        (pg_tup rfl (pgs_cons (pg_name (i := 2) scRt.nd rfl (.inl rfl)) (pgs_cons (pg_name (i := 3) scRt.nd rfl (.inr rfl)) pgs_nil))))
    (pss_cons (ps_setLc (i := 4) (own := [("_law_at", 7)]) (g := gName 7) (tt := tYes) (te := tCall spBSt [] E0 (tCons (tVar 3) (tCons (tVar 1) (tCons (tVar 7) tNil)))) rfl scRt.nd rfl rfl (sw_true rfl rfl rfl (by decide +kernel)) (pi_range1 rfl gRa (pa_cons (pe_callB call_len_seq rfl gLe (by decide +kernel) (pa_cons (pv 2) pa_nil)) pa_nil)) (blkOk_by (N := nRt) (sc := defScope sRight) (by decide +kernel))
          (fun _ _ _ _ _ => pg_name (i := 7) scRt.nd rfl (.inl rfl)) (fun _ _ _ _ _ => pts_nil) (fun _ _ _ _ _ => pe_call G2 (hr.mono (by decide)) rfl g2 F2.kp b2 .nil pass0 (pa_cons (pv 3) (pa_cons (pv 1) (pa_cons (pv 7) pa_nil)))))
    (pss_cons (ps_if (pt_not (pt_val (pe_call G9 (hr.mono (by decide)) rfl g9 F9.kp b9 .nil pass0 (pa_cons (pe_lst (pa_cons (pv 4) (pa_cons (pv 3) pa_nil))) (pa_cons (pe_lst (pa_cons (pv 2) (pa_cons (pv 0) pa_nil))) pa_nil))))) (pss_one (ps_ret pe_bl)) pss_nil)
    (pss_cons (ps_set (i := 5) scRt.nd rfl (.inl rfl) (pe_call G3 (hr.mono (by decide)) rfl g3 F3.kp b3 .nil pass0 (pa_cons (pv 3) (pa_cons (pv 1) pa_nil))))
    (pss_cons (ps_if (PW.pt (pw_or (pt_not (pt_val (pe_callB call_isi rfl gIs (by decide +kernel) (pa_cons (pv 5) (pa_cons (pe_bltn (v := .ty "int") rfl gIn (by decide +kernel) rfl) pa_nil)))))
          (pw_or (pt_val (pe_callB call_isi rfl gIs (by decide +kernel) (pa_cons (pv 5) (pa_cons (pe_bltn (v := .ty "bool") rfl gBo (by decide +kernel) rfl) pa_nil))))
          (pw_or (pt_not (pt_chain op_le op_lt pe_int (pv 5) (pe_callB call_len_seq rfl gLe (by decide +kernel) (pa_cons (pv 2) pa_nil))))
          (pw_or1 (pt_cmpR op_ne (pe_ix ix_list (pv 2) (pv 5) (fun _ _ => rfl)) (pe_callB (cr_max rfl) rfl gMa (by decide +kernel) (pa_cons (pv 2) pa_nil)) (nomark _))))))) (pss_one (ps_ret pe_bl)) pss_nil)
    (pss_cons (ps_for PassesOwn.never rfl (pi_list (pe_listRg rfl rfl gLi (prg_1 rfl gRa (pe_callB call_len_seq rfl gLe (by decide +kernel) (pa_cons (pv 2) pa_nil))))) (pg_name (i := 6) scRt.nd rfl (.inl rfl))
      (pss_one (ps_if (pt_not (pt_val (pe_call G9 (hr.mono (by decide)) rfl g9 F9.kp b9 .nil pass0 (pa_cons (pe_call G4 (hr.mono (by decide)) rfl g4 F4.kp b4 .nil pass0 (pa_cons (pv 3) (pa_cons (pv 1) (pa_cons (pv 6) pa_nil))))
          (pa_cons (pe_cmpR op_eq (pe_ix ix_list (pv 2) (pv 6) (fun _ _ => rfl)) (pe_callB (cr_max rfl) rfl gMa (by decide +kernel) (pa_cons (pv 2) pa_nil)) (nomark _)) pa_nil))))) (pss_one (ps_ret pe_bl)) pss_nil)))
    (pss_cons (ps_for PassesOwn.never rfl (pi_list (pe_lst (pa_cons pe_non (pa_cons pe_bl (pa_cons pe_bl (pa_cons (pe_un un_neg pe_int) (pa_cons (pe_callB call_len_seq rfl gLe (by decide +kernel) (pa_cons (pv 2) pa_nil)) (pa_cons pe_str
          (pa_cons (pe_lst (pa_cons (pv 5) pa_nil)) (pa_cons (pe_tup (pa_cons (pv 5) pa_nil)) (pa_cons pe_dnewK (pa_cons (pe_op op_pow pe_int pe_int) (pa_cons (pe_un un_neg (pe_op op_add (pv 5) pe_int)) (pa_cons (pv 0) (pa_cons (pe_callTy call_str_int rfl gSt (by decide +kernel) (pa_cons (pv 5) pa_nil)) pa_nil))))))))))))))) (pg_name (i := 6) scRt.nd rfl (.inl rfl))
      (pss_one (ps_if (pt_not (pt_val (pe_call G9 (hr.mono (by decide)) rfl g9 F9.kp b9 .nil pass0 (pa_cons (pe_call G4 (hr.mono (by decide)) rfl g4 F4.kp b4 .nil pass0 (pa_cons (pv 3) (pa_cons (pv 1) (pa_cons (pv 6) pa_nil)))) (pa_cons pe_bl pa_nil))))) (pss_one (ps_ret pe_bl)) pss_nil)))
    (pss_cons (ps_set (i := 4) scRt.nd rfl (.inl rfl) (pe_lst (pa_cons (pe_callB call_len_seq rfl gLe (by decide +kernel) (pa_cons (pe_call G5 (hr.mono (by decide)) rfl g5 F5.kp b5 .nil pass0 (pa_cons (pv 0) (pa_cons (pv 1) pa_nil))) pa_nil))
          (pa_cons (pe_callB call_len_seq rfl gLe (by decide +kernel) (pa_cons (pe_call G6 (hr.mono (by decide)) rfl g6 F6.kp b6 .nil pass0 (pa_cons (pv 0) (pa_cons (pv 1) (pa_cons (pe_lst pa_nil) pa_nil)))) pa_nil))
          (pa_cons (pe_call G7 (hr.mono (by decide)) rfl g7 F7.kp b7 .nil pass0 (pa_cons (pv 0) (pa_cons (pv 1) pa_nil)))
          (pa_cons (pe_call G8 (hr.mono (by decide)) rfl g8 F8.kp b8 .nil pass0 (pa_cons (pv 0) (pa_cons (pv 0) (pa_cons (pv 1) pa_nil)))) pa_nil))))))
    (pss_cons (ps_if (PW.pt (pw_or (pt_not (pt_val (pe_call G9 (hr.mono (by decide)) rfl g9 F9.kp b9 .nil pass0 (pa_cons (pv 4) (pa_cons (pe_op op_rep (pe_lst (pa_cons (pe_callB (cr_max rfl) rfl gMa (by decide +kernel) (pa_cons (pv 2) pa_nil)) pa_nil)) pe_int) pa_nil)))))
          (pw_or1 (pt_not (pt_val (pe_call G9 (hr.mono (by decide)) rfl g9 F9.kp b9 .nil pass0 (pa_cons (pe_call G3 (hr.mono (by decide)) rfl g3 F3.kp b3 .nil pass0 (pa_cons (pe_callTy call_list_of rfl gLi (by decide +kernel) (pa_cons (pv 0) pa_nil)) (pa_cons (pv 1) pa_nil))) (pa_cons (pv 5) pa_nil)))))))) (pss_one (ps_ret pe_bl)) pss_nil)
    (pss_one (ps_ret (pe_call G9 (hr.mono (by decide)) rfl g9 F9.kp b9 .nil pass0 (pa_cons (pe_lst (pa_cons (pe_call Ga (hr.mono (by decide)) rfl ga Fa.kp ba .nil pass0 (pa_cons (pv 0) pa_nil)) (pa_cons (pv 3) pa_nil)))
        (pa_cons (pe_lst (pa_cons (pe_call Gb (hr.mono (by decide)) rfl gb Fb.kp bb .nil pass0 (pa_cons (pv 0) pa_nil)) (pa_cons (pv 0) pa_nil))) pa_nil)))))))))))))), ?_⟩)
  · obtain ⟨l, n, bs, rfl, _⟩ := h
    rfl
  · obtain ⟨l, n0, bs, rfl, LA, T, b0, b11, n1, n2, hT, k⟩ := h
    obtain ⟨h, rfl⟩ : ∃ h : Nat, n0 = (h : Int) := ⟨n0.toNat, (Int.toNat_of_nonneg (by omega)).symm⟩
    have hh : 1 ≤ h := by omega
    obtain ⟨n, hn⟩ : ∃ n : Int, n = (h : Int) := ⟨_, rfl⟩
    rw [← hn] at n1 n2 ⊢
    have bz := LA.len
    obtain ⟨xs, e1, lb, lz⟩ := id LA
    have two : 2 ≤ sizeLine := by
      rw [sizeLine_eq]
      decide
    have four : 4 ≤ sizeLine := by
      rw [sizeLine_eq]
      decide
    refine ⟨_, rfl, _, rfl, l, n, bs, rfl, LA, T.gr, b0, n1, n2, fun nu G1 s1 nu0 eN => ?_⟩
    refine ⟨_, rfl, l, xs, rfl, .inl (SqL.of (s1 _ _ e1)), fun hd hd0 => ?_⟩
    have s2 := same_new (o := .lst xs) hd0
    have eH2 : (upd G1 hd (.lst xs)) hd = some (.lst xs) := upd_same
    generalize (upd G1 hd (.lst xs)) = G2 at s2 eH2 ⊢
    refine ⟨two, fun tp htp => ?_⟩
    have s3 := same_new (o := .tup [.ref nu, .ref hd]) htp
    refine ⟨tp, _, rfl, SqT.of upd_same, rfl, _, _, rfl, _, _, rfl, rfl, ?_⟩
    generalize (upd G2 tp (.tup [.ref nu, .ref hd])) = G3 at s3 ⊢
    have sH := s1.trans (s2.trans s3)
    have e1 := sH _ _ e1
    have eH := s3 _ _ eH2
    have eN := s3 _ _ (s2 _ _ eN)
    have lb3 := lb.same sH
    have hT3 : Tabs (TbL Pt) G3 := hT.ext sH
    have x3 : ExtN H G3 := ExtN.of sH
    have RH : GrIn G3 hd n xs bs := ⟨eH, lb3, lz, T.gr, n1⟩
    have RL : GrIn G3 l n xs bs := ⟨e1, lb3, lz, T.gr, n1⟩
    have nl : (numsB bs n).length = (maxD (bs.map (dep bs)) (-1) + 1).toNat := numsB_len
    have md : 0 ≤ maxD (bs.map (dep bs)) (-1) := by
      have q := maxD_in (ns := bs.map (dep bs)) (d := -1) (by rw [List.length_map]; exact b0)
      exact (dep_all T.gr bz _ q).1
    have m2 : maxD (bs.map (dep bs)) (-1) < 2 ^ 20 := maxD_lt (fun x hx => (dep_all T.gr bz x hx).2) (by decide)
    have npos : 0 < (numsB bs n).length := by omega
    have nbig : (numsB bs n).length ≤ 2 ^ 20 := by omega
    have tops : maxD (numsB bs n) 0 = barTop bs n bs := rfl
    refine ⟨_, rfl, nu, _, rfl, .inl (SqL.of eN), _, rfl, by rw [List.length_map]; omega, by rw [List.length_map]; omega, fun D hD => ?_⟩
    rw [show (((numsB bs n).map V.int).length : Int).toNat = (numsB bs n).length by rw [Int.toNat_natCast, List.length_map]]
    refine lc_it (walk_range (lo := 0) (n := (numsB bs n).length)) (fun i G => Same G3 G ∧ G D = some (.lst (((List.range i).map fun j => (numsB bs n).getD j 0).map V.int))) ⟨same_new hD, upd_same⟩ (fun _ _ _ _ => True.intro) ?_ ?_
    · rintro i x G4 G5 hi ⟨sm, eD⟩ ⟨eq, hx⟩
      replace hx : x = .int (i : Int) := by
        rw [hx]
        show V.int (0 + (i : Int)) = _
        rw [Int.zero_add]
      subst eq hx
      refine ⟨rfl, _, rfl, _, rfl, _, rfl, hd, n, i, xs, bs, rfl, RH.ext (ExtN.of sm), n2, hi, fun G6 s6 => ⟨_, s6 _ _ eD, ?_, fun a o e => ?_, ?_⟩⟩
      · rw [List.length_map, List.length_map, List.length_range, sizeLine_eq]
        omega
      · rw [upd_ne (ne_of_none e hD)]
        exact s6 _ _ (sm _ _ e)
      · rw [upd_same, List.range_succ, List.map_append, List.map_append]
        rfl
    rintro G4 ⟨s4, eD⟩
    rw [range_getD] at eD
    have x4 : ExtN H G4 := extN_same x3 s4
    have eN4 := s4 _ _ eN
    have eH4 := s4 _ _ eH
    have e14 := s4 _ _ e1
    have lb4 := lb3.same s4
    -- both lists are the same
    refine ⟨_, rfl, _, rfl, two, fun a1 ha1 => ?_⟩
    have s5 := same_new (o := .lst [.ref D, .ref hd]) ha1
    have ea1 : (upd G4 a1 (.lst [.ref D, .ref hd])) a1 = some (.lst [.ref D, .ref hd]) := upd_same
    generalize (upd G4 a1 (.lst [.ref D, .ref hd])) = G5 at s5 ea1 ⊢
    refine ⟨_, rfl, _, rfl, two, fun a2 ha2 => ?_⟩
    have s6 := same_new (o := .lst [.ref nu, .ref l]) ha2
    have ea2 : (upd G5 a2 (.lst [.ref nu, .ref l])) a2 = some (.lst [.ref nu, .ref l]) := upd_same
    generalize (upd G5 a2 (.lst [.ref nu, .ref l])) = G6 at s6 ea2 ⊢
    have s46 := s5.trans s6
    refine ⟨.ref a1, .ref a2, rfl, .inl (.inr (.inl ⟨a1, a2, _, _, rfl, rfl, s6 _ _ ea1, ea2, (by show 2 < 2 ^ 22; decide), .cons ((eq_ints (s46 _ _ eD) (s46 _ _ eN4) (by omega)).le (by decide)) (.cons ((eq_lb (s46 _ _ eH4) (s46 _ _ e14) (lb4.same s46) (lb4.same s46) (by omega)).le (by decide)) .nil)⟩)), fun G7 s7 => ⟨true, rfl, itF rfl ?_⟩⟩
    have s47 := s46.trans s7
    have x7 : ExtN H G7 := extN_same x4 s47
    have s37 := s4.trans s47
    have RH7 := RH.ext (ExtN.of s37)
    refine ⟨_, rfl, _, rfl, hd, n, xs, bs, rfl, RH7, n2, fun G8 s8 => ?_⟩
    rw [if_pos npos]
    have tl := topAt_lt npos
    have tg := topAt_get npos
    refine ⟨_, rfl, .int (topAt (numsB bs n) : Nat), .ty "int", .type "int", .type "int", true, rfl, .ty _, .base (.int _), kit_ty (by decide +kernel), true, rfl, itF rfl ?_⟩
    refine ⟨_, rfl, .int (topAt (numsB bs n) : Nat), .ty "bool", .type "int", .type "bool", false, rfl, .ty _, .base (.int _), kit_ty (by decide +kernel), false, rfl, itF rfl ?_⟩
    have s38 := s37.trans s8
    have eN8 := s38 _ _ eN
    refine ⟨_, rfl, 0, _, rfl, rfl, true, congrArg V.bl (decide_eq_true (by omega)), itT rfl ?_⟩
    refine ⟨_, rfl, nu, _, rfl, .inl (SqL.of eN8), _, _, rfl, rfl, true, congrArg V.bl (decide_eq_true (by rw [List.length_map]; omega)), itF rfl ?_⟩
    refine ⟨_, rfl, _, rfl, nu, _, _, _, rfl, rfl, SqL.of eN8, atI_int tl, _, rfl, nu, numsB bs n, rfl, SqL.of eN8, npos, fun m hm ub => ?_⟩
    have em : m = maxD (numsB bs n) 0 := Int.le_antisymm (maxD_all hm) (ub _ (maxD_in npos))
    subst em
    refine ⟨rfl, _, rfl, itF (by rw [tg, decide_eq_true rfl]; rfl) ?_⟩
    -- each bar is judged
    refine ⟨_, rfl, nu, _, rfl, .inl (SqL.of eN8), _, rfl, RgOk.of_le (by omega) (by rw [List.length_map]; omega) (by omega) (by rw [List.length_map]; omega), fun rg hrg => ?_⟩
    have s9 := same_new (o := .lst (rgV 0 (((numsB bs n).map V.int).length : Nat))) hrg
    have erg : (upd G8 rg (.lst (rgV 0 (((numsB bs n).map V.int).length : Nat)))) rg = some (.lst (rgV 0 (((numsB bs n).map V.int).length : Nat))) := upd_same
    generalize (upd G8 rg (.lst (rgV 0 (((numsB bs n).map V.int).length : Nat)))) = G9 at s9 erg ⊢
    have s39 := s38.trans s9
    have rl : (rgV 0 (((numsB bs n).map V.int).length : Nat)).length = (numsB bs n).length := by
      rw [rgV_length, List.length_map]
      omega
    refine ⟨rg, rfl, ⟨_, SqL.of erg⟩, ?_⟩
    refine for_it (walk_list (xs := rgV 0 (((numsB bs n).map V.int).length : Nat))) (fun i τ G => (∃ u6, τ = [some (.ref l), some (.int n), some (.ref nu), some (.ref hd), some (.ref D), some (.int (topAt (numsB bs n) : Nat)), u6, none]) ∧ Same G9 G) ⟨⟨_, rfl⟩, fun _ _ e => e⟩ (fun i τ G _ q => SqL.of (q.2 _ _ erg)) ?_ ?_
    · rintro i x τ Ga Gb hi ⟨⟨u6, rfl⟩, sa⟩ ⟨eq, hx⟩
      subst eq
      rw [rl] at hi
      replace hx : x = .int (i : Int) := by
        unfold rgV at hx
        rw [List.getElem?_map, List.getElem?_range (by rw [List.length_map]; omega)] at hx
        cases hx
        show V.int (0 + (i : Int)) = _
        rw [Int.zero_add]
      subst hx
      have s3a := s39.trans sa
      refine ⟨_, rfl, _, rfl, _, rfl, hd, n, .int (i : Int), xs, bs, rfl, RH.ext (ExtN.of s3a), n2, .inr ⟨(i : Int), rfl, by omega, fun Gc sc => ?_⟩⟩
      have eNc := sc _ _ (s3a _ _ eN)
      refine ⟨_, rfl, _, rfl, nu, _, _, _, rfl, rfl, SqL.of eNc, atI_int hi, _, rfl, nu, numsB bs n, rfl, SqL.of eNc, npos, fun m hm ub => ?_⟩
      have em : m = maxD (numsB bs n) 0 := Int.le_antisymm (maxD_all hm) (ub _ (maxD_in npos))
      subst em
      refine ⟨rfl, _, _, rfl, .inr ⟨decide (V.int ((numsB bs n).getD i 0) = V.int (maxD (numsB bs n) 0)), ?_, rfl⟩, fun Gd sd => ⟨true, rfl, itF rfl ⟨⟨_, rfl⟩, sa.trans (sc.trans sd)⟩⟩⟩
      rw [decide_eq_true (show (i : Int) < ((numsB bs n).length : Int) by omega), Bool.true_and, Int.toNat_natCast]
      by_cases z : (numsB bs n).getD i 0 = maxD (numsB bs n) 0
      · rw [decide_eq_true z, decide_eq_true (congrArg V.int z)]
      · rw [decide_eq_false z, decide_eq_false fun y => z (V.int.inj y)]
    rintro τ Ga ⟨⟨u6, rfl⟩, sa⟩
    have s3a := s39.trans sa
    have eNa := s3a _ _ eN
    have one : 1 ≤ sizeLine := by
      rw [sizeLine_eq]
      decide
    refine ⟨1, rfl, _, rfl, nu, _, rfl, .inl (SqL.of eNa), _, rfl, one, fun la hla => ?_⟩
    have sb := same_new (o := .lst [.int (topAt (numsB bs n) : Nat)]) hla
    have eLa : (upd Ga la (.lst [.int (topAt (numsB bs n) : Nat)])) la = some (.lst [.int (topAt (numsB bs n) : Nat)]) := upd_same
    generalize (upd Ga la (.lst [.int (topAt (numsB bs n) : Nat)])) = Gb at sb eLa ⊢
    refine ⟨_, rfl, one, fun ta hta => ?_⟩
    have sc := same_new (o := .tup [.int (topAt (numsB bs n) : Nat)]) hta
    have eTa : (upd Gb ta (.tup [.int (topAt (numsB bs n) : Nat)])) ta = some (.tup [.int (topAt (numsB bs n) : Nat)]) := upd_same
    generalize (upd Gb ta (.tup [.int (topAt (numsB bs n) : Nat)])) = Gc at sc eTa ⊢
    refine fun dd hdd => ?_
    have sd := same_new (o := .dK []) hdd
    have eDd : (upd Gc dd (.dK [])) dd = some (.dK []) := upd_same
    generalize (upd Gc dd (.dK [])) = Gd at sd eDd ⊢
    refine ⟨10, 20, rfl, rfl, ⟨by decide, by decide, by decide⟩, _, rfl, _, 1, rfl, rfl, _, rfl, _, rfl, _, rfl, _, rfl, ?_, ?_, fun vl hvl => ?_⟩
    · have tz : topAt (numsB bs n) < 2 ^ 1920 := Nat.lt_of_lt_of_le (Nat.lt_of_lt_of_le tl nbig) (Nat.pow_le_pow_right (by decide) (by decide))
      rw [Int.natAbs_natCast]
      by_cases z : topAt (numsB bs n) = 0
      · rw [z]
        decide
      · exact (Nat.log2_lt z).mpr tz
    · rw [sizeLine_eq]
      show 13 ≤ _
      decide
    have sad := sb.trans (sc.trans sd)
    have s3d := s3a.trans sad
    have ll : ((numsB bs n).map V.int).length = (numsB bs n).length := List.length_map ..
    have A13 := all13 (K := K) (N := ((numsB bs n).map V.int).length) (t := topAt (numsB bs n)) (sd _ _ (sc _ _ eLa)) (sd _ _ eTa) eDd (s3d _ _ e1) (by omega)
    refine ⟨vl, rfl, ⟨vals13 ((numsB bs n).map V.int).length (topAt (numsB bs n)) la ta dd l, SqL.of upd_same⟩, ?_⟩
    refine for_it (walk_list (xs := vals13 ((numsB bs n).map V.int).length (topAt (numsB bs n)) la ta dd l)) (fun i τ G => (∃ u6, τ = [some (.ref l), some (.int n), some (.ref nu), some (.ref hd), some (.ref D), some (.int (topAt (numsB bs n) : Nat)), u6, none]) ∧ Same Gd G ∧ G vl = some (.lst (vals13 ((numsB bs n).map V.int).length (topAt (numsB bs n)) la ta dd l))) ⟨⟨_, rfl⟩, same_new hvl, upd_same⟩ (fun i τ G _ q => SqL.of q.2.2) ?_ ?_
    · rintro i x τ Ge Gf hi ⟨⟨u6, rfl⟩, se, ev⟩ ⟨eq, hx⟩
      subst eq
      refine ⟨_, rfl, _, rfl, _, rfl, hd, n, x, xs, bs, rfl, RH.ext (ExtN.of (s3d.trans se)), n2, ?_⟩
      rcases A13 x (List.mem_of_getElem? hx) with q | ⟨j, rfl, j0, jl⟩
      · exact .inl ⟨fun H' s' => q H' (se.trans s'), fun Gg sg => ⟨_, _, rfl, .inr ⟨false, rfl, rfl⟩, fun Gh sh => ⟨true, rfl, itF rfl ⟨⟨_, rfl⟩, se.trans (sg.trans sh), sh _ _ (sg _ _ ev)⟩⟩⟩⟩
      · refine .inr ⟨j, rfl, j0, fun Gg sg => ?_⟩
        rw [decide_eq_false (show ¬ j < ((numsB bs n).length : Int) by omega), Bool.false_and]
        exact ⟨_, _, rfl, .inr ⟨false, rfl, rfl⟩, fun Gh sh => ⟨true, rfl, itF rfl ⟨⟨_, rfl⟩, se.trans (sg.trans sh), sh _ _ (sg _ _ ev)⟩⟩⟩
    rintro τ Ge ⟨⟨u6', rfl⟩, se, -⟩
    have s3e := s3d.trans se
    have xe : ExtN H Ge := extN_same x3 s3e
    have keep : ∀ {A B : Hp} {a : Addr} {zs : List V}, ExtN A B → A a = some (.lst zs) → B a = some (.lst zs) := fun e h => e _ _ h (fun ps z => nomatch z)
    -- the steps
    have LAe : ListAt Ge l bs := LA.same (sH.trans s3e)
    have RLe := RL.ext (ExtN.of s3e)
    have eNe := s3e _ _ eN
    have eHe := s3e _ _ eH
    have hTe := hT3.ext s3e
    refine ⟨_, rfl, _, rfl, l, n, xs, bs, rfl, RLe, hTe, fun p1 z1 Gf xf tf nf ef stf => ⟨p1, z1, rfl, .inl (SqL.of ef), ?_⟩⟩
    refine ⟨_, rfl, _, rfl, Nat.zero_le _, fun em hem => ?_⟩
    have sg := same_new (o := .lst []) hem
    have xg : ExtN Ge (upd Gf em (.lst [])) := extN_same xf sg
    refine ⟨l, em, n, xs, [], bs, [], rfl, RLe.ext xg, ⟨upd_same, .nil, by decide, ⟨(fun _ h => nomatch h), (by decide)⟩⟩, tf.ext sg, fun p2 z2 Gh xh th nh eh sth => ⟨p2, z2, rfl, .inl (SqL.of eh), ?_⟩⟩
    have xgh := xg.trans xh
    refine ⟨_, rfl, _, rfl, l, n, xs, bs, rfl, RLe.ext xgh, n2, fun Gi si => ?_⟩
    have xi := extN_same xgh si
    have LAi : ListAt Gi l bs := ⟨xs, keep xi RLe.el, RLe.lb.ext xi, lz⟩
    refine ⟨_, rfl, _, rfl, _, rfl, l, l, n, bs, bs, rfl, LAi, T.nd, LAi, (fun b hb => hb), n1, n2, fun Gj sj => ⟨four, fun tl4 htl4 => ?_⟩⟩
    have zl1 : (z1.length : Int) = maxD (numsB bs n) 0 := by
      rw [stf.len, tops, hn, Int.toNat_natCast]
      exact (run0 T hh).1
    have zl2 : (z2.length : Int) = maxD (numsB bs n) 0 := by
      rw [sth.len, tops, hn, Int.toNat_natCast]
      exact (run0 T hh).1
    have zl3 : lawBar bs n bs = maxD (numsB bs n) 0 := law_top T n1 fun b hb => hb
    rw [zl1, zl2, zl3]
    have xj := extN_same xi sj
    have tj : Tabs (TbL Pt) Gj := (th.ext si).ext sj
    have sk := same_new (o := .lst [.int (maxD (numsB bs n) 0), .int (maxD (numsB bs n) 0), .int (maxD (numsB bs n) 0), .int (maxD (numsB bs n) 0)]) htl4
    have etl : (upd Gj tl4 (.lst [.int (maxD (numsB bs n) 0), .int (maxD (numsB bs n) 0), .int (maxD (numsB bs n) 0), .int (maxD (numsB bs n) 0)])) tl4 = some (.lst ([maxD (numsB bs n) 0, maxD (numsB bs n) 0, maxD (numsB bs n) 0, maxD (numsB bs n) 0].map V.int)) := upd_same
    generalize (upd Gj tl4 (.lst [.int (maxD (numsB bs n) 0), .int (maxD (numsB bs n) 0), .int (maxD (numsB bs n) 0), .int (maxD (numsB bs n) 0)])) = Gk at sk etl ⊢
    have xk := extN_same xj sk
    have tk := tj.ext sk
    have eNk := keep xk eNe
    refine ⟨_, rfl, _, rfl, nu, numsB bs n, rfl, SqL.of eNk, npos, fun m hm ub => ?_⟩
    have em : m = maxD (numsB bs n) 0 := Int.le_antisymm (maxD_all hm) (ub _ (maxD_in npos))
    subst em
    refine ⟨one, fun mo hmo => ?_⟩
    have sl := same_new (o := .lst [.int (maxD (numsB bs n) 0)]) hmo
    refine ⟨mo, 4, _, rfl, rfl, upd_same, by decide, by decide, ?_, fun rp hrp => ?_⟩
    · rw [sizeLine_eq]
      show 1 * 4 ≤ _
      decide
    have sm := sl.trans (same_new (o := .lst (List.replicate (4 : Int).toNat [V.int (maxD (numsB bs n) 0)]).flatten) hrp)
    have erp : (upd (upd Gk mo (.lst [.int (maxD (numsB bs n) 0)])) rp (.lst (List.replicate (4 : Int).toNat [V.int (maxD (numsB bs n) 0)]).flatten)) rp = some (.lst ([maxD (numsB bs n) 0, maxD (numsB bs n) 0, maxD (numsB bs n) 0, maxD (numsB bs n) 0].map V.int)) := upd_same
    generalize (upd (upd Gk mo (.lst [.int (maxD (numsB bs n) 0)])) rp (.lst (List.replicate (4 : Int).toNat [V.int (maxD (numsB bs n) 0)]).flatten)) = Gl at sm erp ⊢
    refine ⟨.ref tl4, .ref rp, rfl, .inl ((eq_ints (sm _ _ etl) erp (by show 4 < 2 ^ 22; decide)).le (by decide)), fun Gm sm2 => ⟨true, rfl, itF rfl ?_⟩⟩
    have skm := sm.trans sm2
    have xm := extN_same xk skm
    have tm := tk.ext skm
    have RLm := RLe.ext xm
    refine ⟨_, rfl, l, xs, rfl, .inl (SqL.of RLm.el), fun lg hlg => ?_⟩
    have sn := same_new (o := .lst xs) hlg
    have elg : (upd Gm lg (.lst xs)) lg = some (.lst xs) := upd_same
    generalize (upd Gm lg (.lst xs)) = Gn at sn elg ⊢
    refine ⟨_, rfl, lg, n, xs, bs, rfl, ⟨elg, RLm.lb.same sn, lz, T.gr, n1⟩, n2, fun Go so => ?_⟩
    rw [if_pos npos]
    refine ⟨_, rfl, _, _, rfl, .inl (.inl ⟨_, rfl, rfl⟩), fun Gp sp => ⟨true, rfl, itF rfl ?_⟩⟩
    have smp := sn.trans (so.trans sp)
    have xp := extN_same xm smp
    have tp' := tm.ext smp
    have RLp := RLe.ext xp
    have eHp := keep xp eHe
    refine ⟨_, rfl, l, xs, bs, rfl, RLp.el, RLp.lb, lz, T.gr, fun pp Gq sq pp0 epp => ?_⟩
    refine ⟨_, rfl, two, fun b1' hb1 => ?_⟩
    have sr := same_new (o := .lst [.ref pp, .ref hd]) hb1
    have eb1 : (upd Gq b1' (.lst [.ref pp, .ref hd])) b1' = some (.lst [.ref pp, .ref hd]) := upd_same
    generalize (upd Gq b1' (.lst [.ref pp, .ref hd])) = Gr' at sr eb1 ⊢
    have spr := sq.trans sr
    refine ⟨_, rfl, l, bs, rfl, ⟨xs, spr _ _ RLp.el, RLp.lb.same spr, lz⟩, T.gr, fun lp Gs ss lp0 elp => ?_⟩
    refine ⟨_, rfl, two, fun b2' hb2 => ?_⟩
    have st := same_new (o := .lst [.ref lp, .ref l]) hb2
    have eb2 : (upd Gs b2' (.lst [.ref lp, .ref l])) b2' = some (.lst [.ref lp, .ref l]) := upd_same
    generalize (upd Gs b2' (.lst [.ref lp, .ref l])) = Gt at st eb2 ⊢
    have sqt := sr.trans (ss.trans st)
    have spt := spr.trans (ss.trans st)
    have pz : (profB bs).length < 2 ^ 22 := by
      rw [profB_len]
      omega
    refine ⟨.ref b1', .ref b2', rfl, .inl (.inr (.inl ⟨b1', b2', _, _, rfl, rfl, (ss.trans st) _ _ eb1, eb2, (by show 2 < 2 ^ 22; decide), .cons ((eq_ints (sqt _ _ epp) (st _ _ elp) pz).le (by decide)) (.cons ((eq_lb (spt _ _ eHp) (spt _ _ RLp.el) (RLp.lb.same spt) (RLp.lb.same spt) (by omega)).le (by decide)) .nil)⟩)), fun Gu su => ?_⟩
    have spu := spt.trans su
    exact k Gu (xe.trans (extN_same xp spu)) (tp'.ext spu)
end
end K36
/-! The law. -/
namespace K36
open PySem PySem.Spec PyProof.Rows L2 LamX SfKey
def spLaw (K : PySem.W.Frag) (Pt : Addr) : Sp := fun vs H Q _ => ∃ (a : Addr) (ns : List Int), vs = [.ref a] ∧ SqL K H a (ns.map V.int) ∧ ns.length ≤ 63 ∧ Tabs (TbL Pt) H ∧ ∀ G, Q (.bl true) G
abbrev nLaw : List Str := ["_law_script", "_law_purse_here", "_law_turn", "_law_grouping", "_law_hands"]
theorem scLaw : FnScope nLaw ["_law_script"] (defScope sLaw) := ⟨rfl, rfl, rfl, by decide +kernel, rfl, by decide +kernel, by decide +kernel⟩
/-- so many at most -/
def tMany : TE := fun σ H Q => ∃ i : Int, σ[2]? = some (some (.int i)) ∧ ∀ m : Int, 0 < m → m ≤ 11 → Q (.int m) H
theorem many_rd : ∀ (σ : L2.St) (H : Hp) (Q : VK), tMany σ H Q → tIf (tTest (tOp (rI0 fun i j => V.bl (decide (i < j))) (tVar 2) (tC (.int 2)))) (tC (.int 11)) (tC (.int 5)) σ H Q := by
  rintro σ H Q ⟨i, e, k⟩
  refine ⟨_, e, i, 2, rfl, rfl, _, rfl, ?_⟩
  by_cases z : i < 2
  · exact itT (decide_eq_true z) (k 11 (by decide) (by decide))
  · exact itF (decide_eq_false z) (k 5 (by decide) (by decide))
section
variable {P : Program} {w : World} {K : PySem.W.Frag} {mg : Str → Option Value} {base : Heap} {f fPu fDr fGr fRt fGB fIG Pt : Addr} {fd fdPu fdDr fdGr fdRt fdGB fdIG : FuncData}
theorem ok_law (F : FnP K dLaw f fd) (F1 : FnP K dPurses fPu fdPu) (G1 : FnOk P w K mg base CX0 2 fPu fdPu ["_law_script", "_law_few"] (spPurses K)) (g1 : mg "_law_purses" = some (.ref fPu))
    (F2 : FnP K dDraw fDr fdDr) (G2 : FnOk P w K mg base CX0 2 fDr fdDr ["_law_purse_here", "_law_many"] spDraw) (g2 : mg "_law_draw" = some (.ref fDr))
    (F3 : FnP K dGrown fGr fdGr) (G3 : FnOk P w K mg base CX0 3 fGr fdGr ["_law_purse_here", "_law_size"] spGrown) (g3 : mg "_law_grown" = some (.ref fGr))
    (F5 : FnP K dRight fRt fdRt) (G5 : FnOk P w K mg base CX0 10 fRt fdRt ["_law_grouping", "_law_hands"] (spRt Pt)) (g5 : mg "_law_right" = some (.ref fRt))
    (F6 : FnP K dPGreatestBar fGB fdGB) (G6 : FnOk P w K mg base CX0 8 fGB fdGB ["grouping", "hands"] spGB) (g6 : mg "greatest_bar" = some (.ref fGB))
    (F7 : FnP K dPIsGreatestBar fIG fdIG) (G7 : FnOk P w K mg base CX0 8 fIG fdIG ["grouping", "hands", "value"] (spIGB K)) (g7 : mg "is_greatest_bar" = some (.ref fIG)) (gRa : mg "range" = none) (gAl : mg "all" = none) :
    FnOk P w K mg base CX0 12 f fd ["_law_script"] (spLaw K Pt) := by
  have b1 : Binds K fdPu ["_law_script", "_law_few"] [] := F1.bindsN fun _ _ _ _ _ _ us hl => match us, hl with | [_, _], _ => rfl
  have b2 : Binds K fdDr ["_law_purse_here", "_law_many"] [] := F2.bindsN fun _ _ _ _ _ _ us hl => match us, hl with | [_, _], _ => rfl
  have b3 : Binds K fdGr ["_law_purse_here", "_law_size"] [] := F3.bindsN fun _ _ _ _ _ _ us hl => match us, hl with | [_, _], _ => rfl
  have b5 : Binds K fdRt ["_law_grouping", "_law_hands"] [] := F5.bindsN fun _ _ _ _ _ _ us hl => match us, hl with | [_, _], _ => rfl
  have b6 : Binds K fdGB ["grouping", "hands"] [] := F6.bindsN fun _ _ _ _ _ _ us hl => match us, hl with | [_, _], _ => rfl
  have b7 : Binds K fdIG ["grouping", "hands", "value"] [] := F7.bindsN fun _ _ _ _ _ _ us hl => match us, hl with | [_, _, _], _ => rfl
  refine F.ok scLaw (fun vs H Q E h => ?_) (fun cdv A outer s H vs Q E hr h => ⟨_, PSs.nox (
    pss_cons (ps_for PassesOwn.never rfl (pi_list (pe_call G1 (hr.mono (by decide)) rfl g1 F1.kp b1 .nil pass0 (pa_cons (pv 0) (pa_cons pe_int pa_nil)))) (pg_name (i := 1) scLaw.nd rfl (.inl rfl))
      (pss_cons (ps_for PassesOwn.never rfl (pi_range1 rfl gRa (pa_cons pe_int pa_nil)) (pg_name (i := 2) scLaw.nd rfl (.inl rfl))
        (pss_cons (ps_set (i := 3) scLaw.nd rfl (.inr rfl) (pe_call G3 (hr.mono (by decide)) rfl g3 F3.kp b3 .nil pass0 (pa_cons (pv 1) (pa_cons (pe_op op_add pe_int (pe_call G2 (hr.mono (by decide)) rfl g2 F2.kp b2 .nil pass0 (pa_cons (pv 1) (pa_cons (pe_mono (te' := tMany) (pe_ifExp (pt_cmpR op_lt (pv 2) pe_int (nomark _)) pe_int pe_int) many_rd) pa_nil)))) pa_nil))))
        (pss_one (ps_if (pt_not (pt_val (pe_callB (cr_all rfl) rfl gAl (by decide +kernel) (pa_cons (pe_lc (own := [("_law_hands", 4)]) (g := gName 4) (tt := tYes) (te := tCall (spRt Pt) [] E0 (tCons (tVar 3) (tCons (tVar 4) tNil))) rfl scLaw.nd (pi_tup (pe_tup (pa_cons pe_int (pa_cons pe_int (pa_cons (pe_op op_add pe_int (pe_call G2 (hr.mono (by decide)) rfl g2 F2.kp b2 .nil pass0 (pa_cons (pv 1) (pa_cons pe_int pa_nil)))) pa_nil))))) (blkOk_by (N := nLaw) (sc := defScope sLaw) (by decide +kernel))
            (fun _ _ _ _ _ => pg_name (i := 4) scLaw.nd rfl (.inl rfl)) (fun _ _ _ _ _ => pts_nil) (fun _ _ _ _ _ => pe_call G5 (hr.mono (by decide)) rfl g5 F5.kp b5 .nil pass0 (pa_cons (pv 3) (pa_cons (pv 4) pa_nil)))) pa_nil)))) (pss_one (ps_ret pe_bl)) pss_nil))))
      (pss_one (ps_if (PW.pt (pw_or (pt_cmpR op_notN (pe_call G6 (hr.mono (by decide)) rfl g6 F6.kp b6 .nil pass0 (pa_cons (pe_lst pa_nil) (pa_cons pe_int pa_nil))) pe_non (nomark _))
          (pw_or (pt_cmpR op_notBl (pe_call G7 (hr.mono (by decide)) rfl g7 F7.kp b7 .nil pass0 (pa_cons (pe_lst pa_nil) (pa_cons pe_int (pa_cons pe_non pa_nil)))) pe_bl (nomark _))
          (pw_or1 (pt_cmpR op_notBl (pe_call G7 (hr.mono (by decide)) rfl g7 F7.kp b7 .nil pass0 (pa_cons (pe_lst pa_nil) (pa_cons pe_int (pa_cons pe_int pa_nil)))) pe_bl (nomark _)))))) (pss_one (ps_ret pe_bl)) pss_nil))))
    (pss_one (ps_ret pe_bl))), ?_⟩)
  · obtain ⟨a, ns, rfl, _⟩ := h
    rfl
  · obtain ⟨a, ns, rfl, hS, hn, hT, k⟩ := h
    have one : 1 ≤ sizeLine := by
      rw [sizeLine_eq]
      decide
    have three : 3 ≤ sizeLine := by
      rw [sizeLine_eq]
      decide
    have keep : ∀ {A B : Hp} {a : Addr} {zs : List V}, ExtN A B → A a = some (.lst zs) → B a = some (.lst zs) := fun e h => e _ _ h (fun ps z => nomatch z)
    refine ⟨_, rfl, a, ns, rfl, hS, hn, fun l p H1 s1 eL PU => ⟨l, rfl, ⟨_, SqL.of eL⟩, ?_⟩⟩
    have nlp : l ≠ p := fun z => by
      obtain ⟨x1, x2, x3, x4, e2, _⟩ := PU
      rw [z, e2] at eL
      cases eL
    refine for_it (walk_list (xs := [.ref p])) (fun i τ G => (∃ u1 u2 u3, τ = [some (.ref a), u1, u2, u3, none]) ∧ Tabs (TbL Pt) G ∧ G l = some (.lst [.ref p]) ∧ (i = 0 → Pu G p 0)) ⟨⟨_, _, _, rfl⟩, hT.ext s1, eL, fun _ => PU⟩ (fun i τ G _ q => SqL.of q.2.2.1) ?_ ?_
    · rintro i x τ G0 G hi ⟨⟨u1, u2, u3, rfl⟩, tG, eL, hP⟩ ⟨eq, hx⟩
      subst eq
      have hi1 : i < 1 := hi
      obtain rfl : i = 0 := by omega
      obtain rfl : V.ref p = x := Option.some.inj hx
      have PU := hP rfl
      refine ⟨4, rfl, by decide, by decide, ?_⟩
      refine for_range (lo := 0) (n := 4) (fun i τ G => (∃ u2 u3, τ = [some (.ref a), some (.ref p), u2, u3, none]) ∧ Tabs (TbL Pt) G ∧ G l = some (.lst [.ref p]) ∧ Pu G p (1000 * (i : Int))) ⟨⟨_, _, rfl⟩, tG, eL, PU.mono (by omega)⟩ ?_ ?_
      · rintro i τ G hi ⟨⟨u2, u3, rfl⟩, tG, eL, PU⟩
        obtain ⟨px, ePu⟩ := PU.at_
        refine ⟨_, rfl, _, rfl, 0 + (i : Int), rfl, fun m m0 m1 => ?_⟩
        refine ⟨p, _, m, rfl, PU, by omega, m0, by omega, fun d G2 d0 d1 sb2 P2 => ?_⟩
        have tG2 := tabs_sb tG ePu (fun ps z => nomatch z) (fun c q z => nomatch z) sb2
        have eL2 := sb2 _ _ nlp eL
        obtain ⟨px2, ePu2⟩ := P2.at_
        refine ⟨2, d, rfl, rfl, p, 2 + d, _, rfl, P2, by omega, by omega, by omega, fun gp bs G3 sb3 P3 ngp LA T bl => ?_⟩
        have tG3 := tabs_sb tG2 ePu2 (fun ps z => nomatch z) (fun c q z => nomatch z) sb3
        have eL3 := sb3 _ _ nlp eL2
        obtain ⟨px3, ePu3⟩ := P3.at_
        refine ⟨_, rfl, p, _, 9, rfl, P3, by omega, by decide, by decide, fun d2 G4 e0 e1 sb4 P4 => ?_⟩
        have tG4 := tabs_sb tG3 ePu3 (fun ps z => nomatch z) (fun c q z => nomatch z) sb4
        have eL4 := sb4 _ _ nlp eL3
        have LA4 := LA.sb P3 sb4
        refine ⟨1, d2, rfl, rfl, three, fun tp htp => ?_⟩
        have s5 := same_new (o := .tup [.int 1, .int 2, .int (1 + d2)]) htp
        have eT5 : (upd G4 tp (.tup [.int 1, .int 2, .int (1 + d2)])) tp = some (.tup [.int 1, .int 2, .int (1 + d2)]) := upd_same
        generalize (upd G4 tp (.tup [.int 1, .int 2, .int (1 + d2)])) = G5 at s5 eT5 ⊢
        have tG5 := tG4.ext s5
        have eL5 := s5 _ _ eL4
        have laX : ∀ {A B : Hp}, ExtN A B → ListAt A gp bs → ListAt B gp bs := fun e h => by
          obtain ⟨xs, e1, lb, lz⟩ := h
          exact ⟨xs, keep e e1, lb.ext e, lz⟩
        have LA5 := laX (ExtN.of s5) LA4
        refine ⟨tp, rfl, ⟨_, SqT.of eT5⟩, fun D hD => ?_⟩
        have up : ∀ {A : Hp} {o : HO}, ExtN G5 A → ExtN G5 (upd A D o) := fun {A o} e b u hb nt => by
          have nb : b ≠ D := fun z => by
            subst z
            rw [hD] at hb
            cases hb
          rw [upd_ne nb]
          exact e b u hb nt
        refine lc_it (walk_tup (xs := [.int 1, .int 2, .int (1 + d2)])) (fun j G => ExtN G5 G ∧ Tabs (TbL Pt) G ∧ G D = some (.lst (List.replicate j (V.bl true)))) ⟨ExtN.of (same_new hD), tG5.ext (same_new hD), upd_same⟩ (fun j G _ q => SqT.of (q.1 _ _ eT5 (fun ps z => nomatch z))) ?_ ?_
        · rintro j x G6 G7 hj ⟨xg, tg, eD⟩ ⟨eq, hx⟩
          subst eq
          have hj3 : j < 3 := hj
          obtain ⟨n, rfl, n1, n2⟩ : ∃ n : Int, x = .int n ∧ 1 ≤ n ∧ n ≤ 9 := by
            match j, hj3, hx with
            | 0, _, hx => exact ⟨1, (Option.some.inj hx).symm, by decide, by decide⟩
            | 1, _, hx => exact ⟨2, (Option.some.inj hx).symm, by decide, by decide⟩
            | 2, _, hx => exact ⟨1 + d2, (Option.some.inj hx).symm, by omega, by omega⟩
          refine ⟨rfl, _, rfl, _, rfl, gp, n, bs, rfl, laX xg LA5, T, by omega, by omega, n1, by omega, tg, fun G8 x8 t8 => ⟨_, keep x8 eD, ?_, up (xg.trans x8), ?_, ?_⟩⟩
          · rw [List.length_replicate, sizeLine_eq]
            omega
          · exact tabs_sb t8 (keep x8 eD) (fun ps z => nomatch z) (fun c q z => nomatch z) (Sb.upd (q := D) (o := .lst (List.replicate j (V.bl true) ++ [V.bl true])) (.inr rfl))
          · rw [upd_same, ← List.replicate_succ']
        · rintro G8 ⟨xg, tg, eD⟩
          refine ⟨D, List.replicate 3 true, rfl, SqL.of (by rw [eD, List.map_replicate]; rfl), true, rfl, itF rfl ?_⟩
          obtain ⟨x1, x2, x3, x4, e5, r1, r2, r3, r4, r5, r6, r7, r8⟩ := P4
          have e' : ((i + 1 : Nat) : Int) = (i : Int) + 1 := rfl
          exact ⟨⟨_, _, rfl⟩, tg, keep xg eL5, ⟨x1, x2, x3, x4, keep xg (s5 _ _ e5), r1, r2, r3, r4, r5, by omega, r7, r8⟩⟩
      · rintro τ G ⟨⟨u2, u3, rfl⟩, tG, eL, PU⟩
        have G0 : Gr (([] : List B).length + 1) [] := ⟨(fun b h => by cases h), (fun i x y h => by cases h), (fun i j x y _ h => by cases h), rfl⟩
        refine ⟨Nat.zero_le _, fun em hem => ?_⟩
        have s1 := same_new (o := .lst []) hem
        refine ⟨em, 3, [], [], rfl, ⟨upd_same, .nil, by decide, G0, by decide⟩, by decide, fun G2 s2 => ?_⟩
        rw [if_neg (show ¬ 0 < (numsB [] 3).length by decide)]
        refine ⟨rfl, _, rfl, itF (by rfl) ?_⟩
        have s12 := s1.trans s2
        refine ⟨Nat.zero_le _, fun em2 hem2 => ?_⟩
        have s3 := same_new (o := .lst []) hem2
        refine ⟨em2, 3, .non, [], [], rfl, ⟨upd_same, .nil, by decide, G0, by decide⟩, by decide, .inl ⟨fun H' s' => .inl ⟨.type "NoneType", .base .non, kit_ty (by decide +kernel)⟩, fun G4 s4 => ⟨false, false, rfl, rfl, _, rfl, itF rfl ?_⟩⟩⟩
        have s14 := s12.trans (s3.trans s4)
        refine ⟨Nat.zero_le _, fun em3 hem3 => ?_⟩
        have s5 := same_new (o := .lst []) hem3
        refine ⟨em3, 3, .int 0, [], [], rfl, ⟨upd_same, .nil, by decide, G0, by decide⟩, by decide, .inr ⟨0, rfl, by decide, fun G6 s6 => ⟨_, false, rfl, rfl, _, rfl, itF (by decide) ?_⟩⟩⟩
        have s16 := s14.trans (s5.trans s6)
        exact ⟨⟨_, _, _, rfl⟩, tG.ext s16, s16 _ _ eL, fun z => nomatch z⟩
    · rintro τ G ⟨⟨u1, u2, u3, rfl⟩, tG, eL, hP⟩
      exact k G
end
end K36
/-! The head, read with the table of steps_run. -/
namespace K36
open PySem PySem.Spec PyProof.Rows L2
def tf : List He.Defn := [("steps_run", none)]
def hkX : PySem.W.Hook := He.hookX 4 fa fn [] tf (fun _ => true)
def obX (s : PySem.W.SharedT) : He.AlX := He.obsX 4 fa fn [] tf (fun _ => true) (HandSHeadRun.getT s)
theorem obX_eq (s : PySem.W.SharedT) : obX s = hkX.obs s.abs := He.obsX_eq fun a => HandSHeadRun.getT_eq s a
theorem runX (w : World) : HandSHeadRun.RunEq R (PySem.W.view R.prog [54]) hkX obX 12000 loose w := by
  intro os
  kernel_rfl
end K36
namespace K36
open PySem PySem.Spec PyProof.Rows L2 LamX
theorem sr_code {K : PySem.W.Frag} {fd : FuncData} (F : FnP K dPStepsRun (He.fAd K ("steps_run", none)) fd) : ∃ c, fd.code = .ref c ∧ He.codeOf K ("steps_run", none) = c := by
  obtain ⟨oc, od, dV, kV, doc, pm, an, cdv, ct, osl, rfl, lk, hcd, _, _⟩ := F.ex
  obtain ⟨c, rfl⟩ := He.codeIn_ref hcd
  exact ⟨c, rfl, He.codeOf_eq lk rfl⟩
theorem facts {w : World} {K : PySem.W.Frag} {h : Heap} {mg : Str → Option Value} {f : Addr} (X : K.In h) (G : h.Ns mainGlobals mg) (hfa : mg ("law" : Str) = some (.ref f)) (c : He.SaysX fa fn [] tf (fun _ => true) w h K) :
    LawAtS PySem.Challenge.rw_shiftfolds_k36_whole_bars w K CX0 12 63 "_law_script" mg f h := by
  have s : He.SaysD fa fn K := c.t.d
  obtain ⟨fd_is_ascending, F_is_ascending⟩ := s.def_ 0 (d := dPIsAscending) rfl
  obtain ⟨fd_is_count, F_is_count⟩ := s.def_ 1 (d := dPIsCount) rfl
  obtain ⟨fd_is_count_from, F_is_count_from⟩ := s.def_ 2 (d := dPIsCountFrom) rfl
  obtain ⟨fd_is_count_tuple, F_is_count_tuple⟩ := s.def_ 3 (d := dPIsCountTuple) rfl
  obtain ⟨fd_is_block, F_is_block⟩ := s.def_ 4 (d := dPIsBlock) rfl
  obtain ⟨fd_is_block_list, F_is_block_list⟩ := s.def_ 5 (d := dPIsBlockList) rfl
  obtain ⟨fd_are_apart, F_are_apart⟩ := s.def_ 6 (d := dPAreApart) rfl
  obtain ⟨fd_is_grouping_of, F_is_grouping_of⟩ := s.def_ 7 (d := dPIsGroupingOf) rfl
  obtain ⟨fd_check_any_grouping, F_check_any_grouping⟩ := s.def_ 8 (d := dPCheckAnyGrouping) rfl
  obtain ⟨fd_mids_of, F_mids_of⟩ := s.def_ 9 (d := dPMidsOf) rfl
  obtain ⟨fd_check_hands, F_check_hands⟩ := s.def_ 10 (d := dPCheckHands) rfl
  obtain ⟨fd_check_run, F_check_run⟩ := s.def_ 11 (d := dPCheckRun) rfl
  obtain ⟨fd_block_parts, F_block_parts⟩ := s.def_ 12 (d := dPBlockParts) rfl
  obtain ⟨fd_parts_at, F_parts_at⟩ := s.def_ 13 (d := dPPartsAt) rfl
  obtain ⟨fd_block_depths, F_block_depths⟩ := s.def_ 14 (d := dPBlockDepths) rfl
  obtain ⟨fd_is_ready, F_is_ready⟩ := s.def_ 15 (d := dPIsReady) rfl
  obtain ⟨fd_schedule, F_schedule⟩ := s.def_ 16 (d := dPSchedule) rfl
  obtain ⟨fd_steps_run, F_steps_run⟩ := s.def_ 17 (d := dPStepsRun) rfl
  obtain ⟨fd_depth_numbers, F_depth_numbers⟩ := s.def_ 18 (d := dPDepthNumbers) rfl
  obtain ⟨fd_steps_by_numbers, F_steps_by_numbers⟩ := s.def_ 19 (d := dPStepsByNumbers) rfl
  obtain ⟨fd_bar_numbers, F_bar_numbers⟩ := s.def_ 20 (d := dPBarNumbers) rfl
  obtain ⟨fd_numbers_of, F_numbers_of⟩ := s.def_ 21 (d := dPNumbersOf) rfl
  obtain ⟨fd_bar_steps, F_bar_steps⟩ := s.def_ 22 (d := dPBarSteps) rfl
  obtain ⟨fd_greatest_bar, F_greatest_bar⟩ := s.def_ 23 (d := dPGreatestBar) rfl
  obtain ⟨fd_is_greatest_bar, F_is_greatest_bar⟩ := s.def_ 24 (d := dPIsGreatestBar) rfl
  obtain ⟨fd_are_losses, F_are_losses⟩ := s.def_ 25 (d := dPAreLosses) rfl
  obtain ⟨fd_check_losses, F_check_losses⟩ := s.def_ 26 (d := dPCheckLosses) rfl
  obtain ⟨fd_run, F_run⟩ := s.def_ 27 (d := dPRun) rfl
  obtain ⟨fd_profile, F_profile⟩ := s.def_ 28 (d := dPProfile) rfl
  obtain ⟨fd_profile_of, F_profile_of⟩ := s.def_ 29 (d := dPProfileOf) rfl
  obtain ⟨fd_steps_of, F_steps_of⟩ := s.def_ 30 (d := dPStepsOf) rfl
  obtain ⟨fd_profile_steps, F_profile_steps⟩ := s.def_ 31 (d := dPProfileSteps) rfl
  obtain ⟨fd__law_purse, F__law_purse⟩ := s.def_ 32 (d := dPurse) rfl
  obtain ⟨fd__law_mixed, F__law_mixed⟩ := s.def_ 33 (d := dMixed) rfl
  obtain ⟨fd__law_draw, F__law_draw⟩ := s.def_ 34 (d := dDraw) rfl
  obtain ⟨fd__law_purses, F__law_purses⟩ := s.def_ 35 (d := dPurses) rfl
  obtain ⟨fd__law_exact, F__law_exact⟩ := s.def_ 36 (d := dExact) rfl
  obtain ⟨fd__law_grown, F__law_grown⟩ := s.def_ 37 (d := dGrown) rfl
  obtain ⟨fd__law_block_depths, F__law_block_depths⟩ := s.def_ 38 (d := dBlockdepths) rfl
  obtain ⟨fd__law_profile, F__law_profile⟩ := s.def_ 39 (d := dProfile) rfl
  obtain ⟨fd__law_bar, F__law_bar⟩ := s.def_ 40 (d := dBar) rfl
  obtain ⟨fd__law_numbers, F__law_numbers⟩ := s.def_ 41 (d := dNumbers) rfl
  obtain ⟨fd__law_right, F__law_right⟩ := s.def_ 42 (d := dRight) rfl
  obtain ⟨fd, F⟩ := s.def_ 43 (d := dLaw) rfl
  have g_is_ascending := He.glo_ok X G (s.fact 0 (f := .glo "is_ascending") rfl)
  have g_is_count := He.glo_ok X G (s.fact 1 (f := .glo "is_count") rfl)
  have g_is_count_from := He.glo_ok X G (s.fact 2 (f := .glo "is_count_from") rfl)
  have g_is_count_tuple := He.glo_ok X G (s.fact 3 (f := .glo "is_count_tuple") rfl)
  have g_is_block := He.glo_ok X G (s.fact 4 (f := .glo "is_block") rfl)
  have g_is_block_list := He.glo_ok X G (s.fact 5 (f := .glo "is_block_list") rfl)
  have g_are_apart := He.glo_ok X G (s.fact 6 (f := .glo "are_apart") rfl)
  have g_is_grouping_of := He.glo_ok X G (s.fact 7 (f := .glo "is_grouping_of") rfl)
  have g_check_any_grouping := He.glo_ok X G (s.fact 8 (f := .glo "check_any_grouping") rfl)
  have g_mids_of := He.glo_ok X G (s.fact 9 (f := .glo "mids_of") rfl)
  have g_check_hands := He.glo_ok X G (s.fact 10 (f := .glo "check_hands") rfl)
  have g_check_run := He.glo_ok X G (s.fact 11 (f := .glo "check_run") rfl)
  have g_block_parts := He.glo_ok X G (s.fact 12 (f := .glo "block_parts") rfl)
  have g_parts_at := He.glo_ok X G (s.fact 13 (f := .glo "parts_at") rfl)
  have g_block_depths := He.glo_ok X G (s.fact 14 (f := .glo "block_depths") rfl)
  have g_is_ready := He.glo_ok X G (s.fact 15 (f := .glo "is_ready") rfl)
  have g_schedule := He.glo_ok X G (s.fact 16 (f := .glo "schedule") rfl)
  have g_steps_run := He.glo_ok X G (s.fact 17 (f := .glo "steps_run") rfl)
  have g_depth_numbers := He.glo_ok X G (s.fact 18 (f := .glo "depth_numbers") rfl)
  have g_steps_by_numbers := He.glo_ok X G (s.fact 19 (f := .glo "steps_by_numbers") rfl)
  have g_bar_numbers := He.glo_ok X G (s.fact 20 (f := .glo "bar_numbers") rfl)
  have g_numbers_of := He.glo_ok X G (s.fact 21 (f := .glo "numbers_of") rfl)
  have g_bar_steps := He.glo_ok X G (s.fact 22 (f := .glo "bar_steps") rfl)
  have g_greatest_bar := He.glo_ok X G (s.fact 23 (f := .glo "greatest_bar") rfl)
  have g_is_greatest_bar := He.glo_ok X G (s.fact 24 (f := .glo "is_greatest_bar") rfl)
  have g_are_losses := He.glo_ok X G (s.fact 25 (f := .glo "are_losses") rfl)
  have g_check_losses := He.glo_ok X G (s.fact 26 (f := .glo "check_losses") rfl)
  have g_run := He.glo_ok X G (s.fact 27 (f := .glo "run") rfl)
  have g_profile := He.glo_ok X G (s.fact 28 (f := .glo "profile") rfl)
  have g_profile_of := He.glo_ok X G (s.fact 29 (f := .glo "profile_of") rfl)
  have g_steps_of := He.glo_ok X G (s.fact 30 (f := .glo "steps_of") rfl)
  have g_profile_steps := He.glo_ok X G (s.fact 31 (f := .glo "profile_steps") rfl)
  have g__law_purse := He.glo_ok X G (s.fact 32 (f := .glo "_law_purse") rfl)
  have g__law_mixed := He.glo_ok X G (s.fact 33 (f := .glo "_law_mixed") rfl)
  have g__law_draw := He.glo_ok X G (s.fact 34 (f := .glo "_law_draw") rfl)
  have g__law_purses := He.glo_ok X G (s.fact 35 (f := .glo "_law_purses") rfl)
  have g__law_exact := He.glo_ok X G (s.fact 36 (f := .glo "_law_exact") rfl)
  have g__law_grown := He.glo_ok X G (s.fact 37 (f := .glo "_law_grown") rfl)
  have g__law_block_depths := He.glo_ok X G (s.fact 38 (f := .glo "_law_block_depths") rfl)
  have g__law_profile := He.glo_ok X G (s.fact 39 (f := .glo "_law_profile") rfl)
  have g__law_bar := He.glo_ok X G (s.fact 40 (f := .glo "_law_bar") rfl)
  have g__law_numbers := He.glo_ok X G (s.fact 41 (f := .glo "_law_numbers") rfl)
  have g__law_right := He.glo_ok X G (s.fact 42 (f := .glo "_law_right") rfl)
  have e := hfa.symm.trans (He.glo_ok X G (s.fact 43 (f := .glo "law") rfl))
  cases e
  have b_all := He.free_ok X G (s.fact 44 (f := .free "all") rfl)
  have b_bool := He.free_ok X G (s.fact 45 (f := .free "bool") rfl)
  have b_dict := He.free_ok X G (s.fact 46 (f := .free "dict") rfl)
  have b_enumerate := He.free_ok X G (s.fact 47 (f := .free "enumerate") rfl)
  have b_int := He.free_ok X G (s.fact 48 (f := .free "int") rfl)
  have b_isinstance := He.free_ok X G (s.fact 49 (f := .free "isinstance") rfl)
  have b_len := He.free_ok X G (s.fact 50 (f := .free "len") rfl)
  have b_list := He.free_ok X G (s.fact 51 (f := .free "list") rfl)
  have b_max := He.free_ok X G (s.fact 52 (f := .free "max") rfl)
  have b_min := He.free_ok X G (s.fact 53 (f := .free "min") rfl)
  have b_range := He.free_ok X G (s.fact 54 (f := .free "range") rfl)
  have b_sorted := He.free_ok X G (s.fact 55 (f := .free "sorted") rfl)
  have b_str := He.free_ok X G (s.fact 56 (f := .free "str") rfl)
  have b_sum := He.free_ok X G (s.fact 57 (f := .free "sum") rfl)
  have b_tuple := He.free_ok X G (s.fact 58 (f := .free "tuple") rfl)
  have b_zip := He.free_ok X G (s.fact 59 (f := .free "zip") rfl)
  obtain ⟨cd, hcd, hco⟩ := sr_code F_steps_run
  have hm : (("steps_run", none) : He.Defn) ∈ tf := List.mem_singleton.mpr rfl
  have ec : (He.cT K ("steps_run", none)).1 = cd := hco
  have h1 := c.hd _ hm
  have h2 := c.out _ hm
  have h3 := c.empty _ hm
  rw [ec] at h1
  generalize (He.cT K ("steps_run", none)).2 = Pt at h1 h2 h3
  have b := FunD.bindsA (ps := ["_law_script"]) F fun _ _ _ _ _ _ us hl => match us, hl with | [_], _ => rfl
  refine ⟨fd, [(cd, Pt)], spLaw K Pt, fun p hp => ?_, fun p hp => ?_, fun p hp => ?_, fun s v => b s [v] rfl, fun H a ns hl _ hT hS => ⟨a, ns, rfl, hS, hl, fun p hp => ?_, fun _ => rfl⟩, fun base _ _ hTB => ?_⟩
  · rw [List.mem_singleton.mp hp]
    exact h3
  · rw [List.mem_singleton.mp hp]
    exact h2
  · rw [List.mem_singleton.mp hp]
    exact PySem.W.codeHd_of_K X h1
  · rw [List.mem_singleton.mp hp]
    exact TabS.nil (hT (cd, Pt) (List.mem_singleton.mpr rfl))
  have TB : TabB base mg cd Pt := hTB (cd, Pt) (List.mem_singleton.mpr rfl)
  have Q_is_ascending := ok_asc (P := (PySem.Challenge.rw_shiftfolds_k36_whole_bars).prog) (w := w) (mg := mg) (base := base) F_is_ascending b_all b_zip
  have Q_is_count := ok_count (P := (PySem.Challenge.rw_shiftfolds_k36_whole_bars).prog) (w := w) (mg := mg) (base := base) F_is_count b_isinstance b_int b_bool
  have Q_is_count_from := ok_countFrom F_is_count_from F_is_count Q_is_count g_is_count
  have Q_is_count_tuple := ok_ct F_is_count_tuple F_is_count Q_is_count g_is_count b_isinstance b_tuple b_len b_all
  have Q_is_block := ok_blk F_is_block F_is_count_tuple Q_is_count_tuple g_is_count_tuple
  have Q_is_block_list := ok_bl F_is_block_list F_is_block Q_is_block g_is_block F_is_ascending Q_is_ascending g_is_ascending b_isinstance b_list b_all
  have Q_are_apart := ok_ap (P := (PySem.Challenge.rw_shiftfolds_k36_whole_bars).prog) (w := w) (mg := mg) (base := base) F_are_apart b_enumerate
  have Q_is_grouping_of := ok_g F_is_grouping_of F_is_block_list Q_is_block_list g_is_block_list F_are_apart Q_are_apart g_are_apart b_len
  have Q_check_any_grouping := ok_ca F_check_any_grouping F_is_grouping_of Q_is_grouping_of g_is_grouping_of b_isinstance b_list b_len
  have Q_mids_of := ok_mid (P := (PySem.Challenge.rw_shiftfolds_k36_whole_bars).prog) (w := w) (mg := mg) (base := base) F_mids_of 
  have Q_check_hands := ok_hnd F_check_hands F_is_count_from Q_is_count_from g_is_count_from
  have Q_check_run := ok_cr F_check_run F_check_any_grouping Q_check_any_grouping g_check_any_grouping F_check_hands Q_check_hands g_check_hands
  have Q_parts_at := ok_pa (P := (PySem.Challenge.rw_shiftfolds_k36_whole_bars).prog) (w := w) (mg := mg) (base := base) F_parts_at 
  have Q_block_parts := ok_bp F_block_parts F_mids_of Q_mids_of g_mids_of F_parts_at Q_parts_at g_parts_at
  have Q_block_depths := ok_bd (P := (PySem.Challenge.rw_shiftfolds_k36_whole_bars).prog) (w := w) (mg := mg) (base := base) F_block_depths b_len
  have Q_is_ready := ok_rd (P := (PySem.Challenge.rw_shiftfolds_k36_whole_bars).prog) (w := w) (mg := mg) (base := base) F_is_ready b_all
  have Q_steps_run := ok_sr F_steps_run hcd TB F_block_parts Q_block_parts g_block_parts F_block_depths Q_block_depths g_block_depths F_is_ready Q_is_ready g_is_ready b_len b_sorted
  have Q_schedule := ok_sch F_schedule F_check_run Q_check_run g_check_run F_steps_run Q_steps_run g_steps_run
  have Q_depth_numbers := ok_dn (P := (PySem.Challenge.rw_shiftfolds_k36_whole_bars).prog) (w := w) (mg := mg) (base := base) F_depth_numbers b_len b_max b_range
  have Q_steps_by_numbers := ok_sb (P := (PySem.Challenge.rw_shiftfolds_k36_whole_bars).prog) (w := w) (mg := mg) (base := base) F_steps_by_numbers b_enumerate
  have Q_bar_numbers := ok_bn F_bar_numbers F_depth_numbers Q_depth_numbers g_depth_numbers F_steps_by_numbers Q_steps_by_numbers g_steps_by_numbers
  have Q_are_losses := ok_al F_are_losses F_is_block_list Q_is_block_list g_is_block_list b_isinstance b_list b_all b_len
  have Q_check_losses := ok_cl F_check_losses F_check_run Q_check_run g_check_run F_are_losses Q_are_losses g_are_losses
  have Q_run := ok_run F_run F_check_losses Q_check_losses g_check_losses F_steps_run Q_steps_run g_steps_run
  have Q_numbers_of := ok_no F_numbers_of F_block_depths Q_block_depths g_block_depths F_bar_numbers Q_bar_numbers g_bar_numbers b_list
  have Q_bar_steps := ok_bst F_bar_steps F_check_run Q_check_run g_check_run F_numbers_of Q_numbers_of g_numbers_of F_is_count Q_is_count g_is_count b_len
  have Q_greatest_bar := ok_gb F_greatest_bar F_check_run Q_check_run g_check_run F_numbers_of Q_numbers_of g_numbers_of b_max
  have Q_is_count := ok_count2 (P := (PySem.Challenge.rw_shiftfolds_k36_whole_bars).prog) (w := w) (mg := mg) (base := base) F_is_count b_isinstance b_int b_bool
  have Q_is_greatest_bar := ok_igb F_is_greatest_bar F_check_run Q_check_run g_check_run F_numbers_of Q_numbers_of g_numbers_of F_is_count Q_is_count g_is_count b_len b_max
  have Q_profile_of := ok_po F_profile_of F_block_depths Q_block_depths g_block_depths F_depth_numbers Q_depth_numbers g_depth_numbers b_list
  have Q_profile := ok_pr F_profile F_check_any_grouping Q_check_any_grouping g_check_any_grouping F_profile_of Q_profile_of g_profile_of
  have Q_profile_steps := ok_ps F_profile_steps F_steps_by_numbers Q_steps_by_numbers g_steps_by_numbers b_max
  have Q_steps_of := ok_so F_steps_of F_check_run Q_check_run g_check_run F_profile_of Q_profile_of g_profile_of F_profile_steps Q_profile_steps g_profile_steps
  have Q__law_purse := ok_purse (P := (PySem.Challenge.rw_shiftfolds_k36_whole_bars).prog) (w := w) (mg := mg) (base := base) F__law_purse b_sum b_int b_max
  have Q__law_draw := ok_draw (P := (PySem.Challenge.rw_shiftfolds_k36_whole_bars).prog) (w := w) (mg := mg) (base := base) F__law_draw F__law_mixed g__law_mixed b_int b_range
  have Q__law_purses := ok_purses F__law_purses Q__law_purse F__law_purse g__law_purse b_range b_max b_min b_len
  have Q__law_exact := ok_ex (P := (PySem.Challenge.rw_shiftfolds_k36_whole_bars).prog) (w := w) (mg := mg) (base := base) F__law_exact g__law_exact b_isinstance b_list b_tuple b_dict b_int b_bool b_all b_len b_zip 7
  have Q__law_grown := ok_grown F__law_grown F__law_draw Q__law_draw g__law_draw b_sorted
  have Q__law_block_depths := ok_lbd (P := (PySem.Challenge.rw_shiftfolds_k36_whole_bars).prog) (w := w) (mg := mg) (base := base) F__law_block_depths b_len
  have Q__law_profile := ok_lpr F__law_profile F__law_block_depths Q__law_block_depths g__law_block_depths b_len b_max b_range b_list
  have Q__law_bar := ok_lbar F__law_bar F__law_block_depths Q__law_block_depths g__law_block_depths b_len b_range b_max
  have Q__law_numbers := ok_lnu F__law_numbers F__law_block_depths Q__law_block_depths g__law_block_depths b_len b_max b_range b_list
  have Q__law_right := ok_rt F__law_right F__law_numbers Q__law_numbers g__law_numbers F_bar_steps Q_bar_steps g_bar_steps F_greatest_bar Q_greatest_bar g_greatest_bar F_is_greatest_bar Q_is_greatest_bar g_is_greatest_bar F_schedule Q_schedule g_schedule F_run Q_run g_run F_steps_of Q_steps_of g_steps_of F__law_bar Q__law_bar g__law_bar F__law_exact Q__law_exact g__law_exact F_profile Q_profile g_profile F__law_profile Q__law_profile g__law_profile b_len b_range b_list b_max b_int b_bool b_isinstance b_str
  exact ok_law F F__law_purses Q__law_purses g__law_purses F__law_draw Q__law_draw g__law_draw F__law_grown Q__law_grown g__law_grown F__law_right Q__law_right g__law_right F_greatest_bar Q_greatest_bar g_greatest_bar F_is_greatest_bar Q_is_greatest_bar g_is_greatest_bar b_range b_all
end K36
open PySem PySem.W PySem.Calls PyProof.Rows
theorem PySem.Challenge.cw_shiftfolds_k36_whole_bars_holds : PySem.Challenge.rw_shiftfolds_k36_whole_bars.Holds := by
  w_on; o_law
  refine HandSHeadRun.head_any (r := OpenLaw.row PySem.Challenge.rw_shiftfolds_k36_whole_bars) (q := view (OpenLaw.row PySem.Challenge.rw_shiftfolds_k36_whole_bars).prog [54]) (H := K36.hkX) (ob := K36.obX) (M := 12000) (loose := K36.loose)
    (d := HandSHeadRun.topDef (OpenLaw.row PySem.Challenge.rw_shiftfolds_k36_whole_bars).prog 54) (kwd := []) K36.obX_eq
    (by kernel_rfl) (fun s => by kernel_rfl) K36.runX (by kernel_rfl) (by kernel_rfl) (by kernel_rfl) (by rfl) (by first | assumption | decide +kernel) (by decide +kernel) ⟨rfl, rfl, rfl, rfl, rfl, by decide +kernel⟩ ?hw ?hc
  case hw => w_witness2
  case hc =>
    refine LamX.walk_ofTsE (l := PySem.Challenge.rw_shiftfolds_k36_whole_bars) (n := 63) (k := 12) (x := "_law_script") (CX := fun _ => L2.CX0) rfl (by decide) (by kernel_rfl) ⟨rfl, by decide, by decide⟩ ?F (fun _ _ _ _ _ z => z)
    intro w mg fa h Y G hmg0
    obtain ⟨K, KX, c⟩ := Y
    have hmg : mg ("law" : PySem.Str) = some (.ref fa) := by
      have e : (HandSHeadRun.topDef (OpenLaw.row PySem.Challenge.rw_shiftfolds_k36_whole_bars).prog 54).name = ("law" : PySem.Str) := by kernel_rfl
      rw [← e]
      exact hmg0
    exact ⟨K, KX, K36.facts KX G hmg c⟩
