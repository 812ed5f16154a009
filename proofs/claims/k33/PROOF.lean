import PyProof.Rows.All
import Wide.All
import OpenK.AllK
import Wide.FinOn
import PySem.Challenge.RW_processturns_k33_whole_names
import HandS.Codes
import HandS.Words
import HandS.Head0
import HandS.Head1
import HandS.Head2
import HandS.HeadEnd
import HandS.HeadHook1
import HandS.HeadHook2
import HandS.HeadHook3
import HandS.HeadHook4
import HandS.HeadWalk
import HandS.Defaults
import HandS.ExcIs
import HandS.ForMost
import HandS.TupAny
import HandS.Flow
import HandS.Style
import HandS.IsInst
import HandS.Deep
import HandS.Conv
import HandS.AnyAll
import HandS.Walk
import KE.GoesEnum
import HandS.ForExc
import HandS.ExcValue
import HandS.FStr
import HandS.Text
import HandS.More
import HandS.CallLocal
import HandS.EndTab
import HandS.GenList
import HandS.SortInts
import HandS.List
import HandS.TupMul
import HandS.SortRule
import HandS.RaiseMore
import HandS.Strs
import HandS.SetFor
set_option Elab.async false
set_option linter.all false
set_option maxRecDepth 100000
set_option maxHeartbeats 0
namespace HD
open PySem PySem.Spec PyProof.Rows L2
def top (i : Nat) : Stmt := PySem.Challenge.pw_processturns_k33_whole_names.main.body.getD i (.Pass ⟨0, 0, 0, 0⟩)
abbrev kNames : List Str := ["first", "last", "order", "rounds", "levels", "aging", "due", "shares"]
def hD (x : Str) (i : Nat) : He.DefD := ⟨(x, none), x, x, defArgs (top i), defBody (top i), defScope (top i), [], []⟩
def tyB (K : PySem.W.Frag) (x : Str) : Bool := match K.lookup (He.ga K x) with
  | some ⟨.type c, none, _, _⟩ => decide (c = "tuple")
  | _ => false
theorem tyB_ok {K : PySem.W.Frag} {x : Str} (h : tyB K x = true) : ∃ o, K.lookup (He.ga K x) = some o ∧ o.cls = .type "tuple" ∧ o.dict = none := by
  unfold tyB at h
  split at h
  · rename_i c d s e
    have h := of_decide_eq_true h
    subst h
    exact ⟨_, e, rfl, rfl⟩
  · cases h
def fn2 : List He.DefD := [hD "is_number" 10, hD "is_row" 11, hD "check_number" 12, hD "_first_word" 15, hD "_is_order" 16, hD "_is_rule" 17, hD "_is_bare" 18, hD "_is_by_order" 19, hD "_is_by_rounds" 20, hD "_is_by_levels" 21, hD "_is_by_age" 22, hD "_is_by_limits" 23, hD "_is_by_weights" 24, hD "is_scheduler" 26, hD "check_scheduler" 27, hD "format_scheduler" 31, hD "_words_of" 32, hD "_words_of_rule" 33, hD "_check_text" 34, hD "_number" 35, hD "_numbers" 36, hD "parse_scheduler" 37, hD "_scheduler_told" 38, hD "_order_told" 39, hD "_law_start" 41, hD "_law_draw" 42, hD "_law_pick" 43, hD "_law_error" 44, hD "_law_order" 45, hD "_law_scheduler" 46, hD "_law_words" 47, hD "_law_parsed" 48, hD "_law_rejected" 49, hD "law" 50]
def fa2 : List He.Fa := [.glo "is_number", .glo "is_row", .glo "check_number", .glo "_first_word", .glo "_is_order", .glo "_is_rule", .glo "_is_bare", .glo "_is_by_order", .glo "_is_by_rounds", .glo "_is_by_levels", .glo "_is_by_age", .glo "_is_by_limits", .glo "_is_by_weights", .glo "is_scheduler", .glo "check_scheduler", .glo "format_scheduler", .glo "_words_of", .glo "_words_of_rule", .glo "_check_text", .glo "_number", .glo "_numbers", .glo "parse_scheduler", .glo "_scheduler_told", .glo "_order_told", .glo "_law_start", .glo "_law_draw", .glo "_law_pick", .glo "_law_error", .glo "_law_order", .glo "_law_scheduler", .glo "_law_words", .glo "_law_parsed", .glo "_law_rejected", .glo "law", .glo "TurnError", .glo "BadProgram", .glo "BadHall", .glo "BadScheduler", .glo "BadNumber", .glo "BadRecord", .glo "BadText", .glo "NotFound", .glo "KINDS", .glo "TAKINGS", .glo "LATES", .free "isinstance", .free "int", .free "bool", .free "tuple", .free "list", .free "str", .free "len", .free "all", .free "any", .free "range", .free "sorted", .free "ValueError", .int "MOST_PROCESSES" 4, .exc "BadText", .exm "BadText" "TurnError" true, .exc "BadNumber", .exm "BadNumber" "TurnError" true]
def tf2 : List He.Defn := [("is_row", none), ("_is_by_levels", none)]
def ts2 : List He.Tab := [(fun K => He.ga K "KINDS", kNames)]
def ex2 (K : PySem.W.Frag) : Bool := (He.tupB K "TAKINGS" [.str "keeping", .str "taking"] && (He.tupB K "LATES" [.str "early", .str "late"] && (tyB K "TAKINGS" && (tyB K "LATES" && (He.eqO (PySem.W.nsIn K (He.ga K "KINDS") "first") (some (some (.ref (He.ga K "_is_bare")))) && (He.eqO (PySem.W.nsIn K (He.ga K "KINDS") "last") (some (some (.ref (He.ga K "_is_bare")))) && (He.eqO (PySem.W.nsIn K (He.ga K "KINDS") "order") (some (some (.ref (He.ga K "_is_by_order")))) && (He.eqO (PySem.W.nsIn K (He.ga K "KINDS") "rounds") (some (some (.ref (He.ga K "_is_by_rounds")))) && (He.eqO (PySem.W.nsIn K (He.ga K "KINDS") "levels") (some (some (.ref (He.ga K "_is_by_levels")))) && (He.eqO (PySem.W.nsIn K (He.ga K "KINDS") "aging") (some (some (.ref (He.ga K "_is_by_age")))) && (He.eqO (PySem.W.nsIn K (He.ga K "KINDS") "due") (some (some (.ref (He.ga K "_is_by_limits")))) && (He.eqO (PySem.W.nsIn K (He.ga K "KINDS") "shares") (some (some (.ref (He.ga K "_is_by_weights")))) && (decide (PySem.W.findIn K (.ref (He.ga K "BadText")) "__getattribute__" = some (some (.builtin "BaseException.__getattribute__"))) && (decide (PySem.W.findIn K (.ref (He.ga K "BadText")) "__getattr__" = some none) && (decide (PySem.W.subIn K (.ref (He.ga K "BadText")) (.type "BaseException") = some true) && (decide (PySem.W.hasDictIn K (He.ga K "BadText") = true) && (decide (PySem.W.findIn K (.ref (He.ga K "BadText")) "__class__" = some (some (.builtin "object.__class__"))) && (decide (PySem.W.specialIn K (.builtin "object.__class__") "__get__" = some (some (.builtin "getset_descriptor.__get__"))) && (decide (PySem.W.takesIn K (.builtin "object.__class__") = some true) && (decide (PySem.W.mroIn K (He.ga K "BadText") (.type "object") = some true) && (decide (PySem.W.kitOne K (.ref (He.ga K "BadText")) (.ref (He.ga K "BadProgram")) = some false) && (decide (PySem.W.kitOne K (.ref (He.ga K "BadText")) (.ref (He.ga K "BadHall")) = some false) && (decide (PySem.W.kitOne K (.ref (He.ga K "BadText")) (.ref (He.ga K "BadScheduler")) = some false) && (decide (PySem.W.kitOne K (.ref (He.ga K "BadText")) (.ref (He.ga K "BadNumber")) = some false) && (decide (PySem.W.kitOne K (.ref (He.ga K "BadText")) (.ref (He.ga K "BadRecord")) = some false) && (decide (PySem.W.kitOne K (.ref (He.ga K "BadText")) (.ref (He.ga K "BadText")) = some true) && (decide (PySem.W.kitOne K (.ref (He.ga K "BadText")) (.ref (He.ga K "NotFound")) = some false) && (decide (PySem.W.kitOne K (.ref (He.ga K "BadText")) (.ref (He.ga K "TurnError")) = some true) && (decide (PySem.W.kitOne K (.ref (He.ga K "BadText")) (.type "ValueError") = some true) && (decide (PySem.W.findIn K (.ref (He.ga K "BadNumber")) "__getattribute__" = some (some (.builtin "BaseException.__getattribute__"))) && (decide (PySem.W.findIn K (.ref (He.ga K "BadNumber")) "__getattr__" = some none) && (decide (PySem.W.subIn K (.ref (He.ga K "BadNumber")) (.type "BaseException") = some true) && (decide (PySem.W.hasDictIn K (He.ga K "BadNumber") = true) && (decide (PySem.W.findIn K (.ref (He.ga K "BadNumber")) "__class__" = some (some (.builtin "object.__class__"))) && (decide (PySem.W.specialIn K (.builtin "object.__class__") "__get__" = some (some (.builtin "getset_descriptor.__get__"))) && (decide (PySem.W.takesIn K (.builtin "object.__class__") = some true) && (decide (PySem.W.mroIn K (He.ga K "BadNumber") (.type "object") = some true) && (decide (PySem.W.kitOne K (.ref (He.ga K "BadNumber")) (.ref (He.ga K "BadProgram")) = some false) && (decide (PySem.W.kitOne K (.ref (He.ga K "BadNumber")) (.ref (He.ga K "BadHall")) = some false) && (decide (PySem.W.kitOne K (.ref (He.ga K "BadNumber")) (.ref (He.ga K "BadScheduler")) = some false) && (decide (PySem.W.kitOne K (.ref (He.ga K "BadNumber")) (.ref (He.ga K "BadNumber")) = some true) && (decide (PySem.W.kitOne K (.ref (He.ga K "BadNumber")) (.ref (He.ga K "BadRecord")) = some false) && (decide (PySem.W.kitOne K (.ref (He.ga K "BadNumber")) (.ref (He.ga K "BadText")) = some false) && (decide (PySem.W.kitOne K (.ref (He.ga K "BadNumber")) (.ref (He.ga K "NotFound")) = some false) && (decide (PySem.W.kitOne K (.ref (He.ga K "BadNumber")) (.ref (He.ga K "TurnError")) = some true) && decide (PySem.W.kitOne K (.ref (He.ga K "BadNumber")) (.type "ValueError") = some true))))))))))))))))))))))))))))))))))))))))))))))
def loose2 : List Str := (["TurnError", "BadProgram", "BadHall", "BadScheduler", "BadNumber", "BadRecord", "BadText", "NotFound", "is_number", "is_row", "check_number", "MOST_PROCESSES", "_first_word", "_is_order", "_is_rule", "_is_bare", "_is_by_order", "_is_by_rounds", "_is_by_levels", "_is_by_age"] : List Str) ++ (["_is_by_limits", "_is_by_weights", "KINDS", "is_scheduler", "check_scheduler", "TAKINGS", "LATES", "format_scheduler", "_words_of", "_words_of_rule", "_check_text", "_number", "_numbers", "parse_scheduler", "_scheduler_told", "_order_told", "_law_start", "_law_draw", "_law_pick", "_law_error"] : List Str) ++ (["_law_order", "_law_scheduler", "_law_words", "_law_parsed", "_law_rejected"] : List Str)
abbrev R2w : PySem.W.OpenRow := PySem.W.OpenLaw.row PySem.Challenge.rw_processturns_k33_whole_names
abbrev hk2 : PySem.W.Hook := He.hookX 4 fa2 fn2 ts2 tf2 ex2
def ob2 (s : PySem.W.SharedT) : He.AlX := He.obsX 4 fa2 fn2 ts2 tf2 ex2 (HandSHeadRun.getT s)
theorem ob2_eq (s : PySem.W.SharedT) : ob2 s = hk2.obs s.abs := He.obsX_eq (HandSHeadRun.getT_eq s)
end HD
/-! The head's one run in four looks, so that none of them takes more memory than there is. -/
noncomputable section
namespace HR
open PySem PySem.W PySem.Calls PyProof.Rows HandSHeadRun
/-- the state behind the top -/
def endR (r : OpenRow) (M : Nat) (w : World) (os : OsState) : Option SharedT := endF (stepQ (denQ tabQ) r.prog w) M r.prog w os
def KX (n : Nat) (g : Addr → Option Obj) : PySem.W.Frag := He.frT g (He.asD g n)
def lookA (r : OpenRow) (w : World) (s : SharedT) : Bool := looksF r.prog (boot_heap w.params) s.abs
def lookB (r : OpenRow) (q : Program) (loose : List Str) (s : SharedT) := seenQ q loose (importedModules r.prog.main.body) (fun s => xlAt q [] s && recOk r.toRowW.records s) s.abs
def obA (fa : List He.Fa) (ts : List He.Tab) (tf : List He.Defn) (ex : PySem.W.Frag → Bool) (g : Addr → Option Obj) (K : PySem.W.Frag) : (Bool × Bool) × List (Option (List (Option (Str × Int)))) := ((fa.all fun f => f.ok K, ex K && He.tabsB g tf K), ts.map fun t => He.dicW K (t.1 K))
def obB (fn : List He.DefD) (K : PySem.W.Frag) : He.AlD := (fn.all fun d => d.ok K, fn.map fun d => He.fnW K d.at_)
def lookC (n : Nat) (fa : List He.Fa) (ts : List He.Tab) (tf : List He.Defn) (ex : PySem.W.Frag → Bool) (s : SharedT) := obA fa ts tf ex (getT s) (KX n (getT s))
def lookD (n : Nat) (fn : List He.DefD) (s : SharedT) := obB fn (KX n (getT s))
theorem two {α β γ : Type} {o : Option α} {f : α → β} {g : α → γ} {b : β} {c : γ} (h : o.map f = some b) (k : o.map g = some c) : o.map (fun s => (f s, g s)) = some (b, c) := by
  cases o with
  | none => cases h
  | some s =>
    have h2 := Option.some.inj h
    have k2 := Option.some.inj k
    show some (f s, g s) = some (b, c)
    rw [h2, k2]
theorem runEq {r : OpenRow} {q : Program} {n : Nat} {fa : List He.Fa} {fn fn1 fn2 : List He.DefD} {ts : List He.Tab} {tf : List He.Defn} {ex : PySem.W.Frag → Bool} {M : Nat} {loose : List Str} {w : World}
    (e : fn = fn1 ++ fn2)
    (a : ∀ os, (endR r M w os).map (lookA r w) = some true)
    (b : ∀ os, (endR r M w os).map (lookB r q loose) = some (openGood q loose))
    (c : ∀ os, (endR r M w os).map (lookC n fa ts tf ex) = some ((true, true), ts.map fun t => some (He.keysIn w.params t.2)))
    (d1 : ∀ os, (endR r M w os).map (lookD n fn1) = some (true, fn1.map He.DefD.val))
    (d2 : ∀ os, (endR r M w os).map (lookD n fn2) = some (true, fn2.map He.DefD.val)) :
    RunEq r q (He.hookX n fa fn ts tf ex) (fun s => He.obsX n fa fn ts tf ex (getT s)) M loose w := by
  intro os
  have A := a os
  have B := b os
  have C := c os
  have D1 := d1 os
  have D2 := d2 os
  show (endR r M w os).map _ = _
  cases z : endR r M w os with
  | none =>
    rw [z] at A
    cases A
  | some s =>
    rw [z] at A B C D1 D2
    have A2 : looksF r.prog (boot_heap w.params) s.abs = true := Option.some.inj A
    have B2 : seenQ q loose (importedModules r.prog.main.body) (fun s => xlAt q [] s && recOk r.toRowW.records s) s.abs = openGood q loose := Option.some.inj B
    have C2 : obA fa ts tf ex (getT s) (KX n (getT s)) = ((true, true), ts.map fun t => some (He.keysIn w.params t.2)) := Option.some.inj C
    have D3 : obB fn1 (KX n (getT s)) = (true, fn1.map He.DefD.val) := Option.some.inj D1
    have D4 : obB fn2 (KX n (getT s)) = (true, fn2.map He.DefD.val) := Option.some.inj D2
    have c1 : (fa.all fun f => f.ok (KX n (getT s))) = true := congrArg (fun z => z.1.1) C2
    have c2 : (ex (KX n (getT s)) && He.tabsB (getT s) tf (KX n (getT s))) = true := congrArg (fun z => z.1.2) C2
    have c3 : (ts.map fun t => He.dicW (KX n (getT s)) (t.1 (KX n (getT s)))) = ts.map fun t => some (He.keysIn w.params t.2) := congrArg (fun z => z.2) C2
    have e1 : (fn1.all fun d => d.ok (KX n (getT s))) = true := congrArg (fun z : He.AlD => z.1) D3
    have e2 : (fn1.map fun d => He.fnW (KX n (getT s)) d.at_) = fn1.map He.DefD.val := congrArg (fun z : He.AlD => z.2) D3
    have e3 : (fn2.all fun d => d.ok (KX n (getT s))) = true := congrArg (fun z : He.AlD => z.1) D4
    have e4 : (fn2.map fun d => He.fnW (KX n (getT s)) d.at_) = fn2.map He.DefD.val := congrArg (fun z : He.AlD => z.2) D4
    have f1 : (fn.all fun d => d.ok (KX n (getT s))) = true := by rw [e, List.all_append, e1, e3]; rfl
    have f2 : (fn.map fun d => He.fnW (KX n (getT s)) d.at_) = fn.map He.DefD.val := by rw [e, List.map_append, e2, e4, List.map_append]
    show some (looksF r.prog (boot_heap w.params) s.abs, seenQ q loose (importedModules r.prog.main.body) (fun s => xlAt q [] s && recOk r.toRowW.records s) s.abs, He.obsX n fa fn ts tf ex (getT s)) = some (true, openGood q loose, He.valX fn ts w)
    have o : He.obsX n fa fn ts tf ex (getT s) = He.valX fn ts w := by
      show ((((fa.all fun f => f.ok (KX n (getT s))) && fn.all fun d => d.ok (KX n (getT s)), fn.map fun d => He.fnW (KX n (getT s)) d.at_), ts.map fun t => He.dicW (KX n (getT s)) (t.1 (KX n (getT s)))), (ex (KX n (getT s)) && He.tabsB (getT s) tf (KX n (getT s)))) = (((true, fn.map He.DefD.val), ts.map fun t => some (He.keysIn w.params t.2)), true)
      rw [c1, c2, c3, f1, f2]
      rfl
    rw [A2, B2, o]
end HR
namespace HD
open PySem PySem.W PySem.Calls PyProof.Rows
def fnA : List He.DefD := fn2.take 17
def fnB : List He.DefD := fn2.drop 17
abbrev wA (w : World) (b : Bool) : World := w.withFollow "special-get-raises" b
theorem ra_f (w : World) (os : OsState) : (HR.endR R2w 8000 (wA w false) os).map (HR.lookA R2w (wA w false)) = some true := by kernel_rfl
theorem ra_t (w : World) (os : OsState) : (HR.endR R2w 8000 (wA w true) os).map (HR.lookA R2w (wA w true)) = some true := by kernel_rfl
theorem rb_f (w : World) (os : OsState) : (HR.endR R2w 8000 (wA w false) os).map (HR.lookB R2w (PySem.W.view R2w.prog [50]) loose2) = some (openGood (PySem.W.view R2w.prog [50]) loose2) := by kernel_rfl
theorem rb_t (w : World) (os : OsState) : (HR.endR R2w 8000 (wA w true) os).map (HR.lookB R2w (PySem.W.view R2w.prog [50]) loose2) = some (openGood (PySem.W.view R2w.prog [50]) loose2) := by kernel_rfl
theorem rc_f (w : World) (os : OsState) : (HR.endR R2w 8000 (wA w false) os).map (HR.lookC 4 fa2 ts2 tf2 ex2) = some ((true, true), ts2.map fun t => some (He.keysIn (wA w false).params t.2)) := by kernel_rfl
theorem rc_t (w : World) (os : OsState) : (HR.endR R2w 8000 (wA w true) os).map (HR.lookC 4 fa2 ts2 tf2 ex2) = some ((true, true), ts2.map fun t => some (He.keysIn (wA w true).params t.2)) := by kernel_rfl
theorem rd_f (w : World) (os : OsState) : (HR.endR R2w 8000 (wA w false) os).map (HR.lookD 4 fnA) = some (true, fnA.map He.DefD.val) := by kernel_rfl
theorem rd_t (w : World) (os : OsState) : (HR.endR R2w 8000 (wA w true) os).map (HR.lookD 4 fnA) = some (true, fnA.map He.DefD.val) := by kernel_rfl
theorem re_f (w : World) (os : OsState) : (HR.endR R2w 8000 (wA w false) os).map (HR.lookD 4 fnB) = some (true, fnB.map He.DefD.val) := by kernel_rfl
theorem re_t (w : World) (os : OsState) : (HR.endR R2w 8000 (wA w true) os).map (HR.lookD 4 fnB) = some (true, fnB.map He.DefD.val) := by kernel_rfl
theorem run2 (w : World) : HandSHeadRun.RunEq R2w (PySem.W.view R2w.prog [50]) hk2 ob2 8000 loose2 w :=
  byRow2 "special-get-raises" (P := fun w => HandSHeadRun.RunEq R2w (PySem.W.view R2w.prog [50]) hk2 ob2 8000 loose2 w)
    (fun w => HR.runEq (fn1 := fnA) (fn2 := fnB) rfl (ra_f w) (rb_f w) (rc_f w) (rd_f w) (re_f w))
    (fun w => HR.runEq (fn1 := fnA) (fn2 := fnB) rfl (ra_t w) (rb_t w) (rc_t w) (rd_t w) (re_t w)) w
end HD
/-! data in the heap: what keeps it, what a pure def promises -/
namespace DA
open PySem PySem.Spec PyProof.Rows L2
abbrev PD := PyData

/-! ### heaps that keep all but tables -/
def Tabs (T : List Addr) (H : Hp) : Prop := ∀ P ∈ T, GxR.TabG H P
structure Keep (T : List Addr) (H H' : Hp) : Prop where
  at_ : ∀ b o, H b = some o → b ∉ T → H' b = some o
  tab : ∀ P ∈ T, GxR.TabG H P → GxR.TabG H' P
theorem Keep.refl {T : List Addr} {H : Hp} : Keep T H H := ⟨fun _ _ e _ => e, fun _ _ e => e⟩
theorem Keep.trans {T : List Addr} {H H1 H2 : Hp} (a : Keep T H H1) (b : Keep T H1 H2) : Keep T H H2 := ⟨fun c o e n => b.at_ c o (a.at_ c o e n) n, fun P hP t => b.tab P hP (a.tab P hP t)⟩
theorem Keep.tabs {T : List Addr} {H H1 : Hp} (a : Keep T H H1) (t : Tabs T H) : Tabs T H1 := fun P hP => a.tab P hP (t P hP)
theorem Keep.same {T : List Addr} {H H1 : Hp} (s : Same H H1) : Keep T H H1 := ⟨fun b o e _ => s b o e, fun P _ ⟨ps, e, ok⟩ => ⟨ps, s _ _ e, ok⟩⟩
theorem same_new {H : Hp} {p : Addr} {o : HO} (h : H p = none) : Same H (upd H p o) := fun b x e => by
  rw [upd_ne (ne_of_none e h)]
  exact e
theorem Keep.new {T : List Addr} {H : Hp} {p : Addr} {o : HO} (h : H p = none) : Keep T H (upd H p o) := .same (same_new h)
/-- an object that is none of the first heap's is written -/
theorem Keep.own {T : List Addr} {H H1 : Hp} {p : Addr} {o : HO} (k : Keep T H H1) (t : Tabs T H) (h : H p = none) : Keep T H (upd H1 p o) := by
  have nT : p ∉ T := fun m => by
    obtain ⟨ps, e, _⟩ := t p m
    rw [h] at e; cases e
  refine ⟨fun b x e n => ?_, fun P hP tb => ?_⟩
  · rw [upd_ne (ne_of_none e h)]
    exact k.at_ b x e n
  · obtain ⟨ps, e, ok⟩ := k.tab P hP tb
    refine ⟨ps, ?_, ok⟩
    rw [upd_ne (fun z => nT (by rw [← z]; exact hP))]
    exact e
theorem Keep.tabbed {T : List Addr} {P : Addr} {H H1 : Hp} (hP : P ∈ T) (t : GxR.Tabbed P H H1) : Keep T H H1 := by
  refine ⟨fun b o e n => ?_, fun R hR tb => ?_⟩
  · rw [t.2 b (fun z => n (by rw [z]; exact hP))]
    exact e
  · by_cases z : R = P
    · rw [z]; exact t.1
    · obtain ⟨ps, e, ok⟩ := tb
      exact ⟨ps, by rw [t.2 R z]; exact e, ok⟩
theorem nT_of {T : List Addr} {H : Hp} {a : Addr} {o : HO} (t : Tabs T H) (e : H a = some o) (hn : ∀ ps, o ≠ .tbl ps) : a ∉ T := fun m => by
  obtain ⟨ps, e', _⟩ := t a m
  rw [e] at e'
  exact hn ps (Option.some.inj e')
theorem Keep.free {T : List Addr} {H H1 : Hp} (k : Keep T H H1) (t : Tabs T H) {p : Addr} (h : H1 p = none) : H p = none := by
  cases e : H p with
  | none => rfl
  | some o =>
    by_cases m : p ∈ T
    · obtain ⟨ps, e', _⟩ := k.tabs t p m
      rw [h] at e'; cases e'
    · have := k.at_ p o e m
      rw [h] at this; cases this
section
variable {K : PySem.W.Frag} {T : List Addr} {H H1 : Hp}
theorem Keep.sqL {a : Addr} {xs : List V} (k : Keep T H H1) (t : Tabs T H) (h : SqL K H a xs) : SqL K H1 a xs := by
  rcases h with (h | ⟨o, h⟩) | h
  · exact .inl (.inl (k.at_ _ _ h (nT_of t h fun ps z => by cases z)))
  · exact .inl (.inr ⟨o, k.at_ _ _ h (nT_of t h fun ps z => by cases z)⟩)
  · exact .inr h
theorem Keep.sqT {a : Addr} {xs : List V} (k : Keep T H H1) (t : Tabs T H) (h : SqT K H a xs) : SqT K H1 a xs := by
  rcases h with (h | ⟨o, h⟩) | h
  · exact .inl (.inl (k.at_ _ _ h (nT_of t h fun ps z => by cases z)))
  · exact .inl (.inr ⟨o, k.at_ _ _ h (nT_of t h fun ps z => by cases z)⟩)
  · exact .inr h
theorem Keep.lst {a : Addr} {xs : List V} (k : Keep T H H1) (t : Tabs T H) (h : H a = some (.lst xs)) : H1 a = some (.lst xs) := k.at_ _ _ h (nT_of t h fun ps z => by cases z)
mutual
theorem dp_keep (k : Keep T H H1) (t : Tabs T H) : ∀ {d : PD} {v : V}, Dp K H v d → Dp K H1 v d
  | _, _, .non => .non
  | _, _, .bl b => .bl b
  | _, _, .int i => .int i
  | _, _, .str x => .str x
  | _, _, .lst h a => .lst (k.sqL t h) (dps_keep k t a)
  | _, _, .tup h a => .tup (k.sqT t h) (dps_keep k t a)
theorem dps_keep (k : Keep T H H1) (t : Tabs T H) : ∀ {ds : List PD} {vs : List V}, DpAll K H vs ds → DpAll K H1 vs ds
  | _, _, .nil => .nil
  | _, _, .cons a r => .cons (dp_keep k t a) (dps_keep k t r)
end
theorem dp_bool {v : V} {b : Bool} (h : Dp K H v (.bool b)) : v = .bl b := by cases h; rfl
theorem dp_int {v : V} {b : Int} (h : Dp K H v (.int b)) : v = .int b := by cases h; rfl
theorem dp_str {v : V} {b : Str} (h : Dp K H v (.str b)) : v = .str b := by cases h; rfl
theorem dp_none {v : V} (h : Dp K H v .none) : v = .non := by cases h; rfl
theorem dp_list {v : V} {ds : List PD} (h : Dp K H v (.list ds)) : ∃ a xs, v = .ref a ∧ SqL K H a xs ∧ DpAll K H xs ds := by
  cases h with
  | lst h a => exact ⟨_, _, rfl, h, a⟩
theorem dp_tup {v : V} {ds : List PD} (h : Dp K H v (.tuple ds)) : ∃ a xs, v = .ref a ∧ SqT K H a xs ∧ DpAll K H xs ds := by
  cases h with
  | tup h a => exact ⟨_, _, rfl, h, a⟩
theorem dps_len : ∀ {xs : List V} {ds : List PD}, DpAll K H xs ds → xs.length = ds.length
  | _, _, .nil => rfl
  | _, _, .cons _ r => by rw [List.length_cons, List.length_cons, dps_len r]
theorem dps_get : ∀ {xs : List V} {ds : List PD} {i : Nat} {d : PD}, DpAll K H xs ds → ds[i]? = some d → ∃ x, xs[i]? = some x ∧ Dp K H x d
  | _, _, _, _, .nil, e => by simp at e
  | _, _, 0, _, .cons a _, e => by simp at e; subst e; exact ⟨_, rfl, a⟩
  | _, _, i + 1, d, .cons _ r, e => by
    obtain ⟨x, h1, h2⟩ := dps_get (i := i) (d := d) r (by simpa using e)
    exact ⟨x, by simpa using h1, h2⟩
theorem dps_at : ∀ {xs : List V} {ds : List PD} {i : Nat} {x : V}, DpAll K H xs ds → xs[i]? = some x → ∃ d, ds[i]? = some d ∧ Dp K H x d
  | _, _, _, _, .nil, e => by simp at e
  | _, _, 0, _, .cons a _, e => by simp at e; subst e; exact ⟨_, rfl, a⟩
  | _, _, i + 1, d, .cons _ r, e => by
    obtain ⟨x, h1, h2⟩ := dps_at (i := i) (x := d) r (by simpa using e)
    exact ⟨x, by simpa using h1, h2⟩
theorem dps_append : ∀ {xs ys : List V} {ds es : List PD}, DpAll K H xs ds → DpAll K H ys es → DpAll K H (xs ++ ys) (ds ++ es)
  | _, _, _, _, .nil, b => b
  | _, _, _, _, .cons a r, b => .cons a (dps_append r b)
theorem dps_set : ∀ {xs : List V} {ds : List PD} (i : Nat) {x : V} {d : PD}, DpAll K H xs ds → Dp K H x d → DpAll K H (xs.set i x) (ds.set i d)
  | _, _, _, _, _, .nil, _ => .nil
  | _, _, 0, _, _, .cons _ r, a => .cons a r
  | _, _, i + 1, _, _, .cons a r, b => .cons a (dps_set i r b)
theorem dps_take : ∀ {xs : List V} {ds : List PD} (n : Nat), DpAll K H xs ds → DpAll K H (xs.take n) (ds.take n)
  | _, _, 0, _ => .nil
  | _, _, _ + 1, .nil => .nil
  | _, _, n + 1, .cons a r => .cons a (dps_take n r)
theorem dps_drop : ∀ {xs : List V} {ds : List PD} (n : Nat), DpAll K H xs ds → DpAll K H (xs.drop n) (ds.drop n)
  | _, _, 0, r => r
  | _, _, _ + 1, .nil => .nil
  | _, _, n + 1, .cons _ r => dps_drop n r
theorem dps_ints : ∀ (ns : List Int), DpAll K H (ns.map V.int) (ns.map PyData.int)
  | [] => .nil
  | n :: ns => .cons (.int n) (dps_ints ns)
theorem dps_ints_inv : ∀ {ns : List Int} {xs : List V}, DpAll K H xs (ns.map PyData.int) → xs = ns.map V.int
  | [], _, .nil => rfl
  | n :: ns, _, .cons a r => by rw [dp_int a, dps_ints_inv r]; rfl
theorem dps_of {f : PD → V} : ∀ {ds : List PD}, (∀ d ∈ ds, Dp K H (f d) d) → DpAll K H (ds.map f) ds
  | [], _ => .nil
  | d :: ds, h => .cons (h d List.mem_cons_self) (dps_of fun e he => h e (List.mem_cons_of_mem _ he))
end

/-! ### a pure def over data -/
def spF (K : PySem.W.Frag) (T : List Addr) (ok : List PD → Prop) (F : List PD → PD) : Sp := fun vs H Q _ => ∃ ds, DpAll K H vs ds ∧ ok ds ∧ Tabs T H ∧ ∀ v H', Dp K H' v (F ds) → Keep T H H' → Q v H'

/-! ### isinstance -/
def clsD : PD → String
  | .none => "NoneType" | .bool _ => "bool" | .int _ => "int" | .str _ => "str" | .list _ => "list" | .tuple _ => "tuple" | .dict _ => "dict"
theorem dp_ty {K : PySem.W.Frag} {H : Hp} {v : V} {d : PD} (h : Dp K H v d) : TyX K H v (.type (clsD d)) := by
  cases h with
  | non => exact .base .non
  | bl b => exact .base (.bl b)
  | int i => exact .base (.int i)
  | str x => exact .base (.str x)
  | lst h a =>
    rcases h with (h | ⟨o, h⟩) | ⟨o, its, n, e, c, _⟩
    · exact .base (.lst h)
    · exact .base (.frz h)
    · exact .kList e c
  | tup h a =>
    rcases h with (h | ⟨o, h⟩) | ⟨o, its, n, e, c, _⟩
    · exact .base (.tup h)
    · exact .fTuple h
    · exact .kTuple e c
def isInt : PD → Bool | .int _ => true | .bool _ => true | _ => false
def isBool : PD → Bool | .bool _ => true | _ => false
def isTup : PD → Bool | .tuple _ => true | _ => false
def isList : PD → Bool | .list _ => true | _ => false
def isStr : PD → Bool | .str _ => true | _ => false
theorem kit_int {K : PySem.W.Frag} {H : Hp} {v : V} {d : PD} (h : Dp K H v d) : PySem.W.kitOne K (.type (clsD d)) (.type "int") = some (isInt d) := by
  cases h <;> (simp only [clsD, isInt]; exact kit_ty (by decide +kernel))
theorem kit_bool {K : PySem.W.Frag} {H : Hp} {v : V} {d : PD} (h : Dp K H v d) : PySem.W.kitOne K (.type (clsD d)) (.type "bool") = some (isBool d) := by
  cases h <;> (simp only [clsD, isBool]; exact kit_ty (by decide +kernel))
theorem kit_tup {K : PySem.W.Frag} {H : Hp} {v : V} {d : PD} (h : Dp K H v d) : PySem.W.kitOne K (.type (clsD d)) (.type "tuple") = some (isTup d) := by
  cases h <;> (simp only [clsD, isTup]; exact kit_ty (by decide +kernel))
theorem kit_list {K : PySem.W.Frag} {H : Hp} {v : V} {d : PD} (h : Dp K H v d) : PySem.W.kitOne K (.type (clsD d)) (.type "list") = some (isList d) := by
  cases h <;> (simp only [clsD, isList]; exact kit_ty (by decide +kernel))
theorem kit_str {K : PySem.W.Frag} {H : Hp} {v : V} {d : PD} (h : Dp K H v d) : PySem.W.kitOne K (.type (clsD d)) (.type "str") = some (isStr d) := by
  cases h <;> (simp only [clsD, isStr]; exact kit_ty (by decide +kernel))

/-! ### a def whose code object is known -/
structure FunC (K : PySem.W.Frag) (x qual : Str) (st : Stmt) (f : Addr) (fd : FuncData) (c : Addr) : Prop where
  ex : ∃ (oc : Value) (od : Option Addr) (kV doc pm : Value) (an : Option Addr) (ct : Value) (osl : Array (Option Value)),
    fd = PySem.W.fnOf x qual (defArgs st) (defBody st) (defScope st) .none kV doc pm an (.ref c) ct ∧ K.lookup f = some ⟨oc, od, .func fd, osl⟩ ∧ PySem.W.codeIn K (.ref c) qual = true
  kp : PySem.W.keepIn K (.ref f) = true
theorem FunC.fun {K : PySem.W.Frag} {x qual : Str} {st : Stmt} {f : Addr} {fd : FuncData} {c : Addr} (F : FunC K x qual st f fd c) : Fun K x qual st f fd := by
  obtain ⟨oc, od, kV, doc, pm, an, ct, osl, h⟩ := F.ex
  exact ⟨⟨oc, od, kV, doc, pm, an, .ref c, ct, osl, h⟩, F.kp⟩
theorem FunC.ok {P : Program} {w : World} {K : PySem.W.Frag} {mg : Str → Option Value} {base : Heap} {x qual : Str} {st : Stmt} {f : Addr} {fd : FuncData} {c : Addr} {N ps : List Str} {k : Nat} {sp : Sp} (F : FunC K x qual st f fd c) (S : FnScope N ps (defScope st)) (len : ∀ vs H Q E, sp vs H Q E → vs.length = ps.length)
    (hbody : ∀ (A : Around) (outer : List Env) (s : Shared) (H : Hp) (vs : List V) (Q : VK) (E : XK), Room k (A.deeper (envOfC qual (defScope st) s.heap.objs.size f (.ref c))) → sp vs H Q E →
      ∃ t, PSs (cxOf CX0 P w K mg base N qual (defScope st) f (.ref c) A outer s H E).nox (defBody st) t ∧ t { nx := fun _ H' => Q .non H', rt := Q } (start N vs) H) : FnOk P w K mg base CX0 (k + 1) f fd ps sp := by
  obtain ⟨oc, od, kV, doc, pm, an, ct, osl, rfl, lk, hcd⟩ := F.ex
  refine fn_of lk hcd S len fun A outer s H vs Q E hr hsp => ?_
  obtain ⟨t, h, q⟩ := hbody A outer s H vs Q E hr hsp
  exact ⟨t, h.nox, q⟩
end DA
/-! data in slots: what expressions and statements do to plain data, own lists, and objects that stand still -/
namespace DL
open PySem PySem.Spec PyProof.Rows L2 DA

/-! ### a heap without some addresses -/
def hid (M : List Addr) (H : Hp) : Hp := fun b => if b ∈ M then none else H b
theorem hid_of {M : List Addr} {H : Hp} {b : Addr} {o : HO} (n : b ∉ M) (h : H b = some o) : hid M H b = some o := by
  unfold hid
  rw [if_neg n]
  exact h
theorem hid_inv {M : List Addr} {H : Hp} {b : Addr} {o : HO} (h : hid M H b = some o) : b ∉ M ∧ H b = some o := by
  unfold hid at h
  split at h
  · cases h
  · next n => exact ⟨n, h⟩
theorem hid_same {M : List Addr} {H : Hp} : Same (hid M H) H := fun b o h => (hid_inv h).2
theorem hid_sub {M N : List Addr} {H : Hp} (s : ∀ a ∈ M, a ∈ N) : Same (hid N H) (hid M H) := fun b o h => by
  obtain ⟨n, e⟩ := hid_inv h
  exact hid_of (fun m => n (s b m)) e
theorem hid_nil {H : Hp} : hid [] H = H := by
  funext b
  unfold hid
  rw [if_neg (by simp)]
theorem hid_keep {T M : List Addr} {H H' : Hp} (k : Keep T H H') : Keep T (hid M H) (hid M H') := by
  refine ⟨fun b o e n => ?_, fun P hP tb => ?_⟩
  · obtain ⟨m, e⟩ := hid_inv e
    exact hid_of m (k.at_ b o e n)
  · obtain ⟨ps, e, ok⟩ := tb
    obtain ⟨m, e⟩ := hid_inv e
    obtain ⟨ps', e', ok'⟩ := k.tab P hP ⟨ps, e, ok⟩
    exact ⟨ps', hid_of m e', ok'⟩
theorem hid_in {M : List Addr} {H : Hp} {a : Addr} {o : HO} (h : a ∈ M) : hid M (upd H a o) = hid M H := by
  funext b
  unfold hid
  split
  · rfl
  · next n => rw [upd_ne (fun z => n (by rw [z]; exact h))]
theorem hid_new {M : List Addr} {H : Hp} {p : Addr} {o : HO} (h : H p = none) : hid (p :: M) (upd H p o) = hid M H := by
  funext b
  unfold hid
  by_cases z : b = p
  · subst z
    rw [if_pos List.mem_cons_self, h]
    split <;> rfl
  · by_cases m : b ∈ M
    · rw [if_pos (List.mem_cons_of_mem _ m), if_pos m]
    · rw [if_neg (fun q => (List.mem_cons.mp q).elim z m), if_neg m, upd_ne z]
theorem dp_same {K : PySem.W.Frag} {H H1 : Hp} {v : V} {d : PD} (s : Same H H1) (h : Dp K H v d) : Dp K H1 v d := dp_keep (T := []) (.same s) (fun _ z => nomatch z) h
theorem dps_same {K : PySem.W.Frag} {H H1 : Hp} {vs : List V} {ds : List PD} (s : Same H H1) (h : DpAll K H vs ds) : DpAll K H1 vs ds := dps_keep (T := []) (.same s) (fun _ z => nomatch z) h

/-! ### what stands in a slot -/
inductive DS where
  | non | dat (d : PD) | own (ds : List PD) | ob (C : Addr) (fs : List (Str × PD)) | raw (w : V)
abbrev DEnv := List DS
inductive FsD (K : PySem.W.Frag) (H : Hp) : List (Str × V) → List (Str × PD) → Prop where
  | nil : FsD K H [] []
  | cons {f : Str} {v : V} {d : PD} {vs ds} : Dp K H v d → FsD K H vs ds → FsD K H ((f, v) :: vs) ((f, d) :: ds)
def ObD (K : PySem.W.Frag) (H : Hp) (v : V) (C : Addr) (fs : List (Str × PD)) : Prop := ∃ p dx xs, v = .ref p ∧ H p = some (.ins C dx xs) ∧ FsD K H xs fs
theorem FsD.look {K : PySem.W.Frag} {H : Hp} : ∀ {xs : List (Str × V)} {fs : List (Str × PD)} {f : Str} {d : PD}, FsD K H xs fs → fs.lookup f = some d → ∃ v, xs.lookup f = some v ∧ Dp K H v d
  | _, _, f, d, .nil, h => by cases h
  | _, _, f, d, .cons (f := g) (v := w) (vs := ws) a r, h => by
    rw [List.lookup_cons] at h ⊢
    cases e : f == g with
    | true => rw [e] at h; cases h; exact ⟨_, rfl, a⟩
    | false => rw [e] at h; exact r.look h
theorem FsD.none {K : PySem.W.Frag} {H : Hp} : ∀ {xs : List (Str × V)} {fs : List (Str × PD)} {f : Str}, FsD K H xs fs → fs.lookup f = none → xs.lookup f = none
  | _, _, f, .nil, h => rfl
  | _, _, f, .cons (f := g) a r, h => by
    rw [List.lookup_cons] at h ⊢
    cases e : f == g with
    | true => rw [e] at h; cases h
    | false => rw [e] at h; exact r.none h
theorem FsD.keep {K : PySem.W.Frag} {T : List Addr} {H H1 : Hp} (k : Keep T H H1) (t : Tabs T H) : ∀ {xs : List (Str × V)} {fs : List (Str × PD)}, FsD K H xs fs → FsD K H1 xs fs
  | _, _, .nil => .nil
  | _, _, .cons a r => .cons (dp_keep k t a) (r.keep k t)
theorem ObD.keep {K : PySem.W.Frag} {T : List Addr} {H H1 : Hp} {v : V} {C : Addr} {fs : List (Str × PD)} (k : Keep T H H1) (t : Tabs T H) (h : ObD K H v C fs) : ObD K H1 v C fs := by
  obtain ⟨p, dx, xs, h1, h2, h3⟩ := h
  exact ⟨p, dx, xs, h1, k.at_ _ _ h2 (nT_of t h2 fun ps z => by cases z), h3.keep k t⟩
theorem ObD.same {K : PySem.W.Frag} {H H1 : Hp} {v : V} {C : Addr} {fs : List (Str × PD)} (s : Same H H1) (h : ObD K H v C fs) : ObD K H1 v C fs := h.keep (T := []) (.same s) (fun _ z => nomatch z)
/-- the slot's value, over the heap without the own lists (Hm) and the whole one -/
def SlotOk (K : PySem.W.Frag) (Hm H : Hp) (A : List Addr) : Option V → DS → Prop
  | _, .non => True
  | some v, .dat d => Dp K Hm v d
  | some v, .own ds => ∃ a xs, v = .ref a ∧ a ∈ A ∧ H a = some (.lst xs) ∧ DpAll K Hm xs ds
  | some v, .ob C fs => ObD K Hm v C fs
  | some v, .raw w => v = w
  | none, _ => False
/-- an argument of a call: data, or an object that stands still -/
def ArgOk (K : PySem.W.Frag) (Hm : Hp) (v : V) : DS → Prop
  | .dat d => Dp K Hm v d
  | .ob C fs => ObD K Hm v C fs
  | .raw w => v = w
  | _ => False
inductive ArgsOk (K : PySem.W.Frag) (Hm : Hp) : List V → List DS → Prop where
  | nil : ArgsOk K Hm [] []
  | cons {v : V} {s : DS} {vs ss} : ArgOk K Hm v s → ArgsOk K Hm vs ss → ArgsOk K Hm (v :: vs) (s :: ss)
theorem ArgOk.keep {K : PySem.W.Frag} {T : List Addr} {H H1 : Hp} (k : Keep T H H1) (t : Tabs T H) {v : V} {s : DS} (h : ArgOk K H v s) : ArgOk K H1 v s := by
  cases s with
  | dat d => exact dp_keep k t h
  | ob C fs => exact ObD.keep k t h
  | non => exact h
  | own ds => exact h
  | raw w => exact h
theorem ArgsOk.keep {K : PySem.W.Frag} {T : List Addr} {H H1 : Hp} (k : Keep T H H1) (t : Tabs T H) : ∀ {vs : List V} {ss : List DS}, ArgsOk K H vs ss → ArgsOk K H1 vs ss
  | _, _, .nil => .nil
  | _, _, .cons a r => .cons (a.keep k t) (r.keep k t)
theorem ArgsOk.len {K : PySem.W.Frag} {H : Hp} : ∀ {vs : List V} {ss : List DS}, ArgsOk K H vs ss → vs.length = ss.length
  | _, _, .nil => rfl
  | _, _, .cons _ r => by rw [List.length_cons, List.length_cons, r.len]

/-! ### where one stands -/
structure DC where
  K : PySem.W.Frag
  T : List Addr
  M : List Addr
  H0 : Hp
structure SR (c : DC) (A : List Addr) (σ : L2.St) (H : Hp) (ρ : DEnv) : Prop where
  tab : Tabs c.T c.H0
  keep : Keep c.T c.H0 H
  msk : ∀ a ∈ c.M, a ∉ c.T ∧ c.H0 a ≠ none
  new : ∀ a ∈ A, c.H0 a = none ∧ ∃ xs, H a = some (.lst xs)
  len : σ.length = ρ.length
  rel : ∀ (i : Nat) (s : DS), ρ[i]? = some s → ∃ ov, σ[i]? = some ov ∧ SlotOk c.K (hid (c.M ++ A) H) H A ov s
  inj : ∀ (i j : Nat) (ds es : List PD) (a : Addr), i ≠ j → ρ[i]? = some (.own ds) → ρ[j]? = some (.own es) → σ[i]? = some (some (.ref a)) → σ[j]? = some (some (.ref a)) → False
section
variable {c : DC} {A : List Addr} {σ : L2.St} {H H' : Hp} {ρ : DEnv}
theorem SR.tabs (r : SR c A σ H ρ) : Tabs c.T H := r.keep.tabs r.tab
theorem SR.nA (r : SR c A σ H ρ) {a : Addr} (h : a ∈ A) : a ∉ c.T := fun m => by
  obtain ⟨ps, e, _⟩ := r.tab a m
  rw [(r.new a h).1] at e
  cases e
theorem SR.nM (r : SR c A σ H ρ) : ∀ a ∈ c.M ++ A, a ∉ c.T ∧ H a ≠ none := fun a h => by
  rcases List.mem_append.mp h with h | h
  · obtain ⟨h1, h2⟩ := r.msk a h
    refine ⟨h1, fun z => h2 ?_⟩
    cases e : c.H0 a with
    | none => rfl
    | some o =>
      have := r.keep.at_ a o e h1
      rw [z] at this
      cases this
  · obtain ⟨_, xs, e⟩ := r.new a h
    exact ⟨r.nA h, by rw [e]; intro z; cases z⟩
theorem tabs_hid {T M : List Addr} (t : Tabs T H) (h : ∀ a ∈ M, a ∉ T) : Tabs T (hid M H) := fun P hP => by
  obtain ⟨ps, e, ok⟩ := t P hP
  exact ⟨ps, hid_of (fun m => h P m hP) e, ok⟩
theorem SR.tabm (r : SR c A σ H ρ) : Tabs c.T (hid (c.M ++ A) H) := tabs_hid r.tabs fun a h => (r.nM a h).1
theorem SR.move (r : SR c A σ H ρ) (k : Keep c.T H H') : SR c A σ H' ρ := by
  refine ⟨r.tab, r.keep.trans k, r.msk, fun a h => ?_, r.len, fun i s e => ?_, r.inj⟩
  · obtain ⟨h1, xs, e⟩ := r.new a h
    exact ⟨h1, xs, k.at_ _ _ e (r.nA h)⟩
  · obtain ⟨ov, h1, h2⟩ := r.rel i s e
    refine ⟨ov, h1, ?_⟩
    have km : Keep c.T (hid (c.M ++ A) H) (hid (c.M ++ A) H') := hid_keep k
    cases s with
    | non => cases ov <;> trivial
    | dat d =>
      cases ov with
      | none => exact h2
      | some v => exact dp_keep km r.tabm h2
    | own ds =>
      cases ov with
      | none => exact h2
      | some v =>
        obtain ⟨a, xs, q1, q2, q3, q4⟩ := h2
        exact ⟨a, xs, q1, q2, k.at_ _ _ q3 (r.nA q2), dps_keep km r.tabm q4⟩
    | ob C fs =>
      cases ov with
      | none => exact h2
      | some v => exact ObD.keep km r.tabm h2
    | raw w =>
      cases ov with
      | none => exact h2
      | some v => exact h2
end

/-! ### what evaluates to what -/
def ED (c : DC) (te : TE) (ρ : DEnv) (d : PD) : Prop := ∀ A σ H, SR c A σ H ρ → ∀ Q : VK, (∀ v H', Keep c.T H H' → Dp c.K (hid (c.M ++ A) H') v d → Q v H') → te σ H Q
/-- a list to be read: plain data, or an own one -/
def EL (c : DC) (te : TE) (ρ : DEnv) (ds : List PD) : Prop := ∀ A σ H, SR c A σ H ρ → ∀ Q : VK, (∀ a xs H', Keep c.T H H' → SqL c.K H' a xs → DpAll c.K (hid (c.M ++ A) H') xs ds → Q (.ref a) H') → te σ H Q
/-- a new list -/
def EN (c : DC) (te : TE) (ρ : DEnv) (ds : List PD) : Prop := ∀ A σ H, SR c A σ H ρ → ∀ Q : VK, (∀ p xs H', Keep c.T H H' → H p = none → H' p = some (.lst xs) → DpAll c.K (hid (p :: (c.M ++ A)) H') xs ds → Q (.ref p) H') → te σ H Q
def ET (c : DC) (tt : TT) (ρ : DEnv) (b : Bool) : Prop := ∀ A σ H, SR c A σ H ρ → ∀ Q : Bool → Hp → Prop, (∀ H', Keep c.T H H' → Q b H') → tt σ H Q
def EA (c : DC) (ta : TA) (ρ : DEnv) (ss : List DS) : Prop := ∀ A σ H, SR c A σ H ρ → ∀ Q : List V → Hp → Prop, (∀ vs H', Keep c.T H H' → ArgsOk c.K (hid (c.M ++ A) H') vs ss → Q vs H') → ta σ H Q
/-- an argument -/
def EG (c : DC) (te : TE) (ρ : DEnv) (s : DS) : Prop := ∀ A σ H, SR c A σ H ρ → ∀ Q : VK, (∀ v H', Keep c.T H H' → ArgOk c.K (hid (c.M ++ A) H') v s → Q v H') → te σ H Q
section
variable {c : DC} {ρ : DEnv} {ta tb te : TE} {d e : PD}
theorem ed_var {i : Nat} (h : ρ[i]? = some (.dat d)) : ED c (tVar i) ρ d := fun A σ H r Q q => by
  obtain ⟨ov, h1, h2⟩ := r.rel i _ h
  cases ov with
  | none => exact False.elim h2
  | some v => exact ⟨v, h1, q v H .refl h2⟩
theorem ed_int {i : Int} : ED c (tC (.int i)) ρ (.int i) := fun A σ H r Q q => q _ H .refl (.int i)
theorem ed_bl {b : Bool} : ED c (tC (.bl b)) ρ (.bool b) := fun A σ H r Q q => q _ H .refl (.bl b)
theorem ed_non : ED c (tC .non) ρ .none := fun A σ H r Q q => q _ H .refl .non
theorem ed_str {z : Str} : ED c (tC (.str z)) ρ (.str z) := fun A σ H r Q q => q _ H .refl (.str z)
theorem ed_is (h : ED c te ρ d) (he : d = e) : ED c te ρ e := he ▸ h
theorem el_is {ds es : List PD} (h : EL c te ρ ds) (he : ds = es) : EL c te ρ es := he ▸ h
theorem en_is {ds es : List PD} (h : EN c te ρ ds) (he : ds = es) : EN c te ρ es := he ▸ h
theorem et_is {tt : TT} {a b : Bool} (h : ET c tt ρ a) (he : a = b) : ET c tt ρ b := he ▸ h
/-- a rule of two values -/
theorem ed_op {r : R2} {x : PD} {y : PD} (ha : ED c ta ρ x) (hb : ED c tb ρ y) (hr : ∀ A σ H v w, SR c A σ H ρ → Dp c.K (hid (c.M ++ A) H) v x → Dp c.K (hid (c.M ++ A) H) w y → ∀ Q : VK, (∀ z H', Keep c.T H H' → Dp c.K (hid (c.M ++ A) H') z d → Q z H') → r v w H Q) : ED c (tOp r ta tb) ρ d := fun A σ H s Q q =>
  ha A σ H s _ fun v H1 k1 h1 => hb A σ H1 (s.move k1) _ fun w H2 k2 h2 => hr A σ H2 v w ((s.move k1).move k2) (dp_keep (hid_keep k2) (s.move k1).tabm h1) h2 Q fun z H3 k3 h3 => q z H3 ((k1.trans k2).trans k3) h3
theorem ed_I0 {g : Int → Int → Int} {i j : Int} (ha : ED c ta ρ (.int i)) (hb : ED c tb ρ (.int j)) : ED c (tOp (rI0 fun a b => .int (g a b)) ta tb) ρ (.int (g i j)) :=
  ed_op ha hb fun A σ H v w s h1 h2 Q q => ⟨i, j, dp_int h1, dp_int h2, q _ H .refl (.int _)⟩
theorem ed_I {C : Int → Int → Prop} {g : Int → Int → Int} {i j : Int} (ha : ED c ta ρ (.int i)) (hb : ED c tb ρ (.int j)) (hc : C i j) : ED c (tOp (rI C fun a b => .int (g a b)) ta tb) ρ (.int (g i j)) :=
  ed_op ha hb fun A σ H v w s h1 h2 Q q => ⟨i, j, dp_int h1, dp_int h2, hc, q _ H .refl (.int _)⟩
theorem ed_IB {g : Int → Int → Bool} {i j : Int} (ha : ED c ta ρ (.int i)) (hb : ED c tb ρ (.int j)) : ED c (tOp (rI0 fun a b => .bl (g a b)) ta tb) ρ (.bool (g i j)) :=
  ed_op ha hb fun A σ H v w s h1 h2 Q q => ⟨i, j, dp_int h1, dp_int h2, q _ H .refl (.bl _)⟩
/-- == of flat things -/
def flatD : PD → Bool
  | .none => true | .bool _ => true | .int _ => true | .str _ => true | _ => false
def vOf : PD → V
  | .none => .non | .bool b => .bl b | .int i => .int i | .str z => .str z | _ => .non
theorem dp_flat {K : PySem.W.Frag} {H : Hp} {v : V} {d : PD} (h : Dp K H v d) (f : flatD d = true) : v = vOf d := by
  cases h <;> first | rfl | exact absurd f Bool.false_ne_true
theorem flat_dp {K : PySem.W.Frag} {H : Hp} {d : PD} (f : flatD d = true) : Dp K H (vOf d) d := by
  cases d <;> first | exact absurd f Bool.false_ne_true | constructor
theorem flat_V {d : PD} (f : flatD d = true) : flatV (vOf d) = true := by
  cases d <;> first | exact absurd f Bool.false_ne_true | rfl
theorem ed_eq {x y : PD} (ha : ED c ta ρ x) (hb : ED c tb ρ y) (hx : flatD x = true) (hy : flatD y = true) (hs : scal (vOf x) (vOf y) = true) : ED c (tOp rEq ta tb) ρ (.bool (decide (vOf x = vOf y))) :=
  ed_op ha hb fun A σ H v w s h1 h2 Q q => by
    rw [dp_flat h1 hx, dp_flat h2 hy]
    exact ⟨hs, q _ H .refl (.bl _)⟩
theorem ed_ne {x y : PD} (ha : ED c ta ρ x) (hb : ED c tb ρ y) (hx : flatD x = true) (hy : flatD y = true) (hs : scal (vOf x) (vOf y) = true) : ED c (tOp rNe ta tb) ρ (.bool (!decide (vOf x = vOf y))) :=
  ed_op ha hb fun A σ H v w s h1 h2 Q q => by
    rw [dp_flat h1 hx, dp_flat h2 hy]
    exact ⟨hs, q _ H .refl (.bl _)⟩
theorem ed_eqD {x y : PD} (ha : ED c ta ρ x) (hb : ED c tb ρ y) (hx : SeqAt.shaped x = true) (hy : SeqAt.shaped y = true) : ED c (tOp (rEqD c.K) ta tb) ρ (.bool (PyData.eqv x y)) :=
  ed_op ha hb fun A σ H v w s h1 h2 Q q => ⟨x, y, dp_same hid_same h1, dp_same hid_same h2, hx, hy, q _ H .refl (.bl _)⟩
theorem ed_neD {x y : PD} (ha : ED c ta ρ x) (hb : ED c tb ρ y) (hx : SeqAt.shaped x = true) (hy : SeqAt.shaped y = true) : ED c (tOp (rNeD c.K) ta tb) ρ (.bool (!PyData.eqv x y)) :=
  ed_op ha hb fun A σ H v w s h1 h2 Q q => ⟨x, y, dp_same hid_same h1, dp_same hid_same h2, hx, hy, q _ H .refl (.bl _)⟩
def isNone : PD → Bool | .none => true | _ => false
theorem dp_isN {K : PySem.W.Frag} {H : Hp} {v : V} {d : PD} (h : Dp K H v d) : decide (v = .non) = isNone d := by
  cases h <;> rfl
theorem ed_isN (ha : ED c ta ρ d) : ED c (tIsN ta) ρ (.bool (isNone d)) := fun A σ H s Q q => ha A σ H s _ fun v H1 k1 h1 => by
  rw [dp_isN h1]
  exact q _ H1 k1 (.bl _)
theorem ed_notN (ha : ED c ta ρ d) : ED c (tNotN ta) ρ (.bool (!isNone d)) := fun A σ H s Q q => ha A σ H s _ fun v H1 k1 h1 => by
  rw [dp_isN h1]
  exact q _ H1 k1 (.bl _)
/-! tests -/
theorem et_test {b : Bool} (h : ED c te ρ (.bool b)) : ET c (tTest te) ρ b := fun A σ H s Q q => h A σ H s _ fun v H1 k1 h1 => ⟨b, dp_bool h1, q H1 k1⟩
theorem et_B {b : Bool} (h : ED c te ρ (.bool b)) : ET c (tB te) ρ b := fun A σ H s Q q => h A σ H s _ fun v H1 k1 h1 => ⟨b, dp_bool h1, q H1 k1⟩
theorem et_not {t : TT} {b : Bool} (h : ET c t ρ b) : ET c (tNot t) ρ (!b) := fun A σ H s Q q => h A σ H s _ fun H1 k1 => q H1 k1
theorem et_and {t u : TT} {a b : Bool} (h1 : ET c t ρ a) (h2 : a = true → ET c u ρ b) : ET c (tAnd t u) ρ (a && b) := fun A σ H s Q q => h1 A σ H s _ fun H1 k1 => by
  cases a with
  | true =>
    show u σ H1 Q
    exact h2 rfl A σ H1 (s.move k1) Q fun H2 k2 => q H2 (k1.trans k2)
  | false =>
    show Q false H1
    exact q H1 k1
theorem et_or {t u : TT} {a b : Bool} (h1 : ET c t ρ a) (h2 : a = false → ET c u ρ b) : ET c (tOr t u) ρ (a || b) := fun A σ H s Q q => h1 A σ H s _ fun H1 k1 => by
  cases a with
  | true =>
    show Q true H1
    exact q H1 k1
  | false =>
    show u σ H1 Q
    exact h2 rfl A σ H1 (s.move k1) Q fun H2 k2 => q H2 (k1.trans k2)
theorem et_yes : ET c tYes ρ true := fun A σ H s Q q => q H .refl
/-- truth of data -/
def truD : PD → Bool
  | .none => false | .bool b => b | .int i => i != 0 | .str z => (z.length : Int) != 0 | .list xs => !xs.isEmpty | .tuple xs => !xs.isEmpty | .dict _ => false
theorem isE {K : PySem.W.Frag} {H : Hp} : ∀ {xs : List V} {ds : List PD}, DpAll K H xs ds → xs.isEmpty = ds.isEmpty
  | _, _, .nil => rfl
  | _, _, .cons _ _ => rfl
theorem sqt_same {K : PySem.W.Frag} {H H' : Hp} {a : Addr} {xs : List V} (s : Same H H') (h : SqT K H a xs) : SqT K H' a xs := by
  rcases h with (h | ⟨o, h⟩) | h
  · exact .inl (.inl (s _ _ h))
  · exact .inl (.inr ⟨o, s _ _ h⟩)
  · exact .inr h
theorem tru_dp {K : PySem.W.Frag} {H H' : Hp} {v : V} {d : PD} (s : Same H H') (h : Dp K H v d) (hz : ∀ z, d = .str z → z.length ≤ sizeLine) : TruV K v H' (truD d) := by
  cases h with
  | non => exact rfl
  | bl b => exact rfl
  | int i => exact rfl
  | str x => exact ⟨hz x rfl, rfl⟩
  | lst h a => exact .inl ⟨_, s.seq h, by show (!_) = _; rw [isE a]⟩
  | tup h a => exact .inr (.inl ⟨_, (sqt_same s h), by show (!_) = _; rw [isE a]⟩)
theorem et_truth (h : ED c te ρ d) (hz : ∀ z, d = .str z → z.length ≤ sizeLine := by intro z e; cases e) : ET c (fun σ H Q => te σ H fun x H' => ∃ k, TruV c.K x H' k ∧ Q k H') ρ (truD d) := fun A σ H s Q q => h A σ H s _ fun v H1 k1 h1 => ⟨_, tru_dp hid_same h1 hz, q H1 k1⟩
theorem et_truthL {ds : List PD} (h : EL c te ρ ds) : ET c (fun σ H Q => te σ H fun x H' => ∃ k, TruV c.K x H' k ∧ Q k H') ρ (!ds.isEmpty) := fun A σ H s Q q => h A σ H s _ fun a xs H1 k1 h1 h2 => ⟨_, .inl ⟨xs, h1, rfl⟩, by
  rw [isE h2]
  exact q H1 k1⟩
theorem ed_if {t : TT} {b : Bool} (h : ET c t ρ b) (h1 : b = true → ED c ta ρ d) (h2 : b = false → ED c tb ρ d) : ED c (tIf t ta tb) ρ d := fun A σ H s Q q => h A σ H s _ fun H1 k1 => by
  cases b with
  | true =>
    show ta σ H1 Q
    exact h1 rfl A σ H1 (s.move k1) Q fun v H2 k2 h => q v H2 (k1.trans k2) h
  | false =>
    show tb σ H1 Q
    exact h2 rfl A σ H1 (s.move k1) Q fun v H2 k2 h => q v H2 (k1.trans k2) h
theorem ed_andV {a b : Bool} (h1 : ED c ta ρ (.bool a)) (h2 : a = true → ED c tb ρ (.bool b)) : ED c (tAndV ta tb) ρ (.bool (a && b)) := fun A σ H s Q q => h1 A σ H s _ fun v H1 k1 hv => ⟨a, dp_bool hv, by
  cases a with
  | true =>
    show tb σ H1 Q
    exact h2 rfl A σ H1 (s.move k1) Q fun v H2 k2 h => q v H2 (k1.trans k2) h
  | false =>
    show Q (.bl false) H1
    exact q _ H1 k1 (.bl _)⟩
/-! lists and tuples -/
theorem el_ed {ds : List PD} (h : ED c te ρ (.list ds)) : EL c te ρ ds := fun A σ H s Q q => h A σ H s _ fun v H1 k1 h1 => by
  obtain ⟨a, xs, rfl, h2, h3⟩ := dp_list h1
  exact q a xs H1 k1 (hid_same.seq h2) h3
theorem el_own {i : Nat} {ds : List PD} (h : ρ[i]? = some (.own ds)) : EL c (tVar i) ρ ds := fun A σ H r Q q => by
  obtain ⟨ov, h1, h2⟩ := r.rel i _ h
  cases ov with
  | none => exact False.elim h2
  | some v =>
    obtain ⟨a, xs, rfl, q2, q3, q4⟩ := h2
    exact ⟨_, h1, q a xs H .refl (SqL.of q3) q4⟩
theorem en_el {ds : List PD} (h : EN c te ρ ds) : EL c te ρ ds := fun A σ H s Q q => h A σ H s _ fun p xs H1 k1 hp h1 h2 => q p xs H1 k1 (SqL.of h1) (dps_same (hid_sub fun a m => List.mem_cons_of_mem _ m) h2)
theorem nfresh {A : List Addr} {σ : L2.St} {H : Hp} (r : SR c A σ H ρ) {p : Addr} (hp : H p = none) : p ∉ c.M ++ A := fun m => (r.nM p m).2 hp
theorem ed_en {ds : List PD} (h : EN c te ρ ds) : ED c te ρ (.list ds) := fun A σ H s Q q => h A σ H s _ fun p xs H1 k1 hp h1 h2 => q _ H1 k1 (.lst (SqL.of (hid_of (nfresh s hp) h1)) (dps_same (hid_sub fun a m => List.mem_cons_of_mem _ m) h2))
theorem eg_dat (h : ED c te ρ d) : EG c te ρ (.dat d) := h
theorem eg_ob {i : Nat} {C : Addr} {fs : List (Str × PD)} (h : ρ[i]? = some (.ob C fs)) : EG c (tVar i) ρ (.ob C fs) := fun A σ H r Q q => by
  obtain ⟨ov, h1, h2⟩ := r.rel i _ h
  cases ov with
  | none => exact False.elim h2
  | some v => exact ⟨v, h1, q v H .refl h2⟩
theorem eg_raw {i : Nat} {w : V} (h : ρ[i]? = some (.raw w)) : EG c (tVar i) ρ (.raw w) := fun A σ H r Q q => by
  obtain ⟨ov, h1, h2⟩ := r.rel i _ h
  cases ov with
  | none => exact False.elim h2
  | some v => exact ⟨v, h1, q v H .refl h2⟩
/-- a field of a changing object, as it stands at the entry -/
theorem fld_at {A : List Addr} {σ : L2.St} {H : Hp} (r : SR c A σ H ρ) {p C dx : Addr} {fs : List (Str × V)} (h0 : c.H0 p = some (.ins C dx fs)) : H p = some (.ins C dx fs) := r.keep.at_ _ _ h0 (nT_of r.tab h0 fun ps z => by cases z)
theorem base_dp {A : List Addr} {σ : L2.St} {H : Hp} (r : SR c A σ H ρ) : Keep c.T (hid c.M c.H0) (hid (c.M ++ A) H) := by
  refine ⟨fun b o e n => ?_, fun P hP tb => ?_⟩
  · obtain ⟨m, e⟩ := hid_inv e
    refine hid_of (fun q => ?_) (r.keep.at_ b o e n)
    rcases List.mem_append.mp q with q | q
    · exact m q
    · rw [(r.new b q).1] at e
      cases e
  · obtain ⟨ps, e, ok⟩ := tb
    obtain ⟨m, e⟩ := hid_inv e
    obtain ⟨ps', e', ok'⟩ := r.keep.tab P hP ⟨ps, e, ok⟩
    exact ⟨ps', hid_of (fun q => (r.nM P q).1 hP) e', ok'⟩
theorem base_tab {A : List Addr} {σ : L2.St} {H : Hp} (r : SR c A σ H ρ) : Tabs c.T (hid c.M c.H0) := tabs_hid r.tab fun a h => (r.msk a h).1
theorem ed_mfld {i : Nat} {p C dx : Addr} {fs : List (Str × V)} {f : Str} {v : V} (h : ρ[i]? = some (.raw (.ref p))) (h0 : c.H0 p = some (.ins C dx fs)) (cl : Cls c.K C) (na : NoAttr c.K C f) (hl : fs.lookup f = some v) (hd : Dp c.K (hid c.M c.H0) v d) : ED c (tFld c.K (tVar i) f) ρ d := fun A σ H r Q q => by
  obtain ⟨ov, h1, h2⟩ := r.rel i _ h
  cases ov with
  | none => exact False.elim h2
  | some w =>
    have e : w = .ref p := h2
    subst e
    exact ⟨_, h1, p, C, dx, fs, v, rfl, fld_at r h0, cl, na, hl, q v H .refl (dp_keep (base_dp r) (base_tab r) hd)⟩
theorem el_mfld {i : Nat} {p C dx a : Addr} {fs : List (Str × V)} {f : Str} {xs : List V} {ds : List PD} (h : ρ[i]? = some (.raw (.ref p))) (h0 : c.H0 p = some (.ins C dx fs)) (cl : Cls c.K C) (na : NoAttr c.K C f) (hl : fs.lookup f = some (.ref a)) (ha : c.H0 a = some (.lst xs)) (hd : DpAll c.K (hid c.M c.H0) xs ds) : EL c (tFld c.K (tVar i) f) ρ ds := fun A σ H r Q q => by
  obtain ⟨ov, h1, h2⟩ := r.rel i _ h
  cases ov with
  | none => exact False.elim h2
  | some w =>
    have e : w = .ref p := h2
    subst e
    exact ⟨_, h1, p, C, dx, fs, _, rfl, fld_at r h0, cl, na, hl, q a xs H .refl (SqL.of (r.keep.at_ _ _ ha (nT_of r.tab ha fun ps z => by cases z))) (dps_keep (base_dp r) (base_tab r) hd)⟩
theorem ea_nil : EA c tNil ρ [] := fun A σ H r Q q => q [] H .refl .nil
theorem ea_cons {tr : TA} {s : DS} {ss : List DS} (h : EG c te ρ s) (hr : EA c tr ρ ss) : EA c (tCons te tr) ρ (s :: ss) := fun A σ H r Q q =>
  h A σ H r _ fun v H1 k1 h1 => hr A σ H1 (r.move k1) _ fun vs H2 k2 h2 => q _ H2 (k1.trans k2) (.cons (h1.keep (hid_keep k2) (r.move k1).tabm) h2)
theorem ea_d {tr : TA} {ss : List DS} (h : ED c te ρ d) (hr : EA c tr ρ ss) : EA c (tCons te tr) ρ (.dat d :: ss) := ea_cons (eg_dat h) hr
theorem args_dps {K : PySem.W.Frag} {H : Hp} : ∀ {vs : List V} {ds : List PD}, ArgsOk K H vs (ds.map .dat) → DpAll K H vs ds
  | _, [], .nil => .nil
  | _, d :: ds, .cons a r => .cons a (args_dps r)
theorem ed_tup {ta : TA} {ds : List PD} (h : EA c ta ρ (ds.map .dat)) (hz : ds.length ≤ 1000) : ED c (tTup ta) ρ (.tuple ds) := fun A σ H s Q q => h A σ H s _ fun vs H1 k1 h1 => by
  have h2 := args_dps h1
  refine ⟨by rw [dps_len h2]; exact Nat.le_of_lt (small1000 hz), fun p hp => q _ _ (k1.trans (.new hp)) ?_⟩
  have n := nfresh (s.move k1) hp
  have sm : Same (hid (c.M ++ A) H1) (hid (c.M ++ A) (upd H1 p (.tup vs))) := fun b o e => by
    obtain ⟨m, e⟩ := hid_inv e
    exact hid_of m (by rw [upd_ne (ne_of_none e hp)]; exact e)
  exact .tup (SqT.of (hid_of n upd_same)) (dps_same sm h2)
theorem en_lst {ta : TA} {ds : List PD} (h : EA c ta ρ (ds.map .dat)) (hz : ds.length ≤ 1000) : EN c (tLst ta) ρ ds := fun A σ H s Q q => h A σ H s _ fun vs H1 k1 h1 => by
  have h2 := args_dps h1
  refine ⟨by rw [dps_len h2]; exact Nat.le_of_lt (small1000 hz), fun p hp => q p vs _ (k1.trans (.new hp)) (k1.free s.tabs hp) upd_same ?_⟩
  rw [hid_new hp]
  exact h2
/-! items -/
theorem atI_map {K : PySem.W.Frag} {H : Hp} {xs : List V} {ds : List PD} {i : Int} (h : DpAll K H xs ds) (e : atI ds i = some d) : ∃ v, atI xs i = some v ∧ Dp K H v d := by
  unfold atI at e ⊢
  rw [dps_len h]
  cases q : ixN ds.length i with
  | none => rw [q] at e; cases e
  | some j =>
    rw [q] at e
    exact dps_get h e
theorem ed_ixL {ds : List PD} {i : Int} (ha : EL c ta ρ ds) (hb : ED c tb ρ (.int i)) (e : atI ds i = some d) : ED c (tOp (rIxL c.K) ta tb) ρ d := fun A σ H s Q q =>
  ha A σ H s _ fun a xs H1 k1 h1 h2 => hb A σ H1 (s.move k1) _ fun w H2 k2 h3 => by
    have s2 := (s.move k1).move k2
    obtain ⟨v, e1, e2⟩ := atI_map (dps_keep (hid_keep k2) (s.move k1).tabm h2) e
    exact ⟨a, xs, i, v, rfl, dp_int h3, k2.sqL (s.move k1).tabs h1, e1, q v H2 (k1.trans k2) e2⟩
theorem ed_ixT {ds : List PD} {i : Int} (ha : ED c ta ρ (.tuple ds)) (hb : ED c tb ρ (.int i)) (e : atI ds i = some d) : ED c (tOp (rIxT c.K) ta tb) ρ d :=
  ed_op ha hb fun A σ H v w s h1 h2 Q q => by
    obtain ⟨a, xs, rfl, h3, h4⟩ := dp_tup h1
    obtain ⟨z, e1, e2⟩ := atI_map h4 e
    exact ⟨a, xs, i, z, rfl, dp_int h2, sqt_same hid_same h3, e1, q z H .refl e2⟩
theorem ed_ixLx {ds : List PD} {i : Int} (ha : EL c ta ρ ds) (hb : ED c tb ρ (.int i)) (e : atI ds i = some d) : ED c (tOp (rIx c.K) ta tb) ρ d := fun A σ H s Q q =>
  ha A σ H s _ fun a xs H1 k1 h1 h2 => hb A σ H1 (s.move k1) _ fun w H2 k2 h3 => by
    obtain ⟨v, e1, e2⟩ := atI_map (dps_keep (hid_keep k2) (s.move k1).tabm h2) e
    exact .inl ⟨a, xs, i, v, rfl, dp_int h3, k2.sqL (s.move k1).tabs h1, e1, q v H2 (k1.trans k2) e2⟩
/-! len -/
def lenR (K : PySem.W.Frag) : List V → Hp → VK → Prop := fun xs H Q => ∃ p ys, xs = [.ref p] ∧ (SqL K H p ys ∨ SqT K H p ys) ∧ Q (.int ys.length) H
theorem ed_lenL {ds : List PD} (ha : EL c ta ρ ds) : ED c (tCB (lenR c.K) (tCons ta tNil)) ρ (.int (ds.length : Int)) := fun A σ H s Q q => ha A σ H s _ fun a xs H1 k1 h1 h2 => ⟨a, xs, rfl, .inl h1, by
  rw [dps_len h2]
  exact q _ H1 k1 (.int _)⟩
theorem ed_lenT {ds : List PD} (ha : ED c ta ρ (.tuple ds)) : ED c (tCB (lenR c.K) (tCons ta tNil)) ρ (.int (ds.length : Int)) := fun A σ H s Q q => ha A σ H s _ fun v H1 k1 h1 => by
  obtain ⟨a, xs, rfl, h3, h4⟩ := dp_tup h1
  refine ⟨a, xs, rfl, .inr (sqt_same hid_same h3), ?_⟩
  rw [dps_len h4]
  exact q _ H1 k1 (.int _)
/-! tuples joined, cut -/
theorem ed_catT {xs ys : List PD} (ha : ED c ta ρ (.tuple xs)) (hb : ED c tb ρ (.tuple ys)) (hz : xs.length + ys.length ≤ 1000) : ED c (tOp (rCatA c.K) ta tb) ρ (.tuple (xs ++ ys)) :=
  ed_op ha hb fun A σ H v w s h1 h2 Q q => by
    obtain ⟨a, us, rfl, h3, h4⟩ := dp_tup h1
    obtain ⟨b, ws, rfl, h5, h6⟩ := dp_tup h2
    refine ⟨a, b, us, ws, rfl, rfl, sqt_same hid_same h3, sqt_same hid_same h5, by rw [dps_len h4, dps_len h6]; exact Nat.le_of_lt (small1000 hz), fun e => ?_, fun _ e => ?_, fun _ _ p hp => ?_⟩
    · subst e
      cases h4
      exact q _ H .refl h2
    · subst e
      cases h6
      rw [List.append_nil] at q
      exact q _ H .refl h1
    · have sm : Same (hid (c.M ++ A) H) (hid (c.M ++ A) (upd H p (.tup (us ++ ws)))) := fun b o e => by
        obtain ⟨m, e⟩ := hid_inv e
        exact hid_of m (by rw [upd_ne (ne_of_none e hp)]; exact e)
      exact q _ _ (.new hp) (.tup (SqT.of (hid_of (nfresh s hp) upd_same)) (dps_same sm (dps_append h4 h6)))
def EO (c : DC) (to : TO) (ρ : DEnv) (o : Option Int) : Prop := ∀ A σ H, SR c A σ H ρ → ∀ Q : Option Int → Hp → Prop, (∀ H', Keep c.T H H' → Q o H') → to σ H Q
theorem eo_none : EO c tNoPart ρ none := fun A σ H s Q q => q H .refl
theorem eo_some {i : Int} (h : ED c te ρ (.int i)) : EO c (tPart te) ρ (some i) := fun A σ H s Q q => h A σ H s _ fun v H1 k1 h1 => ⟨i, dp_int h1, q H1 k1⟩
def cutPD (xs : List PD) (lo hi : Option Int) : List PD := (xs.drop (HT.sIx xs.length 0 lo)).take (HT.sIx xs.length xs.length hi - HT.sIx xs.length 0 lo)
theorem dps_cut {K : PySem.W.Frag} {H : Hp} {xs : List V} {ds : List PD} (lo hi : Option Int) (h : DpAll K H xs ds) : DpAll K H (cutV xs lo hi) (cutPD ds lo hi) := by
  unfold cutV cutPD
  rw [dps_len h]
  exact dps_take _ (dps_drop _ h)
theorem cut_whole {xs : List PD} {lo hi : Option Int} (h : HT.sIx xs.length 0 lo = 0 ∧ HT.sIx xs.length xs.length hi = xs.length) : cutPD xs lo hi = xs := by
  unfold cutPD
  rw [h.1, h.2]
  simp
theorem ed_slT {xs : List PD} {tl th : TO} {lo hi : Option Int} (h : ED c te ρ (.tuple xs)) (h1 : EO c tl ρ lo) (h2 : EO c th ρ hi) : ED c (tSl (rSlA c.K) te tl th) ρ (.tuple (cutPD xs lo hi)) := fun A σ H s Q q =>
  h A σ H s _ fun v H1 k1 g1 => h1 A σ H1 (s.move k1) _ fun H2 k2 => h2 A σ H2 ((s.move k1).move k2) _ fun H3 k3 => by
    have s3 := ((s.move k1).move k2).move k3
    have g2 := dp_keep (hid_keep (k2.trans k3)) (s.move k1).tabm g1
    obtain ⟨a, us, rfl, h3, h4⟩ := dp_tup g2
    refine ⟨a, us, rfl, sqt_same hid_same h3, fun e => ?_, fun _ p hp => ?_⟩
    · rw [dps_len h4] at e
      rw [cut_whole e] at q
      exact q _ H3 ((k1.trans k2).trans k3) g2
    · have sm : Same (hid (c.M ++ A) H3) (hid (c.M ++ A) (upd H3 p (.tup (cutV us lo hi)))) := fun b o e => by
        obtain ⟨m, e⟩ := hid_inv e
        exact hid_of m (by rw [upd_ne (ne_of_none e hp)]; exact e)
      exact q _ _ (((k1.trans k2).trans k3).trans (.new hp)) (.tup (SqT.of (hid_of (nfresh s3 hp) upd_same)) (dps_same sm (dps_cut lo hi h4)))
theorem en_slL {xs : List PD} {tl th : TO} {lo hi : Option Int} (h : EL c te ρ xs) (h1 : EO c tl ρ lo) (h2 : EO c th ρ hi) : EN c (tSl (rSlL c.K) te tl th) ρ (cutPD xs lo hi) := fun A σ H s Q q =>
  h A σ H s _ fun a us H1 k1 g1 g2 => h1 A σ H1 (s.move k1) _ fun H2 k2 => h2 A σ H2 ((s.move k1).move k2) _ fun H3 k3 => by
    have s3 := ((s.move k1).move k2).move k3
    refine ⟨a, us, rfl, (k2.trans k3).sqL (s.move k1).tabs g1, fun p hp => ?_⟩
    refine q p _ _ (((k1.trans k2).trans k3).trans (.new hp)) (((k1.trans k2).trans k3).free s.tabs hp) upd_same ?_
    rw [hid_new hp]
    exact dps_cut lo hi (dps_keep (hid_keep (k2.trans k3)) (s.move k1).tabm g2)
/-! in -/
theorem dps_flat {K : PySem.W.Frag} {H : Hp} : ∀ {xs : List V} {ds : List PD}, DpAll K H xs ds → ds.all flatD = true → xs = ds.map vOf
  | _, _, .nil, _ => rfl
  | _, _, .cons a r, h => by
    rw [List.all_cons, Bool.and_eq_true] at h
    rw [List.map_cons, dp_flat a h.1, dps_flat r h.2]
theorem flats_V {ds : List PD} (h : ds.all flatD = true) : (ds.map vOf).all flatV = true := by
  rw [List.all_map, List.all_eq_true]
  intro d hd
  exact flat_V (List.all_eq_true.mp h d hd)
theorem ed_inT {neg : Bool} {x : PD} {ys : List PD} (ha : ED c ta ρ x) (hb : ED c tb ρ (.tuple ys)) (hx : flatD x = true) (hy : ys.all flatD = true) : ED c (tOp (rIn c.K neg) ta tb) ρ (.bool (if neg then !inV (vOf x) (ys.map vOf) else inV (vOf x) (ys.map vOf))) :=
  ed_op ha hb fun A σ H v w s h1 h2 Q q => by
    obtain ⟨a, us, rfl, h3, h4⟩ := dp_tup h2
    have e := dps_flat h4 hy
    subst e
    rw [dp_flat h1 hx]
    exact ⟨a, _, rfl, .inr (sqt_same hid_same h3), flat_V hx, flats_V hy, q _ H .refl (.bl _)⟩
theorem ed_inL {neg : Bool} {x : PD} {ys : List PD} (ha : ED c ta ρ x) (hb : EL c tb ρ ys) (hx : flatD x = true) (hy : ys.all flatD = true) : ED c (tOp (rIn c.K neg) ta tb) ρ (.bool (if neg then !inV (vOf x) (ys.map vOf) else inV (vOf x) (ys.map vOf))) := fun A σ H s Q q =>
  ha A σ H s _ fun v H1 k1 h1 => hb A σ H1 (s.move k1) _ fun a us H2 k2 h3 h4 => by
    have e := dps_flat h4 hy
    subst e
    rw [dp_flat h1 hx]
    exact ⟨a, _, rfl, .inl h3, flat_V hx, flats_V hy, q _ H2 (k1.trans k2) (.bl _)⟩
/-! fields of an object that stands still -/
theorem ed_fld {C : Addr} {fs : List (Str × PD)} {f : Str} (h : EG c te ρ (.ob C fs)) (cl : Cls c.K C) (na : NoAttr c.K C f) (e : fs.lookup f = some d) : ED c (tFld c.K te f) ρ d := fun A σ H s Q q => h A σ H s _ fun v H1 k1 h1 => by
  obtain ⟨p, dx, xs, rfl, h2, h3⟩ := h1
  obtain ⟨w, e1, e2⟩ := h3.look e
  exact ⟨p, C, dx, xs, w, rfl, (hid_inv h2).2, cl, na, e1, q w H1 k1 e2⟩
/-! calls -/
def spD (K : PySem.W.Frag) (T : List Addr) (R : List DS → PD → Prop) : Sp := fun vs H Q _ => ∃ M ss d, (∀ a ∈ M, a ∉ T ∧ H a ≠ none) ∧ Tabs T H ∧ ArgsOk K (hid M H) vs ss ∧ R ss d ∧ ∀ v H', Dp K (hid M H') v d → Keep T H H' → Q v H'
theorem ed_call {R : List DS → PD → Prop} {E : XK} {ta : TA} {ss : List DS} (h : EA c ta ρ ss) (hR : R ss d) : ED c (tCall (spD c.K c.T R) [] E ta) ρ d := fun A σ H s Q q => h A σ H s _ fun vs H1 k1 h1 =>
  ⟨c.M ++ A, ss, d, (s.move k1).nM, (s.move k1).tabs, by rw [List.append_nil]; exact h1, hR, fun v H2 h2 k2 => q v H2 (k1.trans k2) h2⟩
theorem ed_meth {R : List DS → PD → Prop} {E : XK} {ta : TA} {ss : List DS} {C : Addr} {m : Str} {fs : List (Str × PD)} (ho : EG c te ρ (.ob C fs)) (hm : fs.lookup m = none) (h : EA c ta ρ ss) (hR : R (.ob C fs :: ss) d) : ED c (tMeth C m (spD c.K c.T R) [] E te ta) ρ d := fun A σ H s Q q =>
  ho A σ H s _ fun v H1 k1 h1 => by
    obtain ⟨p, dx, xs, rfl, h2, h3⟩ := id h1
    refine ⟨p, dx, xs, rfl, (hid_inv h2).2, h3.none hm, h A σ H1 (s.move k1) _ fun vs H2 k2 h4 => ?_⟩
    exact ⟨c.M ++ A, .ob C fs :: ss, d, ((s.move k1).move k2).nM, ((s.move k1).move k2).tabs, by rw [List.append_nil]; exact .cons (ObD.keep (hid_keep k2) (s.move k1).tabm h1) h4, hR, fun v H3 h5 k3 => q v H3 ((k1.trans k2).trans k3) h5⟩
end
end DL
/-! statements over data -/
namespace DL
open PySem PySem.Spec PyProof.Rows L2 DA

structure DEnds where
  nx : DEnv → Prop
  rt : PD → Prop
  bk : DEnv → Prop := fun _ => False
  ct : DEnv → Prop := fun _ => False
structure Le (c : DC) (D : DEnds) (E : Ends) : Prop where
  nx : ∀ A σ H ρ, SR c A σ H ρ → D.nx ρ → E.nx σ H
  rt : ∀ v H d, Keep c.T c.H0 H → Dp c.K (hid c.M H) v d → D.rt d → E.rt v H
  bk : ∀ A σ H ρ, SR c A σ H ρ → D.bk ρ → E.bk σ H
  ct : ∀ A σ H ρ, SR c A σ H ρ → D.ct ρ → E.ct σ H
def SD (c : DC) (t : TS) (D : DEnds) (ρ : DEnv) : Prop := ∀ E, Le c D E → ∀ A σ H, SR c A σ H ρ → t E σ H

/-! ### the slots change -/
section
variable {c : DC} {A : List Addr} {σ : L2.St} {H H' : Hp} {ρ : DEnv}
theorem hid_cong {M N : List Addr} {H : Hp} (h : ∀ a, a ∈ M ↔ a ∈ N) : hid M H = hid N H := by
  funext b
  unfold hid
  by_cases m : b ∈ M
  · rw [if_pos m, if_pos ((h b).mp m)]
  · rw [if_neg m, if_neg (fun q => m ((h b).mpr q))]
theorem get_set {α : Type} {l : List α} {i j : Nat} {x y : α} (h : (l.set i x)[j]? = some y) : (i = j ∧ y = x) ∨ (i ≠ j ∧ l[j]? = some y) := by
  rw [List.getElem?_set] at h
  split at h
  · next e =>
    split at h
    · exact .inl ⟨e, (Option.some.inj h).symm⟩
    · cases h
  · next e => exact .inr ⟨e, h⟩
theorem SR.lt (r : SR c A σ H ρ) {i : Nat} {s : DS} (h : ρ[i]? = some s) : i < σ.length := by
  rw [r.len]
  exact (List.getElem?_eq_some_iff.mp h).1
theorem SR.setS (r : SR c A σ H ρ) (i : Nat) {v : V} {s : DS} (h : SlotOk c.K (hid (c.M ++ A) H) H A (some v) s) (hs : ∀ ds, s ≠ .own ds) : SR c A (σ.set i (some v)) H (ρ.set i s) := by
  refine ⟨r.tab, r.keep, r.msk, r.new, by rw [List.length_set, List.length_set, r.len], fun j t e => ?_, fun j k ds es a hjk h1 h2 h3 h4 => ?_⟩
  · rcases get_set e with ⟨rfl, rfl⟩ | ⟨hne, e⟩
    · have hl : i < σ.length := by
        rw [r.len]
        have := (List.getElem?_eq_some_iff.mp e).1
        rwa [List.length_set] at this
      exact ⟨some v, by rw [List.getElem?_set, if_pos rfl, if_pos hl], h⟩
    · obtain ⟨ov, h1, h2⟩ := r.rel j t e
      exact ⟨ov, by rw [List.getElem?_set_ne hne]; exact h1, h2⟩
  · rcases get_set h1 with ⟨_, e⟩ | ⟨n1, e1⟩
    · exact hs _ e.symm
    · rcases get_set h2 with ⟨_, e⟩ | ⟨n2, e2⟩
      · exact hs _ e.symm
      · rw [List.getElem?_set_ne n1] at h3
        rw [List.getElem?_set_ne n2] at h4
        exact r.inj j k ds es a hjk e1 e2 h3 h4
theorem SR.setD (r : SR c A σ H ρ) (i : Nat) {v : V} {d : PD} (h : Dp c.K (hid (c.M ++ A) H) v d) : SR c A (σ.set i (some v)) H (ρ.set i (.dat d)) := r.setS i h (fun _ z => nomatch z)
theorem SR.setX (r : SR c A σ H ρ) (i : Nat) {ov : Option V} : SR c A (σ.set i ov) H (ρ.set i .non) := by
  refine ⟨r.tab, r.keep, r.msk, r.new, by rw [List.length_set, List.length_set, r.len], fun j t e => ?_, fun j k ds es a hjk h1 h2 h3 h4 => ?_⟩
  · rcases get_set e with ⟨rfl, rfl⟩ | ⟨hne, e⟩
    · have hl : i < σ.length := by
        rw [r.len]
        have := (List.getElem?_eq_some_iff.mp e).1
        rwa [List.length_set] at this
      exact ⟨ov, by rw [List.getElem?_set, if_pos rfl, if_pos hl], by cases ov <;> trivial⟩
    · obtain ⟨ow, h1, h2⟩ := r.rel j t e
      exact ⟨ow, by rw [List.getElem?_set_ne hne]; exact h1, h2⟩
  · rcases get_set h1 with ⟨_, e⟩ | ⟨n1, e1⟩
    · cases e
    · rcases get_set h2 with ⟨_, e⟩ | ⟨n2, e2⟩
      · cases e
      · rw [List.getElem?_set_ne n1] at h3
        rw [List.getElem?_set_ne n2] at h4
        exact r.inj j k ds es a hjk e1 e2 h3 h4
/-- a new address is hidden -/
theorem SR.grow (r : SR c A σ H ρ) (k : Keep c.T H H') {p : Addr} {xs : List V} (hp : H p = none) (h1 : H' p = some (.lst xs)) : SR c (p :: A) σ H' ρ := by
  have km : Keep c.T (hid (c.M ++ A) H) (hid (c.M ++ p :: A) H') := by
    refine ⟨fun b o e n => ?_, fun P hP tb => ?_⟩
    · obtain ⟨m, e⟩ := hid_inv e
      refine hid_of (fun q => ?_) (k.at_ b o e n)
      rcases List.mem_append.mp q with q | q
      · exact m (List.mem_append_left _ q)
      · rcases List.mem_cons.mp q with q | q
        · subst q
          rw [hp] at e
          cases e
        · exact m (List.mem_append_right _ q)
    · obtain ⟨ps, e, ok⟩ := tb
      obtain ⟨m, e⟩ := hid_inv e
      obtain ⟨ps', e', ok'⟩ := k.tab P hP ⟨ps, e, ok⟩
      refine ⟨ps', hid_of (fun q => ?_) e', ok'⟩
      rcases List.mem_append.mp q with q | q
      · exact m (List.mem_append_left _ q)
      · rcases List.mem_cons.mp q with q | q
        · subst q
          rw [hp] at e
          cases e
        · exact m (List.mem_append_right _ q)
  have r1 := r.move k
  refine ⟨r.tab, r1.keep, r.msk, fun a h => ?_, r.len, fun i s e => ?_, r.inj⟩
  · rcases List.mem_cons.mp h with h | h
    · subst h
      refine ⟨?_, xs, h1⟩
      exact r.keep.free r.tab hp
    · exact r1.new a h
  · obtain ⟨ov, g1, g2⟩ := r.rel i s e
    refine ⟨ov, g1, ?_⟩
    cases s with
    | non => cases ov <;> trivial
    | dat d =>
      cases ov with
      | none => exact g2
      | some v => exact dp_keep km r.tabm g2
    | own ds =>
      cases ov with
      | none => exact g2
      | some v =>
        obtain ⟨a, ys, q1, q2, q3, q4⟩ := g2
        exact ⟨a, ys, q1, List.mem_cons_of_mem _ q2, k.at_ _ _ q3 (r.nA q2), dps_keep km r.tabm q4⟩
    | ob C fs =>
      cases ov with
      | none => exact g2
      | some v => exact ObD.keep km r.tabm g2
    | raw w =>
      cases ov with
      | none => exact g2
      | some v => exact g2
theorem SR.setN (r : SR c A σ H ρ) (i : Nat) (k : Keep c.T H H') {p : Addr} {xs : List V} {ds : List PD} (hp : H p = none) (h1 : H' p = some (.lst xs)) (h2 : DpAll c.K (hid (p :: (c.M ++ A)) H') xs ds) : SR c (p :: A) (σ.set i (some (.ref p))) H' (ρ.set i (.own ds)) := by
  have g := r.grow k hp h1
  have h3 : DpAll c.K (hid (c.M ++ p :: A) H') xs ds := by
    rw [hid_cong (N := p :: (c.M ++ A)) (fun a => by simp [or_left_comm])]
    exact h2
  refine ⟨g.tab, g.keep, g.msk, g.new, by rw [List.length_set, List.length_set, g.len], fun j t e => ?_, fun j l es fs a hjl e1 e2 e3 e4 => ?_⟩
  · rcases get_set e with ⟨rfl, rfl⟩ | ⟨hne, e⟩
    · have hl : i < σ.length := by
        rw [r.len]
        have := (List.getElem?_eq_some_iff.mp e).1
        rwa [List.length_set] at this
      exact ⟨some (.ref p), by rw [List.getElem?_set, if_pos rfl, if_pos hl], (show ∃ a ys, V.ref p = .ref a ∧ a ∈ p :: A ∧ H' a = some (.lst ys) ∧ DpAll c.K (hid (c.M ++ p :: A) H') ys ds from ⟨p, xs, rfl, List.mem_cons_self, h1, h3⟩)⟩
    · obtain ⟨ov, g1, g2⟩ := g.rel j t e
      exact ⟨ov, by rw [List.getElem?_set_ne hne]; exact g1, g2⟩
  · -- an elder own list stands elsewhere
    have key : ∀ m gs, i ≠ m → ρ[m]? = some (.own gs) → σ[m]? = some (some (.ref p)) → False := fun m gs _ q1 q2 => by
      obtain ⟨ov, z1, z2⟩ := r.rel m _ q1
      rw [q2] at z1
      cases z1
      obtain ⟨b, ys, z3, z4, z5, _⟩ := z2
      cases z3
      rw [hp] at z5
      cases z5
    rcases get_set e1 with ⟨rfl, _⟩ | ⟨n1, e1⟩
    · rcases get_set e2 with ⟨z, _⟩ | ⟨n2, e2⟩
      · exact hjl z
      · have hl : i < σ.length := by
          by_cases q : i < σ.length
          · exact q
          · rw [List.getElem?_eq_none (by rw [List.length_set]; omega)] at e3
            cases e3
        rw [List.getElem?_set, if_pos rfl, if_pos hl] at e3
        cases e3
        rw [List.getElem?_set_ne n2] at e4
        exact key l fs n2 e2 e4
    · rcases get_set e2 with ⟨rfl, _⟩ | ⟨n2, e2⟩
      · have hl : i < σ.length := by
          by_cases q : i < σ.length
          · exact q
          · rw [List.getElem?_eq_none (by rw [List.length_set]; omega)] at e4
            cases e4
        rw [List.getElem?_set, if_pos rfl, if_pos hl] at e4
        cases e4
        rw [List.getElem?_set_ne n1] at e3
        exact key j es n1 e1 e3
      · rw [List.getElem?_set_ne n1] at e3
        rw [List.getElem?_set_ne n2] at e4
        exact g.inj j l es fs a hjl e1 e2 e3 e4
/-- an own list changes -/
theorem SR.mut (r : SR c A σ H ρ) {i : Nat} {a : Addr} {ds es : List PD} {ys : List V} (h0 : ρ[i]? = some (.own ds)) (h1 : σ[i]? = some (some (.ref a))) (ha : a ∈ A) (h2 : DpAll c.K (hid (c.M ++ A) H) ys es) : SR c A σ (upd H a (.lst ys)) (ρ.set i (.own es)) := by
  have n0 : c.H0 a = none := (r.new a ha).1
  have eh : hid (c.M ++ A) (upd H a (.lst ys)) = hid (c.M ++ A) H := hid_in (List.mem_append_right _ ha)
  refine ⟨r.tab, r.keep.own r.tab n0, r.msk, fun b hb => ?_, by rw [List.length_set, r.len], fun j t e => ?_, fun j l fs gs b hjl e1 e2 e3 e4 => ?_⟩
  · obtain ⟨h, xs, e⟩ := r.new b hb
    by_cases z : b = a
    · subst z
      exact ⟨h, ys, upd_same⟩
    · exact ⟨h, xs, by rw [upd_ne z]; exact e⟩
  · rcases get_set e with ⟨rfl, rfl⟩ | ⟨hne, e⟩
    · refine ⟨_, h1, a, ys, rfl, ha, upd_same, ?_⟩
      rw [eh]
      exact h2
    · obtain ⟨ov, g1, g2⟩ := r.rel j t e
      refine ⟨ov, g1, ?_⟩
      cases t with
      | non => cases ov <;> trivial
      | dat d =>
        cases ov with
        | none => exact g2
        | some v =>
          show Dp c.K (hid (c.M ++ A) (upd H a (.lst ys))) v d
          rw [eh]
          exact g2
      | own fs =>
        cases ov with
        | none => exact g2
        | some v =>
          obtain ⟨b, xs, q1, q2, q3, q4⟩ := g2
          refine ⟨b, xs, q1, q2, ?_, by rw [eh]; exact q4⟩
          rw [upd_ne (fun z => ?_)]
          · exact q3
          · subst z q1
            exact r.inj i j ds fs b hne h0 e h1 g1
      | ob C fs =>
        cases ov with
        | none => exact g2
        | some v =>
          show ObD c.K (hid (c.M ++ A) (upd H a (.lst ys))) v C fs
          rw [eh]
          exact g2
      | raw w =>
        cases ov with
        | none => exact g2
        | some v => exact g2
  · rcases get_set e1 with ⟨rfl, _⟩ | ⟨n1, e1⟩
    · rcases get_set e2 with ⟨z, _⟩ | ⟨n2, e2⟩
      · exact hjl z
      · exact r.inj i l ds gs b hjl h0 e2 e3 e4
    · rcases get_set e2 with ⟨rfl, _⟩ | ⟨n2, e2⟩
      · exact r.inj j i fs ds b hjl e1 h0 e3 e4
      · exact r.inj j l fs gs b hjl e1 e2 e3 e4
/-- an own list is plain data from now on -/
theorem SR.freeze (r : SR c A σ H ρ) {i : Nat} {ds : List PD} (h0 : ρ[i]? = some (.own ds)) : ∃ A', SR c A' σ H (ρ.set i (.dat (.list ds))) := by
  obtain ⟨ov, h1, h2⟩ := r.rel i _ h0
  cases ov with
  | none => exact h2.elim
  | some v =>
    obtain ⟨a, xs, rfl, ha, h3, h4⟩ := h2
    have sub : ∀ b ∈ c.M ++ A.filter (fun b => decide (b ≠ a)), b ∈ c.M ++ A := fun b hb => by
      rcases List.mem_append.mp hb with q | q
      · exact List.mem_append_left _ q
      · exact List.mem_append_right _ (List.mem_filter.mp q).1
    have sm : Same (hid (c.M ++ A) H) (hid (c.M ++ A.filter (fun b => decide (b ≠ a))) H) := hid_sub sub
    refine ⟨A.filter (fun b => decide (b ≠ a)), r.tab, r.keep, r.msk, fun b hb => r.new b (List.mem_filter.mp hb).1, by rw [List.length_set, r.len], fun j t e => ?_, fun j l fs gs b hjl e1 e2 e3 e4 => ?_⟩
    · rcases get_set e with ⟨rfl, rfl⟩ | ⟨hne, e⟩
      · refine ⟨_, h1, ?_⟩
        refine .lst (SqL.of (hid_of (fun q => ?_) h3)) (dps_same sm h4)
        rcases List.mem_append.mp q with q | q
        · exact (r.msk a q).2 (r.new a ha).1
        · exact absurd rfl (of_decide_eq_true (List.mem_filter.mp q).2)
      · obtain ⟨ov, g1, g2⟩ := r.rel j t e
        refine ⟨ov, g1, ?_⟩
        cases t with
        | non => cases ov <;> trivial
        | dat d =>
          cases ov with
          | none => exact g2
          | some v => exact dp_same sm g2
        | own fs =>
          cases ov with
          | none => exact g2
          | some v =>
            obtain ⟨b, ys, q1, q2, q3, q4⟩ := g2
            refine ⟨b, ys, q1, List.mem_filter.mpr ⟨q2, decide_eq_true fun z => ?_⟩, q3, dps_same sm q4⟩
            subst z q1
            exact r.inj i j ds fs b hne h0 e h1 g1
        | ob C fs =>
          cases ov with
          | none => exact g2
          | some v => exact ObD.same sm g2
        | raw w =>
          cases ov with
          | none => exact g2
          | some v => exact g2
    · rcases get_set e1 with ⟨_, z⟩ | ⟨n1, e1⟩
      · cases z
      · rcases get_set e2 with ⟨_, z⟩ | ⟨n2, e2⟩
        · cases z
        · exact r.inj j l fs gs b hjl e1 e2 e3 e4
/-! ### the ground moved up: what stands now stands -/
abbrev DC.up (c : DC) (A : List Addr) (H : Hp) : DC := ⟨c.K, c.T, c.M, hid A H⟩
theorem SR.ground (r : SR c A σ H ρ) : Keep c.T c.H0 (hid A H) := by
  refine ⟨fun b o e n => hid_of (fun m => ?_) (r.keep.at_ b o e n), fun P hP tb => ?_⟩
  · rw [(r.new b m).1] at e
    cases e
  · obtain ⟨ps, e, ok⟩ := r.keep.tab P hP tb
    exact ⟨ps, hid_of (fun m => r.nA m hP) e, ok⟩
theorem SR.up (r : SR c A σ H ρ) : SR (c.up A H) A σ H ρ := by
  refine ⟨tabs_hid r.tabs fun a h => r.nA h, .same hid_same, fun a h => ⟨(r.msk a h).1, fun z => ?_⟩, fun a h => ⟨?_, (r.new a h).2⟩, r.len, r.rel, r.inj⟩
  · cases e : H a with
    | none => exact (r.nM a (List.mem_append_left _ h)).2 e
    | some o =>
      have : hid A H a = some o := hid_of (fun m => (r.msk a h).2 (r.new a m).1) e
      rw [show (c.up A H).H0 = hid A H from rfl] at z
      rw [this] at z
      cases z
  · show hid A H a = none
    unfold hid
    rw [if_pos h]
theorem SR.down {A' : List Addr} {σ' : L2.St} {ρ' : DEnv} (r : SR c A σ H ρ) (r' : SR (c.up A H) A' σ' H' ρ') : SR c A' σ' H' ρ' :=
  ⟨r.tab, r.ground.trans r'.keep, r.msk, fun a h => ⟨r.ground.free r.tab (r'.new a h).1, (r'.new a h).2⟩, r'.len, r'.rel, r'.inj⟩
theorem Le.up {D : DEnds} {E : Ends} (L : Le c D E) (r : SR c A σ H ρ) : Le (c.up A H) D E :=
  ⟨fun A' σ' H' ρ' r' q => L.nx A' σ' H' ρ' (r.down r') q, fun v H' d k h q => L.rt v H' d (r.ground.trans k) h q, fun A' σ' H' ρ' r' q => L.bk A' σ' H' ρ' (r.down r') q, fun A' σ' H' ρ' r' q => L.ct A' σ' H' ρ' (r.down r') q⟩
end

/-! ### statements -/
section
variable {c : DC} {ρ : DEnv} {D : DEnds} {t u : TS} {te tk : TE} {d e : PD}
theorem sd_next (h : D.nx ρ) : SD c tNext D ρ := fun E L A σ H r => L.nx A σ H ρ r h
theorem sd_seq (h : SD c t { D with nx := fun ρ' => SD c u D ρ' } ρ) : SD c (tSeq t u) D ρ := fun E L A σ H r => h { E with nx := u E } ⟨fun A' σ' H' ρ' r' q => q E L A' σ' H' r', L.rt, L.bk, L.ct⟩ A σ H r
theorem sd_break (h : D.bk ρ) : SD c tBreak D ρ := fun E L A σ H r => L.bk A σ H ρ r h
theorem sd_cont (h : D.ct ρ) : SD c tCont D ρ := fun E L A σ H r => L.ct A σ H ρ r h
theorem sd_set {i : Nat} (h : ED c te ρ d) (k : D.nx (ρ.set i (.dat d))) : SD c (tAsg te (gName i)) D ρ := fun E L A σ H r => h A σ H r _ fun v H1 k1 h1 => L.nx _ _ _ _ ((r.move k1).setD i h1) k
theorem sd_setN {i : Nat} {ds : List PD} (h : EN c te ρ ds) (k : D.nx (ρ.set i (.own ds))) : SD c (tAsg te (gName i)) D ρ := fun E L A σ H r => h A σ H r _ fun p xs H1 k1 hp h1 h2 => L.nx _ _ _ _ (r.setN i k1 hp h1 h2) k
theorem sd_drop (h : ED c te ρ d) (k : D.nx ρ) : SD c (tDrop te) D ρ := fun E L A σ H r => h A σ H r _ fun v H1 k1 h1 => L.nx _ _ _ _ (r.move k1) k
theorem sd_ret (h : ED c te ρ d) (k : D.rt d) : SD c (tRet te) D ρ := fun E L A σ H r => h A σ H r _ fun v H1 k1 h1 => L.rt v H1 d (r.keep.trans k1) (dp_same (hid_sub fun a m => List.mem_append_left _ m) h1) k
theorem sd_retN (k : D.rt .none) : SD c tRetN D ρ := fun E L A σ H r => L.rt .non H .none r.keep .non k
theorem sd_if {tt : TT} {b : Bool} (h : ET c tt ρ b) (h1 : b = true → SD c t D ρ) (h2 : b = false → SD c u D ρ) : SD c (tIfS tt t u) D ρ := fun E L A σ H r => h A σ H r _ fun H1 k1 => by
  cases b with
  | true =>
    show t E σ H1
    exact h1 rfl E L A σ H1 (r.move k1)
  | false =>
    show u E σ H1
    exact h2 rfl E L A σ H1 (r.move k1)
theorem sd_freeze (i : Nat) {ds : List PD} (h : ρ[i]? = some (.own ds)) (k : SD c t D (ρ.set i (.dat (.list ds)))) : SD c t D ρ := fun E L A σ H r => by
  obtain ⟨A', r'⟩ := r.freeze h
  exact k E L A' σ H r'
theorem own_at {A : List Addr} {σ : L2.St} {H : Hp} (r : SR c A σ H ρ) {i : Nat} {ds : List PD} (h : ρ[i]? = some (.own ds)) : ∃ a xs, σ[i]? = some (some (.ref a)) ∧ a ∈ A ∧ H a = some (.lst xs) ∧ DpAll c.K (hid (c.M ++ A) H) xs ds := by
  obtain ⟨ov, h1, h2⟩ := r.rel i _ h
  cases ov with
  | none => exact h2.elim
  | some v =>
    obtain ⟨a, xs, rfl, q⟩ := h2
    exact ⟨a, xs, h1, q⟩
/-- xs.append(e) -/
theorem sd_app {i : Nat} {ds : List PD} (h0 : ρ[i]? = some (.own ds)) (h : ED c te ρ d) (hz : ds.length ≤ 1000) (k : D.nx (ρ.set i (.own (ds ++ [d])))) : SD c (tDrop (tBM c.K "list" rAppend (tVar i) (tCons te tNil))) D ρ := fun E L A σ H r => by
  obtain ⟨a, xs, h1, ha, h2, h3⟩ := own_at r h0
  refine ⟨_, h1, .inl ⟨rfl, _, SqL.of h2⟩, h A σ H r _ fun v H1 k1 g1 => ?_⟩
  have r1 := r.move k1
  have h4 := dps_keep (hid_keep k1) r.tabm h3
  exact ⟨a, xs, v, rfl, rfl, k1.at_ _ _ h2 (r.nA ha), by rw [dps_len h3]; exact small1000 hz, L.nx _ _ _ _ (r1.mut h0 h1 ha (dps_append h4 (.cons g1 .nil))) k⟩
/-- xs[i] = e -/
theorem sd_setL {i : Nat} {ds : List PD} {n : Int} {j : Nat} (h0 : ρ[i]? = some (.own ds)) (h : ED c te ρ d) (hk : ED c tk ρ (.int n)) (hj : ixN ds.length n = some j) (k : D.nx (ρ.set i (.own (ds.set j d)))) : SD c (tAsg te (gSub (tVar i) tk rSetL)) D ρ := fun E L A σ H r => h A σ H r _ fun v H1 k1 g1 => by
  obtain ⟨a, xs, h1, ha, h2, h3⟩ := own_at (r.move k1) h0
  refine ⟨_, h1, hk A σ H1 (r.move k1) _ fun w H2 k2 g2 => ?_⟩
  have r2 := (r.move k1).move k2
  have h4 := dps_keep (hid_keep k2) (r.move k1).tabm h3
  exact ⟨a, xs, n, j, rfl, dp_int g2, k2.at_ _ _ h2 (r.nA ha), by rw [dps_len h3]; exact hj, L.nx _ _ _ _ (r2.mut h0 h1 ha (dps_set j h4 (dp_keep (hid_keep k2) (r.move k1).tabm g1))) k⟩
/-- x op= e of ints -/
theorem sd_aug {i : Nat} {f : Int → Int → Int} {m n : Int} (h0 : ρ[i]? = some (.dat (.int m))) (h : ED c te ρ (.int n)) (k : D.nx (ρ.set i (.dat (.int (f m n))))) : SD c (tAug i te (ipI f)) D ρ := fun E L A σ H r => by
  obtain ⟨ov, h1, h2⟩ := r.rel i _ h0
  cases ov with
  | none => exact h2.elim
  | some v =>
    have e := dp_int h2
    subst e
    exact ⟨_, h1, h A σ H r _ fun w H1 k1 g1 => ⟨m, n, rfl, dp_int g1, L.nx _ _ _ _ ((r.move k1).setD i (.int _)) k⟩⟩
/-- a, b = e1, e2 -/
theorem sd_par {i j : Nat} {ta : TA} (h : EA c ta ρ [.dat d, .dat e]) (k : D.nx ((ρ.set i (.dat d)).set j (.dat e))) : SD c (tPar i j ta) D ρ := fun E L A σ H r => h A σ H r _ fun vs H1 k1 g1 => by
  cases g1 with
  | cons a1 g1 =>
    cases g1 with
    | cons a2 g1 =>
      cases g1
      exact ⟨_, _, rfl, L.nx _ _ _ _ (((r.move k1).setD i a1).setD j a2) k⟩
/-! targets: a name; a tuple of names -/
def setVs (σ : L2.St) : List Nat → List V → L2.St
  | j :: js, x :: xs => setVs (σ.set j (some x)) js xs
  | _, _ => σ
def setDs (ρ : DEnv) : List Nat → List PD → DEnv
  | j :: js, d :: ds => setDs (ρ.set j (.dat d)) js ds
  | _, _ => ρ
def gNs : List Nat → TGs
  | [] => gNil
  | j :: js => gCons (gName j) (gNs js)
theorem SR.setVs {A : List Addr} {H : Hp} : ∀ {js : List Nat} {xs : List V} {ds : List PD} {σ : L2.St} {ρ : DEnv}, SR c A σ H ρ → DpAll c.K (hid (c.M ++ A) H) xs ds → SR c A (setVs σ js xs) H (setDs ρ js ds)
  | [], _, _, _, _, r, _ => by
    unfold DL.setVs DL.setDs
    exact r
  | j :: js, _, _, _, _, r, .nil => r
  | j :: js, _, _, _, _, r, .cons a h => SR.setVs (js := js) (r.setD j a) h
theorem gNs_run : ∀ (js : List Nat) (xs : List V) (σ : L2.St) (H : Hp) (Q : L2.St → Hp → Prop), js.length = xs.length → Q (setVs σ js xs) H → gNs js xs σ H Q
  | [], [], σ, H, Q, _, q => ⟨rfl, q⟩
  | j :: js, x :: xs, σ, H, Q, hl, q => ⟨x, xs, rfl, gNs_run js xs (σ.set j (some x)) H Q (by simpa using hl) q⟩
/-- what a target does with an item: the slots js get its parts -/
structure TGd (c : DC) (g : TG) (js : List Nat) (d : PD) (ds : List PD) : Prop where
  run : ∀ A σ H ρ v, SR c A σ H ρ → Dp c.K (hid (c.M ++ A) H) v d → ∀ Q : L2.St → Hp → Prop, (∀ xs, DpAll c.K (hid (c.M ++ A) H) xs ds → js.length = xs.length → Q (setVs σ js xs) H) → g v σ H Q
theorem tg_name {j : Nat} : TGd c (gName j) [j] d [d] := ⟨fun A σ H ρ v r h Q q => q [v] (.cons h .nil) rfl⟩
theorem tg_tup {js : List Nat} {n : Nat} {ds : List PD} (hn : n = ds.length) (hl : js.length = ds.length) : TGd c (gTup c.K n (gNs js)) js (.tuple ds) ds := ⟨fun A σ H ρ v r h Q q => by
  obtain ⟨a, xs, rfl, h1, h2⟩ := dp_tup h
  have hx := dps_len h2
  exact ⟨a, xs, rfl, sqt_same hid_same h1, by omega, gNs_run js xs σ H Q (by omega) (q xs h2 (by omega))⟩⟩
/-- a, b = e -/
theorem sd_unp {js : List Nat} {n : Nat} {ds : List PD} (h : ED c te ρ (.tuple ds)) (hn : n = ds.length) (hl : js.length = ds.length) (k : D.nx (setDs ρ js ds)) : SD c (tAsg te (gTup c.K n (gNs js))) D ρ := fun E L A σ H r => h A σ H r _ fun v H1 k1 h1 =>
  (tg_tup (c := c) hn hl).run A σ H1 ρ v (r.move k1) h1 _ fun xs h2 _ => L.nx _ _ _ _ ((r.move k1).setVs h2) k
/-! ### walks -/
structure Wk (c : DC) (J : It) (ds : List PD) : Prop where
  go : ∀ i A σ H ρ, SR c A σ H ρ → i < ds.length → J.go i H
  yld : ∀ i A σ H ρ x H', SR c A σ H ρ → J.yld i H x H' → ∀ d, ds[i]? = some d → Keep c.T H H' ∧ Dp c.K (hid (c.M ++ A) H') x d
  stop : ∀ i A σ H ρ, SR c A σ H ρ → ds.length ≤ i → J.stop i H
def ID (c : DC) (wi : TI) (ρ : DEnv) (ds : List PD) : Prop := ∀ A σ H, SR c A σ H ρ → ∀ R : It → Hp → Prop, (∀ J H1, Keep c.T H H1 → Wk (c.up A H1) J ds → R J H1) → wi σ H R
theorem id_is {wi : TI} {ds es : List PD} (h : ID c wi ρ ds) (he : ds = es) : ID c wi ρ es := he ▸ h
/-- the loop: a word of the turn and the slots -/
theorem sd_forK {wi : TI} {g : TG} {js : List Nat} {ds : List PD} {tb : TS} (hi : ID c wi ρ ds) (Inv : Nat → DEnv → Prop) (h0 : Inv 0 ρ)
    (hs : ∀ i d ρ' H0, Keep c.T c.H0 H0 → ds[i]? = some d → Inv i ρ' → ∃ ps, TGd ⟨c.K, c.T, c.M, H0⟩ g js d ps ∧ SD ⟨c.K, c.T, c.M, H0⟩ tb { D with nx := Inv (i + 1), ct := Inv (i + 1), bk := D.nx } (setDs ρ' js ps))
    (hd : ∀ ρ', Inv ds.length ρ' → D.nx ρ') : SD c (tFor wi g tb) D ρ := fun E L A σ H r => hi A σ H r _ fun J H1 k1 W => by
  have r1 := r.move k1
  have L1 := L.up r1
  refine ⟨fun i m σ' H' => m = ds.length - i ∧ i ≤ ds.length ∧ ∃ A' ρ', SR (c.up A H1) A' σ' H' ρ' ∧ Inv i ρ', ⟨_, rfl, Nat.zero_le _, A, ρ, r1.up, h0⟩, ?_⟩
  rintro i m σ' H' ⟨rfl, hle, A', ρ', r', hv⟩
  by_cases hlt : i < ds.length
  · refine .inr ⟨W.go i A' σ' H' ρ' r' hlt, fun σ2 H2 => ∃ A2 ρ2, SR (c.up A H1) A2 σ2 H2 ρ2 ∧ Inv (i + 1) ρ2, fun σ2 H2 ⟨A2, ρ2, r2, q⟩ => ⟨_, by omega, rfl, hlt, A2, ρ2, r2, q⟩, fun x H2 y => ?_⟩
    have hdi : ds[i]? = some ds[i] := List.getElem?_eq_getElem hlt
    obtain ⟨ps, hg, hb⟩ := hs i ds[i] ρ' (hid A H1) r1.ground hdi hv
    obtain ⟨k2, hx⟩ := W.yld i A' σ' H' ρ' x H2 r' y ds[i] hdi
    have r2 := r'.move k2
    refine hg.run A' σ' H2 ρ' x r2 hx _ fun xs h2 _ => ?_
    refine hb { E with nx := fun σ2 H2 => ∃ A2 ρ2, SR (c.up A H1) A2 σ2 H2 ρ2 ∧ Inv (i + 1) ρ2, ct := fun σ2 H2 => ∃ A2 ρ2, SR (c.up A H1) A2 σ2 H2 ρ2 ∧ Inv (i + 1) ρ2, bk := E.nx } ⟨fun A3 σ3 H3 ρ3 r3 q => ⟨A3, ρ3, r3, q⟩, L1.rt, fun A3 σ3 H3 ρ3 r3 q => L1.nx A3 σ3 H3 ρ3 r3 q, fun A3 σ3 H3 ρ3 r3 q => ⟨A3, ρ3, r3, q⟩⟩ A' _ H2 (r2.setVs h2)
  · have e : i = ds.length := by omega
    subst e
    exact .inl ⟨W.stop _ A' σ' H' ρ' r' (Nat.le_refl _), L1.nx A' σ' H' ρ' r' (hd ρ' hv)⟩
theorem sd_for {wi : TI} {g : TG} {js : List Nat} {ds : List PD} {tb : TS} (hi : ID c wi ρ ds) (Inv : Nat → DEnv → Prop) (h0 : Inv 0 ρ)
    (hs : ∀ i d ρ' H0, ds[i]? = some d → Inv i ρ' → ∃ ps, TGd ⟨c.K, c.T, c.M, H0⟩ g js d ps ∧ SD ⟨c.K, c.T, c.M, H0⟩ tb { D with nx := Inv (i + 1), ct := Inv (i + 1), bk := D.nx } (setDs ρ' js ps))
    (hd : ∀ ρ', Inv ds.length ρ' → D.nx ρ') : SD c (tFor wi g tb) D ρ := sd_forK hi Inv h0 (fun i d ρ' H0 _ => hs i d ρ' H0) hd
/-- while: a word and a measure -/
theorem sd_while {tt : TT} {tb : TS} (Inv : DEnv → Prop) (μ : DEnv → Nat) (h0 : Inv ρ)
    (hs : ∀ ρ' H0, Inv ρ' → ∃ b, ET ⟨c.K, c.T, c.M, H0⟩ tt ρ' b ∧ (b = true → SD ⟨c.K, c.T, c.M, H0⟩ tb { D with nx := fun ρ2 => Inv ρ2 ∧ μ ρ2 < μ ρ', ct := fun ρ2 => Inv ρ2 ∧ μ ρ2 < μ ρ', bk := D.nx } ρ') ∧ (b = false → D.nx ρ')) : SD c (tWhile tt tb) D ρ := fun E L A σ H r => by
  refine ⟨fun m σ' H' => ∃ A' ρ', SR c A' σ' H' ρ' ∧ Inv ρ' ∧ m = μ ρ', ⟨_, A, ρ, r, h0, rfl⟩, ?_⟩
  rintro m σ' H' ⟨A', ρ', r', hv, rfl⟩
  obtain ⟨b, hb, h1, h2⟩ := hs ρ' c.H0 hv
  refine hb A' σ' H' r' _ fun H1 k1 => ?_
  cases b with
  | true =>
    refine ⟨fun σ2 H2 => ∃ A2 ρ2, SR c A2 σ2 H2 ρ2 ∧ Inv ρ2 ∧ μ ρ2 < μ ρ', fun σ2 H2 ⟨A2, ρ2, r2, q1, q2⟩ => ⟨_, q2, A2, ρ2, r2, q1, rfl⟩, ?_⟩
    exact h1 rfl { E with nx := fun σ2 H2 => ∃ A2 ρ2, SR c A2 σ2 H2 ρ2 ∧ Inv ρ2 ∧ μ ρ2 < μ ρ', ct := fun σ2 H2 => ∃ A2 ρ2, SR c A2 σ2 H2 ρ2 ∧ Inv ρ2 ∧ μ ρ2 < μ ρ', bk := E.nx } ⟨fun A3 σ3 H3 ρ3 r3 q => ⟨A3, ρ3, r3, q⟩, L.rt, fun A3 σ3 H3 ρ3 r3 q => L.nx A3 σ3 H3 ρ3 r3 q, fun A3 σ3 H3 ρ3 r3 q => ⟨A3, ρ3, r3, q⟩⟩ A' σ' H1 (r'.move k1)
  | false => exact L.nx A' σ' H1 ρ' (r'.move k1) (h2 rfl)
/-! walks of data -/
theorem upk {c : DC} {A A' : List Addr} {σ σ' : L2.St} {H1 H' : Hp} {ρ ρ' : DEnv} (r : SR c A σ H1 ρ) (r' : SR (c.up A H1) A' σ' H' ρ') : Keep c.T (hid (c.M ++ A) H1) (hid (c.M ++ A') H') := by
  have ks : Keep c.T (hid A H1) H' := r'.keep
  refine ⟨fun b o e n => ?_, fun P hP tb => ?_⟩
  · obtain ⟨m, e⟩ := hid_inv e
    have e1 : hid A H1 b = some o := hid_of (fun q => m (List.mem_append_right _ q)) e
    refine hid_of (fun q => ?_) (ks.at_ b o e1 n)
    rcases List.mem_append.mp q with q | q
    · exact m (List.mem_append_left _ q)
    · have := (r'.new b q).1
      rw [show (c.up A H1).H0 = hid A H1 from rfl, e1] at this
      cases this
  · obtain ⟨ps, e, ok⟩ := tb
    obtain ⟨m, e⟩ := hid_inv e
    have e1 : hid A H1 P = some (.tbl ps) := hid_of (fun q => m (List.mem_append_right _ q)) e
    obtain ⟨ps', e', ok'⟩ := ks.tab P hP ⟨ps, e1, ok⟩
    exact ⟨ps', hid_of (fun q => (r'.nM P q).1 hP) e', ok'⟩
theorem id_list {tl : TE} {ds : List PD} (h : ED c tl ρ (.list ds)) : ID c (iList c.K tl) ρ ds := fun A σ H r R q => h A σ H r _ fun v H1 k1 h1 => by
  obtain ⟨a, xs, rfl, h2, h3⟩ := dp_list h1
  have r1 := r.move k1
  have base : ∀ A' σ' H' ρ', SR (c.up A H1) A' σ' H' ρ' → SqL c.K H' a xs ∧ DpAll c.K (hid (c.M ++ A') H') xs ds := fun A' σ' H' ρ' r' => by
    have km : Keep c.T (hid (c.M ++ A) H1) (hid (c.M ++ A') H') := upk r1 r'
    exact ⟨hid_same.seq (km.sqL r1.tabm h2), dps_keep km r1.tabm h3⟩
  refine ⟨a, rfl, ⟨xs, hid_same.seq h2⟩, q _ H1 k1 ⟨fun i A' σ' H' ρ' r' hi => ?_, fun i A' σ' H' ρ' x H2 r' y d hd => ?_, fun i A' σ' H' ρ' r' hi => ?_⟩⟩
  · obtain ⟨s1, s2⟩ := base A' σ' H' ρ' r'
    have hx : i < xs.length := by rw [dps_len s2]; exact hi
    exact ⟨xs, xs[i], s1, List.getElem?_eq_getElem hx⟩
  · obtain ⟨s1, s2⟩ := base A' σ' H' ρ' r'
    obtain ⟨rfl, y⟩ := y
    obtain ⟨w, e1, e2⟩ := dps_get s2 hd
    rw [y xs s1] at e1
    cases e1
    exact ⟨.refl, e2⟩
  · obtain ⟨s1, s2⟩ := base A' σ' H' ρ' r'
    exact ⟨xs, s1, by rw [dps_len s2]; exact hi⟩
theorem id_tup {tl : TE} {ds : List PD} (h : ED c tl ρ (.tuple ds)) : ID c (iTup c.K tl) ρ ds := fun A σ H r R q => h A σ H r _ fun v H1 k1 h1 => by
  obtain ⟨a, xs, rfl, h2, h3⟩ := dp_tup h1
  have r1 := r.move k1
  have base : ∀ A' σ' H' ρ', SR (c.up A H1) A' σ' H' ρ' → SqT c.K H' a xs ∧ DpAll c.K (hid (c.M ++ A') H') xs ds := fun A' σ' H' ρ' r' => by
    have km : Keep c.T (hid (c.M ++ A) H1) (hid (c.M ++ A') H') := upk r1 r'
    exact ⟨sqt_same hid_same (km.sqT r1.tabm h2), dps_keep km r1.tabm h3⟩
  refine ⟨a, rfl, ⟨xs, sqt_same hid_same h2⟩, q _ H1 k1 ⟨fun i A' σ' H' ρ' r' hi => ?_, fun i A' σ' H' ρ' x H2 r' y d hd => ?_, fun i A' σ' H' ρ' r' hi => ?_⟩⟩
  · obtain ⟨s1, s2⟩ := base A' σ' H' ρ' r'
    have hx : i < xs.length := by rw [dps_len s2]; exact hi
    exact ⟨xs, xs[i], s1, List.getElem?_eq_getElem hx⟩
  · obtain ⟨s1, s2⟩ := base A' σ' H' ρ' r'
    obtain ⟨rfl, y⟩ := y
    obtain ⟨w, e1, e2⟩ := dps_get s2 hd
    rw [y xs s1] at e1
    cases e1
    exact ⟨.refl, e2⟩
  · obtain ⟨s1, s2⟩ := base A' σ' H' ρ' r'
    exact ⟨xs, s1, by rw [dps_len s2]; exact hi⟩
end
end DL
/-! comprehensions, walks, conversions, defs over data -/
namespace DL
open PySem PySem.Spec PyProof.Rows L2 DA

/-! ### slots wiped -/
def wipeD (ρ : DEnv) : List Nat → DEnv
  | [] => ρ
  | v :: vs => (wipeD ρ vs).set v .non
theorem SR.wipe {c : DC} {A : List Addr} {σ : L2.St} {H : Hp} {ρ : DEnv} (r : SR c A σ H ρ) : ∀ vs : List Nat, SR c A (L2.wipe σ vs) H (wipeD ρ vs)
  | [] => r
  | v :: vs => SR.setX (SR.wipe r vs) v
theorem wipe_key {σ : L2.St} {j : Nat} {ov : Option V} : ∀ vs : List Nat, (L2.wipe (σ.set j ov) vs).set j none = (L2.wipe σ vs).set j none
  | [] => by show (σ.set j ov).set j none = σ.set j none; rw [List.set_set]
  | v :: vs => by
    show ((L2.wipe (σ.set j ov) vs).set v none).set j none = ((L2.wipe σ vs).set v none).set j none
    by_cases e : v = j
    · subst e
      rw [List.set_set, List.set_set]
      exact wipe_key vs
    · rw [List.set_comm _ _ e, List.set_comm _ _ e, wipe_key vs]
theorem wipe_set_in {σ : L2.St} {j : Nat} {ov : Option V} : ∀ {vs : List Nat}, j ∈ vs → L2.wipe (σ.set j ov) vs = L2.wipe σ vs
  | v :: vs, h => by
    show (L2.wipe (σ.set j ov) vs).set v none = (L2.wipe σ vs).set v none
    by_cases m : j ∈ vs
    · rw [wipe_set_in m]
    · have e : j = v := (List.mem_cons.mp h).resolve_right m
      subst e
      exact wipe_key vs
theorem wipe_wipe {σ : L2.St} : ∀ {us vs : List Nat}, (∀ u ∈ us, u ∈ vs) → L2.wipe (L2.wipe σ us) vs = L2.wipe σ vs
  | [], _, _ => rfl
  | u :: us, vs, h => by
    show L2.wipe ((L2.wipe σ us).set u none) vs = L2.wipe σ vs
    rw [wipe_set_in (h u List.mem_cons_self), wipe_wipe fun x hx => h x (List.mem_cons_of_mem _ hx)]
theorem wipe_setVs {vs : List Nat} : ∀ {js : List Nat} {xs : List V} {σ : L2.St}, (∀ j ∈ js, j ∈ vs) → L2.wipe (setVs σ js xs) vs = L2.wipe σ vs
  | [], _, _, _ => by unfold setVs; rfl
  | j :: js, [], _, _ => rfl
  | j :: js, x :: xs, σ, h => by
    show L2.wipe (setVs (σ.set j (some x)) js xs) vs = L2.wipe σ vs
    rw [wipe_setVs fun i hi => h i (List.mem_cons_of_mem _ hi), wipe_set_in (h j List.mem_cons_self)]
section
variable {c : DC} {A : List Addr} {σ : L2.St} {H H' : Hp} {ρ : DEnv}
/-- a hidden address that no slot knows changes -/
theorem SR.poke (r : SR c A σ H ρ) {a : Addr} {ys : List V} (ha : a ∈ A) (hn : ∀ (i : Nat) (ds : List PD), ρ[i]? = some (DS.own ds) → σ[i]? = some (some (V.ref a)) → False) : SR c A σ (upd H a (.lst ys)) ρ := by
  have n0 : c.H0 a = none := (r.new a ha).1
  have eh : hid (c.M ++ A) (upd H a (.lst ys)) = hid (c.M ++ A) H := hid_in (List.mem_append_right _ ha)
  refine ⟨r.tab, r.keep.own r.tab n0, r.msk, fun b hb => ?_, r.len, fun j t e => ?_, r.inj⟩
  · obtain ⟨h, xs, e⟩ := r.new b hb
    by_cases z : b = a
    · subst z
      exact ⟨h, ys, upd_same⟩
    · exact ⟨h, xs, by rw [upd_ne z]; exact e⟩
  · obtain ⟨ov, g1, g2⟩ := r.rel j t e
    refine ⟨ov, g1, ?_⟩
    cases t with
    | non => cases ov <;> trivial
    | dat d =>
      cases ov with
      | none => exact g2
      | some v =>
        show Dp c.K (hid (c.M ++ A) (upd H a (.lst ys))) v d
        rw [eh]
        exact g2
    | own fs =>
      cases ov with
      | none => exact g2
      | some v =>
        obtain ⟨b, xs, q1, q2, q3, q4⟩ := g2
        refine ⟨b, xs, q1, q2, ?_, by rw [eh]; exact q4⟩
        rw [upd_ne (fun z => ?_)]
        · exact q3
        · subst z q1
          exact hn j fs e g1
    | ob C fs =>
      cases ov with
      | none => exact g2
      | some v =>
        show ObD c.K (hid (c.M ++ A) (upd H a (.lst ys))) v C fs
        rw [eh]
        exact g2
    | raw w =>
      cases ov with
      | none => exact g2
      | some v => exact g2
end
section
variable {c : DC} {ρ : DEnv} {te : TE}
/-- [e for x in it if t] -/
theorem en_lc {wi : TI} {g : TG} {tt : TT} {vs js : List Nat} {ds : List PD} (b : PD → Bool) (f : PD → PD) (hi : ID c wi ρ ds) (hz : ds.length ≤ 1000) (hj : ∀ j ∈ js, j ∈ vs)
    (hs : ∀ d ∈ ds, ∀ H0, Keep c.T c.H0 H0 → ∃ ps, TGd ⟨c.K, c.T, c.M, H0⟩ g js d ps ∧ ET ⟨c.K, c.T, c.M, H0⟩ tt (setDs (wipeD ρ vs) js ps) (b d) ∧ (b d = true → ED ⟨c.K, c.T, c.M, H0⟩ te (setDs (wipeD ρ vs) js ps) (f d))) :
    EN c (tLc wi g tt te vs) ρ ((ds.filter b).map f) := fun A σ H r Q q => hi A σ H r _ fun J H1 k1 W Dl hD => by
  have r1 := r.move k1
  have nw : ∀ (i : Nat) (es : List PD), ρ[i]? = some (DS.own es) → σ[i]? = some (some (V.ref Dl)) → False := fun i es e1 e2 => by
    obtain ⟨ov, z1, z2⟩ := r1.rel i _ e1
    rw [e2] at z1
    cases z1
    obtain ⟨a, ys, z3, z4, z5, _⟩ := z2
    cases z3
    rw [hD] at z5
    cases z5
  refine ⟨fun i m H' => m = ds.length - i ∧ i ≤ ds.length ∧ Keep c.T H1 H' ∧ SR (c.up A H1) (Dl :: A) σ H' ρ ∧ ∃ xs, H' Dl = some (.lst xs) ∧ DpAll c.K (hid (c.M ++ Dl :: A) H') xs (((ds.take i).filter b).map f), ⟨_, rfl, Nat.zero_le _, .new hD, r1.up.grow (.new hD) hD upd_same, [], upd_same, .nil⟩, ?_⟩
  rintro i m H' ⟨rfl, hle, kk, r', xs, e1, e2⟩
  by_cases hlt : i < ds.length
  · have hdi : ds[i]? = some ds[i] := List.getElem?_eq_getElem hlt
    refine .inr ⟨W.go i _ σ H' ρ r' hlt, fun H2 => Keep c.T H1 H2 ∧ SR (c.up A H1) (Dl :: A) σ H2 ρ ∧ ∃ xs, H2 Dl = some (.lst xs) ∧ DpAll c.K (hid (c.M ++ Dl :: A) H2) xs (((ds.take (i + 1)).filter b).map f), fun H2 ⟨q1, q2, q3⟩ => ⟨_, by omega, rfl, hlt, q1, q2, q3⟩, fun x H2 y => ?_⟩
    obtain ⟨k2, hx⟩ := W.yld i _ σ H' ρ x H2 r' y ds[i] hdi
    obtain ⟨ps, hg, ht, he⟩ := hs ds[i] (List.getElem_mem hlt) (hid A H1) r1.ground
    have r2 := r'.move k2
    have rw2 := r2.wipe vs
    have etk : ds.take (i + 1) = ds.take i ++ [ds[i]] := by
      rw [List.take_succ, hdi]
      rfl
    refine hg.run _ _ H2 _ x rw2 hx _ fun zs h2 _ => ⟨by rw [wipe_setVs hj, wipe_wipe (fun _ h => h)], ?_⟩
    have r3 := rw2.setVs (js := js) h2
    refine ht _ _ H2 r3 _ fun H3 k3 => ?_
    have k13 := (kk.trans k2).trans k3
    have r4 := r2.move k3
    have nD : Dl ∉ c.T := r'.nA List.mem_cons_self
    have e3 : H3 Dl = some (.lst xs) := k3.at_ _ _ (k2.at_ _ _ e1 nD) nD
    have e4 : DpAll c.K (hid (c.M ++ Dl :: A) H3) xs (((ds.take i).filter b).map f) := dps_keep (hid_keep (k2.trans k3)) r'.tabm e2
    cases hb : b ds[i] with
    | false =>
      show Keep c.T H1 H3 ∧ SR (c.up A H1) (Dl :: A) σ H3 ρ ∧ ∃ xs, H3 Dl = some (.lst xs) ∧ DpAll c.K (hid (c.M ++ Dl :: A) H3) xs (((ds.take (i + 1)).filter b).map f)
      refine ⟨k13, r4, xs, e3, ?_⟩
      rw [etk, List.filter_append, List.filter_cons, if_neg (by rw [hb]; decide), List.filter_nil, List.append_nil]
      exact e4
    | true =>
      refine he hb _ _ H3 (r3.move k3) _ fun y H4 k4 h4 => ?_
      have r5 := r4.move k4
      have e5 : H4 Dl = some (.lst xs) := k4.at_ _ _ e3 nD
      have e6 : DpAll c.K (hid (c.M ++ Dl :: A) H4) xs (((ds.take i).filter b).map f) := dps_keep (hid_keep k4) r4.tabm e4
      have e7 : DpAll c.K (hid (c.M ++ Dl :: A) H4) (xs ++ [y]) (((ds.take (i + 1)).filter b).map f) := by
        rw [etk, List.filter_append, List.filter_cons, if_pos hb, List.filter_nil, List.map_append]
        exact dps_append e6 (.cons h4 .nil)
      have eh : hid (c.M ++ Dl :: A) (upd H4 Dl (.lst (xs ++ [y]))) = hid (c.M ++ Dl :: A) H4 := hid_in (List.mem_append_right _ List.mem_cons_self)
      refine ⟨xs, e5, ?_, (k13.trans k4).own r1.tabs hD, r5.poke List.mem_cons_self nw, _, upd_same, ?_⟩
      · have hl := dps_len e6
        have h1 : (((ds.take i).filter b).map f).length ≤ ds.length := by
          rw [List.length_map]
          exact Nat.le_trans (List.length_filter_le _ _) (by rw [List.length_take]; exact Nat.min_le_right _ _)
        exact small1000 (by omega)
      · rw [eh]
        exact e7
  · have e : i = ds.length := by omega
    subst e
    refine .inl ⟨W.stop _ _ σ H' ρ r' (Nat.le_refl _), q Dl xs H' (k1.trans kk) (k1.free r.tabs hD) e1 ?_⟩
    rw [List.take_length] at e2
    rw [hid_cong (N := c.M ++ Dl :: A) (fun a => by simp [or_left_comm])]
    exact e2
/-! ### ranges -/
def rngD (lo : Int) (n : Nat) : List PD := (List.range n).map fun (i : Nat) => PyData.int (lo + (i : Int))
theorem rngD_len (lo : Int) (n : Nat) : (rngD lo n).length = n := by unfold rngD; simp
theorem rngD_get {lo : Int} {n i : Nat} {d : PD} (h : (rngD lo n)[i]? = some d) : i < n ∧ d = .int (lo + (i : Int)) := by
  unfold rngD at h
  rw [List.getElem?_map] at h
  cases e : (List.range n)[i]? with
  | none => rw [e] at h; cases h
  | some j =>
    rw [e] at h
    obtain ⟨h1, h2⟩ := List.getElem?_eq_some_iff.mp e
    rw [List.length_range] at h1
    rw [List.getElem_range] at h2
    subst h2
    exact ⟨h1, (Option.some.inj h).symm⟩
theorem wk_rng {c : DC} {lo : Int} {n : Nat} : Wk c (Itr lo n) (rngD lo n) :=
  ⟨fun i A σ H ρ r h => by rw [rngD_len] at h; exact h, fun i A σ H ρ x H' r y d hd => by
    obtain ⟨rfl, rfl⟩ := y
    obtain ⟨_, rfl⟩ := rngD_get hd
    exact ⟨.refl, .int _⟩, fun i A σ H ρ r h => by rw [rngD_len] at h; exact h⟩
theorem args1 {K : PySem.W.Frag} {H : Hp} {vs : List V} {d : PD} (h : ArgsOk K H vs [.dat d]) : ∃ v, vs = [v] ∧ Dp K H v d := by
  cases h with
  | cons a r => cases r; exact ⟨_, rfl, a⟩
theorem args2 {K : PySem.W.Frag} {H : Hp} {vs : List V} {d e : PD} (h : ArgsOk K H vs [.dat d, .dat e]) : ∃ v w, vs = [v, w] ∧ Dp K H v d ∧ Dp K H w e := by
  cases h with
  | cons a r =>
    cases r with
    | cons b r => cases r; exact ⟨_, _, rfl, a, b⟩
theorem id_rng1 {ta : TA} {n : Int} (h : EA c ta ρ [.dat (.int n)]) (hl : -(2 ^ 62) ≤ n := by omega) (hz : n ≤ 100000 := by omega) : ID c (iRng1 ta) ρ (rngD 0 n.toNat) := fun A σ H r R q => h A σ H r _ fun vs H1 k1 h1 => by
  obtain ⟨v, rfl, h2⟩ := args1 h1
  exact ⟨n, by rw [dp_int h2], hl, by omega, q _ H1 k1 wk_rng⟩
theorem id_rng2 {ta : TA} {a n : Int} (h : EA c ta ρ [.dat (.int a), .dat (.int n)]) (ha : -100000 ≤ a ∧ a ≤ 100000) (hz : -100000 ≤ n ∧ n ≤ 100000) : ID c (iRng2 ta) ρ (rngD a (n - a).toNat) := fun A σ H r R q => h A σ H r _ fun vs H1 k1 h1 => by
  obtain ⟨v, w, rfl, h2, h3⟩ := args2 h1
  exact ⟨a, n, by rw [dp_int h2, dp_int h3], ⟨by omega, by omega, by omega, by omega⟩, q _ H1 k1 wk_rng⟩
/-! ### tuple(xs), list(xs), list(t) -/
theorem ed_tupleL {K : PySem.W.Frag} {ds : List PD} (hK : K = c.K) (h : EL c te ρ ds) : ED c (tCB (fun xs H Q => ∃ p ys, xs = [.ref p] ∧ ((SqL K H p ys ∧ ∀ l, H l = none → Q (.ref l) (upd H l (.tup ys))) ∨ (SqT K H p ys ∧ Q (.ref p) H))) (tCons te tNil)) ρ (.tuple ds) := fun A σ H r Q q => h A σ H r _ fun a xs H1 k1 h1 h2 => by
  subst hK
  refine ⟨a, xs, rfl, .inl ⟨h1, fun p hp => ?_⟩⟩
  have s := r.move k1
  have sm : Same (hid (c.M ++ A) H1) (hid (c.M ++ A) (upd H1 p (.tup xs))) := fun b o e => by
    obtain ⟨m, e⟩ := hid_inv e
    exact hid_of m (by rw [upd_ne (ne_of_none e hp)]; exact e)
  exact q _ _ (k1.trans (.new hp)) (.tup (SqT.of (hid_of (nfresh s hp) upd_same)) (dps_same sm h2))
def listR (K : PySem.W.Frag) : List V → Hp → VK → Prop := fun xs H Q => ∃ p ys, xs = [.ref p] ∧ (SqL K H p ys ∨ SqT K H p ys) ∧ ∀ l, H l = none → Q (.ref l) (upd H l (.lst ys))
theorem en_listL {ds : List PD} (h : EL c te ρ ds) : EN c (tCB (listR c.K) (tCons te tNil)) ρ ds := fun A σ H r Q q => h A σ H r _ fun a xs H1 k1 h1 h2 => ⟨a, xs, rfl, .inl h1, fun p hp => q p xs _ (k1.trans (.new hp)) (k1.free r.tabs hp) upd_same (by
  rw [hid_new hp]
  exact h2)⟩
theorem en_listT {ds : List PD} (h : ED c te ρ (.tuple ds)) : EN c (tCB (listR c.K) (tCons te tNil)) ρ ds := fun A σ H r Q q => h A σ H r _ fun v H1 k1 h1 => by
  obtain ⟨a, xs, rfl, h2, h3⟩ := dp_tup h1
  exact ⟨a, xs, rfl, .inr (sqt_same hid_same h2), fun p hp => q p xs _ (k1.trans (.new hp)) (k1.free r.tabs hp) upd_same (by
    rw [hid_new hp]
    exact h3)⟩
/-! ### max, min, abs of two -/
theorem ed_CB2 {r : List V → Hp → VK → Prop} {ta : TA} {x y d : PD} (h : EA c ta ρ [.dat x, .dat y]) (hr : ∀ H v w, ∀ K' H', Dp K' H' v x → Dp K' H' w y → ∀ Q : VK, (∀ z, (∀ K2 H2, Dp K2 H2 z d) → Q z H) → r [v, w] H Q) : ED c (tCB r ta) ρ d := fun A σ H s Q q => h A σ H s _ fun vs H1 k1 h1 => by
  obtain ⟨v, w, rfl, h2, h3⟩ := args2 h1
  exact hr H1 v w _ _ h2 h3 Q fun z hz => q z H1 k1 (hz _ _)
/-! ### a def over data -/
abbrev DR (d : PD) : DEnds := { nx := fun _ => d = .none, rt := fun e => e = d }
def startD (N : List Str) (ss : List DS) : DEnv := ss ++ List.replicate (N.length - ss.length) .non
theorem start_sr {K : PySem.W.Frag} {T M : List Addr} {H : Hp} {N : List Str} {vs : List V} {ss : List DS} (hm : ∀ a ∈ M, a ∉ T ∧ H a ≠ none) (ht : Tabs T H) (h : ArgsOk K (hid M H) vs ss) : SR ⟨K, T, M, H⟩ [] (L2.start N vs) H (startD N ss) := by
  have hl := h.len
  have rep : ∀ (n i : Nat) (s : DS), (List.replicate n DS.non)[i]? = some s → s = .non := fun n i s e => by
    rw [List.getElem?_replicate] at e
    split at e
    · exact (Option.some.inj e).symm
    · cases e
  have get : ∀ {vs : List V} {ss : List DS}, ArgsOk K (hid M H) vs ss → ∀ {i : Nat} {s : DS}, ss[i]? = some s → ∃ v, vs[i]? = some v ∧ ArgOk K (hid M H) v s := by
    intro vs ss h
    induction h with
    | nil => intro i s e; simp at e
    | cons a r ih =>
      intro i s e
      cases i with
      | zero => simp at e; subst e; exact ⟨_, rfl, a⟩
      | succ i =>
        obtain ⟨v, h1, h2⟩ := ih (i := i) (s := s) (by simpa using e)
        exact ⟨v, by simpa using h1, h2⟩
  have nown : ∀ (i : Nat) (es : List PD), (startD N ss)[i]? = some (DS.own es) → False := fun i es e => by
    unfold startD at e
    rw [List.getElem?_append] at e
    split at e
    · obtain ⟨v, _, h2⟩ := get h e
      exact h2
    · cases rep _ _ _ e
  refine ⟨ht, .refl, hm, fun a h => (by cases h), ?_, fun i s e => ?_, fun i j ds es a _ e1 => (nown i ds e1).elim⟩
  · unfold L2.start startD
    simp [hl]
  · unfold startD at e
    rw [List.getElem?_append] at e
    unfold L2.start
    split at e
    · next hi =>
      obtain ⟨v, h1, h2⟩ := get h e
      refine ⟨some v, ?_, ?_⟩
      · rw [List.getElem?_append, if_pos (by simp; omega), List.getElem?_map, h1]
        rfl
      · show SlotOk K (hid (M ++ []) H) H [] (some v) s
        rw [List.append_nil]
        cases s with
        | non => trivial
        | dat d => exact h2
        | ob C fs => exact h2
        | own es => exact h2.elim
        | raw w => exact h2
    · next hi =>
      have := rep _ _ _ e
      subst this
      have hlt : i - ss.length < N.length - ss.length := by
        have := (List.getElem?_eq_some_iff.mp e).1
        simpa using this
      refine ⟨none, ?_, trivial⟩
      rw [List.getElem?_append, if_neg (by simp; omega), List.getElem?_replicate, if_pos (by simp; omega)]
section
variable {P : Program} {w : World} {K : PySem.W.Frag} {mg : Str → Option Value} {base : Heap}
theorem fn_sd {T : List Addr} {x qual : Str} {st : Stmt} {f : Addr} {fd : FuncData} {N ps : List Str} {k : Nat} {R : List DS → PD → Prop} (F : Fun K x qual st f fd) (S : FnScope N ps (defScope st)) (hl : ∀ ss d, R ss d → ss.length = ps.length)
    (hb : ∀ (cdv : Value) (A : Around) (outer : List Env) (s : Shared) (H : Hp) (E : XK), Room k (A.deeper (envOfC qual (defScope st) s.heap.objs.size f cdv)) →
      ∃ t, PSs (cxOf CX0 P w K mg base N qual (defScope st) f cdv A outer s H E).nox (defBody st) t ∧ ∀ M H0 ss d, R ss d → SD ⟨K, T, M, H0⟩ t (DR d) (startD N ss)) : FnOk P w K mg base CX0 (k + 1) f fd ps (spD K T R) := by
  refine F.ok S (fun vs H Q E h => ?_) (fun cdv A outer s H vs Q E hr h => ?_)
  · obtain ⟨M, ss, d, _, _, h3, h4, _⟩ := h
    rw [h3.len]
    exact hl ss d h4
  · obtain ⟨M, ss, d, h1, h2, h3, h4, q⟩ := h
    obtain ⟨t, ht, hq⟩ := hb cdv A outer s H E hr
    refine ⟨t, ht, hq M H ss d h4 _ ⟨fun A' σ' H' ρ' r' e => ?_, fun v H' e k' h5 h6 => ?_, fun _ _ _ _ _ z => z.elim, fun _ _ _ _ _ z => z.elim⟩ [] _ H (start_sr h1 h2 h3)⟩
    · have e : d = .none := e
      subst e
      exact q .non H' .non r'.keep
    · have h6 : e = d := h6
      subst h6
      exact q v H' h5 k'
end
end
end DL
/-! enumerate over a tuple -/
namespace PySem
open Sem (wp)
theorem meets_enumerate_newB1 {v : Value} {o : Obj} {H : Heap → Prop} (B : Begins v o H) :
    Meets (Builtin.«enumerate.__new__» ⟨[.type "enumerate", v], []⟩) (fun _ R s => H s.heap ∧
      R (.ok (.ret (.ref (s.heap.push o).objs.size)))
        { s with heap := (s.heap.push o).push { cls := .type "enumerate", data := .fields #[.none, .bool false, .ref s.heap.objs.size, rawInt 0, .none, .none] } }) :=
  .of_wp fun prog w A R s h => by
    obtain ⟨hp, g, d, tk, os⟩ := s; obtain ⟨h1, h⟩ := h
    have hsub := sub_enumerate
    have q1 : ∀ {A' : Around} {E : Value → Shared → Prop} {Q : Value → Shared → Prop}, Q (.ref hp.objs.size) ⟨hp.push o, g, d, tk, os⟩ → wpAny (model prog w) A' (pyIter v) Q E ⟨hp, g, d, tk, os⟩ :=
      fun q => B.iter prog w _ _ ⟨hp, g, d, tk, os⟩ _ h1 q
    wp_walk using q1
    refine wpAny_stack_any fun st => wpAny_pure ?_
    split
    · rename_i c _ _ _ _ _
      cases (c == Value.type "enumerate")
      · wp_walk using q1
        exact ⟨_, rfl, h⟩
      · wp_walk using q1
        exact ⟨_, rfl, h⟩
    · wp_walk using q1
      exact ⟨_, rfl, h⟩
section
variable {prog : Program} {w : World} {A : Around} {E : Value → Shared → Prop} {s : Shared}
theorem enum_begins1 {v : Value} {o : Obj} {H : Heap → Prop} {Q : Value → Shared → Prop} (B : Begins v o H) (h1 : H s.heap)
    (h : ∀ h', IsEnum h' (s.heap.objs.size + 1) s.heap.objs.size 0 .none → h'.get? s.heap.objs.size = some o → h'.objs.size = s.heap.objs.size + 2 →
      (∀ b o, s.heap.get? b = some o → h'.get? b = some o) → Q (.ref (s.heap.objs.size + 1)) { s with heap := h' }) :
    wpAny (model prog w) A (call (.type "enumerate") [v]) Q E s := by
  refine callType_new F.called_enumerate (by decide) (F.typeCall_enumerate_1 _) (F.newCall_enumerate_1 _) (fun obj => F.args_object_init_2 obj _) F.entry_enumerate_new
    (meets_enumerate_newB1 B) ⟨h1, ?_⟩
  have hz : (s.heap.push o).objs.size = s.heap.objs.size + 1 := Heap.size_push ..
  show _ ∧ _
  rw [hz]
  have he : IsEnum ((s.heap.push o).push { cls := .type "enumerate", data := .fields #[.none, .bool false, .ref s.heap.objs.size, rawInt 0, .none, .none] }) (s.heap.objs.size + 1) s.heap.objs.size 0 .none := by
    have := Heap.get?_push_size (s.heap.push o) (o := { cls := .type "enumerate", data := .fields #[.none, .bool false, .ref s.heap.objs.size, rawInt 0, .none, .none] }) rfl
    rw [hz] at this; exact this
  refine ⟨⟨_, he, rfl⟩, h _ he (Heap.get?_push_of_some _ (Heap.get?_push_size _ B.free)) (by rw [Heap.size_push, hz]) fun b o x => Heap.get?_push_of_some _ (Heap.get?_push_of_some _ x)⟩
end
end PySem
namespace DL
open PySem PySem.Spec PyProof.Rows L2 DA
theorem enumT_end {prog : Program} {w : World} {A : Around} {E : Value → Shared → Prop} {s : Shared} {e it l : Addr} {i : Nat} {items : Array Value} {old : Value} {c : Int} {Q : Option Value → Shared → Prop} (hh : A.handled = none)
    (he : IsEnum s.heap e it c old) (hit : s.heap.IsTupleIter it l i) (hl : s.heap.IsTuple l items) (hx : items[i]? = none)
    (hQ : ∀ h', Heap.ExtBut it s.heap h' → Q none { s with heap := h' }) : wpAny (model prog w) A (pyNext (.ref e)) Q E s := by
  have hT : s.TypeIs (.ref e) "enumerate" := ⟨_, he, rfl⟩
  unfold pyNext
  refine wpAny_bind (wpAny_attempt (wpAny_callSpecial?_slot (name := Str.ofString "__next__") hT F.slot_enumerate_next
    (wpAny_call_entry F.slot_enumerate_next hT F.entry_enumerate_next ?_ (F.args_enumerate_next_1 _))))
  show wpAny _ _ (field (.ref e) 2 >>= _) _ _ _
  refine wpAny_bind (wpAny_field he rfl (x := .ref it) rfl ?_)
  refine wpAny_bind (wpAny_nextOf_tuple_end hh hit hl hx fun h' x he' hx' => ?_)
  obtain ⟨o, ho, hc⟩ := hx'
  refine wpAny_bind (wpAny_isInstance (T := "StopIteration") (b := true) ⟨o, ho, hc⟩ isSubtype_stop ?_)
  exact wpAny_pure (hQ _ he')
def IteT (K : PySem.W.Frag) (a : Addr) : It :=
  ⟨fun i H => ∃ (xs : List V) (x : V), SqT K H a xs ∧ xs[i]? = some x, fun i H v H' => ∃ T x, v = .ref T ∧ H T = none ∧ H' = upd H T (.tup [.int (i : Nat), x]) ∧ ∀ xs, SqT K H a xs → xs[i]? = some x, fun i H => ∃ xs : List V, SqT K H a xs ∧ xs.length ≤ i⟩
theorem turn_enumT {P : Program} {w : World} {K : PySem.W.Frag} {elts : List Expr} {kk : Nat} {tpos : Pos} (a e it : Addr) (its : List Value) (hit : it ≠ a) (hea : e ≠ a) :
    Turn P w K (.Tuple elts kk tpos) (IteT K a) [e, it] e (fun i h => (∃ old, IsEnum h e it ((i : Nat) : Int) old) ∧ h.IsTupleIter it a i ∧ e ≠ it) where
  mem := by simp
  obj := fun i h st b hb => by
    obtain ⟨⟨old, he⟩, ⟨o, ho, hc, hd⟩, _⟩ := st
    have e' : b = e ∨ b = it := by simpa using hb
    rcases e' with z | z
    · rw [z]; exact ⟨_, he, fun v q => nomatch q⟩
    · rw [z]; exact ⟨o, ho, fun v q => by rw [hd] at q; cases q⟩
  keep := fun i h h' st k => let ⟨⟨old, he⟩, hi, hne⟩ := st; ⟨⟨old, k e (by simp) _ he⟩, hi.at fun o q => k it (by simp) o q, hne⟩
  item := by
    intro X hP hw hK hc i pins s σ H E I hf st hg
    subst hP hw hK
    obtain ⟨⟨old, he⟩, hti, hne⟩ := st
    obtain ⟨xs, x, hq, hx⟩ := hg
    obtain ⟨us, rv, p, hz⟩ := I.tuple hq
    obtain ⟨u, hu, ru⟩ := rv.get hx
    have hel : e < s.heap.objs.size := Heap.lt_size he
    have hil : it < s.heap.objs.size := by obtain ⟨_, q, _⟩ := hti; exact Heap.lt_size q
    have hlt : i < us.toArray.size := by
      have := (List.getElem?_eq_some_iff.mp hu).1
      simpa using this
    refine wpAny_pyNext_enum_itemD (Draws.tuple (show X.A.in1.handled = none from I.ok.hd hc) it a (Ne.symm hit) us.toArray) he ⟨hti, show s.heap.IsTuple a us.toArray from p⟩ hlt hne (by simp [hne, hea]) fun y h' tk hy ho hst' hT hsz hk => ?_
    have ey : y = u := by
      have : us[i]? = some y := by simpa using hy
      rw [hu] at this
      exact (Option.some.inj this).symm
    subst ey
    refine ⟨_, rfl, wpAny_letOwnedTupleGo_enum (s := { s with heap := h', toks := tk + 1 }) ho fun h'' he' sb => ?_⟩
    have hT2 : h''.get? s.heap.objs.size = some { cls := .type "tuple", data := .seq #[.int i tk, y] } := (sb.2 _ (Nat.ne_of_gt hel)).trans hT
    have new : ObjOk X.prog X.w (upd H s.heap.objs.size (.tup [.int (i : Nat), x])) h'' s.heap.objs.size (.tup [.int (i : Nat), x]) :=
      ⟨by show 2 ≤ sizeLine; decide, [.int i tk, y], .cons ⟨_, rfl⟩ (.cons ru .nil), ⟨_, hT2, rfl, _, rfl⟩⟩
    have I1 : Inv X pins σ (upd H s.heap.objs.size (.tup [.int (i : Nat), x])) { s with heap := h'', toks := tk + 1 } :=
      I.turnedNew (ch := [e, it]) (fun b ob hb q => (sb.2 b (fun z => hb (by simp [z]))).trans (hk b ob (fun z => hb (by simp [z])) (fun z => hb (by simp [z])) q)) hf (Nat.le_refl _) new
    refine ⟨.ref s.heap.objs.size, _, I1, rfl, ⟨_, x, rfl, I.hok.fresh (Nat.le_refl _), rfl, fun ys hy => by rw [I.tuple_inj hy hq]; exact hx⟩, ⟨⟨y, ?_⟩, hst'.1.at fun o q => (sb.2 it (Ne.symm hne)).trans q, hne⟩, fun b hb => ?_⟩
    · have e1 : ((i + 1 : Nat) : Int) = (i : Int) + 1 := by omega
      rw [e1]; exact he'
    · have hb' : b < s.heap.objs.size := by
        have e' : b = e ∨ b = it := by simpa using hb
        rcases e' with z | z
        · rw [z]; exact hel
        · rw [z]; exact hil
      rw [upd_ne (Nat.ne_of_lt hb')]
      exact (hf b hb).1
  done := by
    intro X hP hw hK hc i pins s σ H E I hf st hg
    subst hP hw hK
    obtain ⟨⟨old, he⟩, hti, hne⟩ := st
    obtain ⟨xs, hq, hx⟩ := hg
    obtain ⟨us, rv, p, hz⟩ := I.tuple hq
    obtain ⟨f0, f1, f2, f3, f4, f5⟩ := hf it (by simp)
    have hl := rv.length
    -- the index has come to the end just at the length
    have hn : us.toArray[i]? = none := by simp; omega
    exact enumT_end (I.ok.hd hc) he hti (show s.heap.IsTuple a us.toArray from p) hn fun h' eb => ⟨rfl, I.turned (t' := s.toks) (fun b o hb q => eb b o hb q) f0 f1 f3 f4 f5⟩
  self := fun A i s Q E st h => let ⟨⟨_, he⟩, _⟩ := st; wpAny_pyIter_enum he h
def iEnumT (K : PySem.W.Frag) (ta : TA) : TI := fun σ H R => ta σ H fun vs H1 => ∃ a xs, vs = [.ref a] ∧ SqT K H1 a xs ∧ R (IteT K a) H1
theorem pi_enumT {X : Cx} {e : Expr} {ta : TA} {p pos tpos : Pos} {elts : List Expr} {kk : Nat} (hg : Gl X "enumerate") (hm : X.mg "enumerate" = none) (ha : PA X [e] ta) (hs : starEach [e] X.env = [(false, eval e X.env)] := by rfl) :
    PI X (.Tuple elts kk tpos) (.Call (.Name "enumerate" p) [e] [] pos) (iEnumT X.K ta) := by
  refine ⟨fun pins s σ H R I h => ?_⟩
  refine Call_ (ld_blt I hg hm boot_enumerate (PyProof.Rows.callWith_type1 (thn (ha.run pos pins s σ H _ I h) fun us s1 ⟨vs, H1, I1, r1, q1⟩ => ?_) hs rfl))
  obtain ⟨a, xs, ex, hq, q⟩ := q1
  subst ex
  cases r1 with
  | cons r rr =>
    cases rr
    cases r
    obtain ⟨its, rv, p', hz⟩ := I1.tuple hq
    have hta : s1.heap.IsTuple a its.toArray := p'
    have hal : a < s1.heap.objs.size := by obtain ⟨o, ho, _⟩ := hta; exact Heap.lt_size ho
    refine enum_begins1 (begins_tuple a its.toArray) hta fun h' he hit hsz hk => wpAny_pyIter_enum he ?_
    have I2 : Inv X pins σ H1 { s1 with heap := h' } := I1.kept (t' := s1.toks) hk
    refine ⟨s1.heap.objs.size + 1, [s1.heap.objs.size + 1, s1.heap.objs.size], _, _, H1, rfl, I2, turn_enumT a (s1.heap.objs.size + 1) s1.heap.objs.size its (Nat.ne_of_gt hal) (Nat.ne_of_gt (Nat.lt_succ_of_lt hal)), ⟨⟨.none, he⟩, ⟨_, hit, rfl, rfl⟩, Nat.succ_ne_self _⟩, fun b hb => ?_, q⟩
    have e' : b = s1.heap.objs.size + 1 ∨ b = s1.heap.objs.size := by simpa using hb
    have hle : s1.heap.objs.size ≤ b := by
      rcases e' with z | z
      · rw [z]; exact Nat.le_add_right _ _
      · rw [z]; exact Nat.le_refl _
    exact I1.fpOk hle (I1.hok.fresh hle)
/-! the data that they give -/
def enumD (ds : List PD) : List PD := ds.mapIdx fun i d => .tuple [.int (i : Int), d]
theorem enumD_len (ds : List PD) : (enumD ds).length = ds.length := by unfold enumD; simp
theorem enumD_get {ds : List PD} {i : Nat} {e : PD} (h : (enumD ds)[i]? = some e) : ∃ d, ds[i]? = some d ∧ e = .tuple [.int (i : Int), d] := by
  unfold enumD at h
  rw [List.getElem?_mapIdx] at h
  cases q : ds[i]? with
  | none => rw [q] at h; cases h
  | some d => rw [q] at h; exact ⟨d, rfl, (Option.some.inj h).symm⟩
section
variable {c : DC} {ρ : DEnv}
theorem new_item {A : List Addr} {σ : L2.St} {H : Hp} (r : SR c A σ H ρ) {T : Addr} {i : Nat} {x : V} {d : PD} (hT : H T = none) (h : Dp c.K (hid (c.M ++ A) H) x d) : Keep c.T H (upd H T (.tup [.int (i : Int), x])) ∧ Dp c.K (hid (c.M ++ A) (upd H T (.tup [.int (i : Int), x]))) (.ref T) (.tuple [.int (i : Int), d]) := by
  have sm : Same (hid (c.M ++ A) H) (hid (c.M ++ A) (upd H T (.tup [.int (i : Int), x]))) := fun b o e => by
    obtain ⟨m, e⟩ := hid_inv e
    exact hid_of m (by rw [upd_ne (ne_of_none e hT)]; exact e)
  exact ⟨.new hT, .tup (SqT.of (hid_of (nfresh r hT) upd_same)) (.cons (.int _) (.cons (dp_same sm h) .nil))⟩
theorem id_enumT {ta : TA} {ds : List PD} (h : EA c ta ρ [.dat (.tuple ds)]) : ID c (iEnumT c.K ta) ρ (enumD ds) := fun A σ H r R q => h A σ H r _ fun vs H1 k1 h1 => by
  obtain ⟨v, rfl, g1⟩ := args1 h1
  obtain ⟨a, xs, rfl, h2, h3⟩ := dp_tup g1
  have r1 := r.move k1
  have base : ∀ A' σ' H' ρ', SR (c.up A H1) A' σ' H' ρ' → SqT c.K H' a xs ∧ DpAll c.K (hid (c.M ++ A') H') xs ds := fun A' σ' H' ρ' r' => by
    have km : Keep c.T (hid (c.M ++ A) H1) (hid (c.M ++ A') H') := upk r1 r'
    exact ⟨sqt_same hid_same (km.sqT r1.tabm h2), dps_keep km r1.tabm h3⟩
  refine ⟨a, xs, rfl, sqt_same hid_same h2, q _ H1 k1 ⟨fun i A' σ' H' ρ' r' hi => ?_, fun i A' σ' H' ρ' x H2 r' y d hd => ?_, fun i A' σ' H' ρ' r' hi => ?_⟩⟩
  · obtain ⟨s1, s2⟩ := base A' σ' H' ρ' r'
    rw [enumD_len] at hi
    have hx : i < xs.length := by rw [dps_len s2]; exact hi
    exact ⟨xs, xs[i], s1, List.getElem?_eq_getElem hx⟩
  · obtain ⟨s1, s2⟩ := base A' σ' H' ρ' r'
    obtain ⟨T, y0, rfl, hT, rfl, y⟩ := y
    obtain ⟨d0, hd0, rfl⟩ := enumD_get hd
    obtain ⟨w, e1, e2⟩ := dps_get s2 hd0
    rw [y xs s1] at e1
    cases e1
    exact new_item (c := c.up A H1) r' hT e2
  · obtain ⟨s1, s2⟩ := base A' σ' H' ρ' r'
    rw [enumD_len] at hi
    exact ⟨xs, s1, by rw [dps_len s2]; exact hi⟩
theorem id_enumL {ta : TA} {ds : List PD} (h : EA c ta ρ [.dat (.list ds)]) : ID c (iEnum c.K ta) ρ (enumD ds) := fun A σ H r R q => h A σ H r _ fun vs H1 k1 h1 => by
  obtain ⟨v, rfl, g1⟩ := args1 h1
  obtain ⟨a, xs, rfl, h2, h3⟩ := dp_list g1
  have r1 := r.move k1
  have base : ∀ A' σ' H' ρ', SR (c.up A H1) A' σ' H' ρ' → SqL c.K H' a xs ∧ DpAll c.K (hid (c.M ++ A') H') xs ds := fun A' σ' H' ρ' r' => by
    have km : Keep c.T (hid (c.M ++ A) H1) (hid (c.M ++ A') H') := upk r1 r'
    exact ⟨hid_same.seq (km.sqL r1.tabm h2), dps_keep km r1.tabm h3⟩
  refine ⟨a, xs, rfl, hid_same.seq h2, q _ H1 k1 ⟨fun i A' σ' H' ρ' r' hi => ?_, fun i A' σ' H' ρ' x H2 r' y d hd => ?_, fun i A' σ' H' ρ' r' hi => ?_⟩⟩
  · obtain ⟨s1, s2⟩ := base A' σ' H' ρ' r'
    rw [enumD_len] at hi
    have hx : i < xs.length := by rw [dps_len s2]; exact hi
    exact ⟨xs, xs[i], s1, List.getElem?_eq_getElem hx⟩
  · obtain ⟨s1, s2⟩ := base A' σ' H' ρ' r'
    obtain ⟨T, y0, rfl, hT, rfl, y⟩ := y
    obtain ⟨d0, hd0, rfl⟩ := enumD_get hd
    obtain ⟨w, e1, e2⟩ := dps_get s2 hd0
    rw [y xs s1] at e1
    cases e1
    exact new_item (c := c.up A H1) r' hT e2
  · obtain ⟨s1, s2⟩ := base A' σ' H' ρ' r'
    rw [enumD_len] at hi
    exact ⟨xs, s1, by rw [dps_len s2]; exact hi⟩
end
theorem tg_tup2 {c : DC} {i j : Nat} {a b : PD} : TGd c (gTup c.K 2 (gCons (gName i) (gCons (gName j) gNil))) [i, j] (.tuple [a, b]) [a, b] := tg_tup (js := [i, j]) (n := 2) (ds := [a, b]) rfl rfl
theorem sd_unp2 {c : DC} {ρ : DEnv} {D : DEnds} {te : TE} {i j : Nat} {a b : PD} (h : ED c te ρ (.tuple [a, b])) (k : D.nx ((ρ.set i (.dat a)).set j (.dat b))) : SD c (tAsg te (gTup c.K 2 (gCons (gName i) (gCons (gName j) gNil)))) D ρ := sd_unp (js := [i, j]) (n := 2) (ds := [a, b]) h rfl rfl k
theorem sd_unp3 {c : DC} {ρ : DEnv} {D : DEnds} {te : TE} {i j l : Nat} {a b e : PD} (h : ED c te ρ (.tuple [a, b, e])) (k : D.nx (((ρ.set i (.dat a)).set j (.dat b)).set l (.dat e))) : SD c (tAsg te (gTup c.K 3 (gCons (gName i) (gCons (gName j) (gCons (gName l) gNil))))) D ρ := sd_unp (js := [i, j, l]) (n := 3) (ds := [a, b, e]) h rfl rfl k
theorem sd_unp4 {c : DC} {ρ : DEnv} {D : DEnds} {te : TE} {i j l m : Nat} {a b e f : PD} (h : ED c te ρ (.tuple [a, b, e, f])) (k : D.nx ((((ρ.set i (.dat a)).set j (.dat b)).set l (.dat e)).set m (.dat f))) : SD c (tAsg te (gTup c.K 4 (gCons (gName i) (gCons (gName j) (gCons (gName l) (gCons (gName m) gNil)))))) D ρ := sd_unp (js := [i, j, l, m]) (n := 4) (ds := [a, b, e, f]) h rfl rfl k
end DL
/-! An exception that its except clause keeps: it is tracked from then on (ExK), and asked by isinstance later. -/
namespace L2
open PySem PySem.Spec PyProof.Rows
/-- a kept exception of a class, its own dict d -/
def ExK (cls : Value) (d : Option Addr) (a : Addr) : HO := .ext fun h => ∃ (oe : Obj) (vs : Array Value), h.get? a = some oe ∧ Zc cls d oe ∧ oe.data = .fields vs
theorem exK_ok {P : Program} {w : World} {H : Hp} {h : Heap} {a : Addr} {cls : Value} {d : Option Addr} {oe : Obj} {vs : Array Value} (e : h.get? a = some oe) (z : Zc cls d oe) (q : oe.data = .fields vs) : ObjOk P w H h a (ExK cls d a) :=
  ⟨⟨oe, vs, e, z, q⟩, ⟨oe, e⟩, fun _ _ ⟨o, us, e1, z1, q1⟩ k => ⟨o, us, k o e1, z1, q1⟩⟩
section
variable {X : Cx} {pins : List (Addr × Obj)} {σ : St} {H : Hp} {s : Shared}
/-- an object that stands, and that nobody tracks, is tracked -/
theorem Inv.adopt (I : Inv X pins σ H s) {a : Addr} {o : HO} (na : H a = none) (h0 : X.s_0.heap.get? a = none ∨ a ∈ X.ex) (hL : a ≠ X.env.locals) (hC : ∀ x c, X.env.cells.lookup x = some c → c ≠ a) (hP : ∀ p ∈ X.pn ++ pins, p.1 ≠ a)
    (new : ObjOk X.prog X.w (upd H a o) s.heap a o) : Inv X pins σ (upd H a o) s := by
  have out : ∀ {b : Addr} {u : Obj}, X.s_0.heap.get? b = some u → b ∉ X.ex → b ≠ a := fun {b u} e n z => by
    subst z
    rcases h0 with q | q
    · rw [q] at e; cases e
    · exact n q
  have B := I.base
  refine ⟨I.ok, I.os, I.bare, ⟨B.keep, B.slot, fun b u e n x => ?_, B.there, fun b xs e => ?_, fun b u v e => ?_, fun b ps e => ?_⟩, I.loc, I.cell, ?_, fun x c e => ?_, fun p hp => ?_, ?_, I.len⟩
  · rw [upd_ne (out e x)]
    exact B.free b u e n x
  · have q := B.tups b xs e
    rw [upd_ne (fun z => by subst z; rw [na] at q; cases q)]
    exact q
  · have q := B.frzs b u v e
    rw [upd_ne (fun z => by subst z; rw [na] at q; cases q)]
    exact q
  · obtain ⟨more, q⟩ := B.tbls b ps e
    exact ⟨more, by
      rw [upd_ne (fun z => by subst z; rw [na] at q; cases q)]
      exact q⟩
  · rw [upd_ne (Ne.symm hL)]
    exact I.free
  · rw [upd_ne (hC x c e)]
    exact I.freeC x c e
  · obtain ⟨p1, p2, p3⟩ := I.pin p hp
    exact ⟨p1, by rw [upd_ne (hP p hp)]; exact p2, p3⟩
  · exact I.hok.laidN (fun _ _ q => q) na new
/-- the state as a suite's, nothing pinned anew -/
theorem Inv.suiteK (I : Inv X pins σ H s) (a : Addr) : Inv (X.suite a (X.pn ++ pins)) [] σ H s :=
  ⟨I.ok.suite _ _, I.os, I.bare, I.base, I.loc, I.cell, I.free, I.freeC, fun p hp => I.pin p (by rw [List.append_nil] at hp; exact hp), I.hok, I.len⟩
theorem Inv.unsuiteK {a : Addr} {pn' : List (Addr × Obj)} (I : Inv (X.suite a (X.pn ++ pins)) pn' σ H s) (ok : X.Ok) : Inv X pins σ H s :=
  ⟨ok, I.os, I.bare, I.base, I.loc, I.cell, I.free, I.freeC, fun p hp => I.pin p (List.mem_append_left _ hp), I.hok, I.len⟩
end
/-- what a clause that keeps its exception wishes; the clause's name stands in slot i -/
def wKeep (K : PySem.W.Frag) (c : Value) (i : Nat) (ts : Addr → Value → Option Addr → TS) (Wo : WX) (D : Ends) : WX := fun cls d σ H =>
  ∃ b, PySem.W.exmOne K cls c = some b ∧ (b = false → Wo cls d σ H) ∧
    (b = true → ∀ a, H a = none → ts a cls d ⟨fun τ G => D.nx (τ.set i none) G, fun v G => D.rt v G, fun τ G => D.bk (τ.set i none) G, fun τ G => D.ct (τ.set i none) G⟩ (σ.set i (some (.ref a))) (upd H a (ExK cls d a)))
section
variable {X : Cx} {x n : Str} {c : Value} {i : Nat} {body suite : List Stmt} {st0 : Stmt} {p1 p2 p3 : Pos} {tb : WX → TS} {ts : Addr → Value → Option Addr → TS} {Wo : WX}
/-- where the suite ends, the name goes; what it did stands -/
theorem keep_end (ok : X.Ok) (hN : X.N.Nodup) (hi : X.N[i]? = some n) (hl : X.env.kindOf n = some .local) {pins pn' : List (Addr × Obj)} {a : Addr} {D : Ends} {f : Flow} {s : Shared}
    (h : SP (X.suite a (X.pn ++ pins)) pn' ⟨fun τ G => D.nx (τ.set i none) G, fun v G => D.rt v G, fun τ G => D.bk (τ.set i none) G, fun τ G => D.ct (τ.set i none) G⟩ f s) :
    wpAny (model X.prog X.w) X.A (do bindName X.env n .none; unbindBehindTheSuite X.env n p3) (fun _ z => SP X pins D f z) X.xe s := by
  cases f with
  | next => exact let ⟨_, _, J, q⟩ := h; gone_ok (J.unsuiteK ok) hN hi hl fun z Jz => ⟨_, _, Jz, q⟩
  | ret u => exact let ⟨_, _, _, J, r, q⟩ := h; gone_ok (J.unsuiteK ok) hN hi hl fun z Jz => ⟨_, _, _, Jz, r, q⟩
  | brk => exact let ⟨_, _, J, q⟩ := h; gone_ok (J.unsuiteK ok) hN hi hl fun z Jz => ⟨_, _, Jz, q⟩
  | cont => exact let ⟨_, _, J, q⟩ := h; gone_ok (J.unsuiteK ok) hN hi hl fun z Jz => ⟨_, _, Jz, q⟩
theorem ps_try_keep (hs : X.stack = X.env :: X.outer) (hf : X.env.frame = some X.env.locals) (hN : X.N.Nodup) (hi : X.N[i]? = some n) (hl : X.env.kindOf n = some .local) (hc : Names X x c) (tk : Takes X Wo)
    (hb : ∀ (W : WX) (pn : List (Addr × Obj)) (xe : Value → Shared → Prop), Takes (X.tr pn xe) W → PassesOwn (model X.prog X.w) X.A X.env xe → PSs (X.tr pn xe) body (tb W))
    (hu : ∀ (a : Addr) (cls : Value) (d : Option Addr) (pn : List (Addr × Obj)), PSs (X.suite a pn) (st0 :: suite) (ts a cls d)) :
    PS X (.Try body [.ExceptHandler (some (.Name x p1)) (some n) (st0 :: suite) p2] [] [] p3) (fun D σ H => tb (wKeep X.K c i ts Wo D) D σ H) := by
  refine ⟨fun pins s σ H D I h => wpAny_Try_except ?_⟩
  have ok := I.ok
  have efr : X.A.frames = some (X.env :: X.outer) := ok.frames.trans (by rw [hs])
  refine wpAny_mono ((hb (wKeep X.K c i ts Wo D) (X.pn ++ pins) (fun e z1 => wpAny (model X.prog X.w) X.A (noteFrame e X.env) (fun _ z2 => wpAny (model X.prog X.w) X.A (setFlight e none) (fun _ z3 =>
    wpAny (model X.prog X.w) X.A (handleBy e X.env [.ExceptHandler (some (.Name x p1)) (some n) (st0 :: suite) p2]) (SP X pins D) X.xe z3) X.xe z2) X.xe z1) (fun u s2 y => ?_) PassesOwn.looking).run [] s σ H D (I.toTry _) h) (fun f s1 y => ?_) (fun _ _ z => z)
  · -- what was raised lands
    obtain ⟨a, B, sI, ps, τ, G, cls, d, rfl, Jt, nb, up, sky, na, os, ag, b, eb, hno, hyes⟩ := y
    have J : Inv X pins τ G sI := Jt.ofTry ok
    have sk : Sky B (X.env :: X.outer) a (Zc cls d) X.env.locals s2.heap := hs ▸ sky
    have bn : B.get? a = none := by
      rcases sk with q | q | q
      · exact q.2.1
      · exact q.2.1
      · exact q.2.1
    show wpAny (model X.prog X.w) X.A (noteFrame (.ref a) X.env) _ _ _
    refine Sky.land Zc.steady efr hf sk fun g fl upg => ?_
    have Jg : Inv X pins τ G { s2 with heap := g } := J.landed nb fl.1 (up.trans upg) os ag
    obtain ⟨oe, vs, ge, gz, gd⟩ := fl.there
    have nofr : a ∉ frs (X.env :: X.outer) := fun hm => by
      obtain ⟨_, o2, e2, hn⟩ := fl.2.2.1.mem hm
      rw [ge] at e2
      cases e2
      exact hn _ gd
    have nL : a ≠ X.env.locals := fun z => nofr (List.mem_filterMap.mpr ⟨X.env, List.mem_cons_self, by rw [hf, z]⟩)
    have sn : sI.heap.get? a = none := by
      cases q : sI.heap.get? a with
      | none => rfl
      | some o =>
        have z := nb a o q (by rw [hs]; exact nofr)
        rw [bn] at z
        cases z
    have s0 : X.s_0.heap.get? a = none ∨ a ∈ X.ex := by
      by_cases hx : a ∈ X.ex
      · exact .inr hx
      · refine .inl ?_
        cases q : X.s_0.heap.get? a with
        | none => rfl
        | some o =>
          obtain ⟨o2, e2⟩ := J.base.there a o q hx
          rw [sn] at e2
          cases e2
    have nC : ∀ y c2, X.env.cells.lookup y = some c2 → c2 ≠ a := fun y c2 e z => by
      obtain ⟨v, hv⟩ := J.cell y c2 e
      obtain ⟨o, e1, _⟩ := hv
      rw [z, sn] at e1
      cases e1
    have nP : ∀ p ∈ X.pn ++ pins, p.1 ≠ a := fun p hp z => by
      have e1 := (J.pin p hp).1
      rw [z, sn] at e1
      cases e1
    have lk : PySem.W.Looks (model X.prog X.w) g (typeOf (.ref a)) cls := fun A2 Q2 E2 z2 k2 q2 => wpAny_typeOf_ref (k2 _ _ ge) (by rw [gz.1]; exact q2)
    have mt := PySem.W.exm_one (M := model X.prog X.w) Jg.kIn lk eb
    refine wpAny_handleBy_cons (codeAny_handlers_test ?_) (by intro z; cases z)
    have Sg := Jg.suiteK a
    have ask : ∀ {Q : Value → Shared → Prop} {E : Value → Shared → Prop}, Q c { s2 with heap := g } → wpAny (model X.prog X.w) (X.A.mark (some (.ref a))) (eval (.Name x p1) X.env) Q E { s2 with heap := g } := fun {Q E} q => by
      rcases hc with ⟨c1, c2, c3 | ⟨c3, c4, c5⟩⟩
      · exact ld_glob (X := X.suite a (X.pn ++ pins)) Sg c1 c3 q c2
      · exact ld_blt (X := X.suite a (X.pn ++ pins)) Sg c1 c3 c4 q c5 c2
    refine ask (mt.here ?_)
    cases b with
    | false =>
      show wpAny _ X.A (handleBy (.ref a) X.env []) _ _ _
      refine wpAny_handleBy_nil ?_
      obtain ⟨_, _, _, o3, us, tr, otr, _, e3, _, d3, f3, _⟩ := id fl
      have out : wpAny (model X.prog X.w) X.A (setFlight (.ref a) X.env.frame) (fun _ z => wpAny (model X.prog X.w) X.A (throw (.ref a) : Sem Flow) (SP X pins D) X.xe z) X.xe { s2 with heap := g } := by
        rw [hf]
        exact HandSPX.setFlight_upZ fl fun g2 hg2 up2 => wpAny_throw (tk _ _ ⟨a, B, sI, pins, τ, G, cls, d, rfl, J, nb, (up.trans upg).trans up2, .inr (.inr (hs ▸ hg2)), na, os, ag, hno rfl⟩)
      unfold PySem.passOn
      refine wpAny_bind (wpAny_field e3 d3 f3 ?_)
      rw [if_neg (show ¬ ((Value.ref tr == Value.none) = true) from by simp)]
      first
        | exact wpAny_bind out
        | exact wpAny_bind (wpAny_pure (wpAny_bind out))
    | true =>
      refine codeAny_handlers_suite_as (HandSPX.lands_againZ fl fun g2 fl2 up2 => ?_)
      have J2 : Inv X pins τ G { s2 with heap := g2 } := J.landed nb fl2.1 ((up.trans upg).trans up2) os ag
      obtain ⟨o4, us4, e4, z4, d4⟩ := fl2.there
      have A2 : Inv X pins τ (upd G a (ExK cls d a)) { s2 with heap := g2 } := J2.adopt na s0 nL nC nP (exK_ok e4 z4 d4)
      refine store_ok (X := X.suite a (X.pn ++ pins)) (v := .ref a) (A2.suiteK a) hN hi (.inl hl) rfl (fun s5 S5 => ?_) (.inr hl)
      exact wpAny_mono ((hu a cls d (X.pn ++ pins)).run [] s5 _ _ _ S5 (hyes rfl a na)) (fun f z hz => keep_end ok hN hi hl hz) fun _ _ z => z.elim
  · cases f with
    | next => exact let ⟨_, _, Jq, q⟩ := y; wpAny_execs_nil ⟨_, _, Jq.ofTry ok, q⟩
    | ret u => exact let ⟨_, _, _, Jq, r, q⟩ := y; ⟨_, _, _, Jq.ofTry ok, r, q⟩
    | brk => exact let ⟨_, _, Jq, q⟩ := y; ⟨_, _, Jq.ofTry ok, q⟩
    | cont => exact let ⟨_, _, Jq, q⟩ := y; ⟨_, _, Jq.ofTry ok, q⟩
end
/-- isinstance(e, c), e a kept exception -/
def rIsK (K : PySem.W.Frag) : List V → Hp → VK → Prop := fun xs H Q => ∃ (a D : Addr) (c : V) (cv : Value) (b : Bool), xs = [.ref a, c] ∧ H a = some (ExK (.ref D) none a) ∧ ExcC K D ∧ ClsV c cv ∧ PySem.W.kitOne K (.ref D) cv = some b ∧ Q (.bl b) H
theorem call_isK {X : Cx} : CallR X (.builtin "isinstance") (rIsK X.K) := by
  intro pins s σ H xs us Q I r h
  obtain ⟨a, D, c, cv, b, rfl, hH, Z, k, e, q⟩ := h
  obtain ⟨u1, u2, rfl, r1, r2⟩ := vals2 r
  have e2 := k.eq r2
  subst e2
  cases (show u1 = Value.ref a from r1)
  obtain ⟨⟨⟨oc, od, dt, sl⟩, vs, e1, ⟨z1, z2⟩, d1⟩, _, _⟩ := (show ObjOk X.prog X.w H s.heap a (ExK (.ref D) none a) from I.hok a _ hH)
  dsimp only at z1 z2 d1
  subst z1 z2 d1
  exact PySem.W.kia_one (PySem.W.handS_kitx_exc Z.hg Z.hk Z.hs Z.hd Z.ha Z.hn Z.ht Z.hm) I.kIn ⟨e1, rfl, rfl, trivial⟩ e (fun z => nomatch z) fun tk => ⟨.bl b, H, I.kept (t' := tk) fun _ _ z => z, rfl, q⟩
end L2
/-! Defs over plain data that may raise: what comes of a call is data, or an own exception. -/
namespace DL
open PySem PySem.Spec PyProof.Rows L2 DA
inductive Out where
  | ok (d : PD) | ex (C : Addr)
def spE (K : PySem.W.Frag) (T : List Addr) (R : List DS → Out → Prop) : Sp := fun vs H Q E => ∃ M ss o, (∀ a ∈ M, a ∉ T ∧ H a ≠ none) ∧ Tabs T H ∧ ArgsOk K (hid M H) vs ss ∧ R ss o ∧
  (∀ d, o = .ok d → ∀ v H', Dp K (hid M H') v d → Keep T H H' → Q v H') ∧ (∀ C, o = .ex C → ∀ H', Keep T H H' → E (.ref C) none H')
abbrev DO (o : Out) : DEnds := { nx := fun _ => o = .ok .none, rt := fun e => o = .ok e }
/-- what is raised leaves the def as E says -/
def XO (T : List Addr) (H0 : Hp) (E : XK) (o : Out) : Prop := ∀ C, o = .ex C → ∀ H', Keep T H0 H' → E (.ref C) none H'
theorem XO.up {T : List Addr} {H0 H1 : Hp} {E : XK} {o : Out} (h : XO T H0 E o) (k : Keep T H0 H1) : XO T H1 E o := fun C e H' k' => h C e H' (k.trans k')
section
variable {P : Program} {w : World} {K : PySem.W.Frag} {mg : Str → Option Value} {base : Heap}
theorem fn_sdE {T : List Addr} {x qual : Str} {st : Stmt} {f : Addr} {fd : FuncData} {N ps : List Str} {k : Nat} {R : List DS → Out → Prop} (F : Fun K x qual st f fd) (S : FnScope N ps (defScope st)) (hl : ∀ ss o, R ss o → ss.length = ps.length)
    (hb : ∀ (cdv : Value) (A : Around) (outer : List Env) (s : Shared) (H : Hp) (E : XK), Room k (A.deeper (envOfC qual (defScope st) s.heap.objs.size f cdv)) →
      ∃ t, PSs (cxOf (L2.CX P w) P w K mg base N qual (defScope st) f cdv A outer s H E) (defBody st) t ∧ ∀ M H0 ss o, R ss o → XO T H0 E o → SD ⟨K, T, M, H0⟩ t (DO o) (startD N ss)) : FnOk P w K mg base (L2.CX P w) (k + 1) f fd ps (spE K T R) := by
  refine F.okX S (fun vs H Q E h => ?_) (fun cdv A outer s H vs Q E hr h => ?_)
  · obtain ⟨M, ss, o, _, _, h3, h4, _⟩ := h
    rw [h3.len]
    exact hl ss o h4
  · obtain ⟨M, ss, o, h1, h2, h3, h4, q, x⟩ := h
    obtain ⟨t, ht, hq⟩ := hb cdv A outer s H E hr
    exact ⟨t, ht, hq M H ss o h4 x _ ⟨fun A' σ' H' ρ' r' e => q .none e .non H' .non r'.keep, fun v H' e k' h5 h6 => q e h6 v H' h5 k', fun _ _ _ _ _ z => z.elim, fun _ _ _ _ _ z => z.elim⟩ [] _ H (start_sr h1 h2 h3)⟩
end
section
variable {c : DC} {ρ : DEnv} {D : DEnds} {E : XK} {ta : TA} {te : TE} {d : PD}
/-- raise C('..') -/
theorem sd_raise {C : Addr} (h : ∀ H', Keep c.T c.H0 H' → E (.ref C) none H') : SD c (fun _ _ H => E (.ref C) none H) D ρ := fun _ _ A σ H r => h H r.keep
/-- f(..) as a statement, where f may raise -/
theorem sd_dropE {R : List DS → Out → Prop} {ss : List DS} {o : Out} (h : EA c ta ρ ss) (hR : R ss o) (x : XO c.T c.H0 E o) (k : ∀ d, o = .ok d → D.nx ρ) : SD c (tDrop (tCall (spE c.K c.T R) [] E ta)) D ρ := fun F L A σ H r => h A σ H r _ fun vs H1 k1 h1 =>
  ⟨c.M ++ A, ss, o, (r.move k1).nM, (r.move k1).tabs, by rw [List.append_nil]; exact h1, hR, fun d e v H2 h2 k2 => L.nx _ _ _ _ ((r.move k1).move k2) (k d e), fun C e H2 k2 => x C e H2 ((r.move k1).keep.trans k2)⟩
/-- a call that may raise, for a name -/
theorem sd_setE {i : Nat} {R : List DS → Out → Prop} {ss : List DS} {o : Out} (h : EA c ta ρ ss) (hR : R ss o) (x : XO c.T c.H0 E o) (k : ∀ d, o = .ok d → D.nx (ρ.set i (.dat d))) : SD c (tAsg (tCall (spE c.K c.T R) [] E ta) (gName i)) D ρ := fun F L A σ H r => h A σ H r _ fun vs H1 k1 h1 =>
  ⟨c.M ++ A, ss, o, (r.move k1).nM, (r.move k1).tabs, by rw [List.append_nil]; exact h1, hR, fun d e v H2 h2 k2 => L.nx _ _ _ _ (((r.move k1).move k2).setD i h2) (k d e), fun C e H2 k2 => x C e H2 ((r.move k1).keep.trans k2)⟩
end
end DL
/-! Texts as data. -/
namespace DL
open PySem PySem.Spec PyProof.Rows L2 DA TL
theorem dp_str {K : PySem.W.Frag} {H : Hp} {v : V} {z : Str} (h : Dp K H v (.str z)) : v = .str z := by cases h; rfl
section
variable {c : DC} {ρ : DEnv} {ta tb te to : TE} {d : PD}
/-- f"..": what the parts come to -/
def JD (c : DC) (ρ : DEnv) (t : TE) (z : Str) : Prop := ED c t ρ (.str z)
theorem jd_str {t : TE} {z : Str} (h : ED c t ρ (.str z)) (hz : z.length ≤ sizeLine) : JD c ρ (tFmt t) z := fun A σ H s Q q => h A σ H s _ fun v H1 k1 h1 => .inl ⟨z, dp_str h1, hz, q _ H1 k1 (.str z)⟩
theorem jd_int {t : TE} {i : Int} (h : ED c t ρ (.int i)) (hi : i.natAbs.log2 < 1920) : JD c ρ (tFmt t) (toString i) := fun A σ H s Q q => h A σ H s _ fun v H1 k1 h1 => .inr ⟨i, dp_int h1, hi, q _ H1 k1 (.str _)⟩
theorem jd_con {z : Str} : JD c ρ (tC (.str z)) z := ed_str
theorem js_run : ∀ {ts : List TE} {zs : List Str}, Paired (JD c ρ) ts zs → ∀ (acc : Str), (acc.length + (zs.map (·.length)).sum ≤ sizeLine) → ∀ A σ H, SR c A σ H ρ → ∀ Q : Str → Hp → Prop, (∀ H', Keep c.T H H' → Q (zs.foldl (· ++ ·) acc) H') → tJs ts acc σ H Q
  | _, _, .nil, acc, _, A, σ, H, r, Q, q => q H .refl
  | t :: _, z :: _, .cons h hs, acc, hz, A, σ, H, r, Q, q => h A σ H r _ fun v H1 k1 h1 => by
    rw [List.map_cons, List.sum_cons] at hz
    have e : (acc ++ z).length = acc.length + z.length := by
      rw [len_tl, tl_append, List.length_append, ← len_tl, ← len_tl]
    exact ⟨z, dp_str h1, by omega, js_run hs (acc ++ z) (by omega) A σ H1 (r.move k1) Q fun H' k => q H' (k1.trans k)⟩
theorem ed_joined {ts : List TE} {zs : List Str} (h : Paired (JD c ρ) ts zs) (hz : (zs.map (·.length)).sum ≤ sizeLine) : ED c (fun σ H Q => tJs ts Str.empty σ H fun out H1 => Q (.str out) H1) ρ (.str (zs.foldl (· ++ ·) Str.empty)) := fun A σ H s Q q =>
  js_run h Str.empty (by
    have : Str.empty.length = 0 := rfl
    omega) A σ H s _ fun H' k => q _ H' k (.str _)
theorem ed_addS {x y : Str} (ha : ED c ta ρ (.str x)) (hb : ED c tb ρ (.str y)) (hz : x.length + y.length ≤ sizeLine) : ED c (tOp (fun x y H Q => ∃ i j, x = .str i ∧ y = .str j ∧ i.length + j.length ≤ sizeLine ∧ Q (.str (i ++ j)) H) ta tb) ρ (.str (x ++ y)) :=
  ed_op ha hb fun A σ H v w s h1 h2 Q q => ⟨x, y, dp_str h1, dp_str h2, hz, q _ H .refl (.str _)⟩
theorem ed_ixS {z : Str} {i : Int} {n : Nat} (ha : ED c ta ρ (.str z)) (hb : ED c tb ρ (.int i)) (hz : z.length ≤ sizeLine) (e : atI (tl z) i = some n) : ED c (tOp rIxS ta tb) ρ (.str ⟨#[n]⟩) :=
  ed_op ha hb fun A σ H v w s h1 h2 Q q => ⟨z, i, n, dp_str h1, dp_int h2, hz, e, q _ H .refl (.str _)⟩
theorem ed_lenS {z : Str} (ha : ED c ta ρ (.str z)) (hz : z.length ≤ sizeLine) : ED c (tCB (fun xs H Q => ∃ z, xs = [.str z] ∧ z.length ≤ sizeLine ∧ Q (.int z.length) H) (tCons ta tNil)) ρ (.int (z.length : Int)) := fun A σ H s Q q => ha A σ H s _ fun v H1 k1 h1 =>
  ⟨z, by rw [dp_str h1], hz, q _ H1 k1 (.int _)⟩
theorem ed_intS {z : Str} {n : Int} (ha : ED c ta ρ (.str z)) (e : PySem.intText? z = some n) (hz : z.length ≤ 640) : ED c (tCB (fun xs H Q => ∃ a n, xs = [.str a] ∧ PySem.intText? a = some n ∧ a.length ≤ 640 ∧ Q (.int n) H) (tCons ta tNil)) ρ (.int n) := fun A σ H s Q q => ha A σ H s _ fun v H1 k1 h1 =>
  ⟨z, n, by rw [dp_str h1], e, hz, q _ H1 k1 (.int _)⟩
theorem ed_strI {i : Int} (ha : ED c ta ρ (.int i)) (hi : i.natAbs.log2 < 1920) : ED c (tCB (fun xs H Q => ∃ i, xs = [.int i] ∧ i.natAbs.log2 < 1920 ∧ Q (.str (toString i)) H) (tCons ta tNil)) ρ (.str (toString i)) := fun A σ H s Q q => ha A σ H s _ fun v H1 k1 h1 =>
  ⟨i, by rw [dp_int h1], hi, q _ H1 k1 (.str _)⟩
theorem dps_strs {K : PySem.W.Frag} {H : Hp} : ∀ {xs : List V} {ys : List Str}, DpAll K H xs (ys.map .str) → xs = ys.map V.str
  | _, [], .nil => rfl
  | _, y :: ys, .cons h t => by rw [dp_str h, dps_strs t]; rfl
theorem strs_dps {K : PySem.W.Frag} {H : Hp} : ∀ ys : List Str, DpAll K H (ys.map V.str) (ys.map .str)
  | [] => .nil
  | y :: ys => .cons (.str y) (strs_dps ys)
/-- sep.join(list of texts) -/
theorem ed_join {x : Str} {ys : List Str} (ho : ED c to ρ (.str x)) (he : EL c te ρ (ys.map .str)) (hz : (ys.map (·.length)).sum + ys.length * x.length ≤ 16777216) :
    ED c (tM1 (fun x xs H Q => ∃ a p, ∃ ys : List Str, x = .str a ∧ xs = [.ref p] ∧ (SqL c.K H p (ys.map V.str) ∨ SqT c.K H p (ys.map V.str)) ∧ (ys.map (·.length)).sum + ys.length * a.length ≤ 16777216 ∧ Q (.str (Txt.join a ys)) H) to te) ρ (.str (Txt.join x ys)) :=
  fun A σ H s Q q => ho A σ H s _ fun v H1 k1 h1 => ⟨⟨x, dp_str h1⟩, he A σ H1 (s.move k1) _ fun p xs H2 k2 g1 g2 => ⟨x, p, ys, dp_str h1, rfl, .inl (by rw [← dps_strs g2]; exact g1), hz, q _ H2 (k1.trans k2) (.str _)⟩⟩
/-- text.split(sep) -/
theorem en_split {x y : Str} (ho : ED c to ρ (.str x)) (he : ED c te ρ (.str y)) (h1 : (y.length == 0) = false) (h2 : x.length + 2 ≤ sizeLine) :
    EN c (tM1 (fun x xs H Q => ∃ a b, x = .str a ∧ xs = [.str b] ∧ (b.length == 0) = false ∧ a.length + 2 ≤ sizeLine ∧ rNewStrs (Txt.split a b) H Q) to te) ρ ((Txt.split x y).map .str) :=
  fun A σ H s Q q => ho A σ H s _ fun v H1 k1 g1 => ⟨⟨x, dp_str g1⟩, he A σ H1 (s.move k1) _ fun v2 H2 k2 g2 => ⟨x, y, dp_str g1, by rw [dp_str g2], h1, h2, fun p hp =>
    q p ((Txt.split x y).map V.str) (upd H2 p (.lst ((Txt.split x y).map V.str))) ((k1.trans k2).trans (.new hp)) ((k1.trans k2).free s.tabs hp) upd_same (strs_dps _)⟩⟩
/-- text.partition(sep) -/
theorem ed_part {x y : Str} (ho : ED c to ρ (.str x)) (he : ED c te ρ (.str y)) (h1 : (y.length == 0) = false) (h2 : x.length ≤ sizeLine) :
    ED c (tM1 (fun x xs H Q => ∃ a b, x = .str a ∧ xs = [.str b] ∧ (b.length == 0) = false ∧ a.length ≤ sizeLine ∧ ∀ p, H p = none → Q (.ref p) (upd H p (.tup [.str (Txt.partition a b).1, .str (Txt.partition a b).2.1, .str (Txt.partition a b).2.2]))) to te) ρ
      (.tuple [.str (Txt.partition x y).1, .str (Txt.partition x y).2.1, .str (Txt.partition x y).2.2]) :=
  fun A σ H s Q q => ho A σ H s _ fun v H1 k1 g1 => ⟨⟨x, dp_str g1⟩, he A σ H1 (s.move k1) _ fun v2 H2 k2 g2 => ⟨x, y, dp_str g1, by rw [dp_str g2], h1, h2, fun p hp =>
    q (.ref p) _ ((k1.trans k2).trans (.new hp)) (.tup (SqT.of (hid_of (nfresh ((s.move k1).move k2) hp) upd_same)) (.cons (.str _) (.cons (.str _) (.cons (.str _) .nil))))⟩⟩
/-- text[a:b] -/
theorem ed_slS {z : Str} {tl' th : TO} {lo hi : Option Int} (h : ED c te ρ (.str z)) (h1 : EO c tl' ρ lo) (h2 : EO c th ρ hi) (hz : z.length ≤ sizeLine) : ED c (tSl rSlS te tl' th) ρ (.str (cutS z lo hi)) := fun A σ H s Q q =>
  h A σ H s _ fun v H1 k1 g1 => h1 A σ H1 (s.move k1) _ fun H2 k2 => h2 A σ H2 ((s.move k1).move k2) _ fun H3 k3 => ⟨z, dp_str g1, hz, q _ H3 ((k1.trans k2).trans k3) (.str _)⟩
/-- a sign in a text -/
theorem ed_notInS {n : Nat} {z : Str} (ha : ED c ta ρ (.str ⟨#[n]⟩)) (hb : ED c tb ρ (.str z)) : ED c (tOp (fun x y H Q => ∃ (c : Nat) (z : Str), x = .str ⟨#[c]⟩ ∧ y = .str z ∧ Q (.bl (!decide (c ∈ z.cps.toList))) H) ta tb) ρ (.bool (!decide (n ∈ tl z))) :=
  ed_op ha hb fun A σ H v w s h1 h2 Q q => ⟨n, z, dp_str h1, dp_str h2, q _ H .refl (.bl _)⟩
/-- the signs of a text -/
def signs (z : Str) : List PD := (tl z).map fun n => .str ⟨#[n]⟩
theorem id_str {z : Str} (h : ED c te ρ (.str z)) : ID c (iStr te) ρ (signs z) := fun A σ H r R q => h A σ H r _ fun v H1 k1 h1 => ⟨z, dp_str h1, q (Its z) H1 k1 ⟨fun i A' σ' H' ρ' r' hi => by
    unfold signs at hi
    rw [List.length_map] at hi
    show i < z.cps.size
    simpa using hi, fun i A' σ' H' ρ' x H2 r' y d hd => by
    obtain ⟨rfl, n, e1, rfl⟩ := y
    unfold signs at hd
    rw [List.getElem?_map] at hd
    have e2 : (tl z)[i]? = some n := by
      show z.cps.toList[i]? = some n
      rw [Array.getElem?_toList]
      exact e1
    rw [e2] at hd
    cases hd
    exact ⟨.refl, .str _⟩, fun i A' σ' H' ρ' r' hi => by
    unfold signs at hi
    rw [List.length_map] at hi
    show z.cps.size ≤ i
    simpa using hi⟩⟩
end
end DL
/-! text * number; is not True -/
namespace L2
open PySem PySem.Spec PyProof.Rows TL
def rMulS : R2 := fun x y H Q => ∃ (z : Str) (n : Int), x = .str z ∧ y = .int n ∧ MulOk z n ∧ Q (.str (Txt.mul z n)) H
theorem op_mul_str {X : Cx} : OpR X (binaryOp .Mult) rMulS := by
  intro pins s σ H x y v u Q I rx ry h
  obtain ⟨z, n, rfl, rfl, hok, q⟩ := h
  obtain ⟨t, rfl⟩ := rx
  obtain ⟨t', rfl⟩ := ry
  exact SB.mul hok fun t2 k => ⟨.str (Txt.mul z n), H, I.tok k, ⟨_, rfl⟩, q⟩
theorem mul_one {z : Str} {c : Nat} {n : Nat} (h : tl z = [c]) (hn : 2 ≤ n) : tl (Txt.mul z (n : Int)) = List.replicate n c := by
  have hl : z.length = 1 := by rw [len_tl, h]; rfl
  unfold Txt.mul
  rw [if_neg (by omega), if_neg (by rw [hl]; simp; omega)]
  have key : ∀ (m : Nat) (a : Array Nat), ((List.replicate m z.cps).foldl (· ++ ·) a).toList = a.toList ++ List.replicate m c := by
    intro m
    induction m with
    | zero => intro a; simp
    | succ m ih =>
      intro a
      rw [List.replicate_succ, List.foldl_cons, ih, Array.toList_append, show z.cps.toList = [c] from h, List.replicate_succ, List.append_assoc]
      rfl
  show ((List.replicate ((n : Int)).toNat z.cps).foldl (· ++ ·) #[]).toList = _
  rw [Int.toNat_natCast, key]
  rfl
end L2
namespace DL
open PySem PySem.Spec PyProof.Rows L2 DA TL
section
variable {c : DC} {ρ : DEnv} {ta tb : TE}
theorem ed_mulS {z : Str} {n : Int} (ha : ED c ta ρ (.str z)) (hb : ED c tb ρ (.int n)) (hok : MulOk z n) : ED c (tOp rMulS ta tb) ρ (.str (Txt.mul z n)) :=
  ed_op ha hb fun A σ H v w s h1 h2 Q q => ⟨z, n, dp_str h1, dp_int h2, hok, q _ H .refl (.str _)⟩
theorem ed_notB {a b : Bool} (ha : ED c ta ρ (.bool a)) (hb : ED c tb ρ (.bool b)) : ED c (tOp rNotB ta tb) ρ (.bool (!decide (a = b))) :=
  ed_op ha hb fun A σ H v w s h1 h2 Q q => ⟨a, b, dp_bool h1, dp_bool h2, q _ H .refl (.bl _)⟩
end
end DL
namespace GE
open PySem PySem.Spec PyProof.Rows L2 GenW

/-- the context of a generator expression's frame -/
abbrev gcx (X : Cx) (A : Around) (s : Shared) (H : Hp) (env : Env) (fp : List Addr) (pn : List (Addr × Obj)) : Cx :=
  { X with A := A, s_0 := s, H_0 := H, env := env, outer := X.stack, stack := env :: X.stack, ex := fp, fn := fun _ => false, pn := pn, xe := fun _ _ => False }

/-- the names of a generator expression: its own, or captured; none is captured further in -/
structure GxOk (N : List Str) (sc scope : Scope) (own : List (Str × Nat)) : Prop where
  blk : BlkOk N sc scope own
  co : scope.isCoroutine = false
  cell : ∀ y ∈ scope.names, y.2 ≠ .cell
  dot : scope.names.lookup (".0" : Str) = some NameKind.local

abbrev clo (X : Cx) (scope : Scope) : List (Str × Addr) := cloFrom X.env.cells scope.names []

theorem gx_start {X : Cx} {pins : List (Addr × Obj)} {σ : L2.St} {H : Hp} {s : Shared} {scope : Scope} {own : List (Str × Nat)} {fp : List Addr} {code it : Value} {A : Around} {h' : Heap} {go : Obj} {g' : Array GenState} {tk : Nat}
    (I : Inv X pins σ H s) (ok : GxOk X.N X.env.scope scope own) (hN : X.N.Nodup) (hfp : ∀ b ∈ fp, FpOk X pins H b ∧ b < s.heap.objs.size) (hA : X.calm = true → A.handled = none)
    (hAf : A.frames = some (genEnv scope (clo X scope) s.heap.objs.size code builtinsNs X.env :: X.stack))
    (ns : h'.Ns s.heap.objs.size (fun y => if y = ".0" then some it else none)) (sb : Heap.SameBut s.heap.objs.size (s.heap.push { cls := .type "frame", data := .dict #[] }) h') (hgo : ∀ v, go.data ≠ .cell v) (hg : AllBare g') (hgp : ∀ h : Heap, (h.push go).get? h.objs.size = some go) :
    Inv (gcx X A s H (genEnv scope (clo X scope) s.heap.objs.size code builtinsNs X.env) fp [(h'.objs.size, go)]) [] (wipe σ (own.map (·.2))) H { s with gens := g', toks := tk, heap := h'.push go } := by
  have hfree : ∀ y ∈ scope.names, y.2 = .free → ∃ c, X.env.cells.lookup y.1 = some c := fun y hy e => by
    rcases ok.blk.free y hy e with k | k
    · exact I.ok.has _ (.inl k)
    · exact I.ok.has _ (.inr k)
  have sz : h'.objs.size = s.heap.objs.size + 1 := by rw [sb.1, Heap.size_push]
  generalize hcenv : genEnv scope (clo X scope) s.heap.objs.size code builtinsNs X.env = cenv at hAf ⊢
  have kp : ∀ b o, s.heap.get? b = some o → (h'.push go).get? b = some o := fun b o e => Heap.get?_push_of_some _ (sb.extBut b o (Nat.ne_of_lt (Heap.lt_size e)) (Heap.get?_push_of_some _ e))
  have hL : cenv.locals = s.heap.objs.size := by rw [← hcenv]; rfl
  have hcl : cenv.cells = clo X scope := by rw [← hcenv]; rfl
  have hsc : cenv.scope = scope := by rw [← hcenv]; rfl
  have cm : ∀ {y c}, (y, c) ∈ clo X scope → X.env.cells.lookup y = some c ∧ c < s.heap.objs.size := fun {y c} hm => by
    rcases cloFrom_mem hm with hm | ⟨h1, rfl⟩
    · cases hm
    · obtain ⟨c, hc⟩ := hfree _ h1 rfl
      rw [hc]
      obtain ⟨w, z⟩ := I.cell _ _ hc
      exact ⟨rfl, z.lt⟩
  have mem : ∀ {y c}, cenv.cells.lookup y = some c → X.env.cells.lookup y = some c ∧ c < s.heap.objs.size := fun {y c} e => by
    rw [hcl] at e
    exact cm (PySem.mem_of_lookup e)
  have look : ∀ {y}, scope.names.lookup y = some .free → ∃ c, cenv.cells.lookup y = some c ∧ X.env.cells.lookup y = some c := fun {y} hl => by
    have hy : (y, NameKind.free) ∈ scope.names := PySem.mem_of_lookup hl
    obtain ⟨c', e'⟩ := L2.mem_lookup (cloFrom_has (cells := X.env.cells) (acc := []) hy)
    have e2 : cenv.cells.lookup y = some c' := by rw [hcl]; exact e'
    exact ⟨c', e2, (mem e2).1⟩
  have okB : (gcx X A s H cenv fp [(h'.objs.size, go)]).Ok := by
    refine ⟨I.ok.mod, by show cenv.scope.kind = _; rw [hsc]; exact ok.blk.kind, by show cenv.globals = _; rw [← hcenv]; exact I.ok.glob, by show cenv.builtins = _; rw [← hcenv]; rfl, by show s.heap.objs.size ≤ cenv.locals; rw [hL]; exact Nat.le_refl _,
      fun y z c e1 e2 => I.ok.inj y z c (mem e1).1 (mem e2).1, fun y hy => ?_, fun y c z e => absurd z Bool.false_ne_true, hA, hAf, .inr ⟨rfl, ?_⟩, fun b hb => ⟨?_, fun y c e z => ?_⟩, I.bs, Nat.le_trans I.ok.bsz I.sz, fun b o e hb => ?_, fun b hb z => ?_, I.stack, I.stkFree⟩
    · show ∃ c, cenv.cells.lookup y = some c
      have key : ∀ k, cenv.scope.names.lookup y = some k → (k = .cell ∨ k = .free) → ∃ c, cenv.cells.lookup y = some c := fun k hk hk' => by
        rw [hsc] at hk
        rcases hk' with rfl | rfl
        · exact absurd rfl (ok.cell _ (PySem.mem_of_lookup hk))
        · obtain ⟨c, h1, _⟩ := look hk
          exact ⟨c, h1⟩
      rcases hy with hy | hy
      · exact key _ hy (.inl rfl)
      · exact key _ hy (.inr rfl)
    · show cenv.frame = some cenv.locals
      rw [← hcenv]; rfl
    · show b ≠ cenv.locals
      rw [hL]; exact Nat.ne_of_lt (hfp b hb).2
    · exact (hfp b hb).1.2.2.2.2.1 y c (mem (show cenv.cells.lookup y = some c from e)).1 z
    · rcases (hfp b hb).1.2.2.2.1 with z | z
      · exact I.ok.noex b o e z
      · exact absurd (Nat.lt_of_lt_of_le (Heap.lt_size e) (Nat.le_trans I.ok.bsz z)) (Nat.lt_irrefl _)
    · rcases List.mem_cons.mp (I.stkSub b z) with z | z
      · exact (hfp b hb).1.2.1 z
      · exact (hfp b hb).1.2.2.1 z
  refine ⟨okB, rfl, hg, Un.kept kp, ⟨fun y => if y = ".0" then some it else none, ?_, fun i y av e1 e2 e3 => ?_⟩, fun y c e => ?_, ?_, fun y c e => I.freeC y c (mem e).1, fun p hp => ?_, I.hok.kept kp, by rw [wipe_length]; exact I.len⟩
  · show Heap.Ns _ cenv.locals _
    rw [hL]
    exact Heap.Ns.keeps ns fun b o e => Heap.get?_push_of_some _ e
  · obtain ⟨e2, hne⟩ := wipe_some e2
    have e3 : Vis cenv.scope y := e3
    have hfr : scope.names.lookup y = some .free := by
      have no : ∀ k', scope.names.lookup y = some k' → ¬ (k' = .local ∨ k' = .cell) := fun k' e hh => by
        rcases ok.blk.own _ (PySem.mem_of_lookup e) hh with e' | e'
        · obtain ⟨p, hp, hpy⟩ := List.mem_map.mp e'
          have e4 := ok.blk.ix p hp
          have : p.1 = y := hpy
          rw [this] at e4
          exact hne (List.mem_map.mpr ⟨p, hp, nodup_ix hN e4 e1⟩)
        · exact e' (List.mem_of_getElem? e1)
      unfold Vis at e3
      rw [hsc] at e3
      rcases e3 with e3 | e3 | e3
      · exact absurd (.inl rfl) (no _ e3)
      · exact absurd (.inr rfl) (no _ e3)
      · exact e3
    obtain ⟨m, hn, hl⟩ := I.loc
    have hvis : Vis X.env.scope y := (ok.blk.free _ (PySem.mem_of_lookup hfr) rfl).elim (fun k => .inr (.inl k)) (fun k => .inr (.inr k))
    obtain ⟨w, r, q⟩ := hl i y av e1 e2 hvis
    refine ⟨w, r, .inr ⟨.inr (by show cenv.scope.names.lookup y = _; rw [hsc]; exact hfr), ?_⟩⟩
    obtain ⟨c, h1, h2⟩ := look hfr
    rcases q with ⟨k, _⟩ | ⟨_, c', e', z⟩
    · have k : X.env.scope.names.lookup y = some .local := k
      rcases ok.blk.free _ (PySem.mem_of_lookup hfr) rfl with k' | k' <;> rw [show X.env.scope.names.lookup y = _ from k'] at k <;> cases k
    · rw [h2] at e'; cases e'
      exact ⟨c, h1, z.keeps kp⟩
  · obtain ⟨w, z⟩ := I.cell y c (mem (show cenv.cells.lookup y = some c from e)).1
    exact ⟨w, z.keeps kp⟩
  · show H cenv.locals = none
    rw [hL]; exact I.hok.fresh (Nat.le_refl _)
  · have hp' : p = (h'.objs.size, go) := by
      have q : p ∈ [(h'.objs.size, go)] ++ ([] : List (Addr × Obj)) := hp
      simpa using q
    subst hp'
    have hge : s.heap.objs.size ≤ h'.objs.size := by rw [sz]; exact Nat.le_succ _
    refine ⟨hgp h', I.hok.fresh hge, ?_, fun z => ?_, hgo⟩
    · show h'.objs.size ≠ cenv.locals
      rw [hL, sz]; exact Nat.succ_ne_self _
    · rcases List.mem_cons.mp (I.stkSub _ z) with z | z
      · have z' : h'.objs.size = X.env.locals := z
        have q := Nat.lt_of_lt_of_le I.lt hge
        rw [z'] at q
        exact absurd q (Nat.lt_irrefl _)
      · exact I.nofs hge z

/-! ### the generator's run -/
section
variable {X : Cx} {Ag : Around} {s4 : Shared} {H4 : Hp} {cenv : Env} {fp : List Addr} {pn : List (Addr × Obj)} {elt tg iter : Expr} {scope : Scope} {gpos : Pos} {it : Addr} {tn : Nat → Heap → Prop} {J : It} {g : TG} {te : TE}

abbrev gcode (elt tg iter : Expr) (scope : Scope) (gpos : Pos) (it : Addr) (cenv : Env) : Code := .compLoop (.GeneratorExp elt [⟨tg, iter, [], 0⟩] scope gpos) 0 (.ref it) .none cenv
abbrev gstart (elt tg iter : Expr) (scope : Scope) (gpos : Pos) (it : Addr) (cenv : Env) : Code := .compStart (.GeneratorExp elt [⟨tg, iter, [], 0⟩] scope gpos) 0 (.ref it) .none cenv

/-- the end; what is handed out -/
def GR (Z : Cx) (σw : L2.St) (N : Nat) (W : Nat → Hp → Prop) : GenEnd := fun n _ r s1 => r = .ok .next ∧ (n = 1 ∧ ∃ H, W N H ∧ Inv Z [] σw H s1)
def GYd (Z : Cx) (σw : L2.St) (fp : List Addr) (tn : Nat → Heap → Prop) (N : Nat) (f : Nat → V) (W Vv : Nat → Hp → Prop) : Protocol := fun n _ v s1 kap =>
  ∃ i H, (n + i = N ∧ i < N) ∧ RelV (f i) v ∧ Vv i H ∧ Inv Z [] σw H s1 ∧ tn (i + 1) s1.heap ∧ (∀ b ∈ fp, H b = none) ∧
    ∀ s' H', Inv Z [] σw H' s' → tn (i + 1) s'.heap → (∀ b ∈ fp, H' b = none) → W (i + 1) H' → kap (.send .none) s'

theorem seg_loop {N : Nat} {f : Nat → V} {W Vv : Nat → Hp → Prop} {σw : L2.St} {vs : List Nat} (hc : X.calm = true) (hco : cenv.scope.isCoroutine = false) (T : Turn X.prog X.w X.K tg J fp it tn)
    (Z : Cx) (hZ : Z = gcx X (Ag.over (gcode elt tg iter scope gpos it cenv) []) s4 H4 cenv fp pn) (hpn : ∀ b ∈ fp, ∀ p ∈ pn, p.1 ≠ b) (pg : PG Z tg g) (pe : PE Z elt te) (hσ : wipe σw vs = σw)
    (turn : ∀ i H, i < N → W i H → J.go i H ∧ ∀ x H', J.yld i H x H' → g x σw H' fun σ2 H2 => wipe σ2 vs = σw ∧ te σ2 H2 fun y H3 => y = f i ∧ Vv i H3) (stop : ∀ H, W N H → J.stop N H) :
    ∀ (k i : Nat) (s₀ s : Shared) (H : Hp), N - i = k → i ≤ N → Inv Z [] σw H s → tn i s.heap → (∀ b ∈ fp, H b = none) → W i H →
      Seg (model X.prog X.w) Ag (GR Z σw N W) (GYd Z σw fp tn N f W Vv) (N - i + 1) s₀ (gcode elt tg iter scope gpos it cenv) ((model X.prog X.w).den (gcode elt tg iter scope gpos it cenv)) [] s := by
  have stat : ∀ {σ' : L2.St} {H' : Hp} {s' : Shared}, Inv Z [] σ' H' s' → (∀ b ∈ fp, H' b = none) → ∀ b ∈ fp, FpOk Z [] H' b := fun {σ' H' s'} I' hn b hb => by
    subst hZ
    exact ⟨hn b hb, (I'.ok.exf b hb).1, I'.ok.exfs b hb, .inl hb, fun x c e => (I'.ok.exf b hb).2 x c e, fun p hp => hpn b hb p (by simpa using hp)⟩
  have hA : Z.A = Ag.over (gcode elt tg iter scope gpos it cenv) [] := by subst hZ; rfl
  have hP : Z.prog = X.prog := by subst hZ; rfl
  have hw : Z.w = X.w := by subst hZ; rfl
  have hK : Z.K = X.K := by subst hZ; rfl
  have hcZ : Z.calm = true := by subst hZ; exact hc
  have hxe : Z.xe = fun _ _ => False := by subst hZ; rfl
  have henv : Z.env = cenv := by subst hZ; rfl
  intro k
  induction k with
  | zero =>
    intro i s₀ s H hk hi I st nf w
    have hin : i = N := by omega
    subst hin
    show Seg _ Ag _ _ _ s₀ _ ((compTurn (.GeneratorExp elt [⟨tg, iter, [], 0⟩] scope gpos) 0 (.ref it) .none cenv).onRaise (leaving cenv)) [] s
    rw [compTurn_gen, Sem.onRaise_eq_wrap]
    refine seg_bind_wrap (wpAny_standAt ?_)
    have td := T.done Z hP hw hK hcZ i [] s σw H (fun _ _ => False) I (stat I nf) st (stop H w)
    rw [hA] at td
    refine seg_bind_wrap (thnF td fun r s6 ⟨hr, I6⟩ => ?_)
    subst hr
    exact seg_end (.ok .next) ⟨rfl, by omega, H, w, I6⟩
  | succ k ih =>
    intro i s₀ s H hk hi I st nf w
    have hlt : i < N := by omega
    obtain ⟨go, step⟩ := turn i H hlt w
    show Seg _ Ag _ _ _ s₀ _ ((compTurn (.GeneratorExp elt [⟨tg, iter, [], 0⟩] scope gpos) 0 (.ref it) .none cenv).onRaise (leaving cenv)) [] s
    rw [compTurn_gen, Sem.onRaise_eq_wrap]
    refine seg_bind_wrap (wpAny_standAt ?_)
    have ti := T.item Z hP hw hK hcZ i [] s σw H (fun _ _ => False) I (stat I nf) st go
    rw [hA] at ti
    refine seg_bind_wrap (thnF ti fun r s6 ⟨u, hr, h6⟩ => ?_)
    subst hr
    refine seg_bind_wrap (thnF h6 fun _ s7 ⟨x, H7, I7, r7, y7, st7, n7⟩ => ?_)
    have I7' := I7.pinned (stat I7 n7) (T.obj _ _ st7)
    have hpg := pg.run _ s7 _ H7 x u _ I7' r7 (step x H7 y7)
    rw [hP, hw, hA, hxe, henv] at hpg
    refine seg_bind_wrap (thnF hpg fun _ s8 ⟨σ8, H8, I8, hw8, q8⟩ => ?_)
    refine seg_bind_wrap (wpAny_tests_nil ?_)
    simp only [if_true]
    have hy : ∀ v, yieldOut cenv v = yieldValue v := fun v => by simp only [yieldOut, hco, Bool.false_eq_true, if_false]
    simp only [hy]
    rw [Sem.bind_eq_wrap', Sem.bind_eq_wrap', Sem.wrap_wrap, Sem.wrap_wrap]
    have hpe := pe.run _ s8 σ8 H8 _ I8 q8
    rw [hP, hw, hA, hxe, henv] at hpe
    refine seg_wrap (thnF hpe fun z s9 ⟨y, H9, I9, r9, ey, v9⟩ => ?_)
    subst ey
    have pin' : ∀ b ∈ fp, ∀ o, s7.heap.get? b = some o → s9.heap.get? b = some o ∧ H9 b = none := fun b hb o e =>
      let z := I9.pin (b, o) (List.mem_append_right _ (List.mem_append_right _ (mem_pinsAt hb e)))
      ⟨z.1, z.2.1⟩
    have hl : σw.length = σ8.length := by rw [← hw8, wipe_length]
    have I10 : Inv Z [] σw H9 s9 := (I9.unpinned (pins := [])).weak hl fun j v e => by
      rw [← hw8] at e
      exact (wipe_some e).1
    have st9 : tn (i + 1) s9.heap := T.keep _ _ _ st7 fun b hb o e => (pin' b hb o e).1
    have n9 : ∀ b ∈ fp, H9 b = none := fun b hb => by
      obtain ⟨o, e, _⟩ := T.obj _ _ st7 b hb
      exact (pin' b hb o e).2
    refine seg_at (seg_yield rfl rfl rfl ⟨i, H9, ⟨by omega, hlt⟩, r9, v9, I10, st9, n9, fun s' H' I' st' n' w' => ?_⟩)
    have e2 : N - i = N - (i + 1) + 1 := by omega
    rw [e2]
    exact seg_again rfl (ih (i + 1) s' s' H' (by omega) hlt I' st' n' w')

theorem seg_start {N : Nat} {f : Nat → V} {W Vv : Nat → Hp → Prop} {σw : L2.St} {vs : List Nat} (hc : X.calm = true) (hco : cenv.scope.isCoroutine = false) (T : Turn X.prog X.w X.K tg J fp it tn)
    (Z : Cx) (hZ : Z = gcx X (Ag.over (gcode elt tg iter scope gpos it cenv) []) s4 H4 cenv fp pn) (hpn : ∀ b ∈ fp, ∀ p ∈ pn, p.1 ≠ b) (pg : PG Z tg g) (pe : PE Z elt te) (hσ : wipe σw vs = σw)
    (turn : ∀ i H, i < N → W i H → J.go i H ∧ ∀ x H', J.yld i H x H' → g x σw H' fun σ2 H2 => wipe σ2 vs = σw ∧ te σ2 H2 fun y H3 => y = f i ∧ Vv i H3) (stop : ∀ H, W N H → J.stop N H)
    (s₀ s : Shared) (H : Hp) (I : Inv Z [] σw H s) (st : tn 0 s.heap) (nf : ∀ b ∈ fp, H b = none) (w : W 0 H) :
    Seg (model X.prog X.w) Ag (GR Z σw N W) (GYd Z σw fp tn N f W Vv) (N + 1) s₀ (gstart elt tg iter scope gpos it cenv) ((model X.prog X.w).den (gstart elt tg iter scope gpos it cenv)) [] s := by
  have loop := seg_loop (s4 := s4) (H4 := H4) (pn := pn) hc hco T Z hZ hpn pg pe hσ turn stop N 0 s₀ s H (Nat.sub_zero _) (Nat.zero_le _) I st nf w
  rw [Nat.sub_zero] at loop
  show Seg _ Ag _ _ _ s₀ _ ((compStart (.GeneratorExp elt [⟨tg, iter, [], 0⟩] scope gpos) 0 (.ref it) .none cenv).onRaise (leaving cenv)) [] s
  unfold compStart
  rw [Sem.onRaise_eq_wrap]
  show Seg _ Ag _ _ _ s₀ _ ((ask >>= _).wrap _ _ _ _) [] s
  refine seg_bind_wrap (wpAny_askSetting ?_)
  split
  · exact seg_again rfl loop
  · first
      | exact seg_bind_wrap (wpAny_rule (seg_bind_wrap (wpAny_standAt (seg_bind_wrap (T.self _ 0 s _ _ st (seg_again rfl loop))))))
      | (refine seg_bind_wrap (wpAny_rule ?_); show Seg _ Ag _ _ _ s₀ _ ((standAt iter.pos >>= _).wrap _ _ _ _) [] s; exact seg_bind_wrap (wpAny_standAt (seg_bind_wrap (T.self _ 0 s _ _ st (seg_again rfl loop)))))

/-- before turn i; behind the i-th item -/
def St (Z : Cx) (Ag : Around) (σw : L2.St) (fp : List Addr) (tn : Nat → Heap → Prop) (N : Nat) (f : Nat → V) (W Vv : Nat → Hp → Prop) (gn i : Nat) (s : Shared) : Prop :=
  ∃ H gs, Inv Z [] σw H s ∧ tn i s.heap ∧ (∀ b ∈ fp, H b = none) ∧ W i H ∧ s.gens[gn]? = some gs ∧ gs.Goes (model Z.prog Z.w) Ag (GR Z σw N W) (GYd Z σw fp tn N f W Vv) (N - i + 1) (.send .none) (s.setGen gn .running)
def Mid (Z : Cx) (Ag : Around) (σw : L2.St) (fp : List Addr) (tn : Nat → Heap → Prop) (N : Nat) (f : Nat → V) (W Vv : Nat → Hp → Prop) (gn i : Nat) (s : Shared) : Prop :=
  ∃ H, Inv Z [] σw H s ∧ Vv i H ∧ (∀ b ∈ fp, H b = none) ∧ ∀ s' H', s'.gens = s.gens → Inv Z [] σw H' s' → (∀ b ∈ fp, ∀ o, s.heap.get? b = some o → s'.heap.get? b = some o) → (∀ b ∈ fp, H' b = none) → W (i + 1) H' → St Z Ag σw fp tn N f W Vv gn (i + 1) s'

theorem Inv.gens {Z : Cx} {σ : L2.St} {H : Hp} {s : Shared} {pins : List (Addr × Obj)} (I : Inv Z pins σ H s) {g' : Array GenState} (hg : AllBare g') : Inv Z pins σ H { s with gens := g' } :=
  ⟨I.ok, I.os, hg, I.base, I.loc, I.cell, I.free, I.freeC, I.pin, I.hok, I.len⟩
theorem Inv.setGen {Z : Cx} {σ : L2.St} {H : Hp} {s : Shared} {pins : List (Addr × Obj)} (I : Inv Z pins σ H s) {gn : Nat} {x : GenState} (hx : x.bare = true) : Inv Z pins σ H (s.setGen gn x) :=
  Inv.gens I (allBare_setGen I.bare hx)

theorem next_item {Z : Cx} {Ac : Around} {σw : L2.St} {N : Nat} {f : Nat → V} {W Vv : Nat → Hp → Prop} {gn i a : Nat} {s : Shared} {go : Obj} {Q : Option Value → Shared → Prop} {E : Value → Shared → Prop}
    (T : Turn X.prog X.w X.K tg J fp it tn)
    (hpn : (a, go) ∈ Z.pn) (hgo : ∀ h : Heap, h.get? a = some go → h.IsGen a gn) (hh : Ac.handled = none) (hroom : Ac.depth < recursionLimit) (hi : i < N) (st : St Z Ac.in1 σw fp tn N f W Vv gn i s)
    (hQ : ∀ v s', RelV (f i) v → Mid Z Ac.in1 σw fp tn N f W Vv gn i s' → Q (some v) s') : wpAny (model Z.prog Z.w) Ac (pyNext (.ref a)) Q E s := by
  obtain ⟨H, gs, I, t, nf, w, hgs, hgoes⟩ := st
  have hlt : gn < s.gens.size := (Array.getElem?_eq_some_iff.mp hgs).1
  have hg := hgo s.heap (I.pin (a, go) (List.mem_append_left _ hpn)).1
  refine wpAny_gsz (n := s.gens.size) (Nat.le_refl _) ?_
  refine wpAny_pyNext_genexpQ (P := fun n _ s1 => n = 1 ∧ ∃ H, W N H ∧ Inv Z [] σw H s1) hh I.nolimit hroom hg hgs hgoes (fun v s₁ gs' hb hv => ?_) (fun s₁ hp h' hk => ?_)
  · obtain ⟨j, H3, hj, rv, vv, I3, t3, n3, kap⟩ := hv
    have hji : j = i := by omega
    subst hji
    intro hsz
    have hsz : s.gens.size ≤ (s₁.setGen gn gs').gens.size := hsz
    have hsz2 : gn < (s₁.setGen gn gs').gens.size := Nat.lt_of_lt_of_le hlt hsz
    have hsz3 : gn < s₁.gens.size := by rw [setGen_size] at hsz2; exact hsz2
    refine hQ v _ rv ⟨H3, Inv.setGen I3 hb, vv, n3, fun s' H' eg I' hk hn' w' => ?_⟩
    have egs : s'.gens[gn]? = some gs' := by rw [eg]; exact setGen_at hsz3
    refine ⟨H', gs', I', T.keep _ _ _ t3 fun b hb o e => hk b hb o e, hn', w', egs, ?_⟩
    have e2 : N - (j + 1) + 1 = N - j := by omega
    rw [e2]
    exact kap (s'.setGen gn .running) H' (Inv.setGen I' rfl) (T.keep _ _ _ t3 fun b hb o e => hk b hb o e) hn' w'
  · have := hp.1
    omega
theorem next_done {Z : Cx} {Ac : Around} {σw : L2.St} {N : Nat} {f : Nat → V} {W Vv : Nat → Hp → Prop} {gn a : Nat} {s : Shared} {go : Obj} {Q : Option Value → Shared → Prop} {E : Value → Shared → Prop}
    (hpn : (a, go) ∈ Z.pn) (hgo : ∀ h : Heap, h.get? a = some go → h.IsGen a gn) (hh : Ac.handled = none) (hroom : Ac.depth < recursionLimit) (st : St Z Ac.in1 σw fp tn N f W Vv gn N s)
    (hQ : ∀ s' H, W N H → Inv Z [] σw H s' → Q none s') : wpAny (model Z.prog Z.w) Ac (pyNext (.ref a)) Q E s := by
  obtain ⟨H, gs, I, t, nf, w, hgs, hgoes⟩ := st
  have hg := hgo s.heap (I.pin (a, go) (List.mem_append_left _ hpn)).1
  refine wpAny_pyNext_genexpQ (P := fun n _ s1 => n = 1 ∧ ∃ H, W N H ∧ Inv Z [] σw H s1) hh I.nolimit hroom hg hgs hgoes (fun v s₁ gs' hb hv => ?_) (fun s₁ hp h' hk => ?_)
  · obtain ⟨j, H3, hj, _⟩ := hv
    omega
  · obtain ⟨_, H3, w3, I3⟩ := hp
    exact hQ _ H3 w3 (Inv.setGen (I3.kept (t' := s₁.toks) hk) rfl)
end

section
variable {X : Cx} {pins : List (Addr × Obj)} {σ : L2.St} {H : Hp} {s : Shared}

def Turns (J : It) (g : TG) (te : TE) (vs : List Nat) (σw : L2.St) (N : Nat) (f : Nat → V) (W Vv : Nat → Hp → Prop) : Prop :=
  ∀ i H, i < N → W i H → J.go i H ∧ ∀ x H', J.yld i H x H' → g x σw H' fun σ2 H2 => wipe σ2 vs = σw ∧ te σ2 H2 fun y H3 => y = f i ∧ Vv i H3
/-- the generator at a, made and not begun -/
def Ready (X : Cx) (pins : List (Addr × Obj)) (σ : L2.St) (J : It) (g : TG) (te : TE) (vs : List Nat) (a : Addr) (H2 : Hp) (s5 : Shared) : Prop :=
  ∃ (Z : Cx) (tg : Expr) (go : Obj) (gn : Nat) (fp : List Addr) (it : Addr) (tn : Nat → Heap → Prop), Z.prog = X.prog ∧ Z.w = X.w ∧ Z.K = X.K ∧ Turn X.prog X.w X.K tg J fp it tn ∧ (a, go) ∈ Z.pn ∧ (∀ h : Heap, h.get? a = some go → h.IsGen a gn) ∧ Inv Z [] (wipe σ vs) H2 s5 ∧ (∀ b ∈ fp, H2 b = none ∧ b < s5.heap.objs.size) ∧
    (∀ H' s', Inv Z [] (wipe σ vs) H' s' → Inv X pins σ H' s') ∧
    ∀ N f W Vv, Turns J g te vs (wipe σ vs) N f W Vv → (∀ H, W N H → J.stop N H) → ∀ s' H', s'.gens = s5.gens → Inv Z [] (wipe σ vs) H' s' → (∀ b ∈ fp, ∀ o, s5.heap.get? b = some o → s'.heap.get? b = some o) → (∀ b ∈ fp, H' b = none) → W 0 H' →
      St Z X.A.in1.in1 (wipe σ vs) fp tn N f W Vv gn 0 s'

theorem wipe_wipe (σ : L2.St) : ∀ vs : List Nat, wipe (wipe σ vs) vs = wipe σ vs := by
  intro vs
  refine List.ext_getElem? fun i => ?_
  by_cases hi : i ∈ vs
  · have e : ∀ τ : L2.St, (wipe τ vs)[i]? = if i < τ.length then some none else none := fun τ => by
      have hl : (wipe τ vs).length = τ.length := wipe_length τ vs
      by_cases hl2 : i < τ.length
      · rw [if_pos hl2]
        cases e1 : (wipe τ vs)[i]? with
        | none => rw [List.getElem?_eq_none_iff] at e1; omega
        | some o =>
          cases o with
          | none => rfl
          | some v => exact absurd hi (wipe_some e1).2
      · rw [if_neg hl2, List.getElem?_eq_none_iff]; omega
    rw [e, e, wipe_length]
  · rw [wipe_out hi]

theorem over_g {A : Around} {elt tg iter : Expr} {scope : Scope} {gpos : Pos} {it : Addr} {cenv : Env} {l : List Env} (h : A.frames = some l) : (A.over (gcode elt tg iter scope gpos it cenv) []).frames = some (cenv :: l) := by
  show pushEnvs [cenv] (pushEnvs [] A.frames) = _
  rw [h]
  rfl
theorem room_g {X : Cx} {k : Nat} {elt tg iter : Expr} {scope : Scope} {gpos : Pos} {it : Addr} {cenv : Env} (hr : Room (k + 1) X.A) : Room k (X.A.in1.in1.over (gcode elt tg iter scope gpos it cenv) []) := by
  refine ⟨hr.hd, ?_, ?_⟩
  · have := hr.dp
    show X.A.depth + 0 + 1 + 3 * k + 5 < _
    omega
  · have := hr.un
    show X.A.units + 1 + 1 + 0 + 3 + 16 * k + 200 < _
    omega

theorem gen_make {c P : Addr} {elt tg iter : Expr} {gpos : Pos} {scope : Scope} {own : List (Str × Nat)} {k : Nat} {wi : TI} {g : TG} {te : TE} {Q' : Value → Shared → Prop} {R : It → Hp → Prop}
    (hr : Room (k + 1) X.A) (hc : X.calm = true) (hN : X.N.Nodup) (TB : GxR.TabB X.base X.mg c P) (hcode : X.env.code = .ref c) (ok : GxOk X.N X.env.scope scope own) (hi : PI X tg iter wi)
    (hg : ∀ (A : Around) (s : Shared) (H : Hp) (code : Value) (fp : List Addr) (pn : List (Addr × Obj)), PG (gcx X A s H (genEnv scope (clo X scope) s.heap.objs.size code builtinsNs X.env) fp pn) tg g)
    (he : ∀ (A : Around) (s : Shared) (H : Hp) (code : Value) (fp : List Addr) (pn : List (Addr × Obj)), Room k A → PE (gcx X A s H (genEnv scope (clo X scope) s.heap.objs.size code builtinsNs X.env) fp pn) elt te)
    (hs : ∀ v, genFold iter X.env v = pure v) (I : Inv X pins σ H s) (h : wi σ H fun J H1 => GxR.TabG H1 P ∧ R J H1)
    (hQ : ∀ J H1 H2 a s5, R J H1 → GxR.Tabbed P H1 H2 → Ready X pins σ J g te (own.map (·.2)) a H2 s5 → Q' (.ref a) s5) :
    wpAny (model X.prog X.w) X.A (eval (.GeneratorExp elt [⟨tg, iter, [], 0⟩] scope gpos) X.env) Q' X.xe s := by
  have hfree : ∀ y ∈ scope.names, y.2 = .free → ∃ c, X.env.cells.lookup y.1 = some c := fun y hy e => by
    rcases ok.blk.free y hy e with k | k
    · exact I.ok.has _ (.inl k)
    · exact I.ok.has _ (.inr k)
  refine wpAny_GeneratorExp_make ok.co (closure_ok hfree) ok.cell ok.dot ok.blk.kind hr.depth ?_ hs
  refine thn (hi.run pins s σ H _ I h) fun xv s1 hx => thn hx fun itv s2 h2 => ?_
  obtain ⟨it, fp, tn, J, H2, e, I2, T, st2, f2, ⟨ps, hP, ht⟩, q⟩ := h2
  subst e
  have hPs : s2.heap.get? P = some { cls := .none, data := .fields ps } := I2.hok P _ hP
  have cd : PySem.W.CodeHd s2.heap c P := TB.code.keeps fun b u e => I2.bk b u e
  refine ⟨I2.nolimit, ?_⟩
  have cont : ∀ (code : Value) (h3 : Heap) (tk : Nat) (ps' : Array Value), Heap.ExtBut P s2.heap h3 → h3.get? P = some { cls := .none, data := .fields ps' } → (∃ more, ps' = ps ++ more) → TriplesOk ps'.toList →
      wpAny (model X.prog X.w) X.A (builtinsFor X.env.globals X.env.builtins) (fun bi s₄ =>
        ∀ h', h'.Ns s₄.heap.objs.size (fun y => if y = ".0" then some (.ref it) else none) → Heap.SameBut s₄.heap.objs.size (s₄.heap.push { cls := .type "frame", data := .dict #[] }) h' →
          Q' (.ref h'.objs.size) { s₄ with
            gens := s₄.gens.push (.fresh (.compStart (.GeneratorExp elt [⟨tg, iter, [], 0⟩] scope gpos) 0 (.ref it) .none (genEnv scope (clo X scope) s₄.heap.objs.size code bi X.env))),
            toks := s₄.toks + 1 + 1 + 1,
            heap := h'.push { cls := .type "generator", data := .fields #[.int s₄.gens.size 0, .str "<genexpr>" (s₄.toks + 1), .str (X.env.qual ++ "<genexpr>") (s₄.toks + 1 + 1)] } }) X.xe { s2 with heap := h3, toks := tk } := by
    intro code h3 tk ps' hx hP3 hmore ht3
    obtain ⟨more, em⟩ := hmore
    obtain ⟨bm, ob, e1, e2, e3, e4, e5, e6, e7, e8⟩ := TB.bm
    have J3 : Inv X pins σ (upd H2 P (.tbl (ps ++ more))) { s2 with heap := h3, gens := s2.gens, drawn := s2.drawn, toks := tk } :=
      GxR.inv_tab (more := more) (h' := h3) (g' := s2.gens) (d' := s2.drawn) (t' := tk) I2 hP (fun b u hb e => hx b u hb e) (by rw [← em]; exact hP3) I2.bare
    refine wpAny_builtinsFor (m := X.mg) (by rw [I2.ok.glob]; exact (I2.mod.glob.keeps I2.bk).extBut hx TB.gP) e1 e2 (hx _ _ e4 (I2.bk _ _ e5)) e6 e7 e8 ?_
    intro h' ns sb
    have nP : ∀ b, H2 b = none → b ≠ P := fun b n z => by rw [z, hP] at n; cases n
    have f3 : ∀ b ∈ fp, FpOk X pins (upd H2 P (.tbl (ps ++ more))) b ∧ b < h3.objs.size := fun b hb => by
      obtain ⟨o, e, _⟩ := T.obj _ _ st2 b hb
      refine ⟨⟨?_, (f2 b hb).2⟩, ?_⟩
      · rw [upd_ne (nP b (f2 b hb).1)]
        exact (f2 b hb).1
      · exact Heap.lt_size (hx b o (nP b (f2 b hb).1) e)
    have st3 : tn 0 h3 := T.keep _ _ _ st2 fun b hb o e => hx b o (nP b (f2 b hb).1) e
    have sz : h'.objs.size = h3.objs.size + 1 := by rw [sb.1]; exact Heap.size_push ..
    generalize hcenv : genEnv scope (clo X scope) h3.objs.size code builtinsNs X.env = cenv
    generalize hgo : ({ cls := .type "generator", data := .fields #[.int s2.gens.size 0, .str "<genexpr>" (tk + 1), .str (X.env.qual ++ "<genexpr>") (tk + 1 + 1)] } : Obj) = go
    have hgd : ∀ v, go.data ≠ .cell v := fun v z => by rw [← hgo] at z; cases z
    have hgp : ∀ h : Heap, (h.push go).get? h.objs.size = some go := fun h => by rw [← hgo]; exact Heap.get?_push_size _ rfl
    have hgen : ∀ (a : Addr) (h : Heap), h.get? a = some go → h.IsGen a s2.gens.size := fun a h e => by
      rw [← hgo] at e
      exact ⟨_, _, _, e, rfl, rfl, rfl⟩
    have hAf : (X.A.in1.in1.over (gcode elt tg iter scope gpos it cenv) []).frames = some (cenv :: X.stack) := over_g (show X.A.in1.in1.frames = some X.stack from I2.ok.frames)
    generalize hZ : gcx X (X.A.in1.in1.over (gcode elt tg iter scope gpos it cenv) []) { s2 with heap := h3, toks := tk } (upd H2 P (.tbl (ps ++ more))) cenv fp [(h'.objs.size, go)] = Z
    have I5 : Inv Z [] (wipe σ (own.map (·.2))) (upd H2 P (.tbl (ps ++ more))) { s2 with gens := s2.gens.push (.fresh (gstart elt tg iter scope gpos it cenv)), toks := tk + 1 + 1 + 1, heap := h'.push go } := by
      rw [← hZ, ← hcenv]
      exact gx_start (A := X.A.in1.in1.over (gcode elt tg iter scope gpos it (genEnv scope (clo X scope) h3.objs.size code builtinsNs X.env)) []) J3 ok hN f3 (fun _ => hr.hd) (by rw [hcenv]; exact hAf) ns sb hgd (I2.bare.push rfl) hgp
    have pg := hg (X.A.in1.in1.over (gcode elt tg iter scope gpos it cenv) []) { s2 with heap := h3, toks := tk } (upd H2 P (.tbl (ps ++ more))) code fp [(h'.objs.size, go)]
    have pe := he (X.A.in1.in1.over (gcode elt tg iter scope gpos it cenv) []) { s2 with heap := h3, toks := tk } (upd H2 P (.tbl (ps ++ more))) code fp [(h'.objs.size, go)] (room_g hr)
    have ezz : genEnv scope (clo X scope) ({ s2 with heap := h3, toks := tk } : Shared).heap.objs.size code builtinsNs X.env = cenv := hcenv
    rw [ezz, hZ] at pg pe
    have hzpn : (h'.objs.size, go) ∈ Z.pn := by rw [← hZ]; exact List.mem_singleton.mpr rfl
    have n5 : ∀ b ∈ fp, (upd H2 P (.tbl (ps ++ more))) b = none := fun b hb => (f3 b hb).1.1
    have hfpn : ∀ b ∈ fp, ∀ p ∈ [(h'.objs.size, go)], p.1 ≠ b := fun b hb p hp z => by
      rw [List.mem_singleton.mp hp] at z
      have z' : h'.objs.size = b := z
      have q := (f3 b hb).2
      rw [← z', sz] at q
      exact absurd q (Nat.not_lt.mpr (Nat.le_succ _))
    refine hQ J H2 (upd H2 P (.tbl (ps ++ more))) h'.objs.size _ q ⟨⟨ps ++ more, upd_same, by rw [← em]; exact ht3⟩, fun b hb => upd_ne hb⟩ ?_
    refine ⟨Z, tg, go, s2.gens.size, fp, it, tn, by rw [← hZ], by rw [← hZ], by rw [← hZ], T, hzpn, hgen _, I5, fun b hb => ⟨n5 b hb, ?_⟩, fun H' s' I' => ?_, fun N f W Vv ht hst s' H' eg I' hk hn w' => ?_⟩
    · show b < (h'.push go).objs.size
      rw [Heap.size_push, sz]
      exact Nat.lt_succ_of_lt (Nat.lt_succ_of_lt (f3 b hb).2)
    · have I6 : Inv (gcx X (X.A.in1.in1.over (gcode elt tg iter scope gpos it cenv) []) { s2 with heap := h3, toks := tk } (upd H2 P (.tbl (ps ++ more))) cenv fp [(h'.objs.size, go)]) [] (wipe σ (own.map (·.2))) H' s' := by rw [hZ]; exact I'
      exact J3.call' (ch := fp) I6.os I6.base I6.hok I6.bare fun b hb => ⟨(f3 b hb).1.2.2.2.1, (f3 b hb).1.2.1, (f3 b hb).1.2.2.2.2.1, (f3 b hb).1.2.2.2.2.2⟩
    · have st5 : tn 0 s'.heap := T.keep _ _ _ st3 fun b hb o e => by
        have hb3 := (f3 b hb).2
        have e1 : (h3.push { cls := .type "frame", data := .dict #[] }).get? b = some o := Heap.get?_push_of_some _ e
        have e2 : h'.get? b = some o := sb.extBut b o (Nat.ne_of_lt hb3) e1
        exact hk b hb o (Heap.get?_push_of_some _ e2)
      have egs : s'.gens[s2.gens.size]? = some (.fresh (gstart elt tg iter scope gpos it cenv)) := by rw [eg]; exact Array.getElem?_push_size ..
      have hp' : Z.prog = X.prog := by rw [← hZ]
      have hw' : Z.w = X.w := by rw [← hZ]
      refine ⟨H', _, I', st5, hn, w', egs, ?_⟩
      rw [hp', hw']
      refine ⟨rfl, ?_⟩
      exact seg_start (s4 := { s2 with heap := h3, toks := tk }) (H4 := upd H2 P (.tbl (ps ++ more))) (pn := [(h'.objs.size, go)]) hc (by rw [← hcenv]; exact ok.co) T Z hZ.symm hfpn pg pe (wipe_wipe _ _) ht hst _ _ H' (Inv.setGen I' rfl) st5 hn w'
  cases hf : codeAmong gpos ps.toList with
  | none =>
    refine wpAny_genexprCodeX hcode (cd.code hPs ht) (cd.tab hPs) hf fun c' h' tk hx hge hlt hco' _ htab' _ => ?_
    obtain ⟨o1, vs, f1, tf, fl, tg', inF, tx, tt, op, _, _, _, _, _, _, _, _, _, htr, _⟩ := hco'
    exact cont _ h' tk _ hx htab'.2 ⟨_, rfl⟩ htr
  | some cv =>
    refine wpAny_genexprCode_hit hcode (cd.code hPs ht) hf ?_
    exact cont cv s2.heap s2.toks ps (Heap.ExtBut.refl _ _) hPs ⟨#[], by simp⟩ ht
end

/-! ### all, any -/
section
variable {X : Cx}
def tAllG (P : Addr) (wi : TI) (g : TG) (te : TE) (vs : List Nat) : TE := fun σ H Q => wi σ H fun J H1 => GxR.TabG H1 P ∧ ∀ H2, GxR.Tabbed P H1 H2 → ∃ (N : Nat) (f : Nat → Bool) (W : Nat → Hp → Prop),
  W 0 H2 ∧ Turns J g te vs (wipe σ vs) N (fun i => .bl (f i)) W (fun i => W (i + 1)) ∧ (∀ H, W N H → J.stop N H) ∧ ∀ i H, i ≤ N → W i H → Q (.bl ((List.range N).all f)) H
def tAnyG (P : Addr) (wi : TI) (g : TG) (te : TE) (vs : List Nat) : TE := fun σ H Q => wi σ H fun J H1 => GxR.TabG H1 P ∧ ∀ H2, GxR.Tabbed P H1 H2 → ∃ (N : Nat) (f : Nat → Bool) (W : Nat → Hp → Prop),
  W 0 H2 ∧ Turns J g te vs (wipe σ vs) N (fun i => .bl (f i)) W (fun i => W (i + 1)) ∧ (∀ H, W N H → J.stop N H) ∧ ∀ i H, i ≤ N → W i H → Q (.bl ((List.range N).any f)) H

theorem all_loop {Z : Cx} {A : Around} {R : Result → Shared → Prop} {tg : Expr} {J : It} {it a : Addr} {go : Obj} {gn : Nat} {fp : List Addr} {tn : Nat → Heap → Prop} {σw : L2.St} {N : Nat} {f : Nat → Bool} {W : Nat → Hp → Prop} (T : Turn Z.prog Z.w Z.K tg J fp it tn)
    (hpn : (a, go) ∈ Z.pn) (hgo : ∀ h : Heap, h.get? a = some go → h.IsGen a gn) (hh : A.handled = none) (hroom : A.depth < recursionLimit)
    (hR : ∀ i s' H, i ≤ N → W i H → Inv Z [] σw H s' → R (.ok (.ret (.bool ((List.range N).all f)))) s') :
    ∀ (k i : Nat) (s : Shared), N - i = k → i ≤ N → ((List.range N).all f = ((List.range N).drop i).all f) → St Z A.in1.in1 σw fp tn N (fun i => .bl (f i)) W (fun i => W (i + 1)) gn i s → codeAny (model Z.prog Z.w) A (.builtin "all.loop" ⟨[.ref a], []⟩) R s := by
  intro k
  induction k with
  | zero =>
    intro i s hk hi hall st
    have hin : i = N := by omega
    subst hin
    refine codeAny_builtin F.entry_all_loop ?_
    rw [Around.under_plainId F.plain_all_loop _]
    show wpAny _ A.in1 (pyNext (.ref a) >>= _) _ _ s
    refine wpAny_bind (next_done hpn hgo hh hroom st fun s' H w I => ?_)
    refine wpAny_bind (wpAny_rule (wpAny_pure ?_))
    have h9 := hR i s' H (Nat.le_refl _) w I
    rw [hall, List.drop_of_length_le (by simp)] at h9
    exact h9
  | succ k ih =>
    intro i s hk hi hall st
    have hlt : i < N := by omega
    have hd : (List.range N).drop i = i :: (List.range N).drop (i + 1) := by
      rw [List.drop_eq_getElem_cons (by simpa using hlt)]; simp
    refine codeAny_builtin F.entry_all_loop ?_
    rw [Around.under_plainId F.plain_all_loop _]
    show wpAny _ A.in1 (pyNext (.ref a) >>= _) _ _ s
    refine wpAny_bind (next_item T hpn hgo hh hroom hlt st fun v s' rv hm => ?_)
    obtain rfl : v = Value.bool (f i) := rv
    obtain ⟨H, I, w, nfp, mid⟩ := hm
    refine wpAny_bind (wpAny_holding (wpAny_truthy_bool ?_))
    refine wpAny_bind (wpAny_letGo ?_)
    cases hb : f i with
    | true =>
      simp only [if_true]
      refine wpAny_pure ⟨plainId_quiet F.plain_all_loop _, ih (i + 1) _ (by omega) hlt ?_ (mid s' H rfl I (fun _ _ _ e => e) nfp w)⟩
      rw [hall, hd, List.all_cons, hb, Bool.true_and]
    | false =>
      simp only [Bool.false_eq_true, if_false]
      refine wpAny_bind (wpAny_rule (wpAny_pure ?_))
      have h9 := hR (i + 1) s' H hlt w I
      rw [hall, hd, List.all_cons, hb, Bool.false_and] at h9
      exact h9
theorem any_loop {Z : Cx} {A : Around} {R : Result → Shared → Prop} {tg : Expr} {J : It} {it a : Addr} {go : Obj} {gn : Nat} {fp : List Addr} {tn : Nat → Heap → Prop} {σw : L2.St} {N : Nat} {f : Nat → Bool} {W : Nat → Hp → Prop} (T : Turn Z.prog Z.w Z.K tg J fp it tn)
    (hpn : (a, go) ∈ Z.pn) (hgo : ∀ h : Heap, h.get? a = some go → h.IsGen a gn) (hh : A.handled = none) (hroom : A.depth < recursionLimit)
    (hR : ∀ i s' H, i ≤ N → W i H → Inv Z [] σw H s' → R (.ok (.ret (.bool ((List.range N).any f)))) s') :
    ∀ (k i : Nat) (s : Shared), N - i = k → i ≤ N → ((List.range N).any f = ((List.range N).drop i).any f) → St Z A.in1.in1 σw fp tn N (fun i => .bl (f i)) W (fun i => W (i + 1)) gn i s → codeAny (model Z.prog Z.w) A (.builtin "any.loop" ⟨[.ref a], []⟩) R s := by
  intro k
  induction k with
  | zero =>
    intro i s hk hi hall st
    have hin : i = N := by omega
    subst hin
    refine codeAny_builtin F.entry_any_loop ?_
    rw [Around.under_plainId F.plain_any_loop _]
    show wpAny _ A.in1 (pyNext (.ref a) >>= _) _ _ s
    refine wpAny_bind (next_done hpn hgo hh hroom st fun s' H w I => ?_)
    refine wpAny_bind (wpAny_rule (wpAny_pure ?_))
    have h9 := hR i s' H (Nat.le_refl _) w I
    rw [hall, List.drop_of_length_le (by simp)] at h9
    exact h9
  | succ k ih =>
    intro i s hk hi hall st
    have hlt : i < N := by omega
    have hd : (List.range N).drop i = i :: (List.range N).drop (i + 1) := by
      rw [List.drop_eq_getElem_cons (by simpa using hlt)]; simp
    refine codeAny_builtin F.entry_any_loop ?_
    rw [Around.under_plainId F.plain_any_loop _]
    show wpAny _ A.in1 (pyNext (.ref a) >>= _) _ _ s
    refine wpAny_bind (next_item T hpn hgo hh hroom hlt st fun v s' rv hm => ?_)
    obtain rfl : v = Value.bool (f i) := rv
    obtain ⟨H, I, w, nfp, mid⟩ := hm
    refine wpAny_bind (wpAny_holding (wpAny_truthy_bool ?_))
    refine wpAny_bind (wpAny_letGo ?_)
    cases hb : f i with
    | false =>
      simp only [Bool.false_eq_true, if_false]
      refine wpAny_pure ⟨plainId_quiet F.plain_any_loop _, ih (i + 1) _ (by omega) hlt ?_ (mid s' H rfl I (fun _ _ _ e => e) nfp w)⟩
      rw [hall, hd, List.any_cons, hb, Bool.false_or]
    | true =>
      simp only [if_true]
      refine wpAny_bind (wpAny_rule (wpAny_pure ?_))
      have h9 := hR (i + 1) s' H hlt w I
      rw [hall, hd, List.any_cons, hb, Bool.true_or] at h9
      exact h9

theorem pe_allG {c P : Addr} {elt tg iter : Expr} {p pos gpos : Pos} {scope : Scope} {own : List (Str × Nat)} {k : Nat} {wi : TI} {g : TG} {te : TE}
    (hr : Room (k + 1) X.A) (hc : X.calm = true) (hN : X.N.Nodup) (hgl : Gl X "all") (hm : X.mg "all" = none) (TB : GxR.TabB X.base X.mg c P) (hcode : X.env.code = .ref c) (ok : GxOk X.N X.env.scope scope own) (hi : PI X tg iter wi)
    (hg : ∀ (A : Around) (s : Shared) (H : Hp) (code : Value) (fp : List Addr) (pn : List (Addr × Obj)), PG (gcx X A s H (genEnv scope (clo X scope) s.heap.objs.size code builtinsNs X.env) fp pn) tg g)
    (he : ∀ (A : Around) (s : Shared) (H : Hp) (code : Value) (fp : List Addr) (pn : List (Addr × Obj)), Room k A → PE (gcx X A s H (genEnv scope (clo X scope) s.heap.objs.size code builtinsNs X.env) fp pn) elt te)
    (hs : ∀ v, genFold iter X.env v = pure v := by intro _; rfl)
    (hst : starEach [.GeneratorExp elt [⟨tg, iter, [], 0⟩] scope gpos] X.env = (false, eval (.GeneratorExp elt [⟨tg, iter, [], 0⟩] scope gpos) X.env) :: starEach [] X.env := by rfl) :
    PE X (.Call (.Name "all" p) [.GeneratorExp elt [⟨tg, iter, [], 0⟩] scope gpos] [] pos) (tAllG P wi g te (own.map (·.2))) := by
  refine ⟨fun pins s σ H Q I h => ?_⟩
  refine wpAny_Call_Name_kw (ld_blt I hgl hm boot_all ?_)
  refine PyProof.Rows.callWith_builtin1 ?_ hst (by rfl)
  rw [hst]
  show wpAny _ _ (spliced ((false, eval (.GeneratorExp elt [⟨tg, iter, [], 0⟩] scope gpos) X.env) :: backTo pos (starEach [] X.env))) _ _ s
  refine Calls.spliced_cons (gen_make hr hc hN TB hcode ok hi hg he hs I h fun J H1 H2 a s5 hR hT hrdy => ?_)
  refine Calls.spliced_nil ?_
  obtain ⟨N, f, W, w0, ht, hstop, hQ⟩ := hR H2 hT
  obtain ⟨Z, tg', go, gn, fp, it, tn, hp, hw, hK, T, hpn, hgo, I5, n5, back, mk⟩ := hrdy
  have st := mk N (fun i => .bl (f i)) W (fun i => W (i + 1)) ht hstop s5 H2 rfl I5 (fun _ _ _ e => e) (fun b hb => (n5 b hb).1) w0
  rw [← hp, ← hw, ← hK] at T
  refine call_function_tree F.kind_all F.plain_all F.entry_all (F.args_all1 _) ?_
  unfold Builtin.«all»
  refine wpAny_bind (m := oneArg "all" _) (wpAny_pure ?_)
  have hG := hgo s5.heap (I5.pin (a, go) (List.mem_append_left _ hpn)).1
  refine wpAny_bind (wpAny_pyIter_gen hG ?_)
  have lp := all_loop (A := X.A) (R := fun r s' => ∃ v, r = .ok (.ret v) ∧ EP X pins σ Q v s') T hpn hgo hr.hd hr.depth (fun i s' H hi w I' => ⟨_, rfl, .bl _, H, back H s' I', rfl, hQ i H hi w⟩) N 0 s5 (Nat.sub_zero _) (Nat.zero_le _) (by rw [List.drop_zero]) st
  rw [hp, hw] at lp
  refine wpAny_pure ⟨plainId_quiet F.plain_all_loop _, codeAny_mono lp fun r s' ⟨v, e, q⟩ => ?_⟩
  subst e
  exact q
theorem pe_anyG {c P : Addr} {elt tg iter : Expr} {p pos gpos : Pos} {scope : Scope} {own : List (Str × Nat)} {k : Nat} {wi : TI} {g : TG} {te : TE}
    (hr : Room (k + 1) X.A) (hc : X.calm = true) (hN : X.N.Nodup) (hgl : Gl X "any") (hm : X.mg "any" = none) (TB : GxR.TabB X.base X.mg c P) (hcode : X.env.code = .ref c) (ok : GxOk X.N X.env.scope scope own) (hi : PI X tg iter wi)
    (hg : ∀ (A : Around) (s : Shared) (H : Hp) (code : Value) (fp : List Addr) (pn : List (Addr × Obj)), PG (gcx X A s H (genEnv scope (clo X scope) s.heap.objs.size code builtinsNs X.env) fp pn) tg g)
    (he : ∀ (A : Around) (s : Shared) (H : Hp) (code : Value) (fp : List Addr) (pn : List (Addr × Obj)), Room k A → PE (gcx X A s H (genEnv scope (clo X scope) s.heap.objs.size code builtinsNs X.env) fp pn) elt te)
    (hs : ∀ v, genFold iter X.env v = pure v := by intro _; rfl)
    (hst : starEach [.GeneratorExp elt [⟨tg, iter, [], 0⟩] scope gpos] X.env = (false, eval (.GeneratorExp elt [⟨tg, iter, [], 0⟩] scope gpos) X.env) :: starEach [] X.env := by rfl) :
    PE X (.Call (.Name "any" p) [.GeneratorExp elt [⟨tg, iter, [], 0⟩] scope gpos] [] pos) (tAnyG P wi g te (own.map (·.2))) := by
  refine ⟨fun pins s σ H Q I h => ?_⟩
  refine wpAny_Call_Name_kw (ld_blt I hgl hm boot_any ?_)
  refine PyProof.Rows.callWith_builtin1 ?_ hst (by rfl)
  rw [hst]
  show wpAny _ _ (spliced ((false, eval (.GeneratorExp elt [⟨tg, iter, [], 0⟩] scope gpos) X.env) :: backTo pos (starEach [] X.env))) _ _ s
  refine Calls.spliced_cons (gen_make hr hc hN TB hcode ok hi hg he hs I h fun J H1 H2 a s5 hR hT hrdy => ?_)
  refine Calls.spliced_nil ?_
  obtain ⟨N, f, W, w0, ht, hstop, hQ⟩ := hR H2 hT
  obtain ⟨Z, tg', go, gn, fp, it, tn, hp, hw, hK, T, hpn, hgo, I5, n5, back, mk⟩ := hrdy
  have st := mk N (fun i => .bl (f i)) W (fun i => W (i + 1)) ht hstop s5 H2 rfl I5 (fun _ _ _ e => e) (fun b hb => (n5 b hb).1) w0
  rw [← hp, ← hw, ← hK] at T
  refine call_function_tree F.kind_any F.plain_any F.entry_any (F.args_any1 _) ?_
  unfold Builtin.«any»
  refine wpAny_bind (m := oneArg "any" _) (wpAny_pure ?_)
  have hG := hgo s5.heap (I5.pin (a, go) (List.mem_append_left _ hpn)).1
  refine wpAny_bind (wpAny_pyIter_gen hG ?_)
  have lp := any_loop (A := X.A) (R := fun r s' => ∃ v, r = .ok (.ret v) ∧ EP X pins σ Q v s') T hpn hgo hr.hd hr.depth (fun i s' H hi w I' => ⟨_, rfl, .bl _, H, back H s' I', rfl, hQ i H hi w⟩) N 0 s5 (Nat.sub_zero _) (Nat.zero_le _) (by rw [List.drop_zero]) st
  rw [hp, hw] at lp
  refine wpAny_pure ⟨plainId_quiet F.plain_any_loop _, codeAny_mono lp fun r s' ⟨v, e, q⟩ => ?_⟩
  subst e
  exact q
end

/-! ### sum -/
def preS (f : Nat → Int) : Nat → Int
  | 0 => 0
  | n + 1 => preS f n + f n
section
variable {X : Cx}
def tSumG (P : Addr) (wi : TI) (g : TG) (te : TE) (vs : List Nat) : TE := fun σ H Q => wi σ H fun J H1 => GxR.TabG H1 P ∧ ∀ H2, GxR.Tabbed P H1 H2 → ∀ D, H2 D = none → ∃ (N : Nat) (f : Nat → Int) (W Vv : Nat → Hp → Prop),
  W 0 (upd H2 D (.lst [.int 0])) ∧ Turns J g te vs (wipe σ vs) N (fun i => .int (f i)) W Vv ∧ (∀ H, W N H → J.stop N H) ∧ (∀ i H, i ≤ N → W i H → H D = some (.lst [.int (preS f i)])) ∧
  (∀ i H, i < N → Vv i H → H D = some (.lst [.int (preS f i)]) ∧ W (i + 1) (upd H D (.lst [.int (preS f (i + 1))]))) ∧ ∀ H, W N H → Q (.int (preS f N)) H
theorem inv_S {Z : Cx} {σ : L2.St} {H : Hp} {s : Shared} {S : Addr} {acc : Int} (I : Inv Z [] σ H s) (hS : H S = some (.lst [.int acc])) :
    ∃ tA c, s.heap.get? S = some { cls := .type "list", dict := none, data := .seq #[.int acc tA] c, slots := #[] } ∧
      ∀ (m : Int) (t : Tok) (tk : Nat), Inv Z [] σ (upd H S (.lst [.int m])) { s with heap := s.heap.update S (Obj.mapSeq fun _ => #[.int m t]), toks := tk } := by
  obtain ⟨hz, its, n, ri, e⟩ := I.hok S _ hS
  cases ri with
  | cons r1 r2 =>
    cases r2
    obtain ⟨tA, rfl⟩ := r1
    refine ⟨tA, n, e, fun m t tk => ?_⟩
    have e2 := Heap.get?_update_self (Obj.mapSeq fun _ => #[Value.int m t]) e rfl
    exact I.write (t' := tk) (by rw [hS]; trivial) (.inl rfl) (fun b u hb q => (Heap.get?_update_other _ _ (Ne.symm hb)).trans q) ⟨_, e2⟩ ⟨hz, [.int m t], n, .cons ⟨t, rfl⟩ .nil, e2⟩
theorem sum_loop {Z : Cx} {A : Around} {R : Result → Shared → Prop} {tg : Expr} {J : It} {it a S : Addr} {go : Obj} {gn : Nat} {fp : List Addr} {tn : Nat → Heap → Prop} {σw : L2.St} {N : Nat} {f : Nat → Int} {W Vv : Nat → Hp → Prop} (T : Turn Z.prog Z.w Z.K tg J fp it tn)
    (hpn : (a, go) ∈ Z.pn) (hgo : ∀ h : Heap, h.get? a = some go → h.IsGen a gn) (hh : A.handled = none) (hroom : A.depth < recursionLimit)
    (hW : ∀ i H, i ≤ N → W i H → H S = some (.lst [.int (preS f i)])) (hV : ∀ i H, i < N → Vv i H → H S = some (.lst [.int (preS f i)]) ∧ W (i + 1) (upd H S (.lst [.int (preS f (i + 1))])))
    (hR : ∀ s' H t, W N H → Inv Z [] σw H s' → R (.ok (.ret (.int (preS f N) t))) s') :
    ∀ (k i : Nat) (s : Shared) (st : Int), (st = 0 ∨ st = 2) → N - i = k → i ≤ N → St Z A.in1.in1 σw fp tn N (fun i => .int (f i)) W Vv gn i s → codeAny (model Z.prog Z.w) A (.builtin "sum.loop" ⟨[.ref a, .ref S, rawInt st, rawInt 0], []⟩) R s := by
  intro k
  induction k with
  | zero =>
    intro i s st hst2 hk hi hst
    have hin : i = N := by omega
    subst hin
    obtain ⟨tA, c, hS, _⟩ : ∃ tA c, s.heap.get? S = some { cls := .type "list", dict := none, data := .seq #[.int (preS f i) tA] c, slots := #[] } ∧ True := by
      obtain ⟨H, gs, I, _, _, w, _⟩ := hst
      obtain ⟨tA, c, e, _⟩ := inv_S I (hW i H (Nat.le_refl _) w)
      exact ⟨tA, c, e, trivial⟩
    refine codeAny_builtin F.entry_sum_loop ?_
    rw [Around.under_plainId F.plain_sum_loop _]
    show wpAny _ A.in1 (seqItems? (.ref S) >>= _) _ _ s
    refine wpAny_bind (wpAny_seqItems hS rfl ?_)
    show wpAny _ A.in1 (tryCatch (pyNext (.ref a)) _ >>= _) _ _ s
    refine wpAny_bind (wpAny_tryCatch (next_done hpn hgo hh hroom hst fun s' H w I => ?_))
    exact wpAny_pure (hR s' H tA w I)
  | succ k ih =>
    intro i s st hst2 hk hi hst
    have hlt : i < N := by omega
    obtain ⟨tA, c, hS, _⟩ : ∃ tA c, s.heap.get? S = some { cls := .type "list", dict := none, data := .seq #[.int (preS f i) tA] c, slots := #[] } ∧ True := by
      obtain ⟨H, gs, I, _, _, w, _⟩ := hst
      obtain ⟨tA, c, e, _⟩ := inv_S I (hW i H hi w)
      exact ⟨tA, c, e, trivial⟩
    refine codeAny_builtin F.entry_sum_loop ?_
    rw [Around.under_plainId F.plain_sum_loop _]
    show wpAny _ A.in1 (seqItems? (.ref S) >>= _) _ _ s
    refine wpAny_bind (wpAny_seqItems hS rfl ?_)
    show wpAny _ A.in1 (tryCatch (pyNext (.ref a)) _ >>= _) _ _ s
    refine wpAny_bind (wpAny_tryCatch (next_item T hpn hgo hh hroom hlt hst fun v s' rv hm => ?_))
    obtain ⟨t, rfl⟩ := (show ∃ t, v = Value.int (f i) t from rv)
    obtain ⟨H, I, vv, nfp, mid⟩ := hm
    obtain ⟨hSH, w'⟩ := hV i H hlt vv
    obtain ⟨tB, c', hS', up1⟩ := inv_S I hSH
    have nS : ∀ b ∈ fp, b ≠ S := fun b hb z => by
      have q := nfp b hb
      rw [z, hSH] at q; cases q
    have nf : ∀ b ∈ fp, upd H S (.lst [.int (preS f (i + 1))]) b = none := fun b hb => by
      rw [upd_ne (nS b hb)]; exact nfp b hb
    rcases hst2 with rfl | rfl
    · show wpAny _ A.in1 (if (_ : Bool) = true then (mkInt (preS f i + f i) >>= _) else _) _ _ _
      split
      · refine wpAny_bind (wpAny_mkInt ?_)
        show wpAny _ A.in1 (updateSeq S (fun _ => #[.int (preS f i + f i) s'.toks]) >>= _) _ _ _
        refine wpAny_bind ?_
        refine wpAny_updateSeq hS' rfl (wpAny_pure ⟨plainId_quiet F.plain_sum_loop _, ih (i + 1) _ 0 (.inl rfl) (by omega) hlt (mid _ _ rfl (up1 (preS f i + f i) s'.toks (s'.toks + 1)) (fun b hb o e => ?_) nf w')⟩)
        exact (Heap.get?_update_other _ _ (Ne.symm (nS b hb))).trans e
      · refine wpAny_bind (wpAny_rule ?_)
        refine wpAny_bind (wpAny_attempt (wpAny_holding (wpAny_add_int ?_)))
        show wpAny _ A.in1 (updateSeq S (fun _ => #[.int (preS f i + f i) s'.toks]) >>= _) _ _ _
        refine wpAny_bind (wpAny_updateSeq hS' rfl ?_)
        have I2 := up1 (preS f i + f i) s'.toks (s'.toks + 1)
        obtain ⟨tC, c2, hS2, up2⟩ := inv_S I2 upd_same
        have I3 := up2 (preS f i + f i) s'.toks (s'.toks + 1)
        rw [upd_upd] at I3
        refine wpAny_bind (wpAny_letGo ?_)
        refine wpAny_bind (wpAny_updateSeq hS2 rfl (wpAny_pure ⟨plainId_quiet F.plain_sum_loop _, ih (i + 1) _ 2 (.inr rfl) (by omega) hlt (mid _ _ rfl I3 (fun b hb o e => ?_) nf w')⟩))
        exact (Heap.get?_update_other _ _ (Ne.symm (nS b hb))).trans ((Heap.get?_update_other _ _ (Ne.symm (nS b hb))).trans e)
    · show wpAny _ A.in1 ((holding [Value.int (f i) t] (binaryOp .Add (.int (preS f i) tA) (.int (f i) t))).attempt >>= _) _ _ _
      refine wpAny_bind (wpAny_attempt (wpAny_holding (wpAny_add_int ?_)))
      show wpAny _ A.in1 (updateSeq S (fun _ => #[.int (preS f i + f i) s'.toks]) >>= _) _ _ _
      refine wpAny_bind (wpAny_updateSeq hS' rfl ?_)
      have I2 := up1 (preS f i + f i) s'.toks (s'.toks + 1)
      obtain ⟨tC, c2, hS2, up2⟩ := inv_S I2 upd_same
      have I3 := up2 (preS f i + f i) s'.toks (s'.toks + 1)
      rw [upd_upd] at I3
      refine wpAny_bind (wpAny_letGo ?_)
      refine wpAny_bind (wpAny_updateSeq hS2 rfl (wpAny_pure ⟨plainId_quiet F.plain_sum_loop _, ih (i + 1) _ 2 (.inr rfl) (by omega) hlt (mid _ _ rfl I3 (fun b hb o e => ?_) nf w')⟩))
      exact (Heap.get?_update_other _ _ (Ne.symm (nS b hb))).trans ((Heap.get?_update_other _ _ (Ne.symm (nS b hb))).trans e)

theorem pe_sumG {c P : Addr} {elt tg iter : Expr} {p pos gpos : Pos} {scope : Scope} {own : List (Str × Nat)} {k : Nat} {wi : TI} {g : TG} {te : TE}
    (hr : Room (k + 1) X.A) (hc : X.calm = true) (hN : X.N.Nodup) (hgl : Gl X "sum") (hm : X.mg "sum" = none) (TB : GxR.TabB X.base X.mg c P) (hcode : X.env.code = .ref c) (ok : GxOk X.N X.env.scope scope own) (hi : PI X tg iter wi)
    (hg : ∀ (A : Around) (s : Shared) (H : Hp) (code : Value) (fp : List Addr) (pn : List (Addr × Obj)), PG (gcx X A s H (genEnv scope (clo X scope) s.heap.objs.size code builtinsNs X.env) fp pn) tg g)
    (he : ∀ (A : Around) (s : Shared) (H : Hp) (code : Value) (fp : List Addr) (pn : List (Addr × Obj)), Room k A → PE (gcx X A s H (genEnv scope (clo X scope) s.heap.objs.size code builtinsNs X.env) fp pn) elt te)
    (hs : ∀ v, genFold iter X.env v = pure v := by intro _; rfl)
    (hst : starEach [.GeneratorExp elt [⟨tg, iter, [], 0⟩] scope gpos] X.env = (false, eval (.GeneratorExp elt [⟨tg, iter, [], 0⟩] scope gpos) X.env) :: starEach [] X.env := by rfl) :
    PE X (.Call (.Name "sum" p) [.GeneratorExp elt [⟨tg, iter, [], 0⟩] scope gpos] [] pos) (tSumG P wi g te (own.map (·.2))) := by
  refine ⟨fun pins s σ H Q I h => ?_⟩
  refine wpAny_Call_Name_kw (ld_blt I hgl hm boot_sum ?_)
  refine PyProof.Rows.callWith_builtin1 ?_ hst (by rfl)
  rw [hst]
  show wpAny _ _ (spliced ((false, eval (.GeneratorExp elt [⟨tg, iter, [], 0⟩] scope gpos) X.env) :: backTo pos (starEach [] X.env))) _ _ s
  refine Calls.spliced_cons (gen_make hr hc hN TB hcode ok hi hg he hs I h fun J H1 H2 a s5 hR hT hrdy => ?_)
  refine Calls.spliced_nil ?_
  obtain ⟨Z, tg', go, gn, fp, it, tn, hp, hw, hK, T, hpn, hgo, I5, n5, back, mk⟩ := hrdy
  have hSn : H2 s5.heap.objs.size = none := I5.hok.fresh (Nat.le_refl _)
  obtain ⟨N, f, W, Vv, w0, ht, hstop, hW, hV, hQ⟩ := hR H2 hT s5.heap.objs.size hSn
  rw [← hp, ← hw, ← hK] at T
  refine call_function_tree F.kind_sum F.plain_sum F.entry_sum (F.args_sum1 _) ?_
  unfold Builtin.«sum»
  simp only [List.length_cons, List.length_nil]
  rw [if_neg (by decide)]
  refine wpAny_bind (wpAny_of_eq (show Builtin.Builtins.bindParams "sum" ["start"] 0 { } = pure [none] from rfl) ?_)
  have hG := hgo s5.heap (I5.pin (a, go) (List.mem_append_left _ hpn)).1
  refine wpAny_bind (wpAny_pyIter_gen hG ?_)
  refine wpAny_bind (wpAny_mkInt ?_)
  refine wpAny_bind (wpAny_pure ?_)
  simp only [List.forIn_cons, List.forIn_nil]
  refine wpAny_bind (wpAny_bind (wpAny_bind (wpAny_isInstance (T := "int") (b := false) (typeIs_int _ _ _) PySem.sub_int_str ?_)))
  simp only [Bool.false_eq_true, if_false]
  refine wpAny_pure (wpAny_bind (wpAny_bind (wpAny_isInstance (T := "int") (b := false) (typeIs_int _ _ _) sub_int_bytes ?_)))
  simp only [Bool.false_eq_true, if_false]
  refine wpAny_pure (wpAny_bind (wpAny_bind (wpAny_isInstance (T := "int") (b := false) (typeIs_int _ _ _) sub_int_bytearray ?_)))
  simp only [Bool.false_eq_true, if_false]
  refine wpAny_pure (wpAny_pure ?_)
  refine wpAny_bind (wpAny_newObj_type ?_)
  have I6 : Inv Z [] (wipe σ (own.map (·.2))) (upd H2 s5.heap.objs.size (.lst [.int 0])) { s5 with heap := s5.heap.push { cls := .type "list", data := .seq #[Value.int 0 s5.toks] }, toks := s5.toks + 1 } :=
    I5.laid (fun b o e => Heap.get?_push_of_some _ e) (Nat.le_refl _) ⟨by show 1 ≤ sizeLine; decide, [.int 0 s5.toks], 0, .cons ⟨_, rfl⟩ .nil, Heap.get?_push_size _ rfl⟩
  have nS : ∀ b ∈ fp, (upd H2 s5.heap.objs.size (.lst [.int 0])) b = none := fun b hb => by
    have q := n5 b hb
    rw [upd_ne (Nat.ne_of_lt q.2)]
    exact q.1
  have st := mk N (fun i => .int (f i)) W Vv ht hstop { s5 with heap := s5.heap.push { cls := .type "list", data := .seq #[Value.int 0 s5.toks] }, toks := s5.toks + 1 } (upd H2 s5.heap.objs.size (.lst [.int 0])) rfl I6 (fun b hb o e => Heap.get?_push_of_some _ e) nS w0
  have lp := sum_loop (A := X.A) (S := s5.heap.objs.size) (R := fun r s' => ∃ v, r = .ok (.ret v) ∧ EP X pins σ Q v s') T hpn hgo hr.hd hr.depth hW hV (fun s' H t w I' => ⟨_, rfl, .int _, H, back H s' I', ⟨t, rfl⟩, hQ H w⟩) N 0 _ 0 (.inl rfl) (Nat.sub_zero _) (Nat.zero_le _) st
  rw [hp, hw] at lp
  refine wpAny_pure ⟨plainId_quiet F.plain_sum_loop _, codeAny_mono lp fun r s' ⟨v, e, q⟩ => ?_⟩
  subst e
  exact q
end
end GE
/-! sorted(t), t a tuple of ints -/
namespace SO
open PySem PySem.Spec PyProof.Rows L2
section
variable {prog : Program} {w : World} {A : Around} {E : Value → Shared → Prop} {s : Shared} {t : Addr} {vs : List Value}
/-- the heap behind the items' own list -/
abbrev gath (h : Heap) (vs : List Value) : Heap := (h.push (seqObj "list" #[] 0)).update h.objs.size (Obj.mapSeq (· ++ vs.toArray))
theorem gather {Q : List Value → Shared → Prop} (ht : IsTup s.heap t vs.toArray) (hz : vs.length ≤ sizeLine) (h : Q vs { s with heap := gath s.heap vs }) : wpAny (model prog w) A (collect (.ref t)) Q E s := by
  obtain ⟨o, e1, e2, n, e3⟩ := id ht
  have e4 : (s.heap.push (seqObj "list" #[] 0)).get? t = some o := Heap.get?_push_of_some _ e1
  have e5 : (s.heap.push (seqObj "list" #[] 0)).get? s.heap.objs.size = some (seqObj "list" #[] 0) := Heap.get?_push_size _ rfl
  unfold collect
  refine wpAny_bind (wpAny_runValue (codeAny_builtin
    entry_proto_collect' ?_))
  show wpAny _ _ (newList [] >>= fun l => again
    (.builtin "list.__iadd__" ⟨[l, .ref t], []⟩)) _ _ s
  refine wpAny_bind (wpAny_newList (wpAny_pure
    ⟨Code.quiet_builtin _ (by decide +kernel),
      codeAny_builtin entry_list_iadd' ?_⟩))
  show wpAny _ _ (Builtin.List.listExtendWith
    (.ref s.heap.objs.size) (.ref t) (.ref s.heap.objs.size)) _ _ { s with heap := s.heap.push (seqObj "list" #[] 0) }
  unfold Builtin.List.listExtendWith
  have tt : (Value.type "tuple" == Value.type "tuple") = true := by rfl
  refine wpAny_bind (wpAny_typeOf (T := "tuple") ⟨o, e4, e2⟩ ?_)
  rw [if_pos (by rw [tt]; simp)]
  refine wpAny_bind (listItems_at e4 e3 (wpAny_bind (listItems_at (xs := #[]) (n := 0) e5 rfl ?_)))
  rw [if_neg (by simp)]
  refine wpAny_bind (listUpdate_at (xs := #[]) (n := 0) e5 rfl (wpAny_pure ?_) (Nat.zero_le _) (by
    show (#[] ++ vs.toArray).size ≤ sizeLine + 1
    simp only [Array.size_append, List.size_toArray, List.length_nil]
    omega))
  show wpAny (model prog w) A (load s.heap.objs.size >>= fun o => (match o.data with
      | .seq xs _ => pure xs.toList
      | _ => unsupported "internal:collect")) Q E { s with heap := gath s.heap vs }
  refine wpAny_bind (wpAny_load (get?_update_seq e5 _) ?_)
  show wpAny _ _ (pure ((#[] : Array Value) ++ vs.toArray).toList) Q E _
  have e6 : ((#[] : Array Value) ++ vs.toArray).toList = vs := by simp
  rw [e6]
  exact wpAny_pure h
theorem sorted_tup {ns : List Int} {Q : Value → Shared → Prop} (ht : IsTup s.heap t vs.toArray) (hI : IntsAre vs ns) (h64 : vs.length < 64)
    (h : ∀ (out : Array Value) (ms : List Int), IntsAre out.toList ms → ms.Perm ns → ms.Pairwise (· ≤ ·) → Q (.ref (s.heap.objs.size + 1)) { s with heap := sortedAll s.heap vs out }) :
    wpAny (model prog w) A (call (.builtin "sorted") [.ref t]) Q E s := by
  have hz : vs.length ≤ sizeLine := by rw [sizeLine_eq]; omega
  refine Calls.call_function_entry kind_sorted plain_sorted
    entry_sorted (args_sorted1 _) ?_
  unfold Builtin.«sorted»
  refine wpAny_bind (m := checkCount "sorted" 1 1 _) (wpAny_pure (wpAny_bind (gather ht hz (wpAny_bind (wpAny_newList ?_ hz)))))
  have e1 : (gath s.heap vs).objs.size = s.heap.objs.size + 1 := by rw [Heap.size_update, size_push']
  have e2 : ((gath s.heap vs).push (seqObj "list" vs.toArray 0)).get? (s.heap.objs.size + 1) = some (seqObj "list" vs.toArray 0) := by
    rw [← e1]
    exact Heap.get?_push_size _ rfl
  show wpAny _ _ _ _ _ { s with heap := (gath s.heap vs).push (seqObj "list" vs.toArray 0) }
  rw [e1]
  refine wpAny_bind (wpAny_holding (wpAny_call_entry slot_list_sort ⟨_, e2, rfl⟩ entry_list_sort (list_sort_tree e2 hI h64 fun out ms a1 a2 a3 =>
    ⟨_, rfl, wpAny_pure ⟨_, rfl, h out ms a1 a2 a3⟩⟩) (args_list_sort _)))
end
section
variable {X : Cx}
def rSortTup (K : PySem.W.Frag) : List V → Hp → VK → Prop := fun xs H Q => ∃ (t : Addr) (ns : List Int), xs = [V.ref t] ∧ SqT K H t (ns.map V.int) ∧ ns.length < 64 ∧
  ∀ (ms : List Int) (p : Addr), ms.Perm ns → ms.Pairwise (· ≤ ·) → H p = none → Q (.ref p) (upd H p (.lst (ms.map V.int)))
theorem cr_sortTup : CallR X (.builtin "sorted") (rSortTup X.K) := by
  intro pins s σ H xs us Q I r h
  obtain ⟨t, ns, rfl, hs, h64, q⟩ := h
  obtain ⟨its, rv, pt, _⟩ := I.tuple hs
  have hi := rv.ints
  rw [Vals.ref1 r]
  refine sorted_tup pt hi (by rw [hi.length]; exact h64) fun out ms h1 h2 h3 => ?_
  obtain ⟨ep, he⟩ := sortedAll_at s.heap its out
  have hl : (ms.map V.int).length ≤ sizeLine := by rw [List.length_map, h2.length_eq]; exact small64 h64
  have ok : ObjOk X.prog X.w H (sortedAll s.heap its out) (s.heap.objs.size + 1) (.lst (ms.map V.int)) := ⟨hl, out.toList, ep, vals_of_ints h1, he⟩
  exact ⟨.ref _, upd H (s.heap.objs.size + 1) (.lst (ms.map V.int)), I.laid (t' := s.toks) (fun _ _ => sortedAll_old) (Nat.le_succ _) ok, rfl, q ms _ h2 h3 (I.hok.fresh (Nat.le_succ _))⟩
end
end SO
namespace K13
open PySem PySem.Spec PyProof.Rows L2 DA
def top (i : Nat) : Stmt := PySem.Challenge.pw_processturns_k33_whole_names.main.body.getD i (.Pass ⟨0, 0, 0, 0⟩)
structure Glob (mg : Str → Option Value) : Prop where
  isi : mg "isinstance" = none
  int : mg "int" = none
  bool : mg "bool" = none
  tuple : mg "tuple" = none
  list : mg "list" = none
  str : mg "str" = none
  len : mg "len" = none
  all : mg "all" = none
  any : mg "any" = none
  sorted : mg "sorted" = none
  range : mg "range" = none
/-- a def of the module, as it is called -/
structure Cal (P : Program) (w : World) (K : PySem.W.Frag) (mg : Str → Option Value) (base : Heap) (x : Str) (k : Nat) (ps : List Str) (sp : Sp) (f : Addr) (fd : FuncData) : Prop where
  g : mg x = some (.ref f)
  kp : PySem.W.keepIn K (.ref f) = true
  b : Binds K fd ps []
  ok : FnOk P w K mg base CX0 k f fd ps sp
/-! ### is_number, is_row -/
abbrev sNum : Stmt := top 10
theorem scNum : FnScope ["value", "least", "greatest"] ["value", "least", "greatest"] (defScope sNum) := ⟨rfl, rfl, rfl, by decide +kernel, rfl, by decide +kernel, by decide +kernel⟩
def numD (d : PD) (lo hi : Int) : Bool := match d with | .int i => decide (lo ≤ i) && decide (i ≤ hi) | _ => false
def spNum (K : PySem.W.Frag) : Sp := fun vs H Q _ => ∃ v d lo hi, vs = [v, .int lo, .int hi] ∧ Dp K H v d ∧ Q (.bl (numD d lo hi)) H
section
variable {P : Program} {w : World} {K : PySem.W.Frag} {mg : Str → Option Value} {base : Heap} {f : Addr} {fd : FuncData} {T : List Addr}
theorem ok_num (F : Fun K "is_number" "is_number" sNum f fd) (G : Glob mg) : FnOk P w K mg base CX0 1 f fd ["value", "least", "greatest"] (spNum K) := by
  refine F.ok scNum (fun vs H Q E h => ?_) (fun cdv A outer s H vs Q E hr h => ?_)
  · obtain ⟨v, d, lo, hi, rfl, _⟩ := h
    rfl
  · obtain ⟨v, d, lo, hi, rfl, hv, q⟩ := h
    refine ⟨_, pss_cons (ps_if (PW.pt (pw_or (pt_not (pt_val (pe_callB call_isi (by rfl) G.isi boot_isinstance (pa_cons (pv 0) (pa_cons (pe_bltn (v := .ty "int") (by rfl) G.int (by decide +kernel) rfl) pa_nil)))))
        (pw_or1 (pt_val (pe_callB call_isi (by rfl) G.isi boot_isinstance (pa_cons (pv 0) (pa_cons (pe_bltn (v := .ty "bool") (by rfl) G.bool (by decide +kernel) rfl) pa_nil))))))) (pss_one (ps_ret pe_bl)) pss_nil)
      (pss_one (ps_ret (pe_chain op_le op_le (pv 1) (pv 0) (pv 2)))), ?_⟩
    refine ⟨v, rfl, v, .ty "int", _, _, _, rfl, .ty _, dp_ty hv, kit_int hv, _, rfl, ?_⟩
    cases hv with
    | int i =>
      refine iteF ?_
      refine ⟨_, rfl, _, .ty "bool", _, _, _, rfl, .ty _, dp_ty (.int i), kit_bool (H := H) (.int i), _, rfl, ?_⟩
      refine iteF ?_
      refine ⟨_, rfl, _, rfl, lo, i, rfl, rfl, _, rfl, ?_⟩
      by_cases h1 : lo ≤ i
      · rw [decide_eq_true h1]
        refine ⟨_, rfl, i, hi, rfl, rfl, ?_⟩
        have e : numD (.int i) lo hi = decide (i ≤ hi) := by simp [numD, h1]
        show Q (.bl (decide (i ≤ hi))) H
        rw [← e]; exact q
      · rw [decide_eq_false h1]
        have e : numD (.int i) lo hi = false := by simp [numD, h1]
        refine iteF ?_
        show Q (.bl false) H
        rw [← e]; exact q
    | bl b =>
      refine iteF ?_
      refine ⟨_, rfl, _, .ty "bool", _, _, _, rfl, .ty _, dp_ty (.bl b), kit_bool (H := H) (.bl b), _, rfl, ?_⟩
      exact q
    | non => exact q
    | str x => exact q
    | lst h a => exact q
    | tup h a => exact q
abbrev sRow : Stmt := top 11
abbrev nRow : List Str := ["value", "many", "least", "greatest", "item"]
theorem scRow : FnScope nRow ["value", "many", "least", "greatest"] (defScope sRow) := ⟨rfl, rfl, rfl, by decide +kernel, rfl, by decide +kernel, by decide +kernel⟩
def rowD (d : PD) (many lo hi : Int) : Bool := match d with | .tuple ds => decide ((ds.length : Int) = many) && ds.all (fun x => numD x lo hi) | _ => false
def spRow (K : PySem.W.Frag) (T : List Addr) : Sp := fun vs H Q _ => ∃ v d many lo hi, vs = [v, .int many, .int lo, .int hi] ∧ Dp K H v d ∧ Tabs T H ∧ ∀ H', Keep T H H' → Q (.bl (rowD d many lo hi)) H'
theorem range_all (g : PD → Bool) (ds : List PD) : (List.range ds.length).all (fun i => g (ds[i]?.getD .none)) = ds.all g := by
  rw [Bool.eq_iff_iff, List.all_eq_true, List.all_eq_true]
  constructor
  · intro h d hd
    obtain ⟨i, hi, e⟩ := List.getElem_of_mem hd
    have := h i (List.mem_range.mpr hi)
    rw [List.getElem?_eq_getElem hi, e] at this
    exact this
  · intro h i hi
    have hi := List.mem_range.mp hi
    rw [List.getElem?_eq_getElem hi]
    exact h _ (List.getElem_mem hi)
theorem ok_row {c PT fN : Addr} {dN : FuncData} (F : FunC K "is_row" "is_row" sRow f fd c) (TB : GxR.TabB base mg c PT) (hPT : PT ∈ T) (G : Glob mg) (cN : Cal P w K mg base "is_number" 1 ["value", "least", "greatest"] (spNum K) fN dN) :
    FnOk P w K mg base CX0 3 f fd ["value", "many", "least", "greatest"] (spRow K T) := by
  refine F.ok scRow (fun vs H Q E h => ?_) (fun A outer s H vs Q E hr h => ?_)
  · obtain ⟨v, d, m, lo, hi, rfl, _⟩ := h
    rfl
  · obtain ⟨v, d, m, lo, hi, rfl, hv, ht, q⟩ := h
    refine ⟨_, (pss_cons (ps_if (PW.pt (pw_or (pt_not (pt_val (pe_callB call_isi (by rfl) G.isi boot_isinstance (pa_cons (pv 0) (pa_cons (pe_bltn (v := .ty "tuple") (by rfl) G.tuple (by decide +kernel) rfl) pa_nil))))) (pw_or1 (pt_cmpR op_ne (pe_callB call_len (by rfl) G.len PySem.boot_len (pa_cons (pv 0) pa_nil)) (pv 1) (nomark _))))) (pss_one (ps_ret pe_bl)) pss_nil) (pss_one (ps_ret (GE.pe_allG (k := 1) (own := [("item", 4)]) hr rfl scRow.nd (by rfl) G.all TB rfl ⟨blkOk_by (N := nRow) (sc := defScope sRow) (by decide +kernel), by rfl, by decide +kernel, by rfl⟩ (pi_tup (pv 0)) (fun _ _ _ _ _ _ => pg_name (i := 4) scRow.nd rfl (Or.inl rfl)) (fun _ _ _ _ _ _ hr2 => (pe_call cN.ok hr2 (by rfl) cN.g cN.kp cN.b .nil pass0 (pa_cons (pv 4) (pa_cons (pv 2) (pa_cons (pv 3) pa_nil))))))))), ?_⟩
    refine ⟨v, rfl, v, .ty "tuple", _, _, _, rfl, .ty _, dp_ty hv, kit_tup hv, _, rfl, ?_⟩
    cases hv with
    | @tup a xs ds h hD =>
      have hl := dps_len hD
      refine iteF ?_
      refine ⟨_, rfl, ⟨_, _, rfl, .inr ⟨_, h, rfl⟩, ?_⟩⟩
      refine ⟨.int m, rfl, rfl, _, rfl, ite2 (fun e => ?_) fun e => ?_⟩
      · have hne : ¬ (ds.length : Int) = m := fun z => by
          rw [hl, z] at e
          simp at e
        have e2 : rowD (.tuple ds) m lo hi = false := by show (decide ((ds.length : Int) = m) && _) = false; rw [decide_eq_false hne, Bool.false_and]
        show Q (.bl false) H
        rw [← e2]; exact q H .refl
      · have heq : (ds.length : Int) = m := by
          by_cases z : (ds.length : Int) = m
          · exact z
          · refine absurd ?_ e
            rw [hl, decide_eq_false (fun y => z (V.int.inj y))]
            rfl
        refine ⟨_, rfl, a, rfl, ⟨xs, h⟩, ht PT hPT, fun H2 tb => ⟨ds.length, fun i => numD (ds[i]?.getD .none) lo hi, fun _ H3 => Keep T H H3, Keep.tabbed hPT tb, fun i H3 hib k => ⟨⟨xs, xs[i]'(by omega), k.sqT ht h, by simp [hl, hib]⟩, fun x H' y => ?_⟩, fun H3 k => ⟨xs, k.sqT ht h, by omega⟩, fun i H3 _ k => ?_⟩⟩
        · obtain ⟨rfl, y⟩ := y
          have hx := y xs (k.sqT ht h)
          obtain ⟨d, hd, hdp⟩ := dps_at hD hx
          refine ⟨rfl, x, rfl, .int lo, rfl, .int hi, rfl, x, d, lo, hi, rfl, dp_keep k ht hdp, ?_, k⟩
          show V.bl (numD d lo hi) = V.bl (numD (ds[i]?.getD .none) lo hi)
          rw [hd]; rfl
        · rw [range_all (fun x => numD x lo hi)]
          have e2 : rowD (.tuple ds) m lo hi = ds.all fun x => numD x lo hi := by show (decide ((ds.length : Int) = m) && _) = _; rw [decide_eq_true heq, Bool.true_and]
          show Q (.bl _) H3
          rw [← e2]; exact q H3 k
    | _ => exact q H .refl
/-! ### _first_word -/
abbrev sFirst : Stmt := top 15
theorem scFirst : FnScope ["value"] ["value"] (defScope sFirst) := ⟨rfl, rfl, rfl, by decide +kernel, rfl, by decide +kernel, by decide +kernel⟩
theorem atI_0 (x : V) (xr : List V) : atI (x :: xr) 0 = some x := by
  unfold atI ixN
  rw [if_pos (by decide), if_pos (by rw [List.length_cons]; omega)]
  rfl
def firstD (d : PD) : Str := match d with | .tuple (.str s :: _) => s | _ => ""
def spFirst (K : PySem.W.Frag) : Sp := fun vs H Q _ => ∃ v d, vs = [v] ∧ Dp K H v d ∧ Q (.str (firstD d)) H
theorem ok_first (F : Fun K "_first_word" "_first_word" sFirst f fd) (G : Glob mg) : FnOk P w K mg base CX0 1 f fd ["value"] (spFirst K) := by
  refine F.ok scFirst (fun vs H Q E h => ?_) (fun cdv A outer s H vs Q E hr h => ?_)
  · obtain ⟨v, d, rfl, _⟩ := h
    rfl
  · obtain ⟨v, d, rfl, hv, q⟩ := h
    refine ⟨_, (pss_cons (ps_if (PW.pt (pw_or (pt_not (pt_val (pe_callB call_isi (by rfl) G.isi boot_isinstance (pa_cons (pv 0) (pa_cons (pe_bltn (v := .ty "tuple") (by rfl) G.tuple (by decide +kernel) rfl) pa_nil))))) (pw_or1 (pt_not (pt_truth (pv 0) (by intro _; rfl)))))) (pss_one (ps_ret pe_str)) pss_nil) (pss_one (ps_ret (pe_ifExp (pt_val (pe_callB call_isi (by rfl) G.isi boot_isinstance (pa_cons (pe_ix ix_tup (pv 0) pe_int (fun _ _ => rfl)) (pa_cons (pe_bltn (v := .ty "str") (by rfl) G.str (by decide +kernel) rfl) pa_nil)))) (pe_ix ix_tup (pv 0) pe_int (fun _ _ => rfl)) pe_str)))), ?_⟩
    refine ⟨v, rfl, v, .ty "tuple", _, _, _, rfl, .ty _, dp_ty hv, kit_tup hv, _, rfl, ?_⟩
    cases hv with
    | @tup a xs ds h hD =>
      refine iteF ?_
      refine ⟨.ref a, rfl, _, .inr (.inl ⟨_, h, rfl⟩), ?_⟩
      cases hD with
      | nil => exact iteT q
      | @cons x xr d dr hx hr' =>
        refine iteF ?_
        refine ⟨.ref a, rfl, a, _, 0, x, rfl, rfl, h, atI_0 x xr, x, .ty "str", _, _, _, rfl, .ty _, dp_ty hx, kit_str hx, _, rfl, ?_⟩
        cases hx with
        | str k =>
          refine iteT ?_
          exact ⟨.ref a, rfl, a, _, 0, .str k, rfl, rfl, h, atI_0 _ xr, q⟩
        | _ => exact iteF q
    | _ => exact q
/-! ### _is_order -/
abbrev sOrder : Stmt := top 16
theorem scOrder : FnScope ["value", "size"] ["value", "size"] (defScope sOrder) := ⟨rfl, rfl, rfl, by decide +kernel, rfl, by decide +kernel, by decide +kernel⟩
def intsOf : List PD → List Int
  | .int i :: r => i :: intsOf r
  | _ :: r => intsOf r
  | [] => []
def ins (x : Int) : List Int → List Int
  | [] => [x]
  | y :: r => if x ≤ y then x :: y :: r else y :: ins x r
def isort : List Int → List Int
  | [] => []
  | x :: r => ins x (isort r)
def rgI (n : Int) : List Int := List.map (fun i : Nat => (i : Int)) (List.range n.toNat)
def orderD (d : PD) (n : Int) : Bool := match d with | .tuple ds => rowD (.tuple ds) n 0 (n - 1) && decide (isort (intsOf ds) = rgI n) | _ => false
theorem ins_perm (x : Int) : ∀ l, (ins x l).Perm (x :: l)
  | [] => List.Perm.refl _
  | y :: r => by
    unfold ins
    split
    · exact List.Perm.refl _
    · exact ((ins_perm x r).cons y).trans (List.Perm.swap x y r)
theorem isort_perm : ∀ l, (isort l).Perm l
  | [] => List.Perm.refl _
  | x :: r => (ins_perm x (isort r)).trans ((isort_perm r).cons x)
theorem ins_sorted (x : Int) : ∀ l : List Int, l.Pairwise (· ≤ ·) → (ins x l).Pairwise (· ≤ ·)
  | [], _ => by unfold ins; simp
  | y :: r, h => by
    unfold ins
    rw [List.pairwise_cons] at h
    split
    · next hxy =>
      rw [List.pairwise_cons, List.pairwise_cons]
      refine ⟨fun z hz => ?_, h⟩
      rcases List.mem_cons.mp hz with e | e
      · rw [e]; exact hxy
      · exact Int.le_trans hxy (h.1 z e)
    · next hxy =>
      rw [List.pairwise_cons]
      refine ⟨fun z hz => ?_, ins_sorted x r h.2⟩
      rcases List.mem_cons.mp ((ins_perm x r).mem_iff.mp hz) with e | e
      · rw [e]; omega
      · exact h.1 z e
theorem isort_sorted : ∀ l, (isort l).Pairwise (· ≤ ·)
  | [] => List.Pairwise.nil
  | x :: r => ins_sorted x _ (isort_sorted r)
theorem sorted_unique : ∀ {a b : List Int}, a.Perm b → a.Pairwise (· ≤ ·) → b.Pairwise (· ≤ ·) → a = b
  | [], b, p, _, _ => (List.nil_perm.mp p).symm
  | x :: a, [], p, _, _ => by
    have := p.length_eq
    simp at this
  | x :: a, y :: b, p, ha, hb => by
    rw [List.pairwise_cons] at ha hb
    have h1 : y ≤ x := by
      rcases List.mem_cons.mp (p.mem_iff.mp List.mem_cons_self) with e | e
      · omega
      · exact hb.1 x e
    have h2 : x ≤ y := by
      rcases List.mem_cons.mp (p.mem_iff.mpr List.mem_cons_self) with e | e
      · omega
      · exact ha.1 y e
    have e : x = y := by omega
    subst e
    rw [sorted_unique (List.perm_cons x |>.mp p) ha.2 hb.2]
theorem nums_ints : ∀ {ds : List PD} {lo hi : Int}, (ds.all fun x => numD x lo hi) = true → ds = (intsOf ds).map .int
  | [], _, _, _ => rfl
  | d :: ds, lo, hi, h => by
    rw [List.all_cons, Bool.and_eq_true] at h
    have ih := nums_ints h.2
    cases d with
    | int i =>
      show _ = PyData.int i :: (intsOf ds).map .int
      rw [← ih]
    | _ => exact absurd h.1 (by simp [numD])
theorem eqv_ints : ∀ a b : List Int, PyData.eqv (.list (a.map .int)) (.list (b.map .int)) = decide (a = b)
  | [], [] => rfl
  | [], y :: b => rfl
  | x :: a, [] => rfl
  | x :: a, y :: b => by
    have ih := eqv_ints a b
    have e : PyData.eqv (.list ((x :: a).map .int)) (.list ((y :: b).map .int)) = ((x == y) && PyData.eqv (.list (a.map .int)) (.list (b.map .int))) := rfl
    rw [e, ih]
    by_cases h : x = y
    · subst h; simp
    · simp [h]
theorem ints_lay (ns : List Int) : PyData.canLayAll0 (ns.map PyData.int) = true := by
  induction ns with
  | nil => rfl
  | cons n r ih => simp only [List.map_cons, PyData.canLayAll0, PyData.canLay0, ih, Bool.and_self]
theorem ints_depth (ns : List Int) : PyData.depthAll (ns.map PyData.int) = 0 := by
  induction ns with
  | nil => rfl
  | cons n r ih => simp only [List.map_cons, PyData.depthAll, PyData.depth, ih, Nat.max_self]
theorem ints_shaped (ns : List Int) : SeqAt.shaped (.list (ns.map PyData.int)) = true := by
  show (PyData.canLay0 (.list (ns.map .int)) && decide (PyData.depth (.list (ns.map .int)) ≤ 64)) = true
  simp only [PyData.canLay0, PyData.depth, ints_lay, ints_depth]
  decide
theorem rgV_ints (n : Int) : rgV 0 n = (rgI n).map V.int := by
  unfold rgV rgI
  rw [List.map_map, Int.sub_zero]
  refine List.map_congr_left fun i _ => ?_
  show V.int (0 + (i : Int)) = V.int (i : Int)
  rw [Int.zero_add]
def spOrder (K : PySem.W.Frag) (T : List Addr) : Sp := fun vs H Q _ => ∃ v d n, vs = [v, .int n] ∧ Dp K H v d ∧ 1 ≤ n ∧ n ≤ 63 ∧ Tabs T H ∧ ∀ H', Keep T H H' → Q (.bl (orderD d n)) H'
theorem ok_order {fR : Addr} {dR : FuncData} (F : Fun K "_is_order" "_is_order" sOrder f fd) (G : Glob mg) (cR : Cal P w K mg base "is_row" 3 ["value", "many", "least", "greatest"] (spRow K T) fR dR) :
    FnOk P w K mg base CX0 4 f fd ["value", "size"] (spOrder K T) := by
  refine F.ok scOrder (fun vs H Q E h => ?_) (fun cdv A outer s H vs Q E hr h => ?_)
  · obtain ⟨v, d, n, rfl, _⟩ := h
    rfl
  · obtain ⟨v, d, n, rfl, hv, n1, n2, ht, q⟩ := h
    refine ⟨_, (pss_cons (ps_if (pt_not (pt_val (pe_call cR.ok hr (by rfl) cR.g cR.kp cR.b .nil pass0 (pa_cons (pv 0) (pa_cons (pv 1) (pa_cons pe_int (pa_cons (pe_op op_sub (pv 1) pe_int) pa_nil))))))) (pss_one (ps_ret pe_bl)) pss_nil) (pss_one (ps_ret (pe_cmpR (op_eqD hr.units) (pe_callB SO.cr_sortTup (by rfl) G.sorted boot_sorted (pa_cons (pv 0) pa_nil)) (pe_listRg rfl (by rfl) G.list (prg_1 (by rfl) G.range (pv 1))) (nomark _))))), ?_⟩
    refine ⟨v, rfl, .int n, rfl, .int n, rfl, n, 1, rfl, rfl, v, d, n, 0, n - 1, rfl, hv, ht, fun H1 k1 => ⟨_, rfl, ?_⟩⟩
    cases hrow : rowD d n 0 (n - 1) with
    | false =>
      have e : orderD d n = false := by
        unfold orderD
        split
        · rw [hrow, Bool.false_and]
        · rfl
      refine iteT ?_
      show Q (.bl false) H1
      rw [← e]; exact q H1 k1
    | true =>
      refine iteF ?_
      cases hv with
      | @tup a xs ds h hD =>
        have h1 : (decide ((ds.length : Int) = n) && ds.all fun x => numD x 0 (n - 1)) = true := hrow
        rw [Bool.and_eq_true] at h1
        have hlen := of_decide_eq_true h1.1
        have hints := nums_ints h1.2
        have exs : xs = (intsOf ds).map V.int := by
          rw [hints] at hD
          exact dps_ints_inv hD
        rw [exs] at h
        have hil : (intsOf ds).length = ds.length := by
          have := congrArg List.length hints
          rw [List.length_map] at this
          exact this.symm
        refine ⟨.ref a, rfl, a, intsOf ds, rfl, k1.sqT ht h, by omega, fun ms p pm pw np => ?_⟩
        refine ⟨.int n, rfl, n, rfl, RgOk.of_le (by decide) (by omega) (by decide) (by omega), fun p2 np2 => ?_⟩
        have em : ms = isort (intsOf ds) := sorted_unique (pm.trans (isort_perm _).symm) pw (isort_sorted _)
        have k2 := (k1.trans (Keep.new (T := T) (o := .lst (ms.map V.int)) np)).trans (Keep.new (T := T) (o := .lst (rgV 0 n)) np2)
        refine ⟨.list (ms.map .int), .list ((rgI n).map .int), .lst (.of (same_new np2 _ _ upd_same)) (dps_ints _), ?_, ints_shaped _, ints_shaped _, ?_⟩
        · rw [rgV_ints]
          exact .lst (.of upd_same) (dps_ints _)
        · have e : orderD (.tuple ds) n = decide (isort (intsOf ds) = rgI n) := by show (rowD (.tuple ds) n 0 (n - 1) && _) = _; rw [hrow, Bool.true_and]
          rw [eqv_ints, em, ← e]
          rw [em] at k2
          exact q _ k2
      | _ => cases hrow
end
end K13
namespace K13
open PySem PySem.Spec PyProof.Rows L2 DA
/-! ### the kinds -/
abbrev sRule : Stmt := top 17
abbrev sBare : Stmt := top 18
abbrev sByOrder : Stmt := top 19
abbrev sRounds : Stmt := top 20
abbrev sLevels : Stmt := top 21
abbrev sAge : Stmt := top 22
abbrev sLimits : Stmt := top 23
abbrev sWeights : Stmt := top 24
abbrev sSched : Stmt := top 26
abbrev nLevels : List Str := ["value", "size", "many"]
theorem scRule : FnScope ["value", "size", "word"] ["value", "size"] (defScope sRule) := ⟨rfl, rfl, rfl, by decide +kernel, rfl, by decide +kernel, by decide +kernel⟩
theorem scBare : FnScope ["value", "size"] ["value", "size"] (defScope sBare) := ⟨rfl, rfl, rfl, by decide +kernel, rfl, by decide +kernel, by decide +kernel⟩
theorem scByOrder : FnScope ["value", "size"] ["value", "size"] (defScope sByOrder) := ⟨rfl, rfl, rfl, by decide +kernel, rfl, by decide +kernel, by decide +kernel⟩
theorem scRounds : FnScope ["value", "size"] ["value", "size"] (defScope sRounds) := ⟨rfl, rfl, rfl, by decide +kernel, rfl, by decide +kernel, by decide +kernel⟩
theorem scLevels : FnScope nLevels ["value", "size"] (defScope sLevels) := ⟨rfl, rfl, rfl, by decide +kernel, rfl, by decide +kernel, by decide +kernel⟩
theorem scAge : FnScope ["value", "size"] ["value", "size"] (defScope sAge) := ⟨rfl, rfl, rfl, by decide +kernel, rfl, by decide +kernel, by decide +kernel⟩
theorem scLimits : FnScope ["value", "size"] ["value", "size"] (defScope sLimits) := ⟨rfl, rfl, rfl, by decide +kernel, rfl, by decide +kernel, by decide +kernel⟩
theorem scWeights : FnScope ["value", "size"] ["value", "size"] (defScope sWeights) := ⟨rfl, rfl, rfl, by decide +kernel, rfl, by decide +kernel, by decide +kernel⟩
theorem scSched : FnScope ["value", "size", "word", "fits"] ["value", "size"] (defScope sSched) := ⟨rfl, rfl, rfl, by decide +kernel, rfl, by decide +kernel, by decide +kernel⟩
def kin (k a b : Str) : Bool := inV (.str k) [.str a, .str b]
def topD (d : PD) (n : Int) : Bool := match d with | .tuple [_, r] => rowD r 2 0 (n - 1) | _ => false
def soleD (d : PD) : Bool := match d with | .tuple [_] => true | _ => false
def ruleD (d : PD) (n : Int) : Bool := if firstD d = "top" then topD d n else (kin (firstD d) "plain" "lent" && soleD d)
def bareM (ds : List PD) (_ : Int) : Bool := match ds with | [_] => true | _ => false
def byOrderM (ds : List PD) (n : Int) : Bool := match ds with | [_, o, t, r] => (orderD o n && numD t 0 1) && ruleD r n | _ => false
def roundsM (ds : List PD) (_ : Int) : Bool := match ds with | [_, q, l] => numD q 1 4 && numD l 0 1 | _ => false
def levelsM (ds : List PD) (_ : Int) : Bool := match ds with | [_, r, b] => numD b 0 8 && (rowD r 1 1 4 || (rowD r 2 1 4 || rowD r 3 1 4)) | _ => false
def ageM (ds : List PD) (n : Int) : Bool := match ds with | [_, o, b] => orderD o n && numD b 1 3 | _ => false
def limitsM (ds : List PD) (n : Int) : Bool := match ds with | [_, r] => rowD r n 1 6 | _ => false
def weightsM (ds : List PD) (n : Int) : Bool := match ds with | [_, r] => rowD r n 1 4 | _ => false
def spRule (K : PySem.W.Frag) (T : List Addr) : Sp := fun vs H Q _ => ∃ v d n, vs = [v, .int n] ∧ Dp K H v d ∧ Tabs T H ∧ ∀ H', Keep T H H' → Q (.bl (ruleD d n)) H'
def spKind (K : PySem.W.Frag) (T : List Addr) (mir : List PD → Int → Bool) : Sp := fun vs H Q _ => ∃ v ds n, vs = [v, .int n] ∧ Dp K H v (.tuple ds) ∧ 1 ≤ n ∧ n ≤ 4 ∧ Tabs T H ∧ ∀ H', Keep T H H' → Q (.bl (mir ds n)) H'
theorem first_tup {d : PD} (h : ¬ firstD d = "") : ∃ r, d = .tuple (.str (firstD d) :: r) := by
  unfold firstD at h ⊢
  split
  · exact ⟨_, rfl⟩
  · next hh =>
    exfalso
    apply h
    split
    · next s r => exact absurd rfl (hh s r)
    · rfl
section
variable {K : PySem.W.Frag} {H : Hp}
theorem shape1 {xs : List V} {ds : List PD} (h : DpAll K H xs ds) (e : ds.length = 1) : ∃ x0 d0, xs = [x0] ∧ ds = [d0] ∧ Dp K H x0 d0 := by
  match h with
  | .cons a .nil => exact ⟨_, _, rfl, rfl, a⟩
  | .cons _ (.cons _ _) => simp at e
theorem shape2 {xs : List V} {ds : List PD} (h : DpAll K H xs ds) (e : ds.length = 2) : ∃ x0 x1 d0 d1, xs = [x0, x1] ∧ ds = [d0, d1] ∧ Dp K H x0 d0 ∧ Dp K H x1 d1 := by
  match h with
  | .cons a r =>
    obtain ⟨x, d, rfl, rfl, b⟩ := shape1 r (by simpa using e)
    exact ⟨_, _, _, _, rfl, rfl, a, b⟩
theorem shape3 {xs : List V} {ds : List PD} (h : DpAll K H xs ds) (e : ds.length = 3) : ∃ x0 x1 x2 d0 d1 d2, xs = [x0, x1, x2] ∧ ds = [d0, d1, d2] ∧ Dp K H x0 d0 ∧ Dp K H x1 d1 ∧ Dp K H x2 d2 := by
  match h with
  | .cons a r =>
    obtain ⟨x, y, d, f, rfl, rfl, b, c⟩ := shape2 r (by simpa using e)
    exact ⟨_, _, _, _, _, _, rfl, rfl, a, b, c⟩
theorem shape4 {xs : List V} {ds : List PD} (h : DpAll K H xs ds) (e : ds.length = 4) : ∃ x0 x1 x2 x3 d0 d1 d2 d3, xs = [x0, x1, x2, x3] ∧ ds = [d0, d1, d2, d3] ∧ Dp K H x0 d0 ∧ Dp K H x1 d1 ∧ Dp K H x2 d2 ∧ Dp K H x3 d3 := by
  match h with
  | .cons a r =>
    obtain ⟨x, y, z, d, f, g, rfl, rfl, b, c, e⟩ := shape3 r (by simpa using e)
    exact ⟨_, _, _, _, _, _, _, _, rfl, rfl, a, b, c, e⟩
theorem len_ne {n : Nat} {k : Int} (e : (!decide (V.int (n : Int) = V.int k)) = true) : ¬ (n : Int) = k := fun z => by rw [z] at e; simp at e
theorem len_eq {n : Nat} {k : Int} (e : ¬ (!decide (V.int (n : Int) = V.int k)) = true) : (n : Int) = k := by
  by_cases z : (n : Int) = k
  · exact z
  · exact absurd (by rw [decide_eq_false fun y => z (V.int.inj y)]; rfl) e
theorem len_eq' {n : Nat} {k : Int} (e : decide (V.int (n : Int) = V.int k) = true) : (n : Int) = k := V.int.inj (of_decide_eq_true e)
theorem len_ne' {n : Nat} {k : Int} (e : ¬ decide (V.int (n : Int) = V.int k) = true) : ¬ (n : Int) = k := fun z => e (by rw [z]; simp)
end
section
variable {P : Program} {w : World} {K : PySem.W.Frag} {mg : Str → Option Value} {base : Heap} {f : Addr} {fd : FuncData} {T : List Addr}
variable {fN fR fF fO fU : Addr} {dN dR dF dO dU : FuncData}
theorem ok_rule (F : Fun K "_is_rule" "_is_rule" sRule f fd) (G : Glob mg) (cF : Cal P w K mg base "_first_word" 1 ["value"] (spFirst K) fF dF) (cR : Cal P w K mg base "is_row" 3 ["value", "many", "least", "greatest"] (spRow K T) fR dR) :
    FnOk P w K mg base CX0 4 f fd ["value", "size"] (spRule K T) := by
  refine F.ok scRule (fun vs H Q E h => ?_) (fun cdv A outer s H vs Q E hr h => ?_)
  · obtain ⟨v, d, n, rfl, _⟩ := h
    rfl
  · obtain ⟨v, d, n, rfl, hv, ht, q⟩ := h
    have hr1 : Room 1 _ := hr.mono (by decide)
    refine ⟨_, (pss_cons (ps_set (i := 2) scRule.nd rfl (.inl rfl) (pe_call cF.ok hr1 (by rfl) cF.g cF.kp cF.b .nil pass0 (pa_cons (pv 0) pa_nil))) (pss_cons (ps_if (pt_cmpR op_eq (pv 2) pe_str (nomark _)) (pss_one (ps_ret (pe_and (pe_cmpR op_eq (pe_callB call_len (by rfl) G.len PySem.boot_len (pa_cons (pv 0) pa_nil)) pe_int (nomark _)) (pe_one (pe_call cR.ok hr (by rfl) cR.g cR.kp cR.b .nil pass0 (pa_cons (pe_ix ix_tup (pv 0) pe_int (fun _ _ => rfl)) (pa_cons pe_int (pa_cons pe_int (pa_cons (pe_op op_sub (pv 1) pe_int) pa_nil))))))))) pss_nil) (pss_one (ps_ret (pe_and (pe_cmpR op_in_seq (pv 2) (pe_tup (pa_cons pe_str (pa_cons pe_str pa_nil))) (by rfl)) (pe_one (pe_cmpR op_eq (pe_callB call_len (by rfl) G.len PySem.boot_len (pa_cons (pv 0) pa_nil)) pe_int (nomark _)))))))), ?_⟩
    refine ⟨v, rfl, v, d, rfl, hv, .str (firstD d), rfl, rfl, _, rfl, ite2 (fun e => ?_) fun e => ?_⟩
    · have e : firstD d = "top" := V.str.inj (of_decide_eq_true e)
      obtain ⟨r, hd⟩ := first_tup (d := d) (by rw [e]; decide +kernel)
      have er : ruleD d n = topD d n := if_pos e
      rw [er] at q
      rw [hd] at hv q
      obtain ⟨a, xs, rfl, h, hD⟩ := dp_tup hv
      have hl := dps_len hD
      refine ⟨_, rfl, ⟨_, _, rfl, .inr ⟨_, h, rfl⟩, rfl, _, rfl, ite2 (fun e1 => ?_) fun e1 => ?_⟩⟩
      · have e2 := len_eq' e1
        obtain ⟨x0, x1, d0, d1, rfl, e3, hx0, hx1⟩ := shape2 hD (by omega)
        rw [e3] at q
        exact ⟨.ref a, rfl, a, _, 1, x1, rfl, rfl, h, rfl, .int n, rfl, n, 1, rfl, rfl, x1, d1, 2, 0, n - 1, rfl, hx1, ht, fun H' k => q H' k⟩
      · have e2 := len_ne' e1
        have e3 : topD (.tuple (.str (firstD d) :: r)) n = false := by
          match r, hl with
          | [], _ => rfl
          | [y], hl => exact absurd (by rw [hl]; rfl) e2
          | y :: z :: r, _ => rfl
        rw [e3] at q
        exact q H .refl
    · have e : ¬ firstD d = "top" := fun z => e (decide_eq_true (by rw [z]))
      have er : ruleD d n = (kin (firstD d) "plain" "lent" && soleD d) := if_neg e
      rw [er] at q
      refine ⟨.str (firstD d), rfl, by show 2 ≤ sizeLine; decide, fun p np => ⟨p, _, rfl, .inr (.inl (.inl upd_same)), rfl, rfl, _, rfl, ite2 (fun e1 => ?_) fun e1 => ?_⟩⟩
      · have e1 : kin (firstD d) "plain" "lent" = true := e1
        rw [e1, Bool.true_and] at q
        have hne : ¬ firstD d = "" := fun z => by rw [z] at e1; exact absurd e1 (by decide +kernel)
        obtain ⟨r, hd⟩ := first_tup hne
        rw [hd] at hv q
        obtain ⟨a, xs, rfl, h, hD⟩ := dp_tup hv
        have hl := dps_len hD
        have h2 := (Keep.new (T := T) (o := .tup [.str "plain", .str "lent"]) np).sqT ht h
        refine ⟨_, rfl, ⟨_, _, rfl, .inr ⟨_, h2, rfl⟩, rfl, ?_⟩⟩
        have e3 : soleD (.tuple (.str (firstD d) :: r)) = decide (V.int (xs.length : Int) = V.int 1) := by
          rw [hl]
          match r with
          | [] => rfl
          | y :: r =>
            show false = _
            rw [decide_eq_false fun z => by have := V.int.inj z; simp at this; omega]
        rw [e3] at q
        exact q _ (Keep.new np)
      · have e1 : kin (firstD d) "plain" "lent" = false := Bool.eq_false_iff.mpr e1
        rw [e1, Bool.false_and] at q
        exact q _ (Keep.new np)
theorem ok_bare (F : Fun K "_is_bare" "_is_bare" sBare f fd) (G : Glob mg) : FnOk P w K mg base CX0 1 f fd ["value", "size"] (spKind K T bareM) := by
  refine F.ok scBare (fun vs H Q E h => ?_) (fun cdv A outer s H vs Q E hr h => ?_)
  · obtain ⟨v, d, n, rfl, _⟩ := h
    rfl
  · obtain ⟨v, ds, n, rfl, hv, n1, n4, ht, q⟩ := h
    refine ⟨_, (pss_one (ps_ret (pe_cmpR op_eq (pe_callB call_len (by rfl) G.len PySem.boot_len (pa_cons (pv 0) pa_nil)) pe_int (nomark _)))), ?_⟩
    obtain ⟨a, xs, rfl, h, hD⟩ := dp_tup hv
    have hl := dps_len hD
    refine ⟨_, rfl, ⟨_, _, rfl, .inr ⟨_, h, rfl⟩, rfl, ?_⟩⟩
    have e3 : bareM ds n = decide (V.int (xs.length : Int) = V.int 1) := by
      rw [hl]
      match ds with
      | [] => rfl
      | [y] => rfl
      | y :: z :: r =>
        show false = _
        rw [decide_eq_false fun z => by have := V.int.inj z; simp at this; omega]
    rw [e3] at q
    exact q _ .refl
theorem ok_byOrder (F : Fun K "_is_by_order" "_is_by_order" sByOrder f fd) (G : Glob mg) (cO : Cal P w K mg base "_is_order" 4 ["value", "size"] (spOrder K T) fO dO) (cN : Cal P w K mg base "is_number" 1 ["value", "least", "greatest"] (spNum K) fN dN)
    (cU : Cal P w K mg base "_is_rule" 4 ["value", "size"] (spRule K T) fU dU) : FnOk P w K mg base CX0 5 f fd ["value", "size"] (spKind K T byOrderM) := by
  refine F.ok scByOrder (fun vs H Q E h => ?_) (fun cdv A outer s H vs Q E hr h => ?_)
  · obtain ⟨v, d, n, rfl, _⟩ := h
    rfl
  · obtain ⟨v, ds, n, rfl, hv, n1, n4, ht, q⟩ := h
    have hr1 : Room 1 _ := hr.mono (by decide)
    refine ⟨_, (pss_cons (ps_if (pt_cmpR op_ne (pe_callB call_len (by rfl) G.len PySem.boot_len (pa_cons (pv 0) pa_nil)) pe_int (nomark _)) (pss_one (ps_ret pe_bl)) pss_nil) (pss_cons (ps_if (PW.pt (pw_or (pt_not (pt_val (pe_call cO.ok hr (by rfl) cO.g cO.kp cO.b .nil pass0 (pa_cons (pe_ix ix_tup (pv 0) pe_int (fun _ _ => rfl)) (pa_cons (pv 1) pa_nil))))) (pw_or1 (pt_not (pt_val (pe_call cN.ok hr1 (by rfl) cN.g cN.kp cN.b .nil pass0 (pa_cons (pe_ix ix_tup (pv 0) pe_int (fun _ _ => rfl)) (pa_cons pe_int (pa_cons pe_int pa_nil))))))))) (pss_one (ps_ret pe_bl)) pss_nil) (pss_one (ps_ret (pe_call cU.ok hr (by rfl) cU.g cU.kp cU.b .nil pass0 (pa_cons (pe_ix ix_tup (pv 0) pe_int (fun _ _ => rfl)) (pa_cons (pv 1) pa_nil))))))), ?_⟩
    obtain ⟨a, xs, rfl, h, hD⟩ := dp_tup hv
    have hl := dps_len hD
    refine ⟨_, rfl, ⟨_, _, rfl, .inr ⟨_, h, rfl⟩, rfl, _, rfl, ite2 (fun e => ?_) fun e => ?_⟩⟩
    · have e := len_ne e
      have e3 : byOrderM ds n = false := by
        unfold byOrderM
        split
        · exact absurd (by rw [hl]; rfl) e
        · rfl
      rw [e3] at q
      exact q H .refl
    · have e := len_eq e
      obtain ⟨x0, x1, x2, x3, d0, d1, d2, d3, rfl, rfl, h0, h1, h2, h3⟩ := shape4 hD (by omega)
      have e3 : byOrderM [d0, d1, d2, d3] n = ((orderD d1 n && numD d2 0 1) && ruleD d3 n) := rfl
      rw [e3] at q
      refine ⟨.ref a, rfl, a, _, 1, x1, rfl, rfl, h, rfl, .int n, rfl, x1, d1, n, rfl, h1, n1, by omega, ht, fun H1 k1 => ⟨_, rfl, ?_⟩⟩
      cases o1 : orderD d1 n with
      | false =>
        rw [o1] at q
        exact iteT (q H1 k1)
      | true =>
        rw [o1, Bool.true_and] at q
        refine iteF ⟨.ref a, rfl, a, _, 2, x2, rfl, rfl, k1.sqT ht h, rfl, x2, d2, 0, 1, rfl, dp_keep k1 ht h2, _, rfl, ?_⟩
        cases o2 : numD d2 0 1 with
        | false =>
          rw [o2] at q
          exact iteT (q H1 k1)
        | true =>
          rw [o2, Bool.true_and] at q
          exact iteF ⟨.ref a, rfl, a, _, 3, x3, rfl, rfl, k1.sqT ht h, rfl, .int n, rfl, x3, d3, n, rfl, dp_keep k1 ht h3, k1.tabs ht, fun H2 k2 => q H2 (k1.trans k2)⟩
theorem ok_rounds (F : Fun K "_is_by_rounds" "_is_by_rounds" sRounds f fd) (G : Glob mg) (cN : Cal P w K mg base "is_number" 1 ["value", "least", "greatest"] (spNum K) fN dN) : FnOk P w K mg base CX0 2 f fd ["value", "size"] (spKind K T roundsM) := by
  refine F.ok scRounds (fun vs H Q E h => ?_) (fun cdv A outer s H vs Q E hr h => ?_)
  · obtain ⟨v, d, n, rfl, _⟩ := h
    rfl
  · obtain ⟨v, ds, n, rfl, hv, n1, n4, ht, q⟩ := h
    refine ⟨_, (pss_cons (ps_if (pt_cmpR op_ne (pe_callB call_len (by rfl) G.len PySem.boot_len (pa_cons (pv 0) pa_nil)) pe_int (nomark _)) (pss_one (ps_ret pe_bl)) pss_nil) (pss_one (ps_ret (pe_and (pe_call cN.ok hr (by rfl) cN.g cN.kp cN.b .nil pass0 (pa_cons (pe_ix ix_tup (pv 0) pe_int (fun _ _ => rfl)) (pa_cons pe_int (pa_cons pe_int pa_nil)))) (pe_one (pe_call cN.ok hr (by rfl) cN.g cN.kp cN.b .nil pass0 (pa_cons (pe_ix ix_tup (pv 0) pe_int (fun _ _ => rfl)) (pa_cons pe_int (pa_cons pe_int pa_nil))))))))), ?_⟩
    obtain ⟨a, xs, rfl, h, hD⟩ := dp_tup hv
    have hl := dps_len hD
    refine ⟨_, rfl, ⟨_, _, rfl, .inr ⟨_, h, rfl⟩, rfl, _, rfl, ite2 (fun e => ?_) fun e => ?_⟩⟩
    · have e := len_ne e
      have e3 : roundsM ds n = false := by
        unfold roundsM
        split
        · exact absurd (by rw [hl]; rfl) e
        · rfl
      rw [e3] at q
      exact q H .refl
    · have e := len_eq e
      obtain ⟨x0, x1, x2, d0, d1, d2, rfl, rfl, h0, h1, h2⟩ := shape3 hD (by omega)
      have e3 : roundsM [d0, d1, d2] n = (numD d1 1 4 && numD d2 0 1) := rfl
      rw [e3] at q
      refine ⟨.ref a, rfl, a, _, 1, x1, rfl, rfl, h, rfl, x1, d1, 1, 4, rfl, h1, _, rfl, ?_⟩
      cases o1 : numD d1 1 4 with
      | false =>
        rw [o1] at q
        exact iteF (q H .refl)
      | true =>
        rw [o1, Bool.true_and] at q
        exact iteT ⟨.ref a, rfl, a, _, 2, x2, rfl, rfl, h, rfl, x2, d2, 0, 1, rfl, h2, q H .refl⟩
theorem ok_levels {c PT : Addr} (F : FunC K "_is_by_levels" "_is_by_levels" sLevels f fd c) (TB : GxR.TabB base mg c PT) (hPT : PT ∈ T) (G : Glob mg) (cN : Cal P w K mg base "is_number" 1 ["value", "least", "greatest"] (spNum K) fN dN)
    (cR : Cal P w K mg base "is_row" 3 ["value", "many", "least", "greatest"] (spRow K T) fR dR) : FnOk P w K mg base CX0 5 f fd ["value", "size"] (spKind K T levelsM) := by
  refine F.ok scLevels (fun vs H Q E h => ?_) (fun A outer s H vs Q E hr h => ?_)
  · obtain ⟨v, d, n, rfl, _⟩ := h
    rfl
  · obtain ⟨v, ds, n, rfl, hv, n1, n4, ht, q⟩ := h
    have hr1 : Room 1 _ := hr.mono (by decide)
    refine ⟨_, (pss_cons (ps_if (PW.pt (pw_or (pt_cmpR op_ne (pe_callB call_len (by rfl) G.len PySem.boot_len (pa_cons (pv 0) pa_nil)) pe_int (nomark _)) (pw_or1 (pt_not (pt_val (pe_call cN.ok hr1 (by rfl) cN.g cN.kp cN.b .nil pass0 (pa_cons (pe_ix ix_tup (pv 0) pe_int (fun _ _ => rfl)) (pa_cons pe_int (pa_cons pe_int pa_nil))))))))) (pss_one (ps_ret pe_bl)) pss_nil) (pss_one (ps_ret (GE.pe_anyG (k := 3) (own := [("many", 2)]) (g := gName 2) (te := tCall (spRow K T) [] E0 (tCons (tOp (rIxT K) (tVar 0) (tC (.int 1))) (tCons (tVar 2) (tCons (tC (.int 1)) (tCons (tC (.int 4)) tNil))))) hr rfl scLevels.nd (by rfl) G.any TB rfl ⟨blkOk_by (N := nLevels) (sc := defScope sLevels) (by decide +kernel), by rfl, by decide +kernel, by rfl⟩ (pi_tup (pe_tup (pa_cons pe_int (pa_cons pe_int (pa_cons pe_int pa_nil))))) (fun _ _ _ _ _ _ => pg_name (i := 2) scLevels.nd rfl (Or.inl rfl)) (fun _ _ _ _ _ _ hr2 => (pe_call cR.ok hr2 (by rfl) cR.g cR.kp cR.b .nil pass0 (pa_cons (pe_ix ix_tup (pv 0) pe_int (fun _ _ => rfl)) (pa_cons (pv 2) (pa_cons pe_int (pa_cons pe_int pa_nil)))))))))), ?_⟩
    obtain ⟨a, xs, rfl, h, hD⟩ := dp_tup hv
    have hl := dps_len hD
    refine ⟨_, rfl, ⟨_, _, rfl, .inr ⟨_, h, rfl⟩, rfl, _, rfl, ite2 (fun e => ?_) fun e => ?_⟩⟩
    · have e := len_ne e
      have e3 : levelsM ds n = false := by
        unfold levelsM
        split
        · exact absurd (by rw [hl]; rfl) e
        · rfl
      rw [e3] at q
      exact q H .refl
    · have e := len_eq e
      obtain ⟨x0, x1, x2, d0, d1, d2, rfl, rfl, h0, h1, h2⟩ := shape3 hD (by omega)
      have e3 : levelsM [d0, d1, d2] n = (numD d2 0 8 && (rowD d1 1 1 4 || (rowD d1 2 1 4 || rowD d1 3 1 4))) := rfl
      rw [e3] at q
      refine ⟨.ref a, rfl, a, _, 2, x2, rfl, rfl, h, rfl, x2, d2, 0, 8, rfl, h2, _, rfl, ?_⟩
      cases o1 : numD d2 0 8 with
      | false =>
        rw [o1] at q
        exact iteT (q H .refl)
      | true =>
        rw [o1, Bool.true_and] at q
        refine iteF ⟨by show 3 ≤ sizeLine; decide, fun p np => ?_⟩
        have kn := Keep.new (T := T) (o := .tup [.int 1, .int 2, .int 3]) np
        refine ⟨p, rfl, ⟨_, .of upd_same⟩, kn.tabs ht PT hPT, fun H2 tb => ⟨3, fun i => rowD d1 ((i : Int) + 1) 1 4, fun _ H3 => Keep T H H3 ∧ SqT K H3 p [.int 1, .int 2, .int 3], ⟨kn.trans (Keep.tabbed hPT tb), ?_⟩, fun i H3 hib k => ⟨⟨_, _, k.2, List.getElem?_eq_getElem hib⟩, fun x H' y => ?_⟩, fun H3 k => ⟨_, k.2, Nat.le_refl _⟩, fun i H3 _ k => ?_⟩⟩
        · exact (Keep.tabbed hPT tb).sqT (kn.tabs ht) (.of upd_same)
        · obtain ⟨rfl, y⟩ := y
          have hx := y _ k.2
          have ex : x = .int ((i : Int) + 1) := by
            match i, hib with
            | 0, _ => exact (Option.some.inj hx).symm
            | 1, _ => exact (Option.some.inj hx).symm
            | 2, _ => exact (Option.some.inj hx).symm
          subst ex
          refine ⟨rfl, .ref a, rfl, a, _, 1, x1, rfl, rfl, k.1.sqT ht h, rfl, .int ((i : Int) + 1), rfl, x1, d1, (i : Int) + 1, 1, 4, rfl, dp_keep k.1 ht h1, k.1.tabs ht, fun H4 k4 => ⟨rfl, k.1.trans k4, k4.sqT (k.1.tabs ht) k.2⟩⟩
        · have e4 : ((List.range 3).any fun i => rowD d1 ((i : Int) + 1) 1 4) = (rowD d1 1 1 4 || (rowD d1 2 1 4 || rowD d1 3 1 4)) := by
            show (rowD d1 (((0 : Nat) : Int) + 1) 1 4 || (rowD d1 (((1 : Nat) : Int) + 1) 1 4 || (rowD d1 (((2 : Nat) : Int) + 1) 1 4 || false))) = _
            rw [Bool.or_false]
            rfl
          rw [e4]
          exact q H3 k.1
theorem ok_age (F : Fun K "_is_by_age" "_is_by_age" sAge f fd) (G : Glob mg) (cO : Cal P w K mg base "_is_order" 4 ["value", "size"] (spOrder K T) fO dO) (cN : Cal P w K mg base "is_number" 1 ["value", "least", "greatest"] (spNum K) fN dN) :
    FnOk P w K mg base CX0 5 f fd ["value", "size"] (spKind K T ageM) := by
  refine F.ok scAge (fun vs H Q E h => ?_) (fun cdv A outer s H vs Q E hr h => ?_)
  · obtain ⟨v, d, n, rfl, _⟩ := h
    rfl
  · obtain ⟨v, ds, n, rfl, hv, n1, n4, ht, q⟩ := h
    have hr1 : Room 1 _ := hr.mono (by decide)
    refine ⟨_, (pss_cons (ps_if (pt_cmpR op_ne (pe_callB call_len (by rfl) G.len PySem.boot_len (pa_cons (pv 0) pa_nil)) pe_int (nomark _)) (pss_one (ps_ret pe_bl)) pss_nil) (pss_one (ps_ret (pe_and (pe_call cO.ok hr (by rfl) cO.g cO.kp cO.b .nil pass0 (pa_cons (pe_ix ix_tup (pv 0) pe_int (fun _ _ => rfl)) (pa_cons (pv 1) pa_nil))) (pe_one (pe_call cN.ok hr1 (by rfl) cN.g cN.kp cN.b .nil pass0 (pa_cons (pe_ix ix_tup (pv 0) pe_int (fun _ _ => rfl)) (pa_cons pe_int (pa_cons pe_int pa_nil))))))))), ?_⟩
    obtain ⟨a, xs, rfl, h, hD⟩ := dp_tup hv
    have hl := dps_len hD
    refine ⟨_, rfl, ⟨_, _, rfl, .inr ⟨_, h, rfl⟩, rfl, _, rfl, ite2 (fun e => ?_) fun e => ?_⟩⟩
    · have e := len_ne e
      have e3 : ageM ds n = false := by
        unfold ageM
        split
        · exact absurd (by rw [hl]; rfl) e
        · rfl
      rw [e3] at q
      exact q H .refl
    · have e := len_eq e
      obtain ⟨x0, x1, x2, d0, d1, d2, rfl, rfl, h0, h1, h2⟩ := shape3 hD (by omega)
      have e3 : ageM [d0, d1, d2] n = (orderD d1 n && numD d2 1 3) := rfl
      rw [e3] at q
      refine ⟨.ref a, rfl, a, _, 1, x1, rfl, rfl, h, rfl, .int n, rfl, x1, d1, n, rfl, h1, n1, by omega, ht, fun H1 k1 => ⟨_, rfl, ?_⟩⟩
      cases o1 : orderD d1 n with
      | false =>
        rw [o1] at q
        exact iteF (q H1 k1)
      | true =>
        rw [o1, Bool.true_and] at q
        exact iteT ⟨.ref a, rfl, a, _, 2, x2, rfl, rfl, k1.sqT ht h, rfl, x2, d2, 1, 3, rfl, dp_keep k1 ht h2, q H1 k1⟩
theorem ok_limits (F : Fun K "_is_by_limits" "_is_by_limits" sLimits f fd) (G : Glob mg) (cR : Cal P w K mg base "is_row" 3 ["value", "many", "least", "greatest"] (spRow K T) fR dR) : FnOk P w K mg base CX0 4 f fd ["value", "size"] (spKind K T limitsM) := by
  refine F.ok scLimits (fun vs H Q E h => ?_) (fun cdv A outer s H vs Q E hr h => ?_)
  · obtain ⟨v, d, n, rfl, _⟩ := h
    rfl
  · obtain ⟨v, ds, n, rfl, hv, n1, n4, ht, q⟩ := h
    refine ⟨_, (pss_one (ps_ret (pe_and (pe_cmpR op_eq (pe_callB call_len (by rfl) G.len PySem.boot_len (pa_cons (pv 0) pa_nil)) pe_int (nomark _)) (pe_one (pe_call cR.ok hr (by rfl) cR.g cR.kp cR.b .nil pass0 (pa_cons (pe_ix ix_tup (pv 0) pe_int (fun _ _ => rfl)) (pa_cons (pv 1) (pa_cons pe_int (pa_cons pe_int pa_nil))))))))), ?_⟩
    obtain ⟨a, xs, rfl, h, hD⟩ := dp_tup hv
    have hl := dps_len hD
    refine ⟨_, rfl, ⟨_, _, rfl, .inr ⟨_, h, rfl⟩, rfl, _, rfl, ite2 (fun e => ?_) fun e => ?_⟩⟩
    · have e := len_eq' e
      obtain ⟨x0, x1, d0, d1, rfl, rfl, h0, h1⟩ := shape2 hD (by omega)
      exact ⟨.ref a, rfl, a, _, 1, x1, rfl, rfl, h, rfl, .int n, rfl, x1, d1, n, 1, 6, rfl, h1, ht, fun H1 k1 => q H1 k1⟩
    · have e := len_ne' e
      have e3 : limitsM ds n = false := by
        unfold limitsM
        split
        · exact absurd (by rw [hl]; rfl) e
        · rfl
      rw [e3] at q
      exact q H .refl
theorem ok_weights (F : Fun K "_is_by_weights" "_is_by_weights" sWeights f fd) (G : Glob mg) (cR : Cal P w K mg base "is_row" 3 ["value", "many", "least", "greatest"] (spRow K T) fR dR) : FnOk P w K mg base CX0 4 f fd ["value", "size"] (spKind K T weightsM) := by
  refine F.ok scWeights (fun vs H Q E h => ?_) (fun cdv A outer s H vs Q E hr h => ?_)
  · obtain ⟨v, d, n, rfl, _⟩ := h
    rfl
  · obtain ⟨v, ds, n, rfl, hv, n1, n4, ht, q⟩ := h
    refine ⟨_, (pss_one (ps_ret (pe_and (pe_cmpR op_eq (pe_callB call_len (by rfl) G.len PySem.boot_len (pa_cons (pv 0) pa_nil)) pe_int (nomark _)) (pe_one (pe_call cR.ok hr (by rfl) cR.g cR.kp cR.b .nil pass0 (pa_cons (pe_ix ix_tup (pv 0) pe_int (fun _ _ => rfl)) (pa_cons (pv 1) (pa_cons pe_int (pa_cons pe_int pa_nil))))))))), ?_⟩
    obtain ⟨a, xs, rfl, h, hD⟩ := dp_tup hv
    have hl := dps_len hD
    refine ⟨_, rfl, ⟨_, _, rfl, .inr ⟨_, h, rfl⟩, rfl, _, rfl, ite2 (fun e => ?_) fun e => ?_⟩⟩
    · have e := len_eq' e
      obtain ⟨x0, x1, d0, d1, rfl, rfl, h0, h1⟩ := shape2 hD (by omega)
      exact ⟨.ref a, rfl, a, _, 1, x1, rfl, rfl, h, rfl, .int n, rfl, x1, d1, n, 1, 4, rfl, h1, ht, fun H1 k1 => q H1 k1⟩
    · have e := len_ne' e
      have e3 : weightsM ds n = false := by
        unfold weightsM
        split
        · exact absurd (by rw [hl]; rfl) e
        · rfl
      rw [e3] at q
      exact q H .refl
end
end K13
namespace K13
open PySem PySem.Spec PyProof.Rows L2 DA
/-! ### is_scheduler -/
def kindD (x : Str) (ds : List PD) (n : Int) : Bool :=
  if x = "first" then bareM ds n else if x = "last" then bareM ds n else if x = "order" then byOrderM ds n else if x = "rounds" then roundsM ds n else if x = "levels" then levelsM ds n
  else if x = "aging" then ageM ds n else if x = "due" then limitsM ds n else if x = "shares" then weightsM ds n else false
def schedD (d e : PD) : Bool := match d, e with | .tuple ds, .int n => numD (.int n) 1 4 && kindD (firstD (.tuple ds)) ds n | _, _ => false
abbrev kindNames : List Str := ["first", "last", "order", "rounds", "levels", "aging", "due", "shares"]
theorem kind_none {x : Str} (h : x ∉ kindNames) (ds : List PD) (n : Int) : kindD x ds n = false := by
  simp only [kindNames, List.mem_cons, List.not_mem_nil, or_false, not_or] at h
  obtain ⟨h1, h2, h3, h4, h5, h6, h7, h8⟩ := h
  unfold kindD
  rw [if_neg h1, if_neg h2, if_neg h3, if_neg h4, if_neg h5, if_neg h6, if_neg h7, if_neg h8]
/-- the function object at f bears this name -/
def Named (K : PySem.W.Frag) (f : Addr) (x : Str) : Prop := ∃ oc od fd osl, K.lookup f = some ⟨oc, od, .func fd, osl⟩ ∧ fd.name = x
theorem Named.ne {K : PySem.W.Frag} {f g : Addr} {x y : Str} (a : Named K f x) (b : Named K g y) (h : x ≠ y) : f ≠ g := fun e => by
  subst e
  obtain ⟨oc, od, fd, osl, h1, h2⟩ := a
  obtain ⟨oc', od', fd', osl', h3, h4⟩ := b
  rw [h1] at h3
  cases h3
  exact h (h2.symm.trans h4)
theorem Named.of {K : PySem.W.Frag} {x : Str} {st : Stmt} {f : Addr} {fd : FuncData} (F : Fun K x x st f fd) : Named K f x := by
  obtain ⟨oc, od, kV, doc, pm, an, cdv, ct, osl, h1, h2, h3⟩ := F.ex
  exact ⟨oc, od, fd, osl, h2, by rw [h1]⟩
theorem no_key {P : Params} : ∀ {es : List DictEntry} {ks : List Str} {z : Str}, es.map He.keyOf = He.keysIn P ks → z ∉ ks → es.find? (·.key.isStr z) = none ∧ es.any (·.refKey) = false
  | [], _, _, _, _ => ⟨rfl, rfl⟩
  | e :: es, [], _, h, _ => by cases h
  | e :: es, k :: ks, z, h, hz => by
    have h' : He.keyOf e :: es.map He.keyOf = some (k, PyData.keyHash P k) :: He.keysIn P ks := h
    rw [List.cons.injEq] at h'
    obtain ⟨h1, h2⟩ := h'
    obtain ⟨r1, r2⟩ := no_key h2 fun m => hz (List.mem_cons_of_mem _ m)
    have hk : ∃ t, e.key = .str k t := by
      unfold He.keyOf at h1
      split at h1
      · next x t ex =>
        have e1 : some x = some k := congrArg (fun o : Option (Str × Int) => o.map Prod.fst) h1
        cases e1
        exact ⟨t, ex⟩
      · cases h1
    obtain ⟨t, ek⟩ := hk
    have hne : ¬ k = z := fun w => hz (by rw [w]; exact List.mem_cons_self)
    have i1 : e.key.isStr z = false := by
      rw [ek]
      show (k == z) = false
      exact beq_eq_false_iff_ne.mpr hne
    constructor
    · rw [List.find?_cons, i1]
      exact r1
    · rw [List.any_cons, r2, Bool.or_false]
      unfold DictEntry.refKey
      rw [ek]
/-- the module's table of kinds -/
structure KindsAt (K : PySem.W.Frag) (w : World) (dk fB fO fR fL fA fD fW : Addr) : Prop where
  kd : ∃ es n, KDict K w dk es n ∧ es.toList.map He.keyOf = He.keysIn w.params kindNames
  h1 : PySem.W.nsIn K dk "first" = some (some (.ref fB))
  h2 : PySem.W.nsIn K dk "last" = some (some (.ref fB))
  h3 : PySem.W.nsIn K dk "order" = some (some (.ref fO))
  h4 : PySem.W.nsIn K dk "rounds" = some (some (.ref fR))
  h5 : PySem.W.nsIn K dk "levels" = some (some (.ref fL))
  h6 : PySem.W.nsIn K dk "aging" = some (some (.ref fA))
  h7 : PySem.W.nsIn K dk "due" = some (some (.ref fD))
  h8 : PySem.W.nsIn K dk "shares" = some (some (.ref fW))
theorem KindsAt.no {K : PySem.W.Frag} {w : World} {dk fB fO fR fL fA fD fW : Addr} (h : KindsAt K w dk fB fO fR fL fA fD fW) {z : Str} (hz : z ∉ kindNames) : PySem.W.nsIn K dk z = some none := by
  obtain ⟨es, n, D, hk⟩ := h.kd
  obtain ⟨r1, r2⟩ := no_key hk hz
  unfold PySem.W.nsIn
  rw [D.at_]
  show (match es.toList.find? (·.key.isStr z) with | some e => some (some e.val) | none => if es.toList.any (·.refKey) then none else some none) = some none
  rw [r1]
  show (if es.toList.any (·.refKey) then none else some none) = some none
  rw [r2]
  rfl
def spSched (K : PySem.W.Frag) (T : List Addr) : Sp := fun vs H Q _ => ∃ v z d e, vs = [v, z] ∧ Dp K H v d ∧ Dp K H z e ∧ Tabs T H ∧ ∀ H', Keep T H H' → Q (.bl (schedD d e)) H'
section
variable {P : Program} {w : World} {K : PySem.W.Frag} {mg : Str → Option Value} {base : Heap} {f : Addr} {fd : FuncData} {T : List Addr}
variable {fN fF dk fB fO fR fL fA fD fW : Addr} {dN dF : FuncData}
def kindS (K : PySem.W.Frag) (T : List Addr) (fB fO fR fL fA fD fW : Addr) (g : Addr) : Option Sp :=
  if g = fB then some (spKind K T bareM) else if g = fO then some (spKind K T byOrderM) else if g = fR then some (spKind K T roundsM) else if g = fL then some (spKind K T levelsM)
  else if g = fA then some (spKind K T ageM) else if g = fD then some (spKind K T limitsM) else if g = fW then some (spKind K T weightsM) else none
theorem ok_sched (F : Fun K "is_scheduler" "is_scheduler" sSched f fd) (cN : Cal P w K mg base "is_number" 1 ["value", "least", "greatest"] (spNum K) fN dN) (cF : Cal P w K mg base "_first_word" 1 ["value"] (spFirst K) fF dF)
    (gk : mg "KINDS" = some (.ref dk)) (KT : KindsAt K w dk fB fO fR fL fA fD fW)
    (kB : Held P w K mg base 5 fB (spKind K T bareM)) (kO : Held P w K mg base 5 fO (spKind K T byOrderM)) (kR : Held P w K mg base 5 fR (spKind K T roundsM)) (kL : Held P w K mg base 5 fL (spKind K T levelsM))
    (kA : Held P w K mg base 5 fA (spKind K T ageM)) (kD : Held P w K mg base 5 fD (spKind K T limitsM)) (kW : Held P w K mg base 5 fW (spKind K T weightsM))
    (mB : Named K fB "_is_bare") (mO : Named K fO "_is_by_order") (mR : Named K fR "_is_by_rounds") (mL : Named K fL "_is_by_levels") (mA : Named K fA "_is_by_age") (mD : Named K fD "_is_by_limits") (mW : Named K fW "_is_by_weights") :
    FnOk P w K mg base CX0 6 f fd ["value", "size"] (spSched K T) := by
  obtain ⟨es, ne, KD, hkeys⟩ := KT.kd
  have hA : ∀ g sp, kindS K T fB fO fR fL fA fD fW g = some sp → Held P w K mg base 5 g sp := fun g sp h => by
    unfold kindS at h
    split at h
    · next e => cases h; rw [e]; exact kB
    split at h
    · next e => cases h; rw [e]; exact kO
    split at h
    · next e => cases h; rw [e]; exact kR
    split at h
    · next e => cases h; rw [e]; exact kL
    split at h
    · next e => cases h; rw [e]; exact kA
    split at h
    · next e => cases h; rw [e]; exact kD
    split at h
    · next e => cases h; rw [e]; exact kW
    · cases h
  have nB := fun {g : Addr} {x : Str} (m : Named K g x) (hne : x ≠ "_is_bare") => m.ne mB hne
  have sB : kindS K T fB fO fR fL fA fD fW fB = some (spKind K T bareM) := if_pos rfl
  have sO : kindS K T fB fO fR fL fA fD fW fO = some (spKind K T byOrderM) := by
    unfold kindS
    rw [if_neg (mO.ne mB (by decide +kernel)), if_pos rfl]
  have sR : kindS K T fB fO fR fL fA fD fW fR = some (spKind K T roundsM) := by
    unfold kindS
    rw [if_neg (mR.ne mB (by decide +kernel)), if_neg (mR.ne mO (by decide +kernel)), if_pos rfl]
  have sL : kindS K T fB fO fR fL fA fD fW fL = some (spKind K T levelsM) := by
    unfold kindS
    rw [if_neg (mL.ne mB (by decide +kernel)), if_neg (mL.ne mO (by decide +kernel)), if_neg (mL.ne mR (by decide +kernel)), if_pos rfl]
  have sA : kindS K T fB fO fR fL fA fD fW fA = some (spKind K T ageM) := by
    unfold kindS
    rw [if_neg (mA.ne mB (by decide +kernel)), if_neg (mA.ne mO (by decide +kernel)), if_neg (mA.ne mR (by decide +kernel)), if_neg (mA.ne mL (by decide +kernel)), if_pos rfl]
  have sD : kindS K T fB fO fR fL fA fD fW fD = some (spKind K T limitsM) := by
    unfold kindS
    rw [if_neg (mD.ne mB (by decide +kernel)), if_neg (mD.ne mO (by decide +kernel)), if_neg (mD.ne mR (by decide +kernel)), if_neg (mD.ne mL (by decide +kernel)), if_neg (mD.ne mA (by decide +kernel)), if_pos rfl]
  have sW : kindS K T fB fO fR fL fA fD fW fW = some (spKind K T weightsM) := by
    unfold kindS
    rw [if_neg (mW.ne mB (by decide +kernel)), if_neg (mW.ne mO (by decide +kernel)), if_neg (mW.ne mR (by decide +kernel)), if_neg (mW.ne mL (by decide +kernel)), if_neg (mW.ne mA (by decide +kernel)), if_neg (mW.ne mD (by decide +kernel)), if_pos rfl]
  refine F.ok scSched (fun vs H Q E h => ?_) (fun cdv A outer s H vs Q E hr h => ?_)
  · obtain ⟨v, z, d, e, rfl, _⟩ := h
    rfl
  · obtain ⟨v, z, d, e, rfl, hv, hz, ht, q⟩ := h
    have hr1 : Room 1 _ := hr.mono (by decide)
    refine ⟨_, (pss_cons (ps_if (pt_not (pt_val (pe_call cN.ok hr1 (by rfl) cN.g cN.kp cN.b .nil pass0 (pa_cons (pv 1) (pa_cons pe_int (pa_cons pe_int pa_nil)))))) (pss_one (ps_ret pe_bl)) pss_nil) (pss_cons (ps_set (i := 2) scSched.nd rfl (.inl rfl) (pe_call cF.ok hr1 (by rfl) cF.g cF.kp cF.b .nil pass0 (pa_cons (pv 0) pa_nil))) (pss_cons (ps_if (pt_cmpR (op_notIn_kd KD) (pv 2) (pe_glob (v := .ref dk) (by rfl) gk rfl) (by rfl)) (pss_one (ps_ret pe_bl)) pss_nil) (pss_cons (ps_set (i := 3) scSched.nd rfl (.inl rfl) (pe_ix ix_kdict (pe_glob (v := .ref dk) (by rfl) gk rfl) (pv 2) (fun _ _ => rfl))) (pss_one (ps_ret (pe_callA (i := 3) hA hr (by rfl) (.inl rfl) (pa_cons (pv 0) (pa_cons (pv 1) pa_nil))))))))), ?_⟩
    refine ⟨z, rfl, z, e, 1, 4, rfl, hz, _, rfl, ?_⟩
    cases hn : numD e 1 4 with
    | false =>
      have e1 : schedD d e = false := by
        unfold schedD
        split
        · rw [hn, Bool.false_and]
        · rfl
      rw [e1] at q
      exact iteT (q H .refl)
    | true =>
      obtain ⟨n, rfl⟩ : ∃ n, e = .int n := by
        unfold numD at hn
        split at hn
        · exact ⟨_, rfl⟩
        · cases hn
      have hn4 : 1 ≤ n ∧ n ≤ 4 := by
        have h1 : (decide (1 ≤ n) && decide (n ≤ 4)) = true := hn
        rw [Bool.and_eq_true] at h1
        exact ⟨of_decide_eq_true h1.1, of_decide_eq_true h1.2⟩
      have ez := dp_int hz
      subst ez
      refine iteF ⟨v, rfl, v, d, rfl, hv, .str (firstD d), rfl, ?_⟩
      by_cases hk : firstD d ∈ kindNames
      · have hne : ¬ firstD d = "" := fun y => by rw [y] at hk; exact absurd hk (by decide +kernel)
        obtain ⟨r, hd⟩ := first_tup hne
        have e1 : schedD d (.int n) = kindD (firstD d) (.str (firstD d) :: r) n := by
          have e2 : schedD (.tuple (.str (firstD d) :: r)) (.int n) = (numD (.int n) 1 4 && kindD (firstD d) (.str (firstD d) :: r) n) := rfl
          rw [← hd, hn, Bool.true_and] at e2
          exact e2
        rw [e1] at q
        rw [hd] at hv
        obtain ⟨g, mir, c1, c2, c3⟩ : ∃ (g : Addr) (mir : List PD → Int → Bool), PySem.W.nsIn K dk (firstD d) = some (some (.ref g)) ∧ kindS K T fB fO fR fL fA fD fW g = some (spKind K T mir) ∧ kindD (firstD d) (.str (firstD d) :: r) n = mir (.str (firstD d) :: r) n := by
          clear q e1 hd hv
          generalize firstD d = x at hk hne ⊢
          simp only [kindNames, List.mem_cons, List.not_mem_nil, or_false] at hk
          rcases hk with rfl | rfl | rfl | rfl | rfl | rfl | rfl | rfl
          · exact ⟨fB, bareM, KT.h1, sB, rfl⟩
          · exact ⟨fB, bareM, KT.h2, sB, rfl⟩
          · exact ⟨fO, byOrderM, KT.h3, sO, rfl⟩
          · exact ⟨fR, roundsM, KT.h4, sR, rfl⟩
          · exact ⟨fL, levelsM, KT.h5, sL, rfl⟩
          · exact ⟨fA, ageM, KT.h6, sA, rfl⟩
          · exact ⟨fD, limitsM, KT.h7, sD, rfl⟩
          · exact ⟨fW, weightsM, KT.h8, sW, rfl⟩
        rw [c3] at q
        refine ⟨firstD d, some (.ref g), rfl, rfl, c1, _, rfl, iteF ?_⟩
        refine ⟨.str (firstD d), rfl, dk, firstD d, .ref g, rfl, rfl, ⟨es, ne, .ref g, KD.at_, KD.lit, c1, rfl⟩, ?_⟩
        exact ⟨g, _, rfl, c2, v, rfl, .int n, rfl, v, _, n, rfl, hv, hn4.1, hn4.2, ht, fun H1 k1 => q H1 k1⟩
      · have e1 : schedD d (.int n) = false := by
          unfold schedD
          split
          · next ds m e2 =>
            rw [kind_none hk, Bool.and_false]
          · rfl
        rw [e1] at q
        exact ⟨firstD d, none, rfl, rfl, KT.no hk, _, rfl, iteT (q H .refl)⟩
end
end K13
/-! t[::-1] and t * 1, t a tuple -/
namespace TR
open PySem PySem.Spec PyProof.Rows L2 HT DA
theorem adj_back (n : Nat) : Builtin.Slice.sliceAdjust none none (-1) (n : Int) = ((n : Int) - 1, -1) := rfl
theorem places_back (n : Nat) : Builtin.Slice.slicePlaces ((n : Int) - 1) (-1) (-1) = n := by
  unfold Builtin.Slice.slicePlaces
  rw [if_neg (by decide)]
  by_cases h : n = 0
  · subst h; rfl
  · rw [if_pos (by omega)]
    have : ((n : Int) - 1 - (-1) - 1) / (-(-1)) + 1 = n := by
      rw [Int.neg_neg, Int.ediv_one]; omega
    rw [this, Int.toNat_natCast]
theorem fm_some {α β : Type} {f : α → Option β} {g : α → β} : ∀ (l : List α), (∀ m ∈ l, f m = some (g m)) → l.filterMap f = l.map g
  | [], _ => rfl
  | a :: l, h => by
    rw [List.filterMap_cons_some (h a List.mem_cons_self), fm_some l fun m hm => h m (List.mem_cons_of_mem _ hm), List.map_cons]
theorem pick_back (xs : Array Value) : ((List.range xs.size).filterMap fun (m : Nat) => xs[(((xs.size : Nat) : Int) - 1 + (m : Int) * -1).toNat]?).toArray = xs.toList.reverse.toArray := by
  congr 1
  have e : (List.range xs.size).filterMap (fun (m : Nat) => xs[(((xs.size : Nat) : Int) - 1 + (m : Int) * -1).toNat]?) = (List.range xs.size).map fun m => xs.toList.reverse.getD m .none := by
    refine fm_some _ fun m hm => ?_
    have hm := List.mem_range.mp hm
    have e1 : (((xs.size : Nat) : Int) - 1 + (m : Int) * -1).toNat = xs.size - 1 - m := by omega
    have hl : m < xs.toList.reverse.length := by rw [List.length_reverse, Array.length_toList]; exact hm
    show xs[(((xs.size : Nat) : Int) - 1 + (m : Int) * -1).toNat]? = some (xs.toList.reverse.getD m .none)
    rw [e1, List.getD_eq_getElem?_getD, List.getElem?_eq_getElem hl, List.getElem_reverse]
    show _ = some _
    rw [Array.getElem?_eq_getElem (by omega)]
    simp
  rw [e]
  refine List.ext_getElem (by simp) fun i h1 h2 => ?_
  rw [List.getElem_map, List.getElem_range, List.getD_eq_getElem?_getD, List.getElem?_eq_getElem h2]
  rfl
section
variable {prog : Program} {w : World} {A : Around} {E : Value → Shared → Prop} {s : Shared}
theorem applied_back {sl : Addr} {v : Tok} {n : Nat} {Q : Int × Int × Nat → Shared → Prop} (hs : s.heap.IsSliceOf sl .none .none (.int (-1) v)) (h : Q ((n : Int) - 1, -1, n) s) :
    wpAny (model prog w) A (Builtin.Slice.sliceApplied (.ref sl) (pure (n : Int))) Q E s := by
  obtain ⟨os, hos, hcs, hds⟩ := id hs
  unfold Builtin.Slice.sliceApplied Builtin.Slice.sliceFields
  refine wpAny_bind (wpAny_bind (wpAny_field hos hds (x := .none) rfl
    (wpAny_bind (wpAny_field hos hds (x := .none) rfl (wpAny_bind (wpAny_field hos hds (x := .int (-1) v) rfl (wpAny_pure ?_)))))))
  refine wpAny_bind (slicePart_int ?_)
  show wpAny _ _ (if ((-1 : Int) == 0) = true then _ else _) _ _ s
  rw [if_neg (by decide)]
  refine wpAny_bind (slicePart_none (wpAny_bind (slicePart_none (wpAny_bind (wpAny_pure ?_)))))
  show wpAny _ _ (pure ((Builtin.Slice.sliceAdjust none none (-1) (n : Int)).1, (-1 : Int), Builtin.Slice.slicePlaces (Builtin.Slice.sliceAdjust none none (-1) (n : Int)).1 (Builtin.Slice.sliceAdjust none none (-1) (n : Int)).2 (-1))) _ _ s
  rw [adj_back]
  show wpAny _ _ (pure ((n : Int) - 1, (-1 : Int), Builtin.Slice.slicePlaces ((n : Int) - 1) (-1) (-1))) _ _ s
  rw [places_back]
  exact wpAny_pure h
theorem item_back {t sl : Addr} {items : Array Value} {v : Tok} {Q : Value → Shared → Prop} (ht : IsTup s.heap t items) (hs : s.heap.IsSliceOf sl .none .none (.int (-1) v))
    (h : Q (.ref s.heap.objs.size) { s with heap := s.heap.push { cls := .type "tuple", data := .seq items.toList.reverse.toArray } }) (hz : items.size ≤ sizeLine) : wpAny (model prog w) A (getItem (.ref t) (.ref sl)) Q E s := by
  have hk : sizeOk (.seq items.toList.reverse.toArray) := by
    show items.toList.reverse.toArray.size ≤ sizeLine
    simpa using hz
  obtain ⟨os, hos, hcs, hds⟩ := id hs
  have hTs : s.TypeIs (.ref sl) "slice" := ⟨os, hos, hcs⟩
  unfold getItem
  try with_reducible refine wpAny_holding ?_
  first | refine wpAny_bind (wpAny_pure ?_) | skip
  refine wpAny_bind (wpAny_sequenceKey ht.typeIs (by decide) ?_)
  refine wpAny_bind (wpAny_callSpecial?_slot (name := Str.ofString "__getitem__") ht.typeIs slot_tuple_getitem
    (wpAny_call_entry slot_tuple_getitem ht.typeIs entry_tuple_getitem ?_ (args_tuple_getitem _ _)))
  show wpAny _ _ (Builtin.Tuple.tupleItemsOf (.ref t) >>= _) _ _ s
  refine wpAny_bind (tupleItemsOf_ ht (wpAny_bind (wpAny_typeOf hTs ?_)))
  rw [if_pos (by decide)]
  refine wpAny_bind (applied_back hs ?_)
  show wpAny _ _ (if (((items.size : Nat) : Int) - 1 == 0 && (-1 : Int) == 1 && items.size == items.size) = true then _ else _) _ _ s
  rw [if_neg (by simp), pick_back]
  first
    | exact wpAny_bind (m := Builtin.Tuple.tupleExact _) (wpAny_newObj_type (wpAny_pure ⟨_, rfl, wpAny_pure h⟩) hk)
    | exact wpAny_bind (m := Builtin.Tuple.tupleExact _) (wpAny_newObj_type (wpAny_bind (wpAny_pure (wpAny_pure ⟨_, rfl, wpAny_pure h⟩))) hk)
    | exact wpAny_bind (wpAny_bind (m := Builtin.Tuple.tupleExact _) (wpAny_newObj_type (wpAny_pure (wpAny_pure ⟨_, rfl, wpAny_pure h⟩)) hk))
    | exact wpAny_bind (wpAny_bind (m := Builtin.Tuple.tupleExact _) (wpAny_newObj_type (wpAny_pure ⟨_, rfl, wpAny_pure h⟩) hk))
end
section
variable {X : Cx}
def tBack (K : PySem.W.Frag) (te : TE) (ts : TE) : TE := fun σ H Q => te σ H fun x H1 => ts σ H1 fun y H2 => y = .int (-1) ∧ ∃ a xs, x = .ref a ∧ SqT K H2 a xs ∧ ∀ p, H2 p = none → Q (.ref p) (upd H2 p (.tup xs.reverse))
theorem vals_rev : ∀ {xs : List V} {us : List Value}, Vals xs us → Vals xs.reverse us.reverse
  | _, _, .nil => .nil
  | _, _, .cons a r => by
    rw [List.reverse_cons, List.reverse_cons]
    exact (vals_rev r).append (.cons a .nil)
theorem pe_back {e st : Expr} {te ts : TE} {p2 pos : Pos} (he : PE X e te) (hs : PE X st ts) : PE X (.Subscript e (.Slice none none (some st) p2) pos) (tBack X.K te ts) := by
  refine ⟨fun pins s σ H Q I h => ?_⟩
  refine Subscript_ (thn (he.run pins s σ H _ I h) fun v s1 ⟨x, H1, I1, r1, q1⟩ => ?_)
  refine wpAny_Slice ?_
  rw [evalPart_none]
  refine wpAny_pure ?_
  refine wpAny_pure ?_
  show wpAny _ _ (eval st X.env) _ _ s1
  refine thn (hs.run pins s1 σ H1 _ I1 q1) fun u s2 ⟨y, H2, I2, r2, hy, a, xs, hx, hT, q⟩ => ?_
  subst hy
  subst hx
  obtain ⟨t, rfl⟩ := r2
  cases r1
  have I4 : Inv X pins σ H2 { s2 with heap := s2.heap.push { cls := .type "slice", data := .fields #[.none, .none, .int (-1) t] } } := I2.kept (t' := s2.toks) fun b ob q => Heap.get?_push_of_some _ q
  obtain ⟨its, r, ht, hz⟩ := I4.tuple hT
  show wpAny (model X.prog X.w) X.A (subscriptTail e (.Slice none none (some st) p2) (.ref a) (.ref s2.heap.objs.size)) (EP X pins σ Q) X.xe { s2 with heap := s2.heap.push { cls := .type "slice", data := .fields #[.none, .none, .int (-1) t] } }
  refine tail_any (ops := [.ref a, .ref s2.heap.objs.size]) ht.typeIs slot_tuple_getitem.lookup (item_back ht (Heap.IsSliceOf.new ..) ?_ (by rw [List.size_toArray, ← r.length]; exact hz)) (by with_unfolding_all rfl)
  refine ⟨.ref _, _, I4.laid (t' := s2.toks) (o := .tup xs.reverse) (fun b ob q => Heap.get?_push_of_some _ q) (Nat.le_refl _) ?_, rfl, q _ (I4.hok.fresh (Nat.le_refl _))⟩
  refine ⟨by rw [List.length_reverse]; exact hz, its.reverse, vals_rev r, ?_⟩
  have g := IsTup.new (({ s2 with heap := s2.heap.push { cls := .type "slice", data := .fields #[.none, .none, .int (-1) t] } } : Shared)).heap its.reverse.toArray
  simpa using g
end
theorem mul_one (l : Addr) (items : Array Value) (n : Nat) (dd : Option Addr) (sl : Array (Option Value)) (u : Tok) :
    Meets (Builtin.«tuple.__mul__» ⟨[.ref l, .int 1 u], []⟩) (fun _ R s => s.heap.get? l = some { cls := .type "tuple", dict := dd, data := .seq items n, slots := sl } ∧ R (.ok (.ret (Value.ref l))) s) :=
  .of_wp fun prog w A R s h => by
    obtain ⟨hp, g, d, tk, os⟩ := s
    obtain ⟨hl, h⟩ := h
    have f1 := AutoSeq1.idx_int
    have c0 : (decide ((1 : Int) < -(2 ^ 63)) || decide ((1 : Int) ≥ 2 ^ 63)) = false := by decide
    have c1 : (items.isEmpty || (1 : Int) == 1) = true := by rw [Bool.or_comm]; rfl
    wp_walk using wpAny_loadPart' hl
    repeat (first
      | (refine wpAny_ite_false (decide_eq_false (by rw [c0]; exact Bool.false_ne_true)) ?_; wp_walk using wpAny_loadPart' hl)
      | (refine wpAny_ite_true (decide_eq_true c1) ?_; wp_walk using wpAny_loadPart' hl))
    all_goals first | exact ⟨_, rfl, h⟩ | exact h | skip
section
variable {X : Cx}
def rRepA (K : PySem.W.Frag) : R2 := fun x y H Q => ∃ l k xs, x = .ref l ∧ y = .int k ∧ SqT K H l xs ∧ xs ≠ [] ∧ 1 ≤ k ∧ k ≤ 1000 ∧ xs.length ≤ 1000 ∧ (k = 1 → Q (.ref l) H) ∧ (2 ≤ k → ∀ p, H p = none → Q (.ref p) (upd H p (.tup (List.replicate k.toNat xs).flatten)))
theorem op_repA : OpR X (binaryOp .Mult) (rRepA X.K) := by
  intro pins s σ H x y v u Q I rx ry h
  obtain ⟨l, k, xs, rfl, rfl, hT, hne, h1, h2, hz, q1, q2⟩ := h
  by_cases hk : k = 1
  · subst hk
    cases rx
    obtain ⟨t, rfl⟩ := ry
    obtain ⟨its, r, ⟨⟨cls, dd, data, sl⟩, ho, hc, n, hd⟩, hs⟩ := I.tuple hT
    simp only at hc hd
    subst hc hd
    refine wpAny_binaryOp_repeat_ref (T := "tuple") (U := "int") (by decide) ⟨_, ho, rfl⟩ (fun s' => typeIs_int s' 1 t) noFill_tuple_mul
      F.fills_int_mul F.slot_int_rmul repeat_tuple F.slot_int_index.lookup
      (call_meets F.slot_int_rmul (typeIs_int s 1 t) F.entry_int_rmul (F.args_int_rmul_2 _ _) (int_rmul_tuple 1 t l its.toArray n dd sl) ⟨ho, rfl, ⟨_, ho, rfl⟩, ?_⟩)
    exact call_meets F.slot_tuple_mul ⟨_, ho, rfl⟩ F.entry_tuple_mul (F.args_tuple_mul_2 _ _) (mul_one l its.toArray n dd sl t) ⟨ho, ⟨.ref l, H, I, rfl, q1 rfl⟩⟩
  · exact op_repT pins s σ H _ _ v u Q I rx ry ⟨l, k, xs, rfl, rfl, hT, hne, by omega, h2, hz, q2 (by omega)⟩
end
section
variable {X : Cx}
theorem op_imp {f : Value → Value → Sem Value} {r r' : R2} (h : OpR X f r) (i : ∀ x y H Q, r' x y H Q → r x y H Q) : OpR X f r' := fun pins s σ H x y v u Q I rx ry q => h pins s σ H x y v u Q I rx ry (i x y H Q q)
theorem same_n {H : Hp} {p : Addr} {o : HO} (h : H p = none) : Same H (upd H p o) := fun b x e => by
  rw [upd_ne (ne_of_none e h)]; exact e
/-- t * k: the answer, wherever it stands -/
def rRepU (K : PySem.W.Frag) : R2 := fun x y H Q => ∃ l k xs, x = .ref l ∧ y = .int k ∧ SqT K H l xs ∧ xs ≠ [] ∧ 1 ≤ k ∧ k ≤ 1000 ∧ xs.length ≤ 1000 ∧ ∀ p H', SqT K H' p (List.replicate k.toNat xs).flatten → Same H H' → Q (.ref p) H'
theorem op_repU : OpR X (binaryOp .Mult) (rRepU X.K) := op_imp op_repA fun x y H Q ⟨l, k, xs, h1, h2, h3, h4, h5, h6, h7, q⟩ =>
  ⟨l, k, xs, h1, h2, h3, h4, h5, h6, h7, fun e => q l H (by rw [e]; simpa using h3) (Same.refl H), fun _ p np => q p _ (.of upd_same) (same_n np)⟩
/-- t + u, likewise -/
def rCatU (K : PySem.W.Frag) : R2 := fun x y H Q => ∃ a b xs ys, x = .ref a ∧ y = .ref b ∧ SqT K H a xs ∧ SqT K H b ys ∧ xs.length + ys.length ≤ sizeLine ∧ ∀ p H', SqT K H' p (xs ++ ys) → Same H H' → Q (.ref p) H'
theorem op_catU : OpR X (binaryOp .Add) (rCatU X.K) := op_imp op_catA fun x y H Q ⟨a, b, xs, ys, h1, h2, h3, h4, h5, q⟩ =>
  ⟨a, b, xs, ys, h1, h2, h3, h4, h5, fun e => q b H (by rw [e]; exact h4) (Same.refl H), fun _ e => q a H (by rw [e, List.append_nil]; exact h3) (Same.refl H), fun _ _ p np => q p _ (.of upd_same) (same_n np)⟩
end
end TR
/-! fields as targets, xs[i] += e, defs over a heap's own objects -/
namespace DL
open PySem PySem.Spec PyProof.Rows L2 DA
section
variable {X : Cx}
def gFld (K : PySem.W.Frag) (ta : TE) (f : Str) : TG := fun v σ H Q => ta σ H fun x H2 => ∃ a C dx fs, x = .ref a ∧ H2 a = some (.ins C dx fs) ∧ Cls K C ∧ NoAttr K C f ∧ fs.length < 1000 ∧ Q σ (upd H2 a (.ins C dx (putF f v fs)))
theorem pg_fld {o : Expr} {f : Str} {pos : Pos} {ta : TE} (ha : PE X o ta) : PG X (.Attribute o f pos) (gFld X.K ta f) := by
  refine ⟨fun pins s σ H v u Q I r h => ?_⟩
  rw [PySem.assign_Attribute]
  refine wpAny_bind (wpAny_holding (thn (ha.run pins s σ H _ I h) fun ov s1 ⟨x, H1, I1, rx, a, C, dx, fs, ex, ea, c, n, l, q⟩ => ?_))
  subst ex
  obtain rfl : ov = Value.ref a := rx
  refine wpAny_bind (wpAny_standAt (wpAny_bind (wpAny_holding (setattr_ok I1 ea c n l r fun s3 I3 => ?_))))
  exact wpAny_release ⟨σ, _, I3, q⟩
def getL (K : PySem.W.Frag) : V → V → Hp → VK → Prop := fun x y H Q => ∃ p xs i v, x = .ref p ∧ y = .int i ∧ 0 ≤ i ∧ i < 2 ^ 63 ∧ SqL K H p xs ∧ xs[i.toNat]? = some v ∧ Q v H
theorem get_list : PGet X (getL X.K) := by
  intro pins s σ H o i ov iv Q I r1 r2 h
  obtain ⟨p, xs, k, v, rfl, rfl, h0, h1, hq, hv, q⟩ := h
  cases r1
  obtain ⟨t, rfl⟩ := r2
  obtain ⟨its, r, pl, hz⟩ := I.list hq
  obtain ⟨w, ew, rw'⟩ := r.get hv
  exact wpAny_getItem_list pl.isList h0 h1 (by simpa using ew) ⟨v, H, I, rw', q⟩
theorem ps_augL {o i e : Expr} {to ti te : TE} {tip : TIp} {op : Operator} {tpos pos : Pos} (ho : PE X o to) (hi : PE X i ti) (he : PE X e te) (hp : PIp X op tip)
    (ha : ∀ ov iv new, augStore i ov iv new = (do holding [new, ov, iv] (setItem ov iv new); release [new, ov, iv] []; pure .next) := by intros; rfl) : PS X (.AugAssign (.Subscript o i tpos) op e pos) (tAugS to ti te (getL X.K) tip rSetL) :=
  ps_augS ho hi get_list he hp set_list ha
end
/-! ### a def over data and objects of the heap -/
def spX (K : PySem.W.Frag) (T : List Addr) (R : List Addr → Hp → List DS → PD → Prop) : Sp := fun vs H Q _ => ∃ M ss d, (∀ a ∈ M, a ∉ T ∧ H a ≠ none) ∧ Tabs T H ∧ ArgsOk K (hid M H) vs ss ∧ R M H ss d ∧ ∀ v H', Dp K (hid M H') v d → Keep T H H' → Q v H'
section
variable {P : Program} {w : World} {K : PySem.W.Frag} {mg : Str → Option Value} {base : Heap}
theorem fn_sdX {T : List Addr} {x qual : Str} {st : Stmt} {f : Addr} {fd : FuncData} {N ps : List Str} {k : Nat} {R : List Addr → Hp → List DS → PD → Prop} (F : Fun K x qual st f fd) (S : FnScope N ps (defScope st)) (hl : ∀ M H ss d, R M H ss d → ss.length = ps.length)
    (hb : ∀ (cdv : Value) (A : Around) (outer : List Env) (s : Shared) (H : Hp) (E : XK), Room k (A.deeper (envOfC qual (defScope st) s.heap.objs.size f cdv)) →
      ∃ t, PSs (cxOf CX0 P w K mg base N qual (defScope st) f cdv A outer s H E).nox (defBody st) t ∧ ∀ M H0 ss d, R M H0 ss d → (∀ a ∈ M, a ∉ T ∧ H0 a ≠ none) → Tabs T H0 → SD ⟨K, T, M, H0⟩ t (DR d) (startD N ss)) : FnOk P w K mg base CX0 (k + 1) f fd ps (spX K T R) := by
  refine F.ok S (fun vs H Q E h => ?_) (fun cdv A outer s H vs Q E hr h => ?_)
  · obtain ⟨M, ss, d, _, _, h3, h4, _⟩ := h
    rw [h3.len]
    exact hl M H ss d h4
  · obtain ⟨M, ss, d, h1, h2, h3, h4, q⟩ := h
    obtain ⟨t, ht, hq⟩ := hb cdv A outer s H E hr
    refine ⟨t, ht, hq M H ss d h4 h1 h2 _ ⟨fun A' σ' H' ρ' r' e => ?_, fun v H' e k' h5 h6 => ?_, fun _ _ _ _ _ z => z.elim, fun _ _ _ _ _ z => z.elim⟩ [] _ H (start_sr h1 h2 h3)⟩
    · have e : d = .none := e
      subst e
      exact q .non H' .non r'.keep
    · have h6 : e = d := h6
      subst h6
      exact q v H' h5 k'
end
/-! ### heaps that keep all but some own objects -/
structure KeepX (T O : List Addr) (H H' : Hp) : Prop where
  at_ : ∀ b o, H b = some o → b ∉ T → b ∉ O → H' b = some o
  tab : ∀ P ∈ T, GxR.TabG H P → GxR.TabG H' P
theorem KeepX.of {T O : List Addr} {H H' : Hp} (k : Keep T H H') : KeepX T O H H' := ⟨fun b o e n _ => k.at_ b o e n, k.tab⟩
theorem KeepX.trans {T O : List Addr} {H H1 H2 : Hp} (a : KeepX T O H H1) (b : KeepX T O H1 H2) : KeepX T O H H2 := ⟨fun c o e n m => b.at_ c o (a.at_ c o e n m) n m, fun P hP t => b.tab P hP (a.tab P hP t)⟩
theorem KeepX.refl {T O : List Addr} {H : Hp} : KeepX T O H H := .of .refl
theorem KeepX.upd {T O : List Addr} {H : Hp} {a : Addr} {o : HO} (h : a ∈ O) (hT : a ∉ T) : KeepX T O H (L2.upd H a o) := ⟨fun b u e _ n => by
  rw [upd_ne (fun z => n (by rw [z]; exact h))]
  exact e, fun P hP ⟨ps, e, ok⟩ => ⟨ps, by rw [upd_ne (fun z => hT (by rw [← z]; exact hP))]; exact e, ok⟩⟩
theorem KeepX.tabs {T O : List Addr} {H H1 : Hp} (a : KeepX T O H H1) (t : Tabs T H) : Tabs T H1 := fun P hP => a.tab P hP (t P hP)
/-- own objects that the first heap does not know -/
theorem KeepX.keep {T O : List Addr} {H H1 H2 : Hp} (k : Keep T H H1) (x : KeepX T O H1 H2) (n : ∀ a ∈ O, H a = none) : Keep T H H2 := ⟨fun b o e hT => x.at_ b o (k.at_ b o e hT) hT (fun m => by rw [n b m] at e; cases e), fun P hP t => x.tab P hP (k.tab P hP t)⟩
theorem KeepX.hid {T O M : List Addr} {H H' : Hp} (x : KeepX T O H H') (s : ∀ a ∈ O, a ∈ M) : Keep T (DL.hid M H) (DL.hid M H') := ⟨fun b o e n => by
  obtain ⟨m, e⟩ := hid_inv e
  exact hid_of m (x.at_ b o e n fun q => m (s b q)), fun P hP tb => by
  obtain ⟨ps, e, ok⟩ := tb
  obtain ⟨m, e⟩ := hid_inv e
  obtain ⟨ps', e', ok'⟩ := x.tab P hP ⟨ps, e, ok⟩
  exact ⟨ps', hid_of m e', ok'⟩⟩
end DL
/-! an object that changes: its fields are data, own lists, or objects that stand still -/
namespace DL
open PySem PySem.Spec PyProof.Rows L2 DA
inductive MF where
  | d (x : PD) | l (ds : List PD) | o (C : Addr) (fs : List (Str × PD))
/-- the fields' values, and the addresses of the lists -/
inductive FsM (K : PySem.W.Frag) (Hm H : Hp) : List (Str × V) → List (Str × MF) → List Addr → Prop where
  | nil : FsM K Hm H [] [] []
  | d {f : Str} {v : V} {x : PD} {vs F as} : Dp K Hm v x → FsM K Hm H vs F as → FsM K Hm H ((f, v) :: vs) ((f, .d x) :: F) as
  | o {f : Str} {v : V} {C : Addr} {fs : List (Str × PD)} {vs F as} : ObD K Hm v C fs → FsM K Hm H vs F as → FsM K Hm H ((f, v) :: vs) ((f, .o C fs) :: F) as
  | l {f : Str} {a : Addr} {xs : List V} {ds : List PD} {vs F as} : H a = some (.lst xs) → DpAll K Hm xs ds → FsM K Hm H vs F as → FsM K Hm H ((f, .ref a) :: vs) ((f, .l ds) :: F) (a :: as)
def setF (f : Str) (x : MF) : List (Str × MF) → List (Str × MF)
  | [] => [(f, x)]
  | (g, y) :: r => if g = f then (g, x) :: r else (g, y) :: setF f x r
section
variable {K : PySem.W.Frag} {T M : List Addr} {H H' Hm Hm' : Hp} {p C : Addr}
theorem FsM.move (hm : ∀ v x, Dp K Hm v x → Dp K Hm' v x) (ho : ∀ v C fs, ObD K Hm v C fs → ObD K Hm' v C fs) (hms : ∀ vs xs, DpAll K Hm vs xs → DpAll K Hm' vs xs) {vs : List (Str × V)} {F : List (Str × MF)} {as : List Addr} (r : FsM K Hm H vs F as) (h : ∀ a ∈ as, H' a = H a) : FsM K Hm' H' vs F as := by
  induction r with
  | nil => exact .nil
  | d a _ ih => exact .d (hm _ _ a) (ih h)
  | o a _ ih => exact .o (ho _ _ _ a) (ih h)
  | l e a _ ih => exact .l (by rw [h _ List.mem_cons_self]; exact e) (hms _ _ a) (ih fun x hx => h x (List.mem_cons_of_mem _ hx))
theorem FsM.len : ∀ {vs : List (Str × V)} {F : List (Str × MF)} {as : List Addr}, FsM K Hm H vs F as → vs.length = F.length
  | _, _, _, .nil => rfl
  | _, _, _, .d _ r => by simp [r.len]
  | _, _, _, .o _ r => by simp [r.len]
  | _, _, _, .l _ _ r => by simp [r.len]
theorem FsM.lookD {f : Str} {x : PD} : ∀ {vs : List (Str × V)} {F : List (Str × MF)} {as : List Addr}, FsM K Hm H vs F as → F.lookup f = some (.d x) → ∃ v, vs.lookup f = some v ∧ Dp K Hm v x
  | _, _, _, .nil, h => by cases h
  | _, _, _, .d (f := g) a r, h => by
    rw [List.lookup_cons] at h ⊢
    cases e : f == g with
    | true => rw [e] at h; cases h; exact ⟨_, rfl, a⟩
    | false => rw [e] at h; exact r.lookD h
  | _, _, _, .o (f := g) a r, h => by
    rw [List.lookup_cons] at h ⊢
    cases e : f == g with
    | true => rw [e] at h; cases h
    | false => rw [e] at h; exact r.lookD h
  | _, _, _, .l (f := g) _ a r, h => by
    rw [List.lookup_cons] at h ⊢
    cases e : f == g with
    | true => rw [e] at h; cases h
    | false => rw [e] at h; exact r.lookD h
theorem FsM.lookO {f : Str} {D : Addr} {fs : List (Str × PD)} : ∀ {vs : List (Str × V)} {F : List (Str × MF)} {as : List Addr}, FsM K Hm H vs F as → F.lookup f = some (.o D fs) → ∃ v, vs.lookup f = some v ∧ ObD K Hm v D fs
  | _, _, _, .nil, h => by cases h
  | _, _, _, .d (f := g) a r, h => by
    rw [List.lookup_cons] at h ⊢
    cases e : f == g with
    | true => rw [e] at h; cases h
    | false => rw [e] at h; exact r.lookO h
  | _, _, _, .o (f := g) a r, h => by
    rw [List.lookup_cons] at h ⊢
    cases e : f == g with
    | true => rw [e] at h; cases h; exact ⟨_, rfl, a⟩
    | false => rw [e] at h; exact r.lookO h
  | _, _, _, .l (f := g) _ a r, h => by
    rw [List.lookup_cons] at h ⊢
    cases e : f == g with
    | true => rw [e] at h; cases h
    | false => rw [e] at h; exact r.lookO h
theorem FsM.lookL {f : Str} {ds : List PD} : ∀ {vs : List (Str × V)} {F : List (Str × MF)} {as : List Addr}, FsM K Hm H vs F as → F.lookup f = some (.l ds) → ∃ a xs, vs.lookup f = some (.ref a) ∧ a ∈ as ∧ H a = some (.lst xs) ∧ DpAll K Hm xs ds
  | _, _, _, .nil, h => by cases h
  | _, _, _, .d (f := g) a r, h => by
    rw [List.lookup_cons] at h ⊢
    cases e : f == g with
    | true => rw [e] at h; cases h
    | false => rw [e] at h; exact r.lookL h
  | _, _, _, .o (f := g) a r, h => by
    rw [List.lookup_cons] at h ⊢
    cases e : f == g with
    | true => rw [e] at h; cases h
    | false => rw [e] at h; exact r.lookL h
  | _, _, _, .l (f := g) q a r, h => by
    rw [List.lookup_cons] at h ⊢
    cases e : f == g with
    | true => rw [e] at h; cases h; exact ⟨_, _, rfl, List.mem_cons_self, q, a⟩
    | false =>
      rw [e] at h
      obtain ⟨b, xs, h1, h2, h3⟩ := r.lookL h
      exact ⟨b, xs, h1, List.mem_cons_of_mem _ h2, h3⟩
theorem FsM.lookN {f : Str} : ∀ {vs : List (Str × V)} {F : List (Str × MF)} {as : List Addr}, FsM K Hm H vs F as → F.lookup f = none → vs.lookup f = none
  | _, _, _, .nil, h => rfl
  | _, _, _, .d (f := g) a r, h => by
    rw [List.lookup_cons] at h ⊢
    cases e : f == g with
    | true => rw [e] at h; cases h
    | false => rw [e] at h; exact r.lookN h
  | _, _, _, .o (f := g) a r, h => by
    rw [List.lookup_cons] at h ⊢
    cases e : f == g with
    | true => rw [e] at h; cases h
    | false => rw [e] at h; exact r.lookN h
  | _, _, _, .l (f := g) _ a r, h => by
    rw [List.lookup_cons] at h ⊢
    cases e : f == g with
    | true => rw [e] at h; cases h
    | false => rw [e] at h; exact r.lookN h
/-- a data field is stored anew -/
theorem FsM.putD {f : Str} {v : V} {x y : PD} (hv : Dp K Hm v y) : ∀ {vs : List (Str × V)} {F : List (Str × MF)} {as : List Addr}, FsM K Hm H vs F as → F.lookup f = some (.d x) → FsM K Hm H (putF f v vs) (setF f (.d y) F) as
  | _, _, _, .nil, h => by cases h
  | _, _, _, .d (f := g) a r, h => by
    rw [List.lookup_cons] at h
    show FsM K Hm H (if g = f then _ else _) (if g = f then _ else _) _
    by_cases e : g = f
    · rw [if_pos e, if_pos e]; exact .d hv r
    · rw [if_neg e, if_neg e]
      rw [show (f == g) = false from beq_eq_false_iff_ne.mpr (Ne.symm e)] at h
      exact .d a (r.putD hv h)
  | _, _, _, .o (f := g) a r, h => by
    rw [List.lookup_cons] at h
    show FsM K Hm H (if g = f then _ else _) (if g = f then _ else _) _
    by_cases e : g = f
    · rw [show (f == g) = true from beq_iff_eq.mpr e.symm] at h; cases h
    · rw [if_neg e, if_neg e]
      rw [show (f == g) = false from beq_eq_false_iff_ne.mpr (Ne.symm e)] at h
      exact .o a (r.putD hv h)
  | _, _, _, .l (f := g) q a r, h => by
    rw [List.lookup_cons] at h
    show FsM K Hm H (if g = f then _ else _) (if g = f then _ else _) _
    by_cases e : g = f
    · rw [show (f == g) = true from beq_iff_eq.mpr e.symm] at h; cases h
    · rw [if_neg e, if_neg e]
      rw [show (f == g) = false from beq_eq_false_iff_ne.mpr (Ne.symm e)] at h
      exact .l q a (r.putD hv h)
/-- a list of a field changes -/
theorem FsM.poke {f : Str} {ds es : List PD} {ys : List V} (hy : DpAll K Hm ys es) : ∀ {vs : List (Str × V)} {F : List (Str × MF)} {as : List Addr} {a : Addr}, FsM K Hm H vs F as → as.Nodup → F.lookup f = some (.l ds) → vs.lookup f = some (.ref a) → FsM K Hm (upd H a (.lst ys)) vs (setF f (.l es) F) as
  | _, _, _, _, .nil, _, h, _ => by cases h
  | _, _, _, b, .d (f := g) a r, nd, h, h2 => by
    rw [List.lookup_cons] at h h2
    show FsM K Hm _ _ (if g = f then _ else _) _
    by_cases e : g = f
    · rw [show (f == g) = true from beq_iff_eq.mpr e.symm] at h; cases h
    · rw [if_neg e]
      rw [show (f == g) = false from beq_eq_false_iff_ne.mpr (Ne.symm e)] at h h2
      exact .d a (r.poke hy nd h h2)
  | _, _, _, b, .o (f := g) a r, nd, h, h2 => by
    rw [List.lookup_cons] at h h2
    show FsM K Hm _ _ (if g = f then _ else _) _
    by_cases e : g = f
    · rw [show (f == g) = true from beq_iff_eq.mpr e.symm] at h; cases h
    · rw [if_neg e]
      rw [show (f == g) = false from beq_eq_false_iff_ne.mpr (Ne.symm e)] at h h2
      exact .o a (r.poke hy nd h h2)
  | _, _, _, b, .l (f := g) (a := a0) q a r, nd, h, h2 => by
    rw [List.lookup_cons] at h h2
    show FsM K Hm _ _ (if g = f then _ else _) _
    have nd' := List.nodup_cons.mp nd
    by_cases e : g = f
    · rw [show (f == g) = true from beq_iff_eq.mpr e.symm] at h h2
      cases h2
      rw [if_pos e]
      exact .l upd_same hy (r.move (fun _ _ z => z) (fun _ _ _ z => z) (fun _ _ z => z) fun x hx => upd_ne fun z => nd'.1 (by rw [← z]; exact hx))
    · rw [if_neg e]
      rw [show (f == g) = false from beq_eq_false_iff_ne.mpr (Ne.symm e)] at h h2
      have h : List.lookup f _ = some (MF.l ds) := h
      have h2 : List.lookup f _ = some (V.ref b) := h2
      obtain ⟨c, xs, q1, q2, q3, q4⟩ := r.lookL h
      have e3 : V.ref b = V.ref c := Option.some.inj (h2.symm.trans q1)
      cases e3
      exact .l (by rw [upd_ne (fun z => nd'.1 (by rw [z]; exact q2))]; exact q) a (r.poke hy nd'.2 h h2)
/-- the object at p, its own addresses O -/
structure OA (K : PySem.W.Frag) (M : List Addr) (H : Hp) (p C : Addr) (F : List (Str × MF)) (O : List Addr) : Prop where
  ex : ∃ dx vs as, H p = some (.ins C dx vs) ∧ FsM K (hid M H) H vs F as ∧ O = p :: as ∧ vs.length < 1000
  nd : O.Nodup
  sub : ∀ a ∈ O, a ∈ M
theorem FsM.addr {K : PySem.W.Frag} {Hm H : Hp} : ∀ {vs : List (Str × V)} {F : List (Str × MF)} {as : List Addr}, FsM K Hm H vs F as → ∀ a ∈ as, ∃ xs, H a = some (.lst xs)
  | _, _, _, .nil, a, h => by cases h
  | _, _, _, .d _ r, a, h => r.addr a h
  | _, _, _, .o _ r, a, h => r.addr a h
  | _, _, _, .l q _ r, a, h => by
    rcases List.mem_cons.mp h with z | h
    · exact ⟨_, by rw [z]; exact q⟩
    · exact r.addr a h
theorem OA.none {F : List (Str × MF)} {O : List Addr} (o : OA K M H p C F O) : ∀ a ∈ O, ∃ x, H a = some x ∧ ∀ ps, x ≠ .tbl ps := by
  obtain ⟨dx, vs, as, h1, h2, rfl, _⟩ := o.ex
  intro a ha
  rcases List.mem_cons.mp ha with rfl | ha
  · exact ⟨_, h1, fun ps z => by cases z⟩
  · obtain ⟨xs, e⟩ := h2.addr a ha
    exact ⟨_, e, fun ps z => by cases z⟩
theorem OA.nT {F : List (Str × MF)} {O : List Addr} (o : OA K M H p C F O) (t : Tabs T H) : ∀ a ∈ O, a ∉ T := fun a ha => by
  obtain ⟨x, e, n⟩ := o.none a ha
  exact nT_of t e n
theorem OA.move {F : List (Str × MF)} {O : List Addr} (o : OA K M H p C F O) (t : Tabs T H) (hM : ∀ a ∈ M, a ∉ T) (k : Keep T H H') : OA K M H' p C F O := by
  obtain ⟨dx, vs, as, h1, h2, rfl, h3⟩ := id o.ex
  have nT := o.nT t
  have tm : Tabs T (hid M H) := tabs_hid t hM
  have km : Keep T (hid M H) (hid M H') := hid_keep k
  refine ⟨⟨dx, vs, as, k.at_ _ _ h1 (nT p List.mem_cons_self), h2.move (fun v x z => dp_keep km tm z) (fun v C fs z => ObD.keep km tm z) (fun vs xs z => dps_keep km tm z) (fun a ha => ?_), rfl, h3⟩, o.nd, o.sub⟩
  obtain ⟨x, e, n⟩ := o.none a (List.mem_cons_of_mem _ ha)
  rw [e]
  exact k.at_ _ _ e (nT a (List.mem_cons_of_mem _ ha))
end

/-! ### statements that change the object -/
structure OC where
  K : PySem.W.Frag
  T : List Addr
  M : List Addr
  p : Addr
  C : Addr
  O : List Addr
  Hs : Hp
structure SRM (k : OC) (σ : L2.St) (H : Hp) (ρ : DEnv) (F : List (Str × MF)) : Prop where
  sr : SR ⟨k.K, k.T, k.M, H⟩ [] σ H ρ
  oa : OA k.K k.M H k.p k.C F k.O
  kx : KeepX k.T k.O k.Hs H
section
variable {k : OC} {σ : L2.St} {H H' : Hp} {ρ : DEnv} {F : List (Str × MF)}
theorem hid_nil' {H : Hp} : hid [] H = H := hid_nil
/-- heaps move on, the object stays -/
theorem SRM.move (r : SRM k σ H ρ F) {σ' : L2.St} {ρ' : DEnv} (kp : Keep k.T H H') (s : SR ⟨k.K, k.T, k.M, H⟩ [] σ' H' ρ') : SRM k σ' H' ρ' F := by
  have u := s.up
  have e : DC.up ⟨k.K, k.T, k.M, H⟩ [] H' = ⟨k.K, k.T, k.M, H'⟩ := by unfold DC.up; rw [hid_nil]
  rw [e] at u
  exact ⟨u, r.oa.move r.sr.tab (fun a h => (r.sr.msk a h).1) kp, r.kx.trans (.of kp)⟩
/-- an own object changes -/
theorem SRM.poke (r : SRM k σ H ρ F) {a : Addr} {o : HO} {F' : List (Str × MF)} (ha : a ∈ k.O) (hn : ∀ ps, o ≠ .tbl ps) (oa : OA k.K k.M (upd H a o) k.p k.C F' k.O) : SRM k σ (upd H a o) ρ F' := by
  have nT : a ∉ k.T := r.oa.nT r.sr.tab a ha
  have aM : a ∈ k.M := r.oa.sub a ha
  have hh : hid (k.M ++ []) (upd H a o) = hid (k.M ++ []) H := hid_in (by rw [List.append_nil]; exact aM)
  have kt : Tabs k.T (upd H a o) := fun P hP => by
    obtain ⟨ps, e, ok⟩ := r.sr.tab P hP
    exact ⟨ps, by rw [upd_ne (fun z => nT (by rw [← z]; exact hP))]; exact e, ok⟩
  refine ⟨⟨kt, .refl, fun b hb => ⟨(r.sr.msk b hb).1, fun z => ?_⟩, fun b hb => (nomatch hb), r.sr.len, fun i s e => ?_, r.sr.inj⟩, oa, r.kx.trans (.upd ha nT)⟩
  · have z : upd H a o b = none := z
    by_cases q : b = a
    · rw [q, upd_same] at z; cases z
    · rw [upd_ne q] at z
      exact (r.sr.msk b hb).2 z
  · obtain ⟨ov, h1, h2⟩ := r.sr.rel i s e
    refine ⟨ov, h1, ?_⟩
    show SlotOk k.K (hid (k.M ++ []) (upd H a o)) (upd H a o) [] ov s
    rw [hh]
    cases s with
    | own ds =>
      cases ov with
      | none => exact h2
      | some v =>
        obtain ⟨b, xs, q1, q2, _⟩ := h2
        cases q2
    | non => cases ov <;> trivial
    | dat d => cases ov <;> exact h2
    | ob C fs => cases ov <;> exact h2
    | raw w => cases ov <;> exact h2
end
structure MEnds where
  nx : DEnv → List (Str × MF) → Prop
  rt : PD → List (Str × MF) → Prop
structure LeM (k : OC) (D : MEnds) (E : Ends) : Prop where
  nx : ∀ σ H ρ F, SRM k σ H ρ F → D.nx ρ F → E.nx σ H
  rt : ∀ v H d F, Dp k.K (hid k.M H) v d → OA k.K k.M H k.p k.C F k.O → KeepX k.T k.O k.Hs H → D.rt d F → E.rt v H
def SM (k : OC) (t : TS) (D : MEnds) (ρ : DEnv) (F : List (Str × MF)) : Prop := ∀ E, LeM k D E → ∀ σ H, SRM k σ H ρ F → t E σ H
/-- an expression, while the object stands so -/
structure TB (T M : List Addr) (H : Hp) : Prop where
  t : Tabs T H
  m : ∀ a ∈ M, a ∉ T
def EM (k : OC) (te : TE) (ρ : DEnv) (F : List (Str × MF)) (d : PD) : Prop := ∀ H, OA k.K k.M H k.p k.C F k.O → TB k.T k.M H → ED ⟨k.K, k.T, k.M, H⟩ te ρ d
def TM (k : OC) (tt : TT) (ρ : DEnv) (F : List (Str × MF)) (b : Bool) : Prop := ∀ H, OA k.K k.M H k.p k.C F k.O → TB k.T k.M H → ET ⟨k.K, k.T, k.M, H⟩ tt ρ b
section
variable {k : OC} {ρ : DEnv} {F : List (Str × MF)} {D : MEnds} {t u : TS} {te tk : TE} {d : PD}
theorem SRM.tb {σ : L2.St} {H : Hp} (r : SRM k σ H ρ F) : TB k.T k.M H := ⟨r.sr.tab, fun a h => (r.sr.msk a h).1⟩
theorem EM.run (h : EM k te ρ F d) {σ : L2.St} {H : Hp} (r : SRM k σ H ρ F) {Q : VK} (q : ∀ v H', SRM k σ H' ρ F → Keep k.T H H' → Dp k.K (hid k.M H') v d → Q v H') : te σ H Q :=
  h H r.oa r.tb [] σ H r.sr Q fun v H' k1 h1 => q v H' (r.move k1 (r.sr.move k1)) k1 (by rwa [List.append_nil] at h1)
theorem TM.run {tt : TT} {b : Bool} (h : TM k tt ρ F b) {σ : L2.St} {H : Hp} (r : SRM k σ H ρ F) {Q : Bool → Hp → Prop} (q : ∀ H', SRM k σ H' ρ F → Q b H') : tt σ H Q :=
  h H r.oa r.tb [] σ H r.sr Q fun H' k1 => q H' (r.move k1 (r.sr.move k1))
theorem SRM.setD {σ : L2.St} {H : Hp} (r : SRM k σ H ρ F) (i : Nat) {v : V} (h : Dp k.K (hid k.M H) v d) : SRM k (σ.set i (some v)) H (ρ.set i (.dat d)) F := ⟨r.sr.setD i (by rw [List.append_nil]; exact h), r.oa, r.kx⟩
theorem sm_next (h : D.nx ρ F) : SM k tNext D ρ F := fun E L σ H r => L.nx σ H ρ F r h
theorem sm_seq (h : SM k t { D with nx := fun ρ' F' => SM k u D ρ' F' } ρ F) : SM k (tSeq t u) D ρ F := fun E L σ H r => h { E with nx := u E } ⟨fun σ' H' ρ' F' r' q => q E L σ' H' r', L.rt⟩ σ H r
theorem sm_if {tt : TT} {b : Bool} (h : TM k tt ρ F b) (h1 : b = true → SM k t D ρ F) (h2 : b = false → SM k u D ρ F) : SM k (tIfS tt t u) D ρ F := fun E L σ H r => h.run r fun H1 r1 => by
  cases b with
  | true => exact h1 rfl E L σ H1 r1
  | false => exact h2 rfl E L σ H1 r1
theorem sm_when {tt : TT} {b : Bool} (h : TM k tt ρ F b) (h1 : b = true → SM k t D ρ F) (h2 : b = false → D.nx ρ F) : SM k (tIfS tt t tNext) D ρ F := sm_if h h1 fun e => sm_next (h2 e)
theorem sm_ret (h : EM k te ρ F d) (q : D.rt d F) : SM k (tRet te) D ρ F := fun E L σ H r => h.run r fun v H1 r1 _ h1 => L.rt v H1 d F h1 r1.oa r1.kx q
theorem sm_retN (q : D.rt .none F) : SM k tRetN D ρ F := fun E L σ H r => L.rt .non H .none F .non r.oa r.kx q
theorem sm_set {i : Nat} (h : EM k te ρ F d) (q : D.nx (ρ.set i (.dat d)) F) : SM k (tAsg te (gName i)) D ρ F := fun E L σ H r => h.run r fun v H1 r1 _ h1 => L.nx _ _ _ _ (r1.setD i h1) q
theorem sm_drop (h : EM k te ρ F d) (q : D.nx ρ F) : SM k (tDrop te) D ρ F := fun E L σ H r => h.run r fun v H1 r1 _ h1 => L.nx _ _ _ _ r1 q
theorem sm_unp2 {i j : Nat} {a b : PD} (h : EM k te ρ F (.tuple [a, b])) (q : D.nx ((ρ.set i (.dat a)).set j (.dat b)) F) : SM k (tAsg te (gTup k.K 2 (gCons (gName i) (gCons (gName j) gNil)))) D ρ F := fun E L σ H r => h.run r fun v H1 r1 _ h1 => by
  obtain ⟨p, xs, rfl, h2, h3⟩ := dp_tup h1
  cases h3 with
  | cons a1 h3 =>
    cases h3 with
    | cons a2 h3 =>
      cases h3
      exact ⟨p, _, rfl, sqt_same hid_same h2, rfl, _, _, rfl, _, _, rfl, rfl, L.nx _ _ _ _ ((r1.setD i a1).setD j a2) q⟩
/-- the object itself in a slot -/
def isSelf (k : OC) (ρ : DEnv) (i : Nat) : Prop := ρ[i]? = some (.raw (.ref k.p))
theorem self_at {σ : L2.St} {H : Hp} (r : SRM k σ H ρ F) {i : Nat} (h : isSelf k ρ i) : σ[i]? = some (some (.ref k.p)) := by
  obtain ⟨ov, h1, h2⟩ := r.sr.rel i _ h
  cases ov with
  | none => exact h2.elim
  | some v =>
    have e : v = .ref k.p := h2
    rw [e] at h1
    exact h1
/-- self.f as data -/
theorem em_fld {i : Nat} {f : Str} (hs : isSelf k ρ i) (cl : Cls k.K k.C) (na : NoAttr k.K k.C f) (hl : F.lookup f = some (.d d)) : EM k (tFld k.K (tVar i) f) ρ F d := fun H o t => by
  obtain ⟨dx, vs, as, h1, h2, h3, h4⟩ := o.ex
  obtain ⟨v, e1, e2⟩ := h2.lookD hl
  exact ed_mfld hs h1 cl na e1 e2
/-- self.f as a list to be read -/
theorem el_fld {i : Nat} {f : Str} {ds : List PD} (hs : isSelf k ρ i) (cl : Cls k.K k.C) (na : NoAttr k.K k.C f) (hl : F.lookup f = some (.l ds)) {H : Hp} (o : OA k.K k.M H k.p k.C F k.O) : EL ⟨k.K, k.T, k.M, H⟩ (tFld k.K (tVar i) f) ρ ds := by
  obtain ⟨dx, vs, as, h1, h2, h3, h4⟩ := o.ex
  obtain ⟨a, xs, e1, e2, e3, e4⟩ := h2.lookL hl
  exact el_mfld hs h1 cl na e1 e3 e4
/-- self.f as an object -/
theorem eg_fld {i : Nat} {f : Str} {C2 : Addr} {fs : List (Str × PD)} (hs : isSelf k ρ i) (cl : Cls k.K k.C) (na : NoAttr k.K k.C f) (hl : F.lookup f = some (.o C2 fs)) {H : Hp} (o : OA k.K k.M H k.p k.C F k.O) : EG ⟨k.K, k.T, k.M, H⟩ (tFld k.K (tVar i) f) ρ (.ob C2 fs) := fun A σ H' r Q q => by
  obtain ⟨dx, vs, as, h1, h2, h3, h4⟩ := o.ex
  obtain ⟨v, e1, e2⟩ := h2.lookO hl
  obtain ⟨ov, g1, g2⟩ := r.rel i _ hs
  cases ov with
  | none => exact False.elim g2
  | some w =>
    have e : w = .ref k.p := g2
    subst e
    exact ⟨_, g1, k.p, k.C, dx, vs, v, rfl, fld_at r h1, cl, na, e1, q v H' .refl (ObD.keep (base_dp r) (base_tab r) e2)⟩
theorem setF_len {f : Str} {x y : MF} : ∀ {F : List (Str × MF)}, F.lookup f = some y → (setF f x F).length = F.length
  | [], h => by cases h
  | (g, z) :: r, h => by
    rw [List.lookup_cons] at h
    show (if g = f then _ else _ : List (Str × MF)).length = _
    by_cases e : g = f
    · rw [if_pos e]; rfl
    · rw [if_neg e]
      rw [show (f == g) = false from beq_eq_false_iff_ne.mpr (Ne.symm e)] at h
      show (setF f x r).length + 1 = r.length + 1
      rw [setF_len h]
/-- self.f = e, data -/
theorem SRM.putD {σ : L2.St} {H : Hp} (r : SRM k σ H ρ F) {f : Str} {x y : PD} {v : V} (hl : F.lookup f = some (.d x)) (h : Dp k.K (hid k.M H) v y) {dx : Addr} {vs : List (Str × V)} (h1 : H k.p = some (.ins k.C dx vs)) : SRM k σ (upd H k.p (.ins k.C dx (putF f v vs))) ρ (setF f (.d y) F) := by
  obtain ⟨dx', vs', as, g1, g2, g3, g4⟩ := r.oa.ex
  rw [h1] at g1
  cases g1
  have pM : k.p ∈ k.M := r.oa.sub _ (by rw [g3]; exact List.mem_cons_self)
  have pO : k.p ∈ k.O := by rw [g3]; exact List.mem_cons_self
  have nd : k.p ∉ as := by
    have := r.oa.nd
    rw [g3] at this
    exact (List.nodup_cons.mp this).1
  have q := g2.putD h hl
  refine r.poke pO (fun ps z => by cases z) ⟨⟨dx, putF f v vs, as, upd_same, ?_, g3, ?_⟩, r.oa.nd, r.oa.sub⟩
  · rw [hid_in pM]
    exact q.move (fun _ _ z => z) (fun _ _ _ z => z) (fun _ _ z => z) fun a ha => upd_ne fun z => nd (by rw [← z]; exact ha)
  · rw [q.len, setF_len hl, ← g2.len]
    exact g4
theorem sm_fld {i : Nat} {f : Str} {x y : PD} (h : EM k te ρ F y) (hs : isSelf k ρ i) (cl : Cls k.K k.C) (na : NoAttr k.K k.C f) (hl : F.lookup f = some (.d x)) (q : D.nx ρ (setF f (.d y) F)) : SM k (sFld k.K (tVar i) te f) D ρ F := fun E L σ H r => h.run r fun v H1 r1 _ h1 => by
  obtain ⟨dx, vs, as, g1, g2, g3, g4⟩ := r1.oa.ex
  exact ⟨_, self_at r1 hs, k.p, k.C, dx, vs, rfl, g1, cl, na, g4, L.nx _ _ _ _ (r1.putD hl h1 g1) q⟩
theorem sm_fldaug {i : Nat} {f : Str} {m n : Int} (hs : isSelf k ρ i) (cl : Cls k.K k.C) (na : NoAttr k.K k.C f) (hl : F.lookup f = some (.d (.int m))) (h : EM k te ρ F (.int n)) (q : D.nx ρ (setF f (.d (.int (m + n))) F)) : SM k (sFldAug k.K (tVar i) te rAdd f) D ρ F := fun E L σ H r => by
  obtain ⟨dx, vs, as, g1, g2, g3, g4⟩ := r.oa.ex
  obtain ⟨v, e1, e2⟩ := g2.lookD hl
  refine ⟨_, self_at r hs, k.p, k.C, dx, vs, v, rfl, g1, cl, na, e1, h.run r fun w H1 r1 k1 h1 => ⟨m, n, dp_int e2, dp_int h1, ?_⟩⟩
  obtain ⟨dx', vs', as', f1, f2, f3, f4⟩ := r1.oa.ex
  exact ⟨dx', vs', f1, f4, L.nx _ _ _ _ (r1.putD hl (.int _) f1) q⟩
/-- self.f[j] = e -/
theorem SRM.putL {σ : L2.St} {H : Hp} (r : SRM k σ H ρ F) {f : Str} {ds es : List PD} {ys : List V} {dx a : Addr} {vs : List (Str × V)} (h1 : H k.p = some (.ins k.C dx vs)) (hl : F.lookup f = some (.l ds)) (ha : vs.lookup f = some (.ref a)) (hy : DpAll k.K (hid k.M H) ys es) : SRM k σ (upd H a (.lst ys)) ρ (setF f (.l es) F) := by
  obtain ⟨dx', vs', as, g1, g2, g3, g4⟩ := r.oa.ex
  rw [h1] at g1
  cases g1
  obtain ⟨b, xs, e1, e2, e3, e4⟩ := g2.lookL hl
  rw [ha] at e1
  cases e1
  have aO : a ∈ k.O := by rw [g3]; exact List.mem_cons_of_mem _ e2
  have nd := r.oa.nd
  rw [g3] at nd
  have nd' := List.nodup_cons.mp nd
  refine r.poke aO (fun ps z => by cases z) ⟨⟨dx, vs, as, ?_, ?_, g3, g4⟩, r.oa.nd, r.oa.sub⟩
  · rw [upd_ne (fun z => nd'.1 (by rw [z]; exact e2))]
    exact h1
  · rw [hid_in (r.oa.sub a aO)]
    exact g2.poke hy nd'.2 hl ha
theorem sm_item {i : Nat} {f : Str} {ds : List PD} {n : Int} {j : Nat} {y : PD} (h : EM k te ρ F y) (hk : EM k tk ρ F (.int n)) (hs : isSelf k ρ i) (cl : Cls k.K k.C) (na : NoAttr k.K k.C f) (hl : F.lookup f = some (.l ds)) (hj : ixN ds.length n = some j) (q : D.nx ρ (setF f (.l (ds.set j y)) F)) : SM k (tAsg te (gSub (tFld k.K (tVar i) f) tk rSetL)) D ρ F := fun E L σ H r => h.run r fun v H1 r1 k1 h1 => by
  obtain ⟨dx, vs, as, g1, g2, g3, g4⟩ := r1.oa.ex
  obtain ⟨a, xs, e1, e2, e3, e4⟩ := g2.lookL hl
  refine ⟨_, self_at r1 hs, k.p, k.C, dx, vs, _, rfl, g1, cl, na, e1, hk.run r1 fun w H2 r2 k2 h2 => ?_⟩
  have tm := tabs_hid r1.sr.tab fun a h => (r1.sr.msk a h).1
  have aT : a ∉ k.T := r1.oa.nT r1.sr.tab a (by rw [g3]; exact List.mem_cons_of_mem _ e2)
  have pT : k.p ∉ k.T := r1.oa.nT r1.sr.tab k.p (by rw [g3]; exact List.mem_cons_self)
  have e5 := dps_keep (hid_keep k2) tm e4
  exact ⟨a, xs, n, j, rfl, dp_int h2, k2.at_ _ _ e3 aT, by rw [dps_len e4]; exact hj, L.nx _ _ _ _ (r2.putL (k2.at_ _ _ g1 pT) hl e1 (dps_set j e5 (dp_keep (hid_keep k2) tm h1))) q⟩
/-- self.f[j] += e, ints -/
theorem sm_itemaug {i : Nat} {f : Str} {ds : List PD} {n : Nat} {a b : Int} {g : Int → Int → Int} (hk : EM k tk ρ F (.int (n : Int))) (h : EM k te ρ F (.int b)) (hs : isSelf k ρ i) (cl : Cls k.K k.C) (na : NoAttr k.K k.C f) (hl : F.lookup f = some (.l ds)) (hz : ds.length ≤ 1000) (hj : ds[n]? = some (.int a)) (q : D.nx ρ (setF f (.l (ds.set n (.int (g a b)))) F)) : SM k (tAugS (tFld k.K (tVar i) f) tk te (getL k.K) (ipI g) rSetL) D ρ F := fun E L σ H r => by
  obtain ⟨dx, vs, as, g1, g2, g3, g4⟩ := r.oa.ex
  obtain ⟨l, xs, e1, e2, e3, e4⟩ := g2.lookL hl
  have tm := tabs_hid r.sr.tab fun a h => (r.sr.msk a h).1
  have aT : l ∉ k.T := r.oa.nT r.sr.tab l (by rw [g3]; exact List.mem_cons_of_mem _ e2)
  have pT : k.p ∉ k.T := r.oa.nT r.sr.tab k.p (by rw [g3]; exact List.mem_cons_self)
  have hn : n < ds.length := (List.getElem?_eq_some_iff.mp hj).1
  refine ⟨_, self_at r hs, k.p, k.C, dx, vs, _, rfl, g1, cl, na, e1, hk.run r fun w H1 r1 k1 h1 => ?_⟩
  have e5 := dps_keep (hid_keep k1) tm e4
  obtain ⟨z, z1, z2⟩ := dps_get e5 hj
  have ez := dp_int z2
  subst ez
  refine ⟨l, xs, (n : Int), _, rfl, dp_int h1, by omega, by omega, SqL.of (k1.at_ _ _ e3 aT), by rw [Int.toNat_natCast]; exact z1, h.run r1 fun u H2 r2 k2 h2 => ⟨a, b, rfl, dp_int h2, ?_⟩⟩
  have tm1 := tabs_hid r1.sr.tab fun a h => (r1.sr.msk a h).1
  have k12 := k1.trans k2
  refine ⟨l, xs, (n : Int), n, rfl, dp_int h1, k12.at_ _ _ e3 aT, ?_, L.nx _ _ _ _ (r2.putL (k12.at_ _ _ g1 pT) hl e1 (dps_set n (dps_keep (hid_keep k2) tm1 e5) (.int _))) q⟩
  unfold ixN
  have := dps_len e4
  rw [if_pos (by omega), if_pos (by omega)]
  simp
end
end DL
/-! methods of an object that changes -/
namespace DL
open PySem PySem.Spec PyProof.Rows L2 DA
abbrev RM := List (Str × MF) → List DS → PD → List (Str × MF) → Prop
def spM (K : PySem.W.Frag) (T : List Addr) (C : Addr) (R : RM) : Sp := fun vs H Q _ => ∃ M p O F ss d F', (∀ a ∈ M, a ∉ T ∧ H a ≠ none) ∧ Tabs T H ∧ OA K M H p C F O ∧ ArgsOk K (hid M H) vs (.raw (.ref p) :: ss) ∧ R F ss d F' ∧
  ∀ v H', Dp K (hid M H') v d → OA K M H' p C F' O → KeepX T O H H' → Q v H'
section
variable {P : Program} {w : World} {K : PySem.W.Frag} {mg : Str → Option Value} {base : Heap}
theorem fn_sm {T : List Addr} {C : Addr} {x qual : Str} {st : Stmt} {f : Addr} {fd : FuncData} {N ps : List Str} {k : Nat} {R : RM} (F : Fun K x qual st f fd) (S : FnScope N ps (defScope st)) (hl : ∀ F ss d F', R F ss d F' → ss.length + 1 = ps.length)
    (hb : ∀ (cdv : Value) (A : Around) (outer : List Env) (s : Shared) (H : Hp) (E : XK), Room k (A.deeper (envOfC qual (defScope st) s.heap.objs.size f cdv)) →
      ∃ t, PSs (cxOf CX0 P w K mg base N qual (defScope st) f cdv A outer s H E).nox (defBody st) t ∧ ∀ M p O H0 F ss d F', R F ss d F' → SM ⟨K, T, M, p, C, O, H0⟩ t ⟨fun _ F2 => d = .none ∧ F2 = F', fun e F2 => e = d ∧ F2 = F'⟩ (startD N (.raw (.ref p) :: ss)) F) : FnOk P w K mg base CX0 (k + 1) f fd ps (spM K T C R) := by
  refine F.ok S (fun vs H Q E h => ?_) (fun cdv A outer s H vs Q E hr h => ?_)
  · obtain ⟨M, p, O, F, ss, d, F', _, _, _, h3, h4, _⟩ := h
    rw [h3.len]
    exact hl F ss d F' h4
  · obtain ⟨M, p, O, F, ss, d, F', h1, h2, ho, h3, h4, q⟩ := h
    obtain ⟨t, ht, hq⟩ := hb cdv A outer s H E hr
    refine ⟨t, ht, hq M p O H F ss d F' h4 _ ⟨fun σ' H' ρ' F2 r' e => ?_, fun v H' e F2 h5 h6 h7 h8 => ?_⟩ _ H ⟨start_sr h1 h2 h3, ho, .refl⟩⟩
    · obtain ⟨e, rfl⟩ := e
      subst e
      exact q .non H' .non r'.oa r'.kx
    · obtain ⟨rfl, rfl⟩ := h8
      exact q v H' h5 h6 h7
end
section
variable {k : OC} {ρ : DEnv} {F F' : List (Str × MF)} {D : MEnds} {t u : TS} {te tk : TE} {d : PD}
/-- the object has changed by a call -/
theorem SRM.called {σ : L2.St} {H H' : Hp} (r : SRM k σ H ρ F) (x : KeepX k.T k.O H H') (o : OA k.K k.M H' k.p k.C F' k.O) : SRM k σ H' ρ F' := by
  have tm : Tabs k.T (hid k.M H) := tabs_hid r.sr.tab fun a h => (r.sr.msk a h).1
  have kh : Keep k.T (hid k.M H) (hid k.M H') := x.hid r.oa.sub
  refine ⟨⟨x.tabs r.sr.tab, .refl, fun b hb => ⟨(r.sr.msk b hb).1, fun z => ?_⟩, fun b hb => (nomatch hb), r.sr.len, fun i s e => ?_, r.sr.inj⟩, o, r.kx.trans x⟩
  · have z : H' b = none := z
    by_cases m : b ∈ k.O
    · obtain ⟨y, e, _⟩ := o.none b m
      rw [e] at z; cases z
    · cases e : H b with
      | none => exact (r.sr.msk b hb).2 e
      | some y =>
        rw [x.at_ b y e (r.sr.msk b hb).1 m] at z
        cases z
  · obtain ⟨ov, h1, h2⟩ := r.sr.rel i s e
    refine ⟨ov, h1, ?_⟩
    have h2 : SlotOk k.K (hid (k.M ++ []) H) H [] ov s := h2
    show SlotOk k.K (hid (k.M ++ []) H') H' [] ov s
    rw [List.append_nil] at h2 ⊢
    cases s with
    | own ds =>
      cases ov with
      | none => exact h2
      | some v =>
        obtain ⟨b, xs, q1, q2, _⟩ := h2
        cases q2
    | non => cases ov <;> trivial
    | dat d =>
      cases ov with
      | none => exact h2
      | some v => exact dp_keep kh tm h2
    | ob C fs =>
      cases ov with
      | none => exact h2
      | some v => exact ObD.keep kh tm h2
    | raw w => cases ov <;> exact h2
def AM (k : OC) (ta : TA) (ρ : DEnv) (F : List (Str × MF)) (ss : List DS) : Prop := ∀ H, OA k.K k.M H k.p k.C F k.O → TB k.T k.M H → EA ⟨k.K, k.T, k.M, H⟩ ta ρ ss
theorem am_nil : AM k tNil ρ F [] := fun H o t => ea_nil
theorem am_d {tr : TA} {ss : List DS} (h : EM k te ρ F d) (hr : AM k tr ρ F ss) : AM k (tCons te tr) ρ F (.dat d :: ss) := fun H o t => ea_d (h H o t) (hr H o t)
theorem em_var {i : Nat} (h : ρ[i]? = some (.dat d)) : EM k (tVar i) ρ F d := fun H o t => ed_var h
theorem meth_run {σ : L2.St} {H : Hp} (r : SRM k σ H ρ F) {i : Nat} {m : Str} {R : RM} {ta : TA} {ss : List DS} {E : XK} (hs : isSelf k ρ i) (hm : F.lookup m = none) (ha : AM k ta ρ F ss) (hR : R F ss d F') {Q : VK} (q : ∀ v H', SRM k σ H' ρ F' → Dp k.K (hid k.M H') v d → Q v H') : tMeth k.C m (spM k.K k.T k.C R) [] E (tVar i) ta σ H Q := by
  obtain ⟨dx, vs, as, g1, g2, g3, g4⟩ := r.oa.ex
  refine ⟨_, self_at r hs, k.p, dx, vs, rfl, g1, g2.lookN hm, ha H r.oa r.tb [] σ H r.sr _ fun ws H1 k1 h1 => ?_⟩
  have r1 := r.move k1 (r.sr.move k1)
  rw [show (⟨k.K, k.T, k.M, H⟩ : DC).M ++ [] = k.M from List.append_nil _] at h1
  refine ⟨k.M, k.p, k.O, F, ss, d, F', r1.sr.msk, r1.sr.tab, r1.oa, ?_, hR, fun v H2 h2 o2 x2 => q v H2 (r1.called x2 o2) h2⟩
  rw [List.append_nil]
  exact .cons (show ArgOk k.K (hid k.M H1) (.ref k.p) (.raw (.ref k.p)) from rfl) h1
theorem sm_setM {i j : Nat} {m : Str} {R : RM} {ta : TA} {ss : List DS} {E : XK} (hs : isSelf k ρ i) (hm : F.lookup m = none) (ha : AM k ta ρ F ss) (hR : R F ss d F') (q : D.nx (ρ.set j (.dat d)) F') : SM k (tAsg (tMeth k.C m (spM k.K k.T k.C R) [] E (tVar i) ta) (gName j)) D ρ F := fun _ L σ H r =>
  meth_run r hs hm ha hR fun v H1 r1 h1 => L.nx _ _ _ _ (r1.setD j h1) q
theorem sm_dropM {i : Nat} {m : Str} {R : RM} {ta : TA} {ss : List DS} {E : XK} (hs : isSelf k ρ i) (hm : F.lookup m = none) (ha : AM k ta ρ F ss) (hR : R F ss d F') (q : D.nx ρ F') : SM k (tDrop (tMeth k.C m (spM k.K k.T k.C R) [] E (tVar i) ta)) D ρ F := fun _ L σ H r =>
  meth_run r hs hm ha hR fun v H1 r1 h1 => L.nx _ _ _ _ r1 q
/-- x = None if t else self.m(..) -/
theorem sm_setIfM {i j : Nat} {m : Str} {R : RM} {ta : TA} {tt : TT} {ss : List DS} {E : XK} {b : Bool} (ht : TM k tt ρ F b) (h1 : b = true → EM k te ρ F d ∧ D.nx (ρ.set j (.dat d)) F) (hs : isSelf k ρ i) (hm : F.lookup m = none) (ha : b = false → AM k ta ρ F ss) (hR : b = false → R F ss d F') (q : b = false → D.nx (ρ.set j (.dat d)) F') : SM k (tAsg (tIf tt te (tMeth k.C m (spM k.K k.T k.C R) [] E (tVar i) ta)) (gName j)) D ρ F := fun _ L σ H r =>
  ht.run r fun H1 r1 => by
    cases b with
    | true => exact (h1 rfl).1.run r1 fun v H2 r2 _ h2 => L.nx _ _ _ _ (r2.setD j h2) (h1 rfl).2
    | false => exact meth_run r1 hs hm (ha rfl) (hR rfl) fun v H2 r2 h2 => L.nx _ _ _ _ (r2.setD j h2) (q rfl)
/-- self.f, x = e -/
theorem sm_fldName {i j : Nat} {f : Str} {x a b : PD} (h : EM k te ρ F (.tuple [a, b])) (hs : isSelf k ρ i) (cl : Cls k.K k.C) (na : NoAttr k.K k.C f) (hl : F.lookup f = some (.d x)) (q : D.nx (ρ.set j (.dat b)) (setF f (.d a) F)) : SM k (tAsg te (gTup k.K 2 (gCons (gFld k.K (tVar i) f) (gCons (gName j) gNil)))) D ρ F := fun E L σ H r => h.run r fun v H1 r1 _ h1 => by
  obtain ⟨p, xs, rfl, h2, h3⟩ := dp_tup h1
  cases h3 with
  | cons a1 h3 =>
    cases h3 with
    | cons a2 h3 =>
      cases h3
      obtain ⟨dx, vs, as, g1, g2, g3, g4⟩ := r1.oa.ex
      have pM : k.p ∈ k.M := r1.oa.sub _ (by rw [g3]; exact List.mem_cons_self)
      refine ⟨p, _, rfl, sqt_same hid_same h2, rfl, _, _, rfl, ⟨_, self_at r1 hs, k.p, k.C, dx, vs, rfl, g1, cl, na, g4, _, _, rfl, rfl, L.nx _ _ _ _ ((r1.putD hl a1 g1).setD j ?_) q⟩⟩
      rw [hid_in pM]
      exact a2
/-- for x in t: a tuple of data; the body may change the object -/
theorem sm_forT {ds : List PD} {j : Nat} {tb : TS} (h : EM k te ρ F (.tuple ds)) (Inv : Nat → DEnv → List (Str × MF) → Prop) (h0 : Inv 0 ρ F)
    (hs : ∀ i d ρ' F' Hs, ds[i]? = some d → Inv i ρ' F' → SM ⟨k.K, k.T, k.M, k.p, k.C, k.O, Hs⟩ tb ⟨fun ρ2 F2 => Inv (i + 1) ρ2 F2, D.rt⟩ (ρ'.set j (.dat d)) F')
    (hd : ∀ ρ' F', Inv ds.length ρ' F' → D.nx ρ' F') : SM k (tFor (iTup k.K te) (gName j) tb) D ρ F := fun E L σ H r => h.run r fun v H1 r1 _ h1 => by
  obtain ⟨a, xs, rfl, h2, h3⟩ := dp_tup h1
  have tm := tabs_hid r1.sr.tab fun a h => (r1.sr.msk a h).1
  have back : ∀ {σ' H' ρ' F'}, SRM ⟨k.K, k.T, k.M, k.p, k.C, k.O, H1⟩ σ' H' ρ' F' → SRM k σ' H' ρ' F' := fun r' => ⟨r'.sr, r'.oa, r1.kx.trans r'.kx⟩
  have tups : ∀ {σ' H' ρ' F'}, SRM ⟨k.K, k.T, k.M, k.p, k.C, k.O, H1⟩ σ' H' ρ' F' → SqT k.K H' a xs ∧ DpAll k.K (hid k.M H') xs ds := fun r' => by
    have kh := r'.kx.hid r'.oa.sub
    exact ⟨sqt_same hid_same (kh.sqT tm h2), dps_keep kh tm h3⟩
  refine ⟨a, rfl, ⟨xs, sqt_same hid_same h2⟩, for_tup (fun i σ' H' => ∃ ρ' F', SRM ⟨k.K, k.T, k.M, k.p, k.C, k.O, H1⟩ σ' H' ρ' F' ∧ Inv i ρ' F') ⟨ρ, F, ⟨r1.sr, r1.oa, .refl⟩, h0⟩ (fun i σ' H' _ ⟨ρ', F', r', _⟩ => (tups r').1) ?_ ?_⟩
  · rintro i x σ' H' hx ⟨ρ', F', r', hv⟩
    have s2 := (tups r').2
    obtain ⟨d, hd', hx'⟩ := dps_at s2 hx
    refine hs i d ρ' F' H1 hd' hv { E with nx := fun σ2 H2 => ∃ ρ2 F2, SRM ⟨k.K, k.T, k.M, k.p, k.C, k.O, H1⟩ σ2 H2 ρ2 F2 ∧ Inv (i + 1) ρ2 F2, ct := fun σ2 H2 => ∃ ρ2 F2, SRM ⟨k.K, k.T, k.M, k.p, k.C, k.O, H1⟩ σ2 H2 ρ2 F2 ∧ Inv (i + 1) ρ2 F2, bk := E.nx } ⟨fun σ2 H2 ρ2 F2 r2 q => ⟨ρ2, F2, r2, q⟩, fun v2 H2 d2 F2 q1 q2 q3 q4 => L.rt v2 H2 d2 F2 q1 q2 (r1.kx.trans q3) q4⟩ _ H' (r'.setD j hx')
  · rintro σ' H' ⟨ρ', F', r', hv⟩
    rw [dps_len h3] at hv
    exact L.nx _ _ _ _ (back r') (hd ρ' F' hv)
end
end DL
/-! walks over the lists of an object that stands still meanwhile -/
namespace DL
open PySem PySem.Spec PyProof.Rows L2 DA
def FL (c : DC) (te : TE) (ρ : DEnv) (ds : List PD) : Prop := ∀ A σ H, SR c A σ H ρ → ∀ Q : VK, (∀ a xs, c.H0 a = some (.lst xs) → DpAll c.K (hid c.M c.H0) xs ds → Q (.ref a) H) → te σ H Q
section
variable {c : DC} {ρ : DEnv} {te : TE} {ds : List PD}
theorem fl_mfld {i : Nat} {p C dx a : Addr} {fs : List (Str × V)} {f : Str} {xs : List V} (h : ρ[i]? = some (.raw (.ref p))) (h0 : c.H0 p = some (.ins C dx fs)) (cl : Cls c.K C) (na : NoAttr c.K C f) (hl : fs.lookup f = some (.ref a)) (ha : c.H0 a = some (.lst xs)) (hd : DpAll c.K (hid c.M c.H0) xs ds) : FL c (tFld c.K (tVar i) f) ρ ds := fun A σ H r Q q => by
  obtain ⟨ov, h1, h2⟩ := r.rel i _ h
  cases ov with
  | none => exact False.elim h2
  | some w =>
    have e : w = .ref p := h2
    subst e
    exact ⟨_, h1, p, C, dx, fs, _, rfl, fld_at r h0, cl, na, hl, q a xs ha hd⟩
theorem el_fl (h : FL c te ρ ds) : EL c te ρ ds := fun A σ H r Q q => h A σ H r Q fun a xs h1 h2 => q a xs H .refl (SqL.of (r.keep.at_ _ _ h1 (nT_of r.tab h1 fun ps z => by cases z))) (dps_keep (base_dp r) (base_tab r) h2)
/-- the list, at every later turn -/
theorem fl_base {A A' : List Addr} {σ σ' : L2.St} {H H' : Hp} {ρ ρ' : DEnv} {a : Addr} {xs : List V} (r : SR c A σ H ρ) (r' : SR (c.up A H) A' σ' H' ρ') (h1 : c.H0 a = some (.lst xs)) (h2 : DpAll c.K (hid c.M c.H0) xs ds) : SqL c.K H' a xs ∧ DpAll c.K (hid (c.M ++ A') H') xs ds := by
  have aT : a ∉ c.T := nT_of r.tab h1 fun ps z => by cases z
  have aA : a ∉ A := fun m => by
    rw [(r.new a m).1] at h1
    cases h1
  have e1 : H a = some (.lst xs) := r.keep.at_ _ _ h1 aT
  have e2 : H' a = some (.lst xs) := r'.keep.at_ a _ (hid_of aA e1) aT
  exact ⟨SqL.of e2, dps_keep (upk r r') r.tabm (dps_keep (base_dp r) (base_tab r) h2)⟩
theorem id_listF (h : FL c te ρ ds) : ID c (iList c.K te) ρ ds := fun A σ H r R q => h A σ H r _ fun a xs h1 h2 => by
  have aT : a ∉ c.T := nT_of r.tab h1 fun ps z => by cases z
  refine ⟨a, rfl, ⟨xs, SqL.of (r.keep.at_ _ _ h1 aT)⟩, q _ H .refl ⟨fun i A' σ' H' ρ' r' hi => ?_, fun i A' σ' H' ρ' x H2 r' y d hd => ?_, fun i A' σ' H' ρ' r' hi => ?_⟩⟩
  · obtain ⟨s1, s2⟩ := fl_base r r' h1 h2
    have hx : i < xs.length := by rw [dps_len s2]; exact hi
    exact ⟨xs, xs[i], s1, List.getElem?_eq_getElem hx⟩
  · obtain ⟨s1, s2⟩ := fl_base r r' h1 h2
    obtain ⟨rfl, y⟩ := y
    obtain ⟨w, e1, e2⟩ := dps_get s2 hd
    rw [y xs s1] at e1
    cases e1
    exact ⟨.refl, e2⟩
  · obtain ⟨s1, s2⟩ := fl_base r r' h1 h2
    exact ⟨xs, s1, by rw [dps_len s2]; exact hi⟩
theorem id_enumF (h : FL c te ρ ds) : ID c (iEnum c.K (tCons te tNil)) ρ (enumD ds) := fun A σ H r R q => h A σ H r _ fun a xs h1 h2 => by
  have aT : a ∉ c.T := nT_of r.tab h1 fun ps z => by cases z
  refine ⟨a, xs, rfl, SqL.of (r.keep.at_ _ _ h1 aT), q _ H .refl ⟨fun i A' σ' H' ρ' r' hi => ?_, fun i A' σ' H' ρ' x H2 r' y d hd => ?_, fun i A' σ' H' ρ' r' hi => ?_⟩⟩
  · obtain ⟨s1, s2⟩ := fl_base r r' h1 h2
    rw [enumD_len] at hi
    have hx : i < xs.length := by rw [dps_len s2]; exact hi
    exact ⟨xs, xs[i], s1, List.getElem?_eq_getElem hx⟩
  · obtain ⟨s1, s2⟩ := fl_base r r' h1 h2
    obtain ⟨T, y0, rfl, hT, rfl, y⟩ := y
    obtain ⟨d0, hd0, rfl⟩ := enumD_get hd
    obtain ⟨w, e1, e2⟩ := dps_get s2 hd0
    rw [y xs s1] at e1
    cases e1
    exact new_item (c := c.up A H) r' hT e2
  · obtain ⟨s1, s2⟩ := fl_base r r' h1 h2
    rw [enumD_len] at hi
    exact ⟨xs, s1, by rw [dps_len s2]; exact hi⟩
/-- the field of an object that changes elsewhere -/
theorem fl_fld {k : OC} {F : List (Str × MF)} {i : Nat} {f : Str} {H1 : Hp} (hs : isSelf k ρ i) (cl : Cls k.K k.C) (na : NoAttr k.K k.C f) (hl : F.lookup f = some (.l ds)) {H : Hp} (o : OA k.K k.M H k.p k.C F k.O) : FL ⟨k.K, k.T, k.M, H⟩ (tFld k.K (tVar i) f) ρ ds := by
  obtain ⟨dx, vs, as, h1, h2, h3, h4⟩ := o.ex
  obtain ⟨a, xs, e1, e2, e3, e4⟩ := h2.lookL hl
  exact fl_mfld hs h1 cl na e1 e3 e4
end
section
variable {K : PySem.W.Frag} {T M : List Addr} {H : Hp} {p C : Addr} {O : List Addr} {F : List (Str × MF)} {ρ : DEnv} {i : Nat} {f : Str}
theorem od_fld {d : PD} (o : OA K M H p C F O) (hs : ρ[i]? = some (.raw (.ref p))) (cl : Cls K C) (na : NoAttr K C f) (hl : F.lookup f = some (.d d)) : ED ⟨K, T, M, H⟩ (tFld K (tVar i) f) ρ d := by
  obtain ⟨dx, vs, as, h1, h2, h3, h4⟩ := o.ex
  obtain ⟨v, e1, e2⟩ := h2.lookD hl
  exact ed_mfld hs h1 cl na e1 e2
theorem of_fld {ds : List PD} (o : OA K M H p C F O) (hs : ρ[i]? = some (.raw (.ref p))) (cl : Cls K C) (na : NoAttr K C f) (hl : F.lookup f = some (.l ds)) : FL ⟨K, T, M, H⟩ (tFld K (tVar i) f) ρ ds := by
  obtain ⟨dx, vs, as, h1, h2, h3, h4⟩ := o.ex
  obtain ⟨a, xs, e1, e2, e3, e4⟩ := h2.lookL hl
  exact fl_mfld hs h1 cl na e1 e3 e4
theorem ol_fld {ds : List PD} (o : OA K M H p C F O) (hs : ρ[i]? = some (.raw (.ref p))) (cl : Cls K C) (na : NoAttr K C f) (hl : F.lookup f = some (.l ds)) : EL ⟨K, T, M, H⟩ (tFld K (tVar i) f) ρ ds := el_fl (of_fld o hs cl na hl)
theorem og_fld {C2 : Addr} {fs : List (Str × PD)} (o : OA K M H p C F O) (hs : ρ[i]? = some (.raw (.ref p))) (cl : Cls K C) (na : NoAttr K C f) (hl : F.lookup f = some (.o C2 fs)) : EG ⟨K, T, M, H⟩ (tFld K (tVar i) f) ρ (.ob C2 fs) := eg_fld (k := ⟨K, T, M, p, C, O, H⟩) (F := F) hs cl na hl o
end
end DL
/-! an object is made: its fields come one after the other -/
namespace DL
open PySem PySem.Spec PyProof.Rows L2 DA
theorem putF_new {f : Str} {v : V} : ∀ {vs : List (Str × V)}, vs.lookup f = none → putF f v vs = vs ++ [(f, v)]
  | [], _ => rfl
  | (g, x) :: r, h => by
    rw [List.lookup_cons] at h
    show (if g = f then _ else _) = _
    by_cases e : g = f
    · rw [show (f == g) = true from beq_iff_eq.mpr e.symm] at h; cases h
    · rw [if_neg e]
      rw [show (f == g) = false from beq_eq_false_iff_ne.mpr (Ne.symm e)] at h
      show (g, x) :: putF f v r = (g, x) :: (r ++ [(f, v)])
      rw [putF_new h]
section
variable {K : PySem.W.Frag} {Hm H : Hp}
theorem FsM.addD {f : Str} {v : V} {x : PD} (hv : Dp K Hm v x) {vs : List (Str × V)} {F : List (Str × MF)} {as : List Addr} (r : FsM K Hm H vs F as) : FsM K Hm H (vs ++ [(f, v)]) (F ++ [(f, .d x)]) as := by
  induction r with
  | nil => exact .d hv .nil
  | d a _ ih => exact .d a ih
  | o a _ ih => exact .o a ih
  | l e a _ ih => exact .l e a ih
theorem FsM.addO {f : Str} {v : V} {C : Addr} {fs : List (Str × PD)} (hv : ObD K Hm v C fs) {vs : List (Str × V)} {F : List (Str × MF)} {as : List Addr} (r : FsM K Hm H vs F as) : FsM K Hm H (vs ++ [(f, v)]) (F ++ [(f, .o C fs)]) as := by
  induction r with
  | nil => exact .o hv .nil
  | d a _ ih => exact .d a ih
  | o a _ ih => exact .o a ih
  | l e a _ ih => exact .l e a ih
theorem FsM.addL {f : Str} {b : Addr} {xs : List V} {ds : List PD} (hb : H b = some (.lst xs)) (hv : DpAll K Hm xs ds) {vs : List (Str × V)} {F : List (Str × MF)} {as : List Addr} (r : FsM K Hm H vs F as) : FsM K Hm H (vs ++ [(f, .ref b)]) (F ++ [(f, .l ds)]) (as ++ [b]) := by
  induction r with
  | nil => exact .l hb hv .nil
  | d a _ ih => exact .d a ih
  | o a _ ih => exact .o a ih
  | l e a _ ih => exact .l e a ih
end
structure IC where
  K : PySem.W.Frag
  T : List Addr
  M : List Addr
  p : Addr
  C : Addr
  Hs : Hp
abbrev IC.oc (k : IC) (O : List Addr) : OC := ⟨k.K, k.T, O ++ k.M, k.p, k.C, O, k.Hs⟩
def SRI (k : IC) (σ : L2.St) (H : Hp) (ρ : DEnv) (F : List (Str × MF)) : Prop := ∃ O, SRM (k.oc O) σ H ρ F ∧ ∀ a ∈ O, a ≠ k.p → k.Hs a = none
structure LeI (k : IC) (nx : DEnv → List (Str × MF) → Prop) (E : Ends) : Prop where
  nx : ∀ σ H ρ F, SRI k σ H ρ F → nx ρ F → E.nx σ H
def SI (k : IC) (t : TS) (nx : DEnv → List (Str × MF) → Prop) (ρ : DEnv) (F : List (Str × MF)) : Prop := ∀ E, LeI k nx E → ∀ σ H, SRI k σ H ρ F → t E σ H
section
variable {k : IC} {ρ : DEnv} {F : List (Str × MF)} {nx : DEnv → List (Str × MF) → Prop} {t u : TS} {te : TE} {d : PD}
theorem si_seq (h : SI k t (fun ρ' F' => SI k u nx ρ' F') ρ F) : SI k (tSeq t u) nx ρ F := fun E L σ H r => h { E with nx := u E } ⟨fun σ' H' ρ' F' r' q => q E L σ' H' r'⟩ σ H r
/-- the object's own record has changed, nothing else -/
theorem SRM.own {k : OC} {σ : L2.St} {H : Hp} {F F' : List (Str × MF)} {ρ : DEnv} (r : SRM k σ H ρ F) {dx : Addr} {vs vs' : List (Str × V)} (h1 : H k.p = some (.ins k.C dx vs)) (hf : ∀ as, FsM k.K (hid k.M H) H vs F as → FsM k.K (hid k.M H) H vs' F' as) (hz : vs'.length < 1000) : SRM k σ (upd H k.p (.ins k.C dx vs')) ρ F' := by
  obtain ⟨dx', vs0, as, g1, g2, g3, g4⟩ := r.oa.ex
  rw [h1] at g1
  cases g1
  have pO : k.p ∈ k.O := by rw [g3]; exact List.mem_cons_self
  have nd := r.oa.nd
  rw [g3] at nd
  have nd' := List.nodup_cons.mp nd
  refine r.poke pO (fun ps z => by cases z) ⟨⟨dx, vs', as, upd_same, ?_, g3, hz⟩, r.oa.nd, r.oa.sub⟩
  rw [hid_in (r.oa.sub _ pO)]
  exact (hf as g2).move (fun _ _ z => z) (fun _ _ _ z => z) (fun _ _ z => z) fun a ha => upd_ne fun z => nd'.1 (by rw [← z]; exact ha)
theorem si_fldD {i : Nat} {f : Str} (h : ∀ O, EM (k.oc O) te ρ F d) (hs : ρ[i]? = some (.raw (.ref k.p))) (cl : Cls k.K k.C) (na : NoAttr k.K k.C f) (hl : F.lookup f = none) (hz : F.length ≤ 900) (q : nx ρ (F ++ [(f, .d d)])) : SI k (sFld k.K (tVar i) te f) nx ρ F := fun E L σ H ⟨O, r, hO⟩ => (h O).run r fun v H1 r1 _ h1 => by
  obtain ⟨dx, vs, as, g1, g2, g3, g4⟩ := r1.oa.ex
  have e := putF_new (v := v) (g2.lookN hl)
  refine ⟨_, self_at (k := k.oc O) r1 hs, k.p, k.C, dx, vs, rfl, g1, cl, na, g4, L.nx _ _ _ _ ⟨O, ?_, hO⟩ q⟩
  rw [e]
  exact r1.own g1 (fun as' z => z.addD h1) (by rw [List.length_append, g2.len]; simp; omega)
theorem si_fldO {i : Nat} {f : Str} {C2 : Addr} {fs : List (Str × PD)} (h : ∀ O H, OA k.K (O ++ k.M) H k.p k.C F O → TB k.T (O ++ k.M) H → EG ⟨k.K, k.T, O ++ k.M, H⟩ te ρ (.ob C2 fs)) (hs : ρ[i]? = some (.raw (.ref k.p))) (cl : Cls k.K k.C) (na : NoAttr k.K k.C f) (hl : F.lookup f = none) (hz : F.length ≤ 900) (q : nx ρ (F ++ [(f, .o C2 fs)])) : SI k (sFld k.K (tVar i) te f) nx ρ F := fun E L σ H ⟨O, r, hO⟩ =>
  h O H r.oa r.tb [] σ H r.sr _ fun v H1 k1 h1 => by
    have r1 := r.move k1 (r.sr.move k1)
    have h1 : ObD k.K (hid ((O ++ k.M) ++ []) H1) v C2 fs := h1
    rw [List.append_nil] at h1
    obtain ⟨dx, vs, as, g1, g2, g3, g4⟩ := r1.oa.ex
    have e := putF_new (v := v) (g2.lookN hl)
    refine ⟨_, self_at (k := k.oc O) r1 hs, k.p, k.C, dx, vs, rfl, g1, cl, na, g4, L.nx _ _ _ _ ⟨O, ?_, hO⟩ q⟩
    rw [e]
    exact r1.own g1 (fun as' z => z.addO h1) (by rw [List.length_append, g2.len]; simp; omega)
theorem hid_more {T M : List Addr} {H H' : Hp} {b : Addr} (k : Keep T H H') (hb : H b = none) : Keep T (hid M H) (hid (b :: M) H') := by
  refine ⟨fun c o e n => ?_, fun P hP tb => ?_⟩
  · obtain ⟨m, e⟩ := hid_inv e
    refine hid_of (fun q => ?_) (k.at_ c o e n)
    rcases List.mem_cons.mp q with q | q
    · rw [q, hb] at e; cases e
    · exact m q
  · obtain ⟨ps, e, ok⟩ := tb
    obtain ⟨m, e⟩ := hid_inv e
    obtain ⟨ps', e', ok'⟩ := k.tab P hP ⟨ps, e, ok⟩
    refine ⟨ps', hid_of (fun q => ?_) e', ok'⟩
    rcases List.mem_cons.mp q with q | q
    · rw [q, hb] at e; cases e
    · exact m q
theorem si_fldL {i : Nat} {f : Str} {ds : List PD} (h : ∀ O H, OA k.K (O ++ k.M) H k.p k.C F O → TB k.T (O ++ k.M) H → EN ⟨k.K, k.T, O ++ k.M, H⟩ te ρ ds) (hs : ρ[i]? = some (.raw (.ref k.p))) (cl : Cls k.K k.C) (na : NoAttr k.K k.C f) (hl : F.lookup f = none) (hz : F.length ≤ 900) (q : nx ρ (F ++ [(f, .l ds)])) : SI k (sFld k.K (tVar i) te f) nx ρ F := fun E L σ H ⟨O, r, hO⟩ =>
  h O H r.oa r.tb [] σ H r.sr _ fun b xs H1 k1 hb h1 h2 => by
    have h2 : DpAll k.K (hid (b :: ((O ++ k.M) ++ [])) H1) xs ds := h2
    rw [List.append_nil] at h2
    obtain ⟨dx, vs, as, g1, g2, g3, g4⟩ := r.oa.ex
    have tm : Tabs k.T (hid (O ++ k.M) H) := tabs_hid r.sr.tab fun a h => (r.sr.msk a h).1
    have pT : k.p ∉ k.T := r.oa.nT r.sr.tab k.p (by rw [show (k.oc O).O = O from rfl] at g3; rw [g3]; exact List.mem_cons_self)
    have g3 : O = k.p :: as := g3
    have e1 : H1 k.p = some (.ins k.C dx vs) := k1.at_ _ _ g1 pT
    have e := putF_new (v := V.ref b) (g2.lookN hl)
    have km : Keep k.T (hid (O ++ k.M) H) (hid (b :: (O ++ k.M)) H1) := hid_more k1 hb
    have nbO : b ∉ O := fun m => by
      obtain ⟨x, q, _⟩ := r.oa.none b m
      rw [hb] at q; cases q
    have nbM : ∀ a ∈ O ++ k.M, a ≠ b := fun a ha z => (r.sr.msk a ha).2 (by rw [z]; exact hb)
    have bT : b ∉ k.T := fun m => by
      obtain ⟨ps, q, _⟩ := (k1.tabs r.sr.tab) b m
      rw [h1] at q; cases q
    have cong : hid ((O ++ [b]) ++ k.M) H1 = hid (b :: (O ++ k.M)) H1 := hid_cong fun a => by simp [or_left_comm, or_assoc]
    have fm : FsM k.K (hid ((O ++ [b]) ++ k.M) H1) H1 vs F as := by
      rw [cong]
      refine g2.move (fun v x z => dp_keep km tm z) (fun v C fs z => ObD.keep km tm z) (fun vs xs z => dps_keep km tm z) fun a ha => ?_
      obtain ⟨x, q, n⟩ := r.oa.none a (by show a ∈ O; rw [g3]; exact List.mem_cons_of_mem _ ha)
      rw [q]
      exact k1.at_ _ _ q (nT_of r.sr.tab q n)
    have oa1 : OA k.K ((O ++ [b]) ++ k.M) (upd H1 k.p (.ins k.C dx (vs ++ [(f, .ref b)]))) k.p k.C (F ++ [(f, .l ds)]) (O ++ [b]) := by
      have pin : k.p ∈ (O ++ [b]) ++ k.M := by rw [g3]; simp
      have pb : k.p ≠ b := nbM k.p (by rw [g3]; simp)
      refine ⟨⟨dx, vs ++ [(f, .ref b)], as ++ [b], upd_same, ?_, by rw [g3]; rfl, ?_⟩, ?_, fun a ha => List.mem_append_left _ ha⟩
      · rw [hid_in pin]
        refine (fm.addL (f := f) h1 (by rw [cong]; exact h2)).move (fun _ _ z => z) (fun _ _ _ z => z) (fun _ _ z => z) fun a ha => upd_ne fun z => ?_
        rcases List.mem_append.mp ha with ha | ha
        · have nd := r.oa.nd
          rw [show (k.oc O).O = O from rfl, g3] at nd
          exact (List.nodup_cons.mp nd).1 (by rw [← z]; exact ha)
        · have := List.mem_singleton.mp ha
          exact pb (by rw [← z]; exact this)
      · rw [List.length_append, g2.len]; simp; omega
      · rw [List.nodup_append]
        refine ⟨r.oa.nd, by simp, fun a ha c hc => ?_⟩
        rw [List.mem_singleton.mp hc]
        exact fun z => nbO (by rw [← z]; exact ha)
    refine ⟨_, self_at (k := k.oc O) (r.move k1 (r.sr.move k1)) hs, k.p, k.C, dx, vs, rfl, e1, cl, na, g4, L.nx _ _ _ _ ⟨O ++ [b], ?_, fun a ha hne => ?_⟩ q⟩
    · rw [e]
      have tb1 : Tabs k.T (upd H1 k.p (.ins k.C dx (vs ++ [(f, .ref b)]))) := fun P hP => by
        obtain ⟨ps, q, ok⟩ := (k1.tabs r.sr.tab) P hP
        exact ⟨ps, by rw [upd_ne (fun z => pT (by rw [← z]; exact hP))]; exact q, ok⟩
      have pin : k.p ∈ (O ++ [b]) ++ k.M := by rw [g3]; simp
      have hh : hid ((O ++ [b]) ++ k.M) (upd H1 k.p (.ins k.C dx (vs ++ [(f, .ref b)]))) = hid (b :: (O ++ k.M)) H1 := by rw [hid_in pin, cong]
      refine ⟨⟨tb1, .refl, fun a ha => ?_, fun b hb => (nomatch hb), r.sr.len, fun j s es => ?_, r.sr.inj⟩, oa1, ?_⟩
      · have ha : a ∈ (O ++ [b]) ++ k.M := ha
        by_cases z : a = b
        · subst z
          refine ⟨bT, ?_⟩
          show upd H1 k.p _ a ≠ none
          rw [upd_ne (fun w => nbM k.p (by rw [g3]; simp) w.symm), h1]
          intro w; cases w
        · have ha' : a ∈ O ++ k.M := by
            rcases List.mem_append.mp ha with ha | ha
            · rcases List.mem_append.mp ha with ha | ha
              · exact List.mem_append_left _ ha
              · exact absurd (List.mem_singleton.mp ha) z
            · exact List.mem_append_right _ ha
          obtain ⟨q1, q2⟩ := r.sr.msk a ha'
          refine ⟨q1, ?_⟩
          show upd H1 k.p _ a ≠ none
          by_cases w : a = k.p
          · rw [w, upd_same]; intro q; cases q
          · rw [upd_ne w]
            have q2 : H a ≠ none := q2
            cases e5 : H a with
            | none => exact absurd e5 q2
            | some o => rw [k1.at_ _ _ e5 q1]; intro q; cases q
      · obtain ⟨ov, z1, z2⟩ := r.sr.rel j s es
        refine ⟨ov, z1, ?_⟩
        have z2 : SlotOk k.K (hid ((O ++ k.M) ++ []) H) H [] ov s := z2
        show SlotOk k.K (hid (((O ++ [b]) ++ k.M) ++ []) (upd H1 k.p _)) (upd H1 k.p _) [] ov s
        rw [List.append_nil] at z2 ⊢
        rw [hh]
        cases s with
        | non => cases ov <;> trivial
        | dat x =>
          cases ov with
          | none => exact z2
          | some v => exact dp_keep km tm z2
        | own es =>
          cases ov with
          | none => exact z2
          | some v =>
            obtain ⟨c, ys, _, w2, _⟩ := z2
            cases w2
        | ob C fs =>
          cases ov with
          | none => exact z2
          | some v => exact ObD.keep km tm z2
        | raw w => cases ov <;> exact z2
      · have kx : KeepX k.T O k.Hs H := r.kx
        refine ⟨fun a o ea hT hO' => ?_, fun P hP tb => ?_⟩
        · have nO : a ∉ O := fun m => hO' (List.mem_append_left _ m)
          have np : a ≠ k.p := fun z => nO (by rw [z, g3]; exact List.mem_cons_self)
          show upd H1 k.p _ a = _
          rw [upd_ne np]
          exact k1.at_ _ _ (kx.at_ a o ea hT nO) hT
        · have := k1.tab P hP (kx.tab P hP tb)
          obtain ⟨ps, q, ok⟩ := this
          exact ⟨ps, by rw [show upd H1 k.p _ P = _ from upd_ne (fun z => pT (by rw [← z]; exact hP))]; exact q, ok⟩
    · rcases List.mem_append.mp ha with ha | ha
      · exact hO a ha hne
      · rw [List.mem_singleton.mp ha]
        cases e5 : k.Hs b with
        | none => rfl
        | some o =>
          have kx : KeepX k.T O k.Hs H := r.kx
          rw [kx.at_ b o e5 bT nbO] at hb
          cases hb
end
end DL
/-! calls that give objects; lists repeated -/
namespace DL
open PySem PySem.Spec PyProof.Rows L2 DA
def spO (K : PySem.W.Frag) (T : List Addr) (R : List DS → DS → Prop) : Sp := fun vs H Q _ => ∃ M ss s, (∀ a ∈ M, a ∉ T ∧ H a ≠ none) ∧ Tabs T H ∧ ArgsOk K (hid M H) vs ss ∧ R ss s ∧ ∀ v H', ArgOk K (hid M H') v s → Keep T H H' → Q v H'
section
variable {c : DC} {ρ : DEnv} {ta tb te : TE}
theorem eg_call {R : List DS → DS → Prop} {E : XK} {ta : TA} {ss : List DS} {s : DS} (h : EA c ta ρ ss) (hR : R ss s) : EG c (tCall (spO c.K c.T R) [] E ta) ρ s := fun A σ H r Q q => h A σ H r _ fun vs H1 k1 h1 =>
  ⟨c.M ++ A, ss, s, (r.move k1).nM, (r.move k1).tabs, by rw [List.append_nil]; exact h1, hR, fun v H2 h2 k2 => q v H2 (k1.trans k2) h2⟩
theorem dps_rep {K : PySem.W.Frag} {H : Hp} {xs : List V} {ds : List PD} (n : Nat) (g : DpAll K H xs ds) : DpAll K H (List.replicate n xs).flatten (List.replicate n ds).flatten := by
  induction n with
  | zero => exact .nil
  | succ n ih =>
    rw [List.replicate_succ, List.replicate_succ, List.flatten_cons, List.flatten_cons]
    exact dps_append g ih
/-- xs * k, a new list -/
theorem en_rep {xs : List PD} {k : Nat} (ha : EN c ta ρ xs) (hb : ED c tb ρ (.int (k : Int))) (hz : xs.length * k ≤ 1000) (hk : k ≤ 1000000) : EN c (tOp rRep ta tb) ρ (List.replicate k xs).flatten := fun A σ H r Q q => ha A σ H r _ fun a us H1 k1 hp h1 h2 => hb A σ H1 (r.move k1) _ fun v H2 k2 h3 => by
  have s2 := (r.move k1).move k2
  have aT : a ∉ c.T := fun m => by
    obtain ⟨ps, e, _⟩ := (k1.tabs r.tabs) a m
    rw [h1] at e; cases e
  have h4 : DpAll c.K (hid (c.M ++ A) H1) us xs := dps_same (hid_sub fun x m => List.mem_cons_of_mem _ m) h2
  have h5 := dps_keep (hid_keep k2) (r.move k1).tabm h4
  refine ⟨a, (k : Int), us, rfl, dp_int h3, k2.at_ _ _ h1 aT, by omega, by omega, ?_, fun p hp2 => ?_⟩
  · rw [Int.toNat_natCast, dps_len h4]
    exact Nat.le_of_lt (small1000 hz)
  · rw [Int.toNat_natCast]
    refine q p _ _ ((k1.trans k2).trans (.new hp2)) ((k1.trans k2).free r.tabs hp2) upd_same ?_
    rw [hid_new hp2]
    exact dps_rep k h5
theorem rep_one {α : Type} (n : Nat) (d : α) : (List.replicate n [d]).flatten = List.replicate n d := by
  induction n with
  | zero => rfl
  | succ n ih => rw [List.replicate_succ, List.flatten_cons, ih, List.replicate_succ]; rfl
end
end DL
namespace DL
open PySem PySem.Spec PyProof.Rows L2 DA
/-! ### for over enumerate(list), the body may change an object -/
structure TGM (k : OC) (g : TG) (d : PD) (ρ ρ' : DEnv) : Prop where
  run : ∀ σ H F v, SRM k σ H ρ F → Dp k.K (hid k.M H) v d → ∀ Q : L2.St → Hp → Prop, (∀ σ', SRM k σ' H ρ' F → Q σ' H) → g v σ H Q
theorem SRM.Hs {k : OC} {σ : L2.St} {H H1 : Hp} {ρ : DEnv} {F : List (Str × MF)} (r : SRM k σ H ρ F) (x : KeepX k.T k.O H1 H) : SRM ⟨k.K, k.T, k.M, k.p, k.C, k.O, H1⟩ σ H ρ F := ⟨r.sr, r.oa, x⟩
theorem tgm_pair {k : OC} {i j l : Nat} {a b c : PD} {ρ : DEnv} : TGM k (gTup k.K 2 (gCons (gName i) (gCons (gTup k.K 2 (gCons (gName j) (gCons (gName l) gNil))) gNil))) (.tuple [a, .tuple [b, c]]) ρ (((ρ.set i (.dat a)).set j (.dat b)).set l (.dat c)) := ⟨fun σ H F v r h Q q => by
  obtain ⟨p, xs, rfl, h1, h2⟩ := dp_tup h
  cases h2 with
  | cons a1 h2 =>
    cases h2 with
    | cons a2 h2 =>
      cases h2
      obtain ⟨p2, ys, rfl, h3, h4⟩ := dp_tup a2
      cases h4 with
      | cons b1 h4 =>
        cases h4 with
        | cons b2 h4 =>
          cases h4
          exact ⟨p, _, rfl, sqt_same hid_same h1, rfl, _, _, rfl, _, _, rfl, ⟨p2, _, rfl, sqt_same hid_same h3, rfl, _, _, rfl, _, _, rfl, rfl, rfl, q _ (((r.setD i a1).setD j b1).setD l b2)⟩⟩⟩
theorem sm_forE {k : OC} {ρ : DEnv} {F : List (Str × MF)} {D : MEnds} {te : TE} {ds : List PD} {g : TG} {tb : TS} (h : EM k te ρ F (.list ds)) (Inv : Nat → DEnv → List (Str × MF) → Prop) (h0 : Inv 0 ρ F)
    (hs : ∀ i d ρ' F' Hs, ds[i]? = some d → Inv i ρ' F' → ∃ ρ2, TGM ⟨k.K, k.T, k.M, k.p, k.C, k.O, Hs⟩ g (.tuple [.int (i : Int), d]) ρ' ρ2 ∧ SM ⟨k.K, k.T, k.M, k.p, k.C, k.O, Hs⟩ tb ⟨fun ρ2 F2 => Inv (i + 1) ρ2 F2, D.rt⟩ ρ2 F')
    (hd : ∀ ρ' F', Inv ds.length ρ' F' → D.nx ρ' F') : SM k (tFor (iEnum k.K (tCons te tNil)) g tb) D ρ F := fun E L σ H r => h.run r fun v H1 r1 _ h1 => by
  obtain ⟨a, xs, rfl, h2, h3⟩ := dp_list h1
  have tm := tabs_hid r1.sr.tab fun a h => (r1.sr.msk a h).1
  have back : ∀ {σ' H' ρ' F'}, SRM ⟨k.K, k.T, k.M, k.p, k.C, k.O, H1⟩ σ' H' ρ' F' → SRM k σ' H' ρ' F' := fun r' => ⟨r'.sr, r'.oa, r1.kx.trans r'.kx⟩
  have lsts : ∀ {σ' H' ρ' F'}, SRM ⟨k.K, k.T, k.M, k.p, k.C, k.O, H1⟩ σ' H' ρ' F' → SqL k.K H' a xs ∧ DpAll k.K (hid k.M H') xs ds := fun r' => by
    have kh := r'.kx.hid r'.oa.sub
    exact ⟨hid_same.seq (kh.sqL tm h2), dps_keep kh tm h3⟩
  refine ⟨a, xs, rfl, hid_same.seq h2, for_it (walk_enum (K := k.K) (a := a) (xs := xs)) (fun i σ' H' => ∃ ρ' F', SRM ⟨k.K, k.T, k.M, k.p, k.C, k.O, H1⟩ σ' H' ρ' F' ∧ Inv i ρ' F') ⟨ρ, F, ⟨r1.sr, r1.oa, .refl⟩, h0⟩ (fun i σ' H' _ ⟨ρ', F', r', _⟩ => (lsts r').1) ?_ ?_⟩
  · rintro i x σ' H' H2 hi ⟨ρ', F', r', hv⟩ hy
    obtain ⟨T, i0, y0, rfl, hT, rfl, hi0, hy0⟩ := hy
    cases hi0
    obtain ⟨d, hd', hx'⟩ := dps_at (lsts r').2 hy0
    obtain ⟨ρ2, tg, hb⟩ := hs i d ρ' F' H1 hd' hv
    have kn : Keep k.T H' (upd H' T (.tup [.int (i : Int), y0])) := .new hT
    have r2 : SRM ⟨k.K, k.T, k.M, k.p, k.C, k.O, H1⟩ σ' (upd H' T (.tup [.int (i : Int), y0])) ρ' F' := r'.move kn (r'.sr.move kn)
    have nT : T ∉ k.M := fun m => (r'.sr.msk T m).2 hT
    have dT : Dp k.K (hid k.M (upd H' T (.tup [.int (i : Int), y0]))) (.ref T) (.tuple [.int (i : Int), d]) := by
      refine .tup (SqT.of (hid_of nT upd_same)) (.cons (.int _) (.cons (dp_same (fun b o e => ?_) hx') .nil))
      obtain ⟨m, e⟩ := hid_inv e
      exact hid_of m (by rw [upd_ne (ne_of_none e hT)]; exact e)
    refine tg.run σ' _ F' _ r2 dT _ fun σ2 r3 => ?_
    refine hb { E with nx := fun σ2 H2 => ∃ ρ2 F2, SRM ⟨k.K, k.T, k.M, k.p, k.C, k.O, H1⟩ σ2 H2 ρ2 F2 ∧ Inv (i + 1) ρ2 F2, ct := fun σ2 H2 => ∃ ρ2 F2, SRM ⟨k.K, k.T, k.M, k.p, k.C, k.O, H1⟩ σ2 H2 ρ2 F2 ∧ Inv (i + 1) ρ2 F2, bk := E.nx } ⟨fun σ2 H2 ρ2 F2 r2 q => ⟨ρ2, F2, r2, q⟩, fun v2 H2 d2 F2 q1 q2 q3 q4 => L.rt v2 H2 d2 F2 q1 q2 (r1.kx.trans q3) q4⟩ _ _ r3
  · rintro σ' H' ⟨ρ', F', r', hv⟩
    rw [dps_len h3] at hv
    exact L.nx _ _ _ _ (back r') (hd ρ' F' hv)
/-! ### a def that makes an object -/
def spMI (K : PySem.W.Frag) (T : List Addr) (C : Addr) (R : List DS → List (Str × MF) → Prop) : Sp := fun vs H Q _ => ∃ M p dx ss F, (∀ a ∈ M, a ∉ T ∧ H a ≠ none) ∧ Tabs T H ∧ H p = some (.ins C dx []) ∧ p ∉ M ∧ ArgsOk K (hid (p :: M) H) vs (.raw (.ref p) :: ss) ∧ R ss F ∧
  ∀ H' O, OA K (O ++ M) H' p C F O → (∀ a ∈ O, a ≠ p → H a = none) → KeepX T [p] H H' → Tabs T H' → Q .non H'
section
variable {P : Program} {w : World} {K : PySem.W.Frag} {mg : Str → Option Value} {base : Heap}
theorem fn_si {T : List Addr} {C : Addr} {x qual : Str} {st : Stmt} {f : Addr} {fd : FuncData} {N ps : List Str} {k : Nat} {R : List DS → List (Str × MF) → Prop} (F : Fun K x qual st f fd) (S : FnScope N ps (defScope st)) (hl : ∀ ss F, R ss F → ss.length + 1 = ps.length)
    (hb : ∀ (cdv : Value) (A : Around) (outer : List Env) (s : Shared) (H : Hp) (E : XK), Room k (A.deeper (envOfC qual (defScope st) s.heap.objs.size f cdv)) →
      ∃ t, PSs (cxOf CX0 P w K mg base N qual (defScope st) f cdv A outer s H E).nox (defBody st) t ∧ ∀ M p H0 ss F, R ss F → SI ⟨K, T, M, p, C, H0⟩ t (fun _ F2 => F2 = F) (startD N (.raw (.ref p) :: ss)) []) : FnOk P w K mg base CX0 (k + 1) f fd ps (spMI K T C R) := by
  refine F.ok S (fun vs H Q E h => ?_) (fun cdv A outer s H vs Q E hr h => ?_)
  · obtain ⟨M, p, dx, ss, F, _, _, _, _, h3, h4, _⟩ := h
    rw [h3.len]
    exact hl ss F h4
  · obtain ⟨M, p, dx, ss, F, h1, h2, hp, hpM, h3, h4, q⟩ := h
    obtain ⟨t, ht, hq⟩ := hb cdv A outer s H E hr
    have pT : p ∉ T := nT_of h2 hp fun ps z => by cases z
    have msk : ∀ a ∈ p :: M, a ∉ T ∧ H a ≠ none := fun a ha => by
      rcases List.mem_cons.mp ha with z | ha
      · rw [z]; exact ⟨pT, by rw [hp]; intro w; cases w⟩
      · exact h1 a ha
    refine ⟨t, ht, hq M p H ss F h4 _ ⟨fun σ' H' ρ' F2 r' e => ?_⟩ _ H ⟨[p], ⟨start_sr msk h2 h3, ⟨⟨dx, [], [], hp, .nil, rfl, by decide⟩, by simp, fun a ha => by rw [List.mem_singleton.mp ha]; exact List.mem_cons_self⟩, .refl⟩, fun a ha hne => absurd (List.mem_singleton.mp ha) hne⟩⟩
    obtain ⟨O, r', hO⟩ := r'
    subst e
    have kx : KeepX T O H H' := r'.kx
    refine q H' O r'.oa hO ⟨fun b o e hT hb => kx.at_ b o e hT fun m => ?_, kx.tab⟩ r'.sr.tab
    have this : H b = none := hO b m fun z => hb (by rw [z]; exact List.mem_cons_self)
    rw [this] at e
    cases e
end
end DL
namespace DL
open PySem PySem.Spec PyProof.Rows L2 DA
theorem SR.reb {K : PySem.W.Frag} {T M M' : List Addr} {H H2 : Hp} {σ : L2.St} {ρ : DEnv} (r : SR ⟨K, T, M, H⟩ [] σ H ρ) (km : Keep T (hid M H) (hid M' H2)) (t2 : Tabs T H2) (m2 : ∀ a ∈ M', a ∉ T ∧ H2 a ≠ none) : SR ⟨K, T, M', H2⟩ [] σ H2 ρ := by
  have tm : Tabs T (hid M H) := tabs_hid r.tab fun a h => (r.msk a h).1
  refine ⟨t2, .refl, m2, fun b hb => (nomatch hb), r.len, fun i s e => ?_, r.inj⟩
  obtain ⟨ov, h1, h2⟩ := r.rel i s e
  refine ⟨ov, h1, ?_⟩
  have h2 : SlotOk K (hid (M ++ []) H) H [] ov s := h2
  show SlotOk K (hid (M' ++ []) H2) H2 [] ov s
  rw [List.append_nil] at h2 ⊢
  cases s with
  | own ds =>
    cases ov with
    | none => exact h2
    | some v =>
      obtain ⟨b, xs, q1, q2, _⟩ := h2
      cases q2
  | non => cases ov <;> trivial
  | dat d =>
    cases ov with
    | none => exact h2
    | some v => exact dp_keep km tm h2
  | ob C fs =>
    cases ov with
    | none => exact h2
    | some v => exact ObD.keep km tm h2
  | raw w => cases ov <;> exact h2
/-- another hidden object changes -/
theorem SRM.other {k : OC} {σ : L2.St} {H : Hp} {ρ : DEnv} {F : List (Str × MF)} (r : SRM k σ H ρ F) {a : Addr} {o : HO} (ha : a ∈ k.M) (hO : a ∉ k.O) : SRM ⟨k.K, k.T, k.M, k.p, k.C, k.O, upd H a o⟩ σ (upd H a o) ρ F := by
  have aT : a ∉ k.T := (r.sr.msk a ha).1
  have hh : hid k.M (upd H a o) = hid k.M H := hid_in ha
  have t2 : Tabs k.T (upd H a o) := fun P hP => by
    obtain ⟨ps, e, ok⟩ := r.sr.tab P hP
    exact ⟨ps, by rw [upd_ne (fun z => aT (by rw [← z]; exact hP))]; exact e, ok⟩
  refine ⟨r.sr.reb (by rw [hh]; exact .refl) t2 fun b hb => ⟨(r.sr.msk b hb).1, fun z => ?_⟩, ?_, .refl⟩
  · by_cases w : b = a
    · rw [w, upd_same] at z; cases z
    · rw [upd_ne w] at z
      exact (r.sr.msk b hb).2 z
  · obtain ⟨dx, vs, as, h1, h2, h3, h4⟩ := r.oa.ex
    refine ⟨⟨dx, vs, as, ?_, ?_, h3, h4⟩, r.oa.nd, r.oa.sub⟩
    · rw [upd_ne (fun z => hO (by rw [← z, h3]; exact List.mem_cons_self))]
      exact h1
    · show FsM k.K (hid k.M (upd H a o)) _ _ _ _
      rw [hh]
      exact h2.move (fun _ _ z => z) (fun _ _ _ z => z) (fun _ _ z => z) fun b hb => upd_ne fun z => hO (by rw [← z, h3]; exact List.mem_cons_of_mem _ hb)
theorem OA.more {K : PySem.W.Frag} {T M M' : List Addr} {H H' : Hp} {p C : Addr} {F : List (Str × MF)} {O : List Addr} (o : OA K M H p C F O) (t : Tabs T H) (hM : ∀ a ∈ M, a ∉ T) (k : Keep T H H') (km : Keep T (hid M H) (hid M' H')) (sub : ∀ a ∈ O, a ∈ M') : OA K M' H' p C F O := by
  obtain ⟨dx, vs, as, h1, h2, h3, h4⟩ := id o.ex
  have tm : Tabs T (hid M H) := tabs_hid t hM
  refine ⟨⟨dx, vs, as, k.at_ _ _ h1 (o.nT t p (by rw [h3]; exact List.mem_cons_self)), h2.move (fun v x z => dp_keep km tm z) (fun v C fs z => ObD.keep km tm z) (fun vs xs z => dps_keep km tm z) (fun a ha => ?_), h3, h4⟩, o.nd, sub⟩
  obtain ⟨x, e, n⟩ := o.none a (by rw [h3]; exact List.mem_cons_of_mem _ ha)
  rw [e]
  exact k.at_ _ _ e (o.nT t a (by rw [h3]; exact List.mem_cons_of_mem _ ha))
/-- a def that gives a new object -/
def spMF (K : PySem.W.Frag) (T : List Addr) (C : Addr) (R : List DS → List (Str × MF) → Prop) : Sp := fun vs H Q _ => ∃ M ss F, (∀ a ∈ M, a ∉ T ∧ H a ≠ none) ∧ Tabs T H ∧ ArgsOk K (hid M H) vs ss ∧ R ss F ∧
  ∀ p H' O, OA K (O ++ M) H' p C F O → (∀ a ∈ O, H a = none) → Keep T H H' → Q (.ref p) H'
/-- C(..), read -/
theorem make_run {K : PySem.W.Frag} {T M : List Addr} {C : Addr} {R : List DS → List (Str × MF) → Prop} {E : XK} {ta : TA} {σ : L2.St} {H : Hp} {ρ : DEnv} {ss : List DS} {F : List (Str × MF)} (r : SR ⟨K, T, M, H⟩ [] σ H ρ) (h : EA ⟨K, T, M, H⟩ ta ρ ss) (hR : R ss F) {Q : VK}
    (q : ∀ x H2 O, OA K (O ++ M) H2 x C F O → (∀ a ∈ O, H a = none) → Keep T H H2 → SR ⟨K, T, O ++ M, H2⟩ [] σ H2 ρ → Q (.ref x) H2) : tMake C (spMI K T C R) [] E ta σ H Q := h [] σ H r _ fun vs H1 k1 h1 => by
  have h1 : ArgsOk K (hid (M ++ []) H1) vs ss := h1
  rw [List.append_nil] at h1
  intro x dx hx hdx hne
  have t1 : Tabs T H1 := k1.tabs r.tab
  have hx1 : upd H1 dx (.own x) x = none := by rw [upd_ne (Ne.symm hne)]; exact hx
  have ka : Keep T H1 (upd H1 dx (.own x)) := .new hdx
  have kb : Keep T H1 (upd (upd H1 dx (.own x)) x (.ins C dx [])) := ka.trans (.new hx1)
  have tb : Tabs T (upd (upd H1 dx (.own x)) x (.ins C dx [])) := kb.tabs t1
  have tm : Tabs T (hid M H1) := tabs_hid t1 fun a h => (r.msk a h).1
  have m1 : ∀ a ∈ M, a ∉ T ∧ H1 a ≠ none := fun a ha => (r.move k1).nM a (List.mem_append_left _ ha)
  have km : Keep T (hid M H1) (hid (x :: M) (upd (upd H1 dx (.own x)) x (.ins C dx []))) := hid_more kb hx
  have xM : x ∉ M := fun m => (m1 x m).2 hx
  have free : ∀ b o, H1 b = some o → b ≠ x ∧ b ≠ dx := fun b o e => ⟨fun z => (by rw [z, hx] at e; cases e), fun z => (by rw [z, hdx] at e; cases e)⟩
  refine ⟨M, x, dx, ss, F, fun a ha => ⟨(m1 a ha).1, ?_⟩, tb, upd_same, xM, ?_, hR, fun H2 O o2 f2 kx t2 => ⟨rfl, ?_⟩⟩
  · cases e : H1 a with
    | none => exact absurd e (m1 a ha).2
    | some o =>
      obtain ⟨n1, n2⟩ := free a o e
      rw [upd_ne n1, upd_ne n2, e]
      intro z; cases z
  · rw [List.append_nil]
    exact .cons (show ArgOk K _ (.ref x) (.raw (.ref x)) from rfl) (h1.keep km tm)
  · have fO : ∀ a ∈ O, H1 a = none := fun a ha => by
      by_cases z : a = x
      · rw [z]; exact hx
      · have := f2 a ha z
        rw [upd_ne z] at this
        by_cases w : a = dx
        · rw [w]; exact hdx
        · rw [upd_ne w] at this; exact this
    have k2 : Keep T H1 H2 := ⟨fun b o e hT => by
      obtain ⟨n1, n2⟩ := free b o e
      exact kx.at_ b o (by rw [upd_ne n1, upd_ne n2]; exact e) hT (by simpa using n1), fun P hP tb0 => kx.tab P hP (kb.tab P hP tb0)⟩
    have fO' : ∀ a ∈ O, H a = none := fun a ha => k1.free r.tab (fO a ha)
    have kh : Keep T (hid M H1) (hid (O ++ M) H2) := ⟨fun b o e hT => by
      obtain ⟨m, e⟩ := hid_inv e
      exact hid_of (fun q => (List.mem_append.mp q).elim (fun q => (by rw [fO b q] at e; cases e)) m) (k2.at_ b o e hT), fun P hP tb0 => by
      obtain ⟨ps, e, ok⟩ := tb0
      obtain ⟨m, e⟩ := hid_inv e
      obtain ⟨ps', e', ok'⟩ := k2.tab P hP ⟨ps, e, ok⟩
      exact ⟨ps', hid_of (fun q => (List.mem_append.mp q).elim (fun q => (by rw [fO P q] at e; cases e)) m) e', ok'⟩⟩
    have kh0 : Keep T (hid M H) (hid (O ++ M) H2) := (hid_keep k1).trans kh
    refine q x H2 O o2 fO' (k1.trans k2) (r.reb kh0 t2 fun a ha => ?_)
    rcases List.mem_append.mp ha with ha | ha
    · obtain ⟨y, e, n⟩ := o2.none a ha
      exact ⟨nT_of t2 e n, by rw [e]; intro z; cases z⟩
    · refine ⟨(m1 a ha).1, ?_⟩
      cases e : H1 a with
      | none => exact absurd e (m1 a ha).2
      | some o => rw [k2.at_ a o e (m1 a ha).1]; intro z; cases z
theorem SM.andThen {k : OC} {D : MEnds} {t u : TS} {E : Ends} {σ : L2.St} {H : Hp} {ρ : DEnv} {F : List (Str × MF)} (rs : SRM k σ H ρ F) (sm : SM k t D ρ F) (L : LeM k D { E with nx := u E }) : tSeq t u E σ H := sm _ L σ H rs
theorem make_asg {K : PySem.W.Frag} {T M : List Addr} {C : Addr} {R : List DS → List (Str × MF) → Prop} {E : XK} {ta : TA} {σ : L2.St} {H : Hp} {ρ : DEnv} {ss : List DS} {F : List (Str × MF)} {g : TG} {u : TS} {D : Ends} (r : SR ⟨K, T, M, H⟩ [] σ H ρ) (h : EA ⟨K, T, M, H⟩ ta ρ ss) (hR : R ss F)
    (q : ∀ x H2 O, OA K (O ++ M) H2 x C F O → (∀ a ∈ O, H a = none) → Keep T H H2 → SR ⟨K, T, O ++ M, H2⟩ [] σ H2 ρ → g (.ref x) σ H2 fun σ' H' => u D σ' H') : tSeq (tAsg (tMake C (spMI K T C R) [] E ta) g) u D σ H :=
  make_run r h hR (Q := fun v H2 => g v σ H2 fun σ' H' => u D σ' H') q
end DL
/-! generator expressions over data; isinstance; chains -/
namespace DL
open PySem PySem.Spec PyProof.Rows L2 DA
section
variable {c : DC} {ρ : DEnv} {te ta tb tc : TE}
theorem keep_tabbed {P : Addr} {H H' : Hp} (hP : P ∈ c.T) (t : GxR.Tabbed P H H') : Keep c.T H H' := .tabbed hP t
theorem range_allD (g : PD → Bool) (ds : List PD) : (List.range ds.length).all (fun i => g (ds[i]?.getD .none)) = ds.all g := by
  rw [Bool.eq_iff_iff, List.all_eq_true, List.all_eq_true]
  constructor
  · intro h d hd
    obtain ⟨i, hi, e⟩ := List.getElem_of_mem hd
    have := h i (List.mem_range.mpr hi)
    rw [List.getElem?_eq_getElem hi, e] at this
    exact this
  · intro h i hi
    have hi := List.mem_range.mp hi
    rw [List.getElem?_eq_getElem hi]
    exact h _ (List.getElem_mem hi)
/-- all(b for x in it) -/
theorem ed_allG {P : Addr} {wi : TI} {g : TG} {vs js : List Nat} {ds : List PD} (b : PD → Bool) (hP : P ∈ c.T) (hi : ID c wi ρ ds) (hj : ∀ j ∈ js, j ∈ vs)
    (hs : ∀ d ∈ ds, ∀ H0, Keep c.T c.H0 H0 → ∃ ps, TGd ⟨c.K, c.T, c.M, H0⟩ g js d ps ∧ ED ⟨c.K, c.T, c.M, H0⟩ te (setDs (wipeD ρ vs) js ps) (.bool (b d))) : ED c (GE.tAllG P wi g te vs) ρ (.bool (ds.all b)) := fun A σ H r Q q => hi A σ H r _ fun J H1 k1 W => by
  have r1 := r.move k1
  refine ⟨r1.tabs P hP, fun H2 tb => ?_⟩
  have k2 : Keep c.T H1 H2 := .tabbed hP tb
  have ru : SR (c.up A H1) A σ H2 ρ := r1.up.move k2
  refine ⟨ds.length, fun i => b (ds[i]?.getD .none), fun i H3 => SR (c.up A H1) A σ H3 ρ ∧ Keep c.T H1 H3, ⟨ru, k2⟩, fun i H3 hi' k => ⟨W.go i A σ H3 ρ k.1 hi', fun x H4 y => ?_⟩, fun H3 k => W.stop _ A σ H3 ρ k.1 (Nat.le_refl _), fun i H3 _ k => ?_⟩
  · have hdi : ds[i]? = some ds[i] := List.getElem?_eq_getElem hi'
    obtain ⟨k3, hx⟩ := W.yld i A σ H3 ρ x H4 k.1 y ds[i] hdi
    obtain ⟨ps, hg, he⟩ := hs ds[i] (List.getElem_mem hi') (hid A H1) r1.ground
    have r4 := k.1.move k3
    have rw4 := r4.wipe vs
    refine hg.run _ _ H4 _ x rw4 hx _ fun zs h2 _ => ⟨by rw [wipe_setVs hj, wipe_wipe (fun _ h => h)], ?_⟩
    refine he A _ H4 (rw4.setVs h2) _ fun v H5 k5 h5 => ⟨?_, r4.move k5, (k.2.trans k3).trans k5⟩
    rw [dp_bool h5]
    show V.bl (b ds[i]) = V.bl (b (ds[i]?.getD .none))
    rw [hdi]
    rfl
  · rw [range_allD]
    exact q _ H3 (k1.trans k.2) (.bl _)
theorem preS_sumD (g : PD → Int) (ds : List PD) : GE.preS (fun i => g (ds[i]?.getD .none)) ds.length = (ds.map g).sum := by
  have key : ∀ n, n ≤ ds.length → GE.preS (fun i => g (ds[i]?.getD .none)) n = ((ds.take n).map g).sum := by
    intro n
    induction n with
    | zero => intro _; rfl
    | succ n ih =>
      intro h
      have e : ds.take (n + 1) = ds.take n ++ [ds[n]] := by rw [List.take_succ, List.getElem?_eq_getElem (by omega)]; rfl
      show GE.preS _ n + g (ds[n]?.getD .none) = _
      rw [ih (by omega), e, List.map_append, List.sum_append, List.getElem?_eq_getElem (by omega)]
      simp
  rw [key _ (Nat.le_refl _), List.take_length]
/-- sum(f for x in it) -/
theorem ed_sumG {P : Addr} {wi : TI} {g : TG} {vs js : List Nat} {ds : List PD} (f : PD → Int) (hP : P ∈ c.T) (hi : ID c wi ρ ds) (hj : ∀ j ∈ js, j ∈ vs)
    (hs : ∀ d ∈ ds, ∀ H0, Keep c.T c.H0 H0 → ∃ ps, TGd ⟨c.K, c.T, c.M, H0⟩ g js d ps ∧ ED ⟨c.K, c.T, c.M, H0⟩ te (setDs (wipeD ρ vs) js ps) (.int (f d))) : ED c (GE.tSumG P wi g te vs) ρ (.int (ds.map f).sum) := fun A σ H r Q q => hi A σ H r _ fun J H1 k1 W => by
  have r1 := r.move k1
  refine ⟨r1.tabs P hP, fun H2 tb D hD => ?_⟩
  have k2 : Keep c.T H1 H2 := .tabbed hP tb
  have hD1 : H1 D = none := k2.free r1.tabs hD
  have nD : ∀ {H3 : Hp} {xs : List V}, Keep c.T H1 H3 → H3 D = some (.lst xs) → ∀ {ys}, Keep c.T H1 (upd H3 D (.lst ys)) := fun {H3 xs} k _ {ys} => k.own r1.tabs hD1
  have DT : ∀ {H3 : Hp} {xs : List V}, Keep c.T H1 H3 → H3 D = some (.lst xs) → D ∉ c.T := fun {H3 xs} k e m => by
    obtain ⟨ps, e', _⟩ := (k.tabs r1.tabs) D m
    rw [e] at e'; cases e'
  refine ⟨ds.length, fun i => f (ds[i]?.getD .none), fun i H3 => Keep c.T H1 H3 ∧ H3 D = some (.lst [.int (GE.preS (fun i => f (ds[i]?.getD .none)) i)]), fun i H3 => Keep c.T H1 H3 ∧ H3 D = some (.lst [.int (GE.preS (fun i => f (ds[i]?.getD .none)) i)]), ⟨k2.own r1.tabs hD1, upd_same⟩, fun i H3 hi' k => ⟨W.go i A σ H3 ρ (r1.up.move k.1) hi', fun x H4 y => ?_⟩, fun H3 k => W.stop _ A σ H3 ρ (r1.up.move k.1) (Nat.le_refl _), fun i H3 _ k => k.2, fun i H3 hi' k => ⟨k.2, k.1.own r1.tabs hD1, upd_same⟩, fun H3 k => ?_⟩
  · have hdi : ds[i]? = some ds[i] := List.getElem?_eq_getElem hi'
    have r3 : SR (c.up A H1) A σ H3 ρ := r1.up.move k.1
    obtain ⟨k3, hx⟩ := W.yld i A σ H3 ρ x H4 r3 y ds[i] hdi
    obtain ⟨ps, hg, he⟩ := hs ds[i] (List.getElem_mem hi') (hid A H1) r1.ground
    have r4 := r3.move k3
    have rw4 := r4.wipe vs
    refine hg.run _ _ H4 _ x rw4 hx _ fun zs h2 _ => ⟨by rw [wipe_setVs hj, wipe_wipe (fun _ h => h)], ?_⟩
    refine he A _ H4 (rw4.setVs h2) _ fun v H5 k5 h5 => ⟨?_, (k.1.trans k3).trans k5, ?_⟩
    · rw [dp_int h5]
      show V.int (f ds[i]) = V.int (f (ds[i]?.getD .none))
      rw [hdi]
      rfl
    · have d3 := DT k.1 k.2
      exact k5.at_ _ _ (k3.at_ _ _ k.2 d3) d3
  · rw [preS_sumD]
    exact q _ H3 (k1.trans k.1) (.int _)
/-- isinstance(x, T) -/
theorem ed_isi {d : PD} {T : String} {r : Bool} (h : ED c ta ρ d) (hk : ∀ v H, Dp c.K H v d → PySem.W.kitOne c.K (.type (clsD d)) (.type T) = some r) : ED c (tCB (rIsi c.K) (tCons ta (tCons (tC (.ty T)) tNil))) ρ (.bool r) := fun A σ H s Q q => h A σ H s _ fun v H1 k1 h1 => by
  have h2 := dp_same (hid_same (M := c.M ++ A)) h1
  exact ⟨v, .ty T, _, _, r, rfl, .ty _, dp_ty h2, hk v H1 h2, q _ H1 k1 (.bl _)⟩
theorem ed_isiList {d : PD} (h : ED c ta ρ d) : ED c (tCB (rIsi c.K) (tCons ta (tCons (tC (.ty "list")) tNil))) ρ (.bool (isList d)) := ed_isi h fun v H h => kit_list h
theorem ed_isiTup {d : PD} (h : ED c ta ρ d) : ED c (tCB (rIsi c.K) (tCons ta (tCons (tC (.ty "tuple")) tNil))) ρ (.bool (isTup d)) := ed_isi h fun v H h => kit_tup h
theorem ed_isiInt {d : PD} (h : ED c ta ρ d) : ED c (tCB (rIsi c.K) (tCons ta (tCons (tC (.ty "int")) tNil))) ρ (.bool (isInt d)) := ed_isi h fun v H h => kit_int h
theorem ed_isiBool {d : PD} (h : ED c ta ρ d) : ED c (tCB (rIsi c.K) (tCons ta (tCons (tC (.ty "bool")) tNil))) ρ (.bool (isBool d)) := ed_isi h fun v H h => kit_bool h
theorem ed_isiStr {d : PD} (h : ED c ta ρ d) : ED c (tCB (rIsi c.K) (tCons ta (tCons (tC (.ty "str")) tNil))) ρ (.bool (isStr d)) := ed_isi h fun v H h => kit_str h
/-- a <= b <= c of ints -/
theorem et_chain {p p' : Int → Int → Bool} {i j k : Int} (ha : ED c ta ρ (.int i)) (hb : ED c tb ρ (.int j)) (hc : ED c tc ρ (.int k)) : ET c (tTest (tChain (rI0 fun a b => .bl (p a b)) (rI0 fun a b => .bl (p' a b)) ta tb tc)) ρ (p i j && p' j k) := fun A σ H r Q q =>
  ha A σ H r _ fun v H1 k1 h1 => hb A σ H1 (r.move k1) _ fun u H2 k2 h2 => ⟨i, j, dp_int h1, dp_int h2, p i j, rfl, by
    cases e : p i j with
    | false =>
      rw [e] at q
      show ∃ k, V.bl false = V.bl k ∧ Q k H2
      exact ⟨_, rfl, q H2 (k1.trans k2)⟩
    | true =>
      rw [e, Bool.true_and] at q
      show tc σ H2 _
      exact hc A σ H2 ((r.move k1).move k2) _ fun w H3 k3 h3 => ⟨j, k, dp_int h2, dp_int h3, _, rfl, q H3 ((k1.trans k2).trans k3)⟩⟩
theorem ed_chain {p p' : Int → Int → Bool} {i j k : Int} (ha : ED c ta ρ (.int i)) (hb : ED c tb ρ (.int j)) (hc : ED c tc ρ (.int k)) : ED c (tChain (rI0 fun a b => .bl (p a b)) (rI0 fun a b => .bl (p' a b)) ta tb tc) ρ (.bool (p i j && p' j k)) := fun A σ H r Q q =>
  ha A σ H r _ fun v H1 k1 h1 => hb A σ H1 (r.move k1) _ fun u H2 k2 h2 => ⟨i, j, dp_int h1, dp_int h2, p i j, rfl, by
    cases e : p i j with
    | false =>
      rw [e] at q
      exact q _ H2 (k1.trans k2) (.bl _)
    | true =>
      rw [e, Bool.true_and] at q
      show tc σ H2 _
      exact hc A σ H2 ((r.move k1).move k2) _ fun w H3 k3 h3 => ⟨j, k, dp_int h2, dp_int h3, q _ H3 ((k1.trans k2).trans k3) (.bl _)⟩⟩
end
end DL
/-! a local name that holds an object that changes -/
namespace DL
open PySem PySem.Spec PyProof.Rows L2 DA
section
variable {k : OC} {ρ : DEnv} {F F' : List (Str × MF)} {D : MEnds} {t u : TS} {te : TE} {d : PD}
/-- f(object, ..) -/
theorem call_run {σ : L2.St} {H : Hp} (r : SRM k σ H ρ F) {i : Nat} {R : RM} {ta : TA} {ss : List DS} {E : XK} (hs : isSelf k ρ i) (ha : AM k ta ρ F ss) (hR : R F ss d F') {Q : VK} (q : ∀ v H', SRM k σ H' ρ F' → Dp k.K (hid k.M H') v d → Q v H') : tCall (spM k.K k.T k.C R) [] E (tCons (tVar i) ta) σ H Q := by
  refine ⟨_, self_at r hs, ha H r.oa r.tb [] σ H r.sr _ fun ws H1 k1 h1 => ?_⟩
  have r1 := r.move k1 (r.sr.move k1)
  rw [show (⟨k.K, k.T, k.M, H⟩ : DC).M ++ [] = k.M from List.append_nil _] at h1
  refine ⟨k.M, k.p, k.O, F, ss, d, F', r1.sr.msk, r1.sr.tab, r1.oa, ?_, hR, fun v H2 h2 o2 x2 => q v H2 (r1.called x2 o2) h2⟩
  rw [List.append_nil]
  exact .cons (show ArgOk k.K (hid k.M H1) (.ref k.p) (.raw (.ref k.p)) from rfl) h1
theorem sm_dropC {i : Nat} {R : RM} {ta : TA} {ss : List DS} {E : XK} (hs : isSelf k ρ i) (ha : AM k ta ρ F ss) (hR : R F ss d F') (q : D.nx ρ F') : SM k (tDrop (tCall (spM k.K k.T k.C R) [] E (tCons (tVar i) ta))) D ρ F := fun _ L σ H r =>
  call_run r hs ha hR fun v H1 r1 h1 => L.nx _ _ _ _ r1 q
/-- if object.m(..): -/
theorem sm_ifM {i : Nat} {m : Str} {R : RM} {ta : TA} {ss : List DS} {E : XK} {b : Bool} (hs : isSelf k ρ i) (hm : F.lookup m = none) (ha : AM k ta ρ F ss) (hR : R F ss (.bool b) F') (h1 : b = true → SM k t D ρ F') (h2 : b = false → SM k u D ρ F') : SM k (tIfS (tB (tMeth k.C m (spM k.K k.T k.C R) [] E (tVar i) ta)) t u) D ρ F := fun E' L σ H r =>
  meth_run r hs hm ha hR fun v H1 r1 g1 => ⟨b, dp_bool g1, by
    cases b with
    | true => exact h1 rfl E' L σ H1 r1
    | false => exact h2 rfl E' L σ H1 r1⟩
/-- return a if x in object.m() else b -/
theorem sm_retInM {i : Nat} {m : Str} {R : RM} {E : XK} {ys : List PD} {x y z : Str} (hs : isSelf k ρ i) (hm : F.lookup m = none) (hR : R F [] (.list ys) F') (hy : ys.all flatD = true) (q : D.rt (.str (if inV (.str x) (ys.map vOf) = true then y else z)) F') :
    SM k (tRet (tIf (tTest (tOp (rIn k.K false) (tC (.str x)) (tMeth k.C m (spM k.K k.T k.C R) [] E (tVar i) tNil))) (tC (.str y)) (tC (.str z)))) D ρ F := fun E' L σ H r =>
  meth_run r hs hm am_nil hR fun v H1 r1 g1 => by
    obtain ⟨a, us, rfl, g2, g3⟩ := dp_list g1
    have e := dps_flat g3 hy
    subst e
    refine ⟨a, _, rfl, .inl (hid_same.seq g2), rfl, flats_V hy, _, rfl, ?_⟩
    show if (inV (.str x) (ys.map vOf)) = true then E'.rt (.str y) H1 else E'.rt (.str z) H1
    split
    · next h =>
      rw [if_pos h] at q
      exact L.rt _ H1 _ F' (.str y) r1.oa r1.kx q
    · next h =>
      rw [if_neg h] at q
      exact L.rt _ H1 _ F' (.str z) r1.oa r1.kx q
end
/-- x = f(..), f gives a new object: from there on the statements with the object -/
theorem mf_asg {K : PySem.W.Frag} {T M : List Addr} {C : Addr} {R : List DS → List (Str × MF) → Prop} {E : XK} {ta : TA} {σ : L2.St} {H : Hp} {ρ : DEnv} {ss : List DS} {F : List (Str × MF)} {j : Nat} {u : TS} {D : Ends} {c : DC} (hc : c = ⟨K, T, M, H⟩) (r : SR c [] σ H ρ) (h : EA c ta ρ ss) (hR : R ss F)
    (q : ∀ x H2 O, (∀ a ∈ O, H a = none) → Keep T H H2 → SRM ⟨K, T, O ++ M, x, C, O, H2⟩ (σ.set j (some (.ref x))) H2 (ρ.set j (.raw (.ref x))) F → u D (σ.set j (some (.ref x))) H2) : tSeq (tAsg (tCall (spMF K T C R) [] E ta) (gName j)) u D σ H := by
  subst hc
  refine h [] σ H r _ fun vs H1 k1 h1 => ?_
  have h1 : ArgsOk K (hid (M ++ []) H1) vs ss := h1
  rw [List.append_nil] at h1
  have m1 : ∀ a ∈ M, a ∉ T ∧ H1 a ≠ none := fun a ha => (r.move k1).nM a (List.mem_append_left _ ha)
  have t1 : Tabs T H1 := k1.tabs r.tab
  refine ⟨M, ss, F, m1, t1, by rw [List.append_nil]; exact h1, hR, fun p H2 O o2 f2 k2 => ?_⟩
  have t2 : Tabs T H2 := k2.tabs t1
  have fO : ∀ a ∈ O, H a = none := fun a ha => k1.free r.tab (f2 a ha)
  have kh : Keep T (hid M H) (hid (O ++ M) H2) := (hid_keep k1).trans ⟨fun b o e hT => by
      obtain ⟨m, e⟩ := hid_inv e
      exact hid_of (fun q => (List.mem_append.mp q).elim (fun q => (by rw [f2 b q] at e; cases e)) m) (k2.at_ b o e hT), fun P hP tb0 => by
      obtain ⟨ps, e, ok⟩ := tb0
      obtain ⟨m, e⟩ := hid_inv e
      obtain ⟨ps', e', ok'⟩ := k2.tab P hP ⟨ps, e, ok⟩
      exact ⟨ps', hid_of (fun q => (List.mem_append.mp q).elim (fun q => (by rw [f2 P q] at e; cases e)) m) e', ok'⟩⟩
  have m2 : ∀ a ∈ O ++ M, a ∉ T ∧ H2 a ≠ none := fun a ha => by
    rcases List.mem_append.mp ha with ha | ha
    · obtain ⟨y, e, n⟩ := o2.none a ha
      exact ⟨nT_of t2 e n, by rw [e]; intro z; cases z⟩
    · refine ⟨(m1 a ha).1, ?_⟩
      cases e : H1 a with
      | none => exact absurd e (m1 a ha).2
      | some o => rw [k2.at_ a o e (m1 a ha).1]; intro z; cases z
  have r2 : SR ⟨K, T, O ++ M, H2⟩ [] σ H2 ρ := SR.reb (H := H) ⟨r.tab, .refl, r.msk, fun b hb => (nomatch hb), r.len, r.rel, r.inj⟩ kh t2 m2
  exact q p H2 O fO (k1.trans k2) ⟨r2.setS j (v := .ref p) (s := .raw (.ref p)) rfl (fun ds z => nomatch z), o2, .refl⟩
/-- back from the object to the caller -/
theorem mf_ends {K : PySem.W.Frag} {T M : List Addr} {x C : Addr} {O : List Addr} {H H2 : Hp} {Q : VK} {nx : L2.St → Hp → Prop} {F : List (Str × MF)} {d : PD} (fO : ∀ a ∈ O, H a = none) (k : Keep T H H2) (q : ∀ v H', Dp K (hid M H') v d → Keep T H H' → Q v H') :
    LeM ⟨K, T, O ++ M, x, C, O, H2⟩ ⟨fun _ _ => False, fun e F' => e = d⟩ { nx := nx, rt := Q } :=
  ⟨fun _ _ _ _ _ z => z.elim, fun v H' e F' h1 _ x2 e1 => by
    have e1 : e = d := e1
    subst e1
    exact q v H' (dp_same (hid_sub fun a ha => List.mem_append_right _ ha) h1) (KeepX.keep k x2 fO)⟩
end DL
/-! xs.count(y) over data -/
namespace DL
open PySem PySem.Spec PyProof.Rows L2 DA
section
variable {X : Cx}
def rCntD (K : PySem.W.Frag) : V → List V → Hp → VK → Prop := fun x xs H Q => ∃ (a : Addr) (y : V) (d : PyData) (ds : List PyData), x = V.ref a ∧ xs = [y] ∧ Dp K H (V.ref a) (.list ds) ∧ Dp K H y d ∧
  SeqAt.shaped (.list ds) = true ∧ SeqAt.shaped d = true ∧ Q (.int ((ds.countP fun z => PyData.eqv z d : Nat) : Int)) H
theorem mt_countD (hu : X.A.units + 65 < cLine) : MtR X "list.count" (rCntD X.K) := by
  intro pins s σ H x xs v us Q I rx rxs h
  obtain ⟨a, y, d, ds, rfl, rfl, hl, hy, sl, sd, q⟩ := h
  cases rx
  cases rxs with
  | cons ry rt =>
    rename_i uy ut
    cases rt
    obtain ⟨bs, r1⟩ := Dp.reads I d y uy hy ry
    have hxs : PyData.canLayAll0 ds = true := SeqAt.canLay_of_shaped sl
    have hroom : X.A.units + 1 + min (PyData.depthAll ds) d.depth < cLine := room_in_shaped sd hu
    cases hl with
    | lst hs ha =>
      obtain ⟨its, rv, ⟨⟨cls, dd, data, sls⟩, n, ho, hc, hdn, hdt⟩, hlen⟩ := I.list hs
      simp only at hc hdt
      subst hc hdt
      obtain ⟨as, h4⟩ := Dp.readsAll I ds _ its ha rv
      have hmap : its.map (SeqAt.readOf s.heap) = ds := SeqAt.readsAll_map ds its as hxs h4
      refine call_meets PySem.F.slot_list_count ⟨_, ho, rfl⟩ PySem.F.entry_list_count (PySem.F.args_list_count_2 _ _)
        (SeqAt.list_countAt a its.toArray n dd sls uy (fun u => PyData.eqv (SeqAt.readOf s.heap u) d)) ⟨ho, SeqAt.items_eqAt (vs := its.toArray) (show ReadsAll s.heap its.toArray.toList ds as from h4) r1 hxs (SeqAt.canLay_of_shaped sd) hroom, ?_⟩
      have ec : its.toArray.toList.countP (fun u => PyData.eqv (SeqAt.readOf s.heap u) d) = ds.countP fun z => PyData.eqv z d := by
        rw [← hmap, List.countP_map]
        rfl
      refine ⟨.int ((ds.countP fun z => PyData.eqv z d : Nat) : Int), H, I.tok _, ⟨s.toks, ?_⟩, q⟩
      show Value.int ((its.toArray.toList.countP (fun u => PyData.eqv (SeqAt.readOf s.heap u) d) : Nat) : Int) s.toks = _
      rw [ec]
end
section
variable {c : DC} {ρ : DEnv} {ta tb te : TE} {d : PD}
theorem ed_countD {ds : List PD} (ha : EL c te ρ ds) (hb : ED c tb ρ d) (hs : SeqAt.shaped (.list ds) = true) (hd : SeqAt.shaped d = true) : ED c (tBM c.K "list" (rCntD c.K) te (tCons tb tNil)) ρ (.int ((ds.countP fun z => PyData.eqv z d : Nat) : Int)) := fun A σ H s Q q =>
  ha A σ H s _ fun a xs H1 k1 h1 h2 => ⟨.inl ⟨rfl, xs, h1⟩, hb A σ H1 (s.move k1) _ fun w H2 k2 h3 => by
    have h4 := dps_keep (hid_keep k2) (s.move k1).tabm h2
    exact ⟨a, w, d, ds, rfl, rfl, .lst (k2.sqL (s.move k1).tabs h1) (dps_same hid_same h4), dp_same hid_same h3, hs, hd, q _ H2 (k1.trans k2) (.int _)⟩⟩
end
/-! shaped data -/
theorem canAll {ds : List PD} (h : ∀ d ∈ ds, PyData.canLay0 d = true) : PyData.canLayAll0 ds = true := by
  induction ds with
  | nil => simp [PyData.canLayAll0]
  | cons d ds ih => simp [PyData.canLayAll0, h d List.mem_cons_self, ih fun e he => h e (List.mem_cons_of_mem _ he)]
theorem depAll {ds : List PD} {n : Nat} (h : ∀ d ∈ ds, PyData.depth d ≤ n) : PyData.depthAll ds ≤ n := by
  induction ds with
  | nil => simp [PyData.depthAll]
  | cons d ds ih =>
    have h1 := h d List.mem_cons_self
    have h2 := ih fun e he => h e (List.mem_cons_of_mem _ he)
    simp only [PyData.depthAll]
    omega
theorem shaped_listOf {ds : List PD} {n : Nat} (h : ∀ d ∈ ds, PyData.canLay0 d = true ∧ PyData.depth d ≤ n) (hn : n ≤ 60) : SeqAt.shaped (.list ds) = true := by
  have h1 := canAll fun d hd => (h d hd).1
  have h2 := depAll fun d hd => (h d hd).2
  show (PyData.canLay0 (.list ds) && decide (PyData.depth (.list ds) ≤ 64)) = true
  rw [Bool.and_eq_true]
  refine ⟨?_, decide_eq_true ?_⟩
  · simp only [PyData.canLay0]
    exact h1
  · simp only [PyData.depth]
    omega
end DL
/-! lists joined, turned round, sorted pairs, places, three new lists at once -/
namespace DL
open PySem PySem.Spec PyProof.Rows L2 DA TR
section
variable {X : Cx}
def rCatL (K : PySem.W.Frag) : R2 := fun x y H Q => ∃ l b xs zs, x = .ref l ∧ y = .ref b ∧ SqL K H l xs ∧ SqL K H b zs ∧ xs.length + zs.length ≤ sizeLine ∧ ∀ p, H p = none → Q (.ref p) (upd H p (.lst (xs ++ zs)))
theorem op_catL : OpR X (binaryOp .Add) (rCatL X.K) := by
  intro pins s σ H x y v u Q I rx ry h
  obtain ⟨l, b, xs, zs, rfl, rfl, hH, hB, hz, q⟩ := h
  cases rx
  cases ry
  obtain ⟨its, r, ⟨⟨cls, dd, data, sls⟩, n, e, hc, hdn, hdt⟩, hl⟩ := I.list hH
  obtain ⟨its2, r2, ⟨⟨cls2, dd2, data2, sls2⟩, n2, e2, hc2, hdn2, hdt2⟩, hl2⟩ := I.list hB
  simp only at hc hdt hdn hc2 hdt2 hdn2
  subst hc hdt hdn hc2 hdt2 hdn2
  have z1 := r.length
  have z2 := r2.length
  refine concat_meets ⟨_, e, rfl⟩ ⟨_, e2, rfl⟩ noFill_list_add seq_list_add PySem.F.slot_list_add PySem.F.entry_list_add (PySem.F.args_list_add_2 _ _) (list_addW l b its.toArray its2.toArray n n2 none none sls sls2 (by rw [List.size_toArray, List.size_toArray]; omega)) ⟨e, e2, ?_⟩
  have ea : its.toArray ++ its2.toArray = (its ++ its2).toArray := by simp
  rw [ea]
  exact ⟨.ref _, _, I.lnew (t' := s.toks) (r.append r2) (by rw [List.length_append]; omega), rfl, q _ I.fresh⟩
end
theorem lex_swo : SrtO.Swo SrtO.lexB := by
  refine ⟨fun x y h => ?_, fun x y z h1 h2 => ?_⟩
  · have a := SrtO.lexB_iff.mp h
    refine SrtO.lexB_no.mpr ?_
    omega
  · have a := SrtO.lexB_no.mp h1
    have b := SrtO.lexB_no.mp h2
    refine SrtO.lexB_no.mpr ?_
    omega
theorem lex_eqv (x y : Int × Int) : SrtO.eqv SrtO.lexB x y = (y == x) := by
  by_cases h : y = x
  · subst h
    rw [beq_self_eq_true]
    exact SrtO.eqv_iff.mpr ⟨lex_swo.refl y, lex_swo.refl y⟩
  · have h2 : (y == x) = false := by simpa using h
    rw [h2]
    cases e : SrtO.eqv SrtO.lexB x y with
    | false => rfl
    | true =>
      obtain ⟨q1, q2⟩ := SrtO.eqv_iff.mp e
      have a := SrtO.lexB_no.mp q1
      have b := SrtO.lexB_no.mp q2
      exact absurd (Prod.ext (by omega) (by omega)) h
theorem lex_uniq {l m : List (Int × Int)} (h1 : SrtO.Srtd SrtO.lexB l) (h2 : SrtO.Srtd SrtO.lexB m) (p : l.Perm m) : l = m := by
  refine SrtO.stb_uniq lex_swo h1 h2 ⟨p, fun x => ?_⟩
  rw [show SrtO.eqv SrtO.lexB x = fun y => y == x from funext fun y => lex_eqv x y, List.filter_beq, List.filter_beq, p.count_eq]
def pairD (p : Int × Int) : PD := .tuple [.int p.1, .int p.2]
theorem isPair_fn {h : Heap} {v : Value} {a b c d : Int} (p : Srt.IsPair h v a b) (q : Srt.IsPair h v c d) : a = c ∧ b = d := by
  obtain ⟨x, o, t, u, n, rfl, e, _, dd⟩ := p
  obtain ⟨y, o', t', u', n', e1, e', _, dd'⟩ := q
  cases e1
  rw [e] at e'
  cases e'
  rw [dd] at dd'
  cases dd'
  exact ⟨rfl, rfl⟩
section
variable {X : Cx}
/-- sorted(xs), xs a list of pairs of ints -/
def rSortedPD (K : PySem.W.Frag) : List V → Hp → VK → Prop := fun vs H Q => ∃ (a : Addr) (xs : List V) (ps : List (Int × Int)), vs = [V.ref a] ∧ SqL K H a xs ∧ DpAll K H xs (ps.map pairD) ∧
  ∀ ys qs p, (∀ H', DpAll K H' xs (ps.map pairD) → DpAll K H' ys (qs.map pairD)) → SrtO.Srtd SrtO.lexB qs → qs.Perm ps → H p = none → Q (.ref p) (upd H p (.lst ys))
theorem pair_at {pins : List (Addr × Obj)} {s : Shared} {σ : L2.St} {H : Hp} (I : L2.Inv X pins σ H s) : ∀ {xs : List V} {its : List Value} {ps : List (Int × Int)}, Vals xs its → DpAll X.K H xs (ps.map pairD) → (∀ v ∈ its, ∃ p : Int × Int, Srt.IsPair s.heap v p.1 p.2 ∧ ∃ t, v = .ref t ∧ Dp X.K H (.ref t) (pairD p)) ∧ (∀ f : Value → Int × Int, (∀ v ∈ its, ∀ p : Int × Int, Srt.IsPair s.heap v p.1 p.2 → f v = p) → its.map f = ps)
  | [], _, [], .nil, _ => ⟨(fun _ z => nomatch z), fun _ _ => rfl⟩
  | x :: xs, _ :: its, p :: ps, .cons r rv, .cons a h => by
    obtain ⟨ih1, ih2⟩ := pair_at I rv h
    obtain ⟨t, zs, rfl, h3, h4⟩ := dp_tup a
    have hz : zs = [.int p.1, .int p.2] := by
      cases h4 with
      | cons b1 h4 =>
        cases h4 with
        | cons b2 h4 => cases h4; rw [dp_int b1, dp_int b2]
    subst hz
    cases r
    obtain ⟨its2, r2, ⟨o, ho, hc, n, hd⟩, _⟩ := I.tuple h3
    obtain ⟨u1, u2, rfl, ri, rj⟩ := vals2 r2
    obtain ⟨t1, rfl⟩ := ri
    obtain ⟨t2, rfl⟩ := rj
    have hp : Srt.IsPair s.heap (.ref t) p.1 p.2 := ⟨t, o, t1, t2, n, rfl, ho, hc, hd⟩
    refine ⟨fun v hv => ?_, fun f hf => ?_⟩
    · rcases List.mem_cons.mp hv with rfl | hv
      · exact ⟨p, hp, t, rfl, a⟩
      · exact ih1 v hv
    · rw [List.map_cons, hf _ List.mem_cons_self p hp, ih2 f fun v hv => hf v (List.mem_cons_of_mem _ hv)]
theorem dps_mem {K : PySem.W.Frag} {H : Hp} : ∀ {xs : List V} {ps : List (Int × Int)}, DpAll K H xs (ps.map pairD) → ∀ {x : V}, x ∈ xs → ∃ (p : Int × Int) (t : Addr), x = .ref t
  | _, [], .nil, _, z => nomatch z
  | _, p :: ps, .cons a h, x, z => by
    rcases List.mem_cons.mp z with rfl | z
    · obtain ⟨t, zs, e, _⟩ := dp_tup a
      exact ⟨p, t, e⟩
    · exact dps_mem h z
theorem pair_all {K : PySem.W.Frag} {H : Hp} {k : Value → Int × Int} : ∀ {its : List Value}, DpAll K H (its.map backV) ((its.map k).map pairD) → ∀ v ∈ its, Dp K H (backV v) (pairD (k v))
  | [], _, _, z => nomatch z
  | _ :: _, .cons a h, v, z => by
    rcases List.mem_cons.mp z with rfl | z
    · exact a
    · exact pair_all h v z
theorem cr_sortedPD : CallR X (.builtin "sorted") (rSortedPD X.K) := by
  classical
  intro pins s σ H vs us Q I r h
  obtain ⟨a, xs, ps, rfl, hs, hx, q⟩ := h
  obtain ⟨its, rv, hl, hz⟩ := I.list hs
  obtain ⟨u, rfl, ru⟩ := vals1 r
  obtain rfl : u = Value.ref a := ru
  obtain ⟨g1, g2⟩ := pair_at I rv hx
  let k : Value → Int × Int := fun v => if h : ∃ p : Int × Int, Srt.IsPair s.heap v p.1 p.2 then h.choose else (0, 0)
  have hk : ∀ v (p : Int × Int), Srt.IsPair s.heap v p.1 p.2 → k v = p := fun v p hp => by
    have hex : ∃ p : Int × Int, Srt.IsPair s.heap v p.1 p.2 := ⟨p, hp⟩
    have e : k v = hex.choose := dif_pos hex
    rw [e]
    obtain ⟨q1, q2⟩ := isPair_fn hex.choose_spec hp
    exact Prod.ext q1 q2
  have hmap : its.map k = ps := g2 k fun v _ p hp => hk v p hp
  refine SrtO.sorted_pairsO (k := k) hl.isList (by rw [← rv.length]; exact hz) (fun v hv => ?_) fun h' d out h1 h2 kp hd hn => ?_
  · obtain ⟨p, hp, _⟩ := g1 v hv
    rw [hk v p hp]
    exact hp
  · have h3 : ∀ u ∈ out, ∃ a, u = Value.ref a := fun u hu => by
      obtain ⟨p, _, t, e, _⟩ := g1 u (h2.perm.mem_iff.mp hu)
      exact ⟨t, e⟩
    obtain ⟨n, hn⟩ := hn
    have hlen : out.length = its.length := h2.perm.length_eq
    have e1 : xs = its.map backV := (refs_back rv fun x m => by
      obtain ⟨d', t, e⟩ := dps_mem hx m
      exact ⟨t, e⟩).1
    have hD : ∀ H', DpAll X.K H' xs (ps.map pairD) → ∀ l : List Value, (∀ u ∈ l, u ∈ its) → DpAll X.K H' (l.map backV) ((l.map k).map pairD) := fun H' hx' l => by
      rw [e1, ← hmap] at hx'
      have g3 := pair_all hx'
      induction l with
      | nil => intro _; exact .nil
      | cons v l ih =>
        intro hm
        exact .cons (g3 v (hm v List.mem_cons_self)) (ih fun u hu => hm u (List.mem_cons_of_mem _ hu))
    refine ⟨.ref d, upd H d (.lst (out.map backV)), I.laid (t' := s.toks) kp hd ⟨?_, out, n, vals_back h3, hn⟩, rfl, q _ (out.map k) d (fun H' hx' => hD H' hx' out fun u hu => h2.perm.mem_iff.mp hu) (SrtO.srtd_map h1) (by rw [← hmap]; exact h2.perm.map k) (I.hok.fresh hd)⟩
    rw [List.length_map, hlen, ← rv.length]
    exact hz
end
section
variable {c : DC} {ρ : DEnv} {ta tb te : TE} {d : PD}
theorem dps_rev {K : PySem.W.Frag} {H : Hp} : ∀ {xs : List V} {ds : List PD}, DpAll K H xs ds → DpAll K H xs.reverse ds.reverse
  | _, _, .nil => .nil
  | _, _, .cons a r => by
    rw [List.reverse_cons, List.reverse_cons]
    exact dps_append (dps_rev r) (.cons a .nil)
theorem en_catL {xs ys : List PD} (ha : EL c ta ρ xs) (hb : EL c tb ρ ys) (hz : xs.length + ys.length ≤ 1000) : EN c (tOp (rCatL c.K) ta tb) ρ (xs ++ ys) := fun A σ H s Q q =>
  ha A σ H s _ fun a us H1 k1 g1 g2 => hb A σ H1 (s.move k1) _ fun b vs H2 k2 h1 h2 => by
    have g3 := dps_keep (hid_keep k2) (s.move k1).tabm g2
    refine ⟨a, b, us, vs, rfl, rfl, k2.sqL (s.move k1).tabs g1, h1, by rw [dps_len g2, dps_len h2]; exact Nat.le_of_lt (small1000 hz), fun p hp => ?_⟩
    refine q p _ _ ((k1.trans k2).trans (.new hp)) ((k1.trans k2).free s.tabs hp) upd_same ?_
    rw [hid_new hp]
    exact dps_append g3 h2
theorem en_revL {xs : List PD} (ha : EL c ta ρ xs) : EN c (tRevL c.K ta) ρ xs.reverse := fun A σ H s Q q => ha A σ H s _ fun a us H1 k1 g1 g2 => ⟨a, us, rfl, g1, fun p hp => by
  refine q p _ _ (k1.trans (.new hp)) (k1.free s.tabs hp) upd_same ?_
  rw [hid_new hp]
  exact dps_rev g2⟩
theorem en_sortP {ps qs : List (Int × Int)} (ha : EL c ta ρ (ps.map pairD)) (h1 : SrtO.Srtd SrtO.lexB qs) (h2 : qs.Perm ps) : EN c (tCB (rSortedPD c.K) (tCons ta tNil)) ρ (qs.map pairD) := fun A σ H s Q q => ha A σ H s _ fun a us H1 k1 g1 g2 => by
  refine ⟨a, us, ps, rfl, g1, dps_same hid_same g2, fun ys qs' p h3 h4 h5 hp => ?_⟩
  have e : qs' = qs := lex_uniq h4 h1 (h5.trans h2.symm)
  subst e
  refine q p ys _ (k1.trans (.new hp)) (k1.free s.tabs hp) upd_same ?_
  rw [hid_new hp]
  exact h3 _ g2
end
end DL
namespace DL
open PySem PySem.Spec PyProof.Rows L2 DA TR
section
variable {c : DC} {A : List Addr} {σ : L2.St} {H H' : Hp} {ρ : DEnv}
theorem SR.growK (r : SR c A σ H ρ) (k : Keep c.T H H') {p : Addr} {xs : List V} (hp : H p = none) (h1 : H' p = some (.lst xs)) : Keep c.T (hid (c.M ++ A) H) (hid (c.M ++ p :: A) H') := by
  refine ⟨fun b o e n => ?_, fun P hP tb => ?_⟩
  · obtain ⟨m, e⟩ := hid_inv e
    refine hid_of (fun q => ?_) (k.at_ b o e n)
    rcases List.mem_append.mp q with q | q
    · exact m (List.mem_append_left _ q)
    · rcases List.mem_cons.mp q with z | q
      · rw [z, hp] at e; cases e
      · exact m (List.mem_append_right _ q)
  · obtain ⟨ps, e, ok⟩ := tb
    obtain ⟨m, e⟩ := hid_inv e
    obtain ⟨ps', e', ok'⟩ := k.tab P hP ⟨ps, e, ok⟩
    refine ⟨ps', hid_of (fun q => ?_) e', ok'⟩
    rcases List.mem_append.mp q with q | q
    · exact m (List.mem_append_left _ q)
    · rcases List.mem_cons.mp q with z | q
      · rw [z, hp] at e; cases e
      · exact m (List.mem_append_right _ q)
theorem SR.setO (r : SR c A σ H ρ) (i : Nat) {p : Addr} {xs : List V} {ds : List PD} (hA : p ∈ A) (h1 : H p = some (.lst xs)) (h3 : DpAll c.K (hid (c.M ++ A) H) xs ds) (key : ∀ m gs, i ≠ m → ρ[m]? = some (.own gs) → σ[m]? = some (some (.ref p)) → False) : SR c A (σ.set i (some (.ref p))) H (ρ.set i (.own ds)) := by
  refine ⟨r.tab, r.keep, r.msk, r.new, by rw [List.length_set, List.length_set, r.len], fun j t e => ?_, fun j l es fs a hjl e1 e2 e3 e4 => ?_⟩
  · rcases get_set e with ⟨rfl, rfl⟩ | ⟨hne, e⟩
    · have hl : i < σ.length := by
        rw [r.len]
        have := (List.getElem?_eq_some_iff.mp e).1
        rwa [List.length_set] at this
      exact ⟨some (.ref p), by rw [List.getElem?_set, if_pos rfl, if_pos hl], (show ∃ a ys, V.ref p = .ref a ∧ a ∈ A ∧ H a = some (.lst ys) ∧ DpAll c.K (hid (c.M ++ A) H) ys ds from ⟨p, xs, rfl, hA, h1, h3⟩)⟩
    · obtain ⟨ov, g1, g2⟩ := r.rel j t e
      exact ⟨ov, by rw [List.getElem?_set_ne hne]; exact g1, g2⟩
  · rcases get_set e1 with ⟨rfl, _⟩ | ⟨n1, e1⟩
    · rcases get_set e2 with ⟨z, _⟩ | ⟨n2, e2⟩
      · exact hjl z
      · have hl : i < σ.length := by
          by_cases q : i < σ.length
          · exact q
          · rw [List.getElem?_eq_none (by rw [List.length_set]; omega)] at e3
            cases e3
        rw [List.getElem?_set, if_pos rfl, if_pos hl] at e3
        cases e3
        rw [List.getElem?_set_ne n2] at e4
        exact key l fs n2 e2 e4
    · rcases get_set e2 with ⟨rfl, _⟩ | ⟨n2, e2⟩
      · have hl : i < σ.length := by
          by_cases q : i < σ.length
          · exact q
          · rw [List.getElem?_eq_none (by rw [List.length_set]; omega)] at e4
            cases e4
        rw [List.getElem?_set, if_pos rfl, if_pos hl] at e4
        cases e4
        rw [List.getElem?_set_ne n1] at e3
        exact key j es n1 e1 e3
      · rw [List.getElem?_set_ne n1] at e3
        rw [List.getElem?_set_ne n2] at e4
        exact r.inj j l es fs a hjl e1 e2 e3 e4
/-- no own list stands at an address that was none -/
theorem SR.noOwn (r : SR c A σ H ρ) {p : Addr} (hp : H p = none) : ∀ (m : Nat) (gs : List PD), ρ[m]? = some (.own gs) → σ[m]? = some (some (.ref p)) → False := fun m gs e1 e2 => by
  obtain ⟨ov, z1, z2⟩ := r.rel m _ e1
  rw [e2] at z1
  cases z1
  obtain ⟨b, ys, z3, z4, z5, _⟩ := z2
  cases z3
  rw [hp] at z5
  cases z5
end
theorem noOwn_set {σ : L2.St} {ρ : DEnv} {i : Nat} {p q : Addr} {s : DS} (n : q ≠ p) (h : ∀ (m : Nat) (gs : List PD), ρ[m]? = some (.own gs) → σ[m]? = some (some (.ref p)) → False) : ∀ (m : Nat) (gs : List PD), (ρ.set i s)[m]? = some (.own gs) → (σ.set i (some (.ref q)))[m]? = some (some (.ref p)) → False := fun m gs e1 e2 => by
  by_cases z : i = m
  · subst z
    by_cases hl : i < σ.length
    · rw [List.getElem?_set, if_pos rfl, if_pos hl] at e2
      cases e2
      exact n rfl
    · rw [List.getElem?_eq_none (by rw [List.length_set]; omega)] at e2
      cases e2
  · rw [List.getElem?_set_ne z] at e1 e2
    exact h m gs e1 e2
section
variable {c : DC} {ρ : DEnv} {ta tb tc te : TE} {d : PD} {D : DEnds}
theorem sd_new3 {i j l : Nat} {xs ys zs : List PD} (hij : i ≠ j) (hil : i ≠ l) (hjl : j ≠ l) (ha : EN c ta ρ xs) (hb : EN c tb ρ ys) (hc : EN c tc ρ zs) (k : D.nx (((ρ.set i (.own xs)).set j (.own ys)).set l (.own zs))) :
    SD c (tAsg (tTup (tCons ta (tCons tb (tCons tc tNil)))) (gTup c.K 3 (gCons (gName i) (gCons (gName j) (gCons (gName l) gNil))))) D ρ := fun E L A σ H r =>
  ha A σ H r _ fun p1 us1 H1 k1 hp1 e1 g1 => by
    have r1 := r.grow k1 hp1 e1
    have g1 : DpAll c.K (hid (c.M ++ p1 :: A) H1) us1 xs := by
      rw [hid_cong (N := p1 :: (c.M ++ A)) (fun a => by simp [or_left_comm])]; exact g1
    refine hb _ σ H1 r1 _ fun p2 us2 H2 k2 hp2 e2 g2 => ?_
    have r2 := r1.grow k2 hp2 e2
    have g2 : DpAll c.K (hid (c.M ++ p2 :: p1 :: A) H2) us2 ys := by
      rw [hid_cong (N := p2 :: (c.M ++ p1 :: A)) (fun a => by simp [or_left_comm])]; exact g2
    have g1 := dps_keep (r1.growK k2 hp2 e2) r1.tabm g1
    have d21 : p1 ≠ p2 := fun z => by rw [← z, e1] at hp2; cases hp2
    have e1 := k2.at_ _ _ e1 (r1.nA List.mem_cons_self)
    refine hc _ σ H2 r2 _ fun p3 us3 H3 k3 hp3 e3 g3 => ?_
    have r3 := r2.grow k3 hp3 e3
    have g3 : DpAll c.K (hid (c.M ++ p3 :: p2 :: p1 :: A) H3) us3 zs := by
      rw [hid_cong (N := p3 :: (c.M ++ p2 :: p1 :: A)) (fun a => by simp [or_left_comm])]; exact g3
    have g1 := dps_keep (r2.growK k3 hp3 e3) r2.tabm g1
    have g2 := dps_keep (r2.growK k3 hp3 e3) r2.tabm g2
    have d31 : p1 ≠ p3 := fun z => by rw [← z, e1] at hp3; cases hp3
    have d32 : p2 ≠ p3 := fun z => by rw [← z, e2] at hp3; cases hp3
    have e1 := k3.at_ _ _ e1 (r2.nA (List.mem_cons_of_mem _ List.mem_cons_self))
    have e2 := k3.at_ _ _ e2 (r2.nA List.mem_cons_self)
    refine ⟨by show 3 ≤ sizeLine; decide, fun p hp => ?_⟩
    have kn : Keep c.T H3 (upd H3 p (.tup [.ref p1, .ref p2, .ref p3])) := .new hp
    have r4 := r3.move kn
    have g1 := dps_keep (hid_keep kn) r3.tabm g1
    have g2 := dps_keep (hid_keep kn) r3.tabm g2
    have g3 := dps_keep (hid_keep kn) r3.tabm g3
    have e1 := kn.at_ _ _ e1 (r3.nA (List.mem_cons_of_mem _ (List.mem_cons_of_mem _ List.mem_cons_self)))
    have e2 := kn.at_ _ _ e2 (r3.nA (List.mem_cons_of_mem _ List.mem_cons_self))
    have e3 := kn.at_ _ _ e3 (r3.nA List.mem_cons_self)
    have n1 := r.noOwn hp1
    have n2 := r1.noOwn hp2
    have n3 := r2.noOwn hp3
    have q1 := r4.setO i (List.mem_cons_of_mem _ (List.mem_cons_of_mem _ List.mem_cons_self)) e1 g1 fun m gs _ => n1 m gs
    have n2' := noOwn_set (i := i) (s := .own xs) d21 n2
    have q2 := q1.setO j (List.mem_cons_of_mem _ List.mem_cons_self) e2 g2 fun m gs _ => n2' m gs
    have n3' := noOwn_set (i := j) (s := .own ys) d32 (noOwn_set (i := i) (s := .own xs) d31 n3)
    have q3 := q2.setO l List.mem_cons_self e3 g3 fun m gs _ => n3' m gs
    exact ⟨p, _, rfl, .of upd_same, rfl, _, _, rfl, _, _, rfl, _, _, rfl, rfl, L.nx _ _ _ _ q3 k⟩
theorem fnok_or {P : Program} {w : World} {K : PySem.W.Frag} {mg : Str → Option Value} {base : Heap} {CX : CXT} {k : Nat} {f : Addr} {fd : FuncData} {ps : List Str} {T : List Addr} {R1 R2 : List DS → PD → Prop} (h1 : FnOk P w K mg base CX k f fd ps (spD K T R1)) (h2 : FnOk P w K mg base CX k f fd ps (spD K T R2)) :
    FnOk P w K mg base CX k f fd ps (spD K T fun ss d => R1 ss d ∨ R2 ss d) := by
  have sp : ∀ vs H Q E, spD K T (fun ss d => R1 ss d ∨ R2 ss d) vs H Q E → spD K T R1 vs H Q E ∨ spD K T R2 vs H Q E := fun vs H Q E ⟨M, ss, d, a, b, e, g, q⟩ => g.elim (fun g => .inl ⟨M, ss, d, a, b, e, g, q⟩) (fun g => .inr ⟨M, ss, d, a, b, e, g, q⟩)
  refine ⟨fun vs H Q E h => (sp vs H Q E h).elim (h1.len vs H Q E) (h2.len vs H Q E), fun A outer s H args us vs Q E hr he hb hv h => ?_⟩
  exact (sp vs H Q E h).elim (h1.run A outer s H args us vs Q E hr he hb hv) (h2.run A outer s H args us vs Q E hr he hb hv)
theorem ed_indexD {ds : List PD} {j : Nat} {z : PD} (ha : EL c te ρ ds) (hb : ED c tb ρ d) (hs : SeqAt.shaped (.list ds) = true) (hd : SeqAt.shaped d = true) (h1 : ds[j]? = some z) (h2 : PyData.eqv z d = true) (h3 : ∀ (m : Nat) (z' : PyData), m < j → ds[m]? = some z' → PyData.eqv z' d = false) : ED c (tBM c.K "list" (rIndexD c.K) te (tCons tb tNil)) ρ (.int (j : Int)) := fun A σ H s Q q =>
  ha A σ H s _ fun a xs H1 k1 g1 g2 => ⟨.inl ⟨rfl, xs, g1⟩, hb A σ H1 (s.move k1) _ fun w H2 k2 g3 => by
    have h4 := dps_keep (hid_keep k2) (s.move k1).tabm g2
    exact ⟨a, w, d, ds, j, z, rfl, rfl, .lst (k2.sqL (s.move k1).tabs g1) (dps_same hid_same h4), dp_same hid_same g3, hs, hd, h1, h2, h3, q _ H2 (k1.trans k2) (.int _)⟩⟩
theorem ed_max2 {i j : Int} (ha : ED c ta ρ (.int i)) (hb : ED c tb ρ (.int j)) : ED c (tCB (fun xs H Q => ∃ i j, xs = [.int i, .int j] ∧ Q (.int (if j > i then j else i)) H) (tCons ta (tCons tb tNil))) ρ (.int (max i j)) :=
  ed_CB2 (ea_d ha (ea_d hb ea_nil)) fun H v w K' H' h1 h2 Q q => by
    refine ⟨i, j, by rw [dp_int h1, dp_int h2], q _ fun K2 H2 => ?_⟩
    rw [show max i j = if j > i then j else i from by split <;> omega]
    exact .int _
end
end DL
namespace PT
open PySem PySem.Spec PyProof.Rows L2 DA DL TR TL
def top (i : Nat) : Stmt := PySem.Challenge.pw_processturns_k33_whole_names.main.body.getD i (.Pass ⟨0, 0, 0, 0⟩)
/-- a def of the module, as it is called -/
structure CalX (CX : CXT) (P : Program) (w : World) (K : PySem.W.Frag) (mg : Str → Option Value) (base : Heap) (x : Str) (k : Nat) (ps : List Str) (sp : Sp) (f : Addr) (fd : FuncData) : Prop where
  g : mg x = some (.ref f)
  kp : PySem.W.keepIn K (.ref f) = true
  b : Binds K fd ps []
  ok : FnOk P w K mg base CX k f fd ps sp
abbrev Cal (P : Program) (w : World) (K : PySem.W.Frag) (mg : Str → Option Value) (base : Heap) (x : Str) (k : Nat) (ps : List Str) (sp : Sp) (f : Addr) (fd : FuncData) : Prop := CalX CX0 P w K mg base x k ps sp f fd
abbrev CalE (P : Program) (w : World) (K : PySem.W.Frag) (mg : Str → Option Value) (base : Heap) (x : Str) (k : Nat) (ps : List Str) (sp : Sp) (f : Addr) (fd : FuncData) : Prop := CalX (L2.CX P w) P w K mg base x k ps sp f fd
def intD (n : Nat) : PD := .int (n : Int)
def encO : Option Nat → PD | none => .none | some n => .int (n : Int)
/-- the exception classes that are raised -/
structure Bad (K : PySem.W.Frag) (mg : Str → Option Value) where
  aBadText : Addr
  gBadText : mg "BadText" = some (.ref aBadText)
  xBadText : PySem.W.excIn K aBadText [.type "ValueError", .type "Exception", .type "BaseException", .type "object"] "ValueError.__new__" = true
  kBadText : PySem.W.keepIn K (.ref aBadText) = true
  bBadText : PySem.W.subIn K (.ref aBadText) (.type "BaseException") = some true
  tBadText : PySem.W.typeIn K (.ref aBadText) = some (.type "type")
  aBadNumber : Addr
  gBadNumber : mg "BadNumber" = some (.ref aBadNumber)
  xBadNumber : PySem.W.excIn K aBadNumber [.type "ValueError", .type "Exception", .type "BaseException", .type "object"] "ValueError.__new__" = true
  kBadNumber : PySem.W.keepIn K (.ref aBadNumber) = true
  bBadNumber : PySem.W.subIn K (.ref aBadNumber) (.type "BaseException") = some true
  tBadNumber : PySem.W.typeIn K (.ref aBadNumber) = some (.type "type")
/-- the module's names -/
structure Glob (K : PySem.W.Frag) (mg : Str → Option Value) where
  isinstance : mg "isinstance" = none
  int : mg "int" = none
  bool : mg "bool" = none
  tuple : mg "tuple" = none
  list : mg "list" = none
  str : mg "str" = none
  len : mg "len" = none
  all : mg "all" = none
  any : mg "any" = none
  range : mg "range" = none
  sorted : mg "sorted" = none
  ValueError : mg "ValueError" = none
  tMP : Tok
  MOST_PROCESSES : mg "MOST_PROCESSES" = some (.int 4 tMP)
  aTAKINGS : Addr
  TAKINGS : mg "TAKINGS" = some (.ref aTAKINGS)
  yTAKINGS : ∀ H, tyV K "tuple" (.ref aTAKINGS) H
  dTAKINGS : ∀ H, Dp K H (.ref aTAKINGS) (.tuple [.str "keeping", .str "taking"])
  aLATES : Addr
  LATES : mg "LATES" = some (.ref aLATES)
  yLATES : ∀ H, tyV K "tuple" (.ref aLATES) H
  dLATES : ∀ H, Dp K H (.ref aLATES) (.tuple [.str "early", .str "late"])
theorem ed_glob {c : DC} {ρ : DEnv} {v : V} {d : PD} (h : ∀ H, Dp c.K H v d) : ED c (tC v) ρ d := fun A σ H r Q q => q v H .refl (h _)
theorem eqStr (a b : Str) : decide (V.str a = V.str b) = decide (a = b) := decide_eq_decide.mpr ⟨fun h => by cases h; rfl, fun h => by rw [h]⟩
theorem inStr2 (x a b : Str) : inV (.str x) [.str a, .str b] = decide (x = a ∨ x = b) := by
  simp only [inV, List.any_cons, List.any_nil, Bool.or_false, eqV]
  rw [Bool.eq_iff_iff, Bool.or_eq_true, beq_iff_eq, beq_iff_eq, decide_eq_true_iff]
  exact ⟨fun h => h.imp Eq.symm Eq.symm, fun h => h.imp Eq.symm Eq.symm⟩
theorem sd_when {c : DC} {ρ : DEnv} {D : DEnds} {tt : TT} {t : TS} {b : Bool} (h : ET c tt ρ b) (h1 : b = true → SD c t D ρ) (h2 : b = false → D.nx ρ) : SD c (tIfS tt t tNext) D ρ := sd_if h h1 fun e => sd_next (h2 e)
theorem fn_sdC {P : Program} {w : World} {K : PySem.W.Frag} {mg : Str → Option Value} {base : Heap} {T : List Addr} {x qual : Str} {st : Stmt} {f : Addr} {fd : FuncData} {co : Addr} {N ps : List Str} {k : Nat} {R : List DS → PD → Prop} (F : FunC K x qual st f fd co) (S : FnScope N ps (defScope st)) (hl : ∀ ss d, R ss d → ss.length = ps.length)
    (hb : ∀ (A : Around) (outer : List Env) (s : Shared) (H : Hp) (E : XK), Room k (A.deeper (envOfC qual (defScope st) s.heap.objs.size f (.ref co))) →
      ∃ t, PSs (cxOf CX0 P w K mg base N qual (defScope st) f (.ref co) A outer s H E).nox (defBody st) t ∧ ∀ M H0 ss d, R ss d → SD ⟨K, T, M, H0⟩ t (DR d) (startD N ss)) : FnOk P w K mg base CX0 (k + 1) f fd ps (spD K T R) := by
  refine F.ok S (fun vs H Q E h => ?_) (fun A outer s H vs Q E hr h => ?_)
  · obtain ⟨M, ss, d, _, _, h3, h4, _⟩ := h
    rw [h3.len]
    exact hl ss d h4
  · obtain ⟨M, ss, d, h1, h2, h3, h4, q⟩ := h
    obtain ⟨t, ht, hq⟩ := hb A outer s H E hr
    refine ⟨t, ht, hq M H ss d h4 _ ⟨fun A' σ' H' ρ' r' e => ?_, fun v H' e k' h5 h6 => ?_, fun _ _ _ _ _ z => z.elim, fun _ _ _ _ _ z => z.elim⟩ [] _ H (start_sr h1 h2 h3)⟩
    · have e : d = .none := e
      subst e
      exact q .non H' .non r'.keep
    · have h6 : e = d := h6
      subst h6
      exact q v H' h5 k'

/-! ### what the layer lacks -/
section
variable {c : DC} {ρ : DEnv} {D : DEnds} {E : XK} {ta : TA} {te : TE} {d : PD}
/-- raise C(e) -/
theorem sd_raise1 {C : Addr} (h : ED c te ρ d) (x : ∀ H', Keep c.T c.H0 H' → E (.ref C) none H') : SD c (fun _ σ H => te σ H fun _ H1 => E (.ref C) none H1) D ρ := fun _ _ A σ H r => h A σ H r _ fun v H1 k1 h1 => x H1 (r.keep.trans k1)
/-- xs.extend(a new list) -/
theorem sd_ext {i : Nat} {ds es : List PD} (h0 : ρ[i]? = some (.own ds)) (h : EN c te ρ es) (hz : ds.length + es.length ≤ 1000) (k : D.nx (ρ.set i (.own (ds ++ es)))) : SD c (tDrop (tBM c.K "list" rExtend (tVar i) (tCons te tNil))) D ρ := fun E L A σ H r => by
  obtain ⟨a, xs, h1, ha, h2, h3⟩ := own_at r h0
  refine ⟨_, h1, .inl ⟨rfl, _, SqL.of h2⟩, h A σ H r _ fun p zs H1 k1 hp e1 g1 => ?_⟩
  have r1 := r.move k1
  have h4 := dps_keep (hid_keep k1) r.tabm h3
  have g2 := dps_same (hid_sub (fun a m => List.mem_cons_of_mem _ m)) g1
  refine ⟨a, p, xs, zs, rfl, rfl, k1.at_ _ _ h2 (r.nA ha), e1, ?_, L.nx _ _ _ _ (r1.mut h0 h1 ha (dps_append h4 g2)) k⟩
  rw [dps_len h3, dps_len g2]
  exact Nat.le_of_lt (small1000 hz)
/-- what comes of a call is a new list -/
def spNw (K : PySem.W.Frag) (T : List Addr) (R : List DS → List PD → Prop) : Sp := fun vs H Q _ => ∃ M ss ds, (∀ a ∈ M, a ∉ T ∧ H a ≠ none) ∧ Tabs T H ∧ ArgsOk K (hid M H) vs ss ∧ R ss ds ∧ ∀ p xs H', H p = none → H' p = some (.lst xs) → DpAll K (hid (p :: M) H') xs ds → Keep T H H' → Q (.ref p) H'
theorem en_call {R : List DS → List PD → Prop} {ss : List DS} {ds : List PD} (h : EA c ta ρ ss) (hR : R ss ds) : EN c (tCall (spNw c.K c.T R) [] E ta) ρ ds := fun A σ H s Q q => h A σ H s _ fun vs H1 k1 h1 =>
  ⟨c.M ++ A, ss, ds, (s.move k1).nM, (s.move k1).tabs, by rw [List.append_nil]; exact h1, hR, fun p xs H' hp e1 g k2 => q p xs H' (k1.trans k2) (k1.free s.tabs hp) e1 g⟩
end
section
variable {P : Program} {w : World} {K : PySem.W.Frag} {mg : Str → Option Value} {base : Heap}
theorem fn_new {T : List Addr} {x qual : Str} {st : Stmt} {f : Addr} {fd : FuncData} {N ps : List Str} {kk : Nat} {R : List DS → List PD → Prop} (F : Fun K x qual st f fd) (S : FnScope N ps (defScope st)) (hl : ∀ ss ds, R ss ds → ss.length = ps.length)
    (hb : ∀ (cdv : Value) (A : Around) (outer : List Env) (s : Shared) (H : Hp) (E : XK), Room kk (A.deeper (envOfC qual (defScope st) s.heap.objs.size f cdv)) →
      ∃ te, PSs (cxOf CX0 P w K mg base N qual (defScope st) f cdv A outer s H E).nox (defBody st) (tRet te) ∧ ∀ M H0 ss ds, R ss ds → EN ⟨K, T, M, H0⟩ te (startD N ss) ds) : FnOk P w K mg base CX0 (kk + 1) f fd ps (spNw K T R) := by
  refine F.ok S (fun vs H Q E h => ?_) (fun cdv A outer s H vs Q E hr h => ?_)
  · obtain ⟨M, ss, ds, _, _, h3, h4, _⟩ := h
    rw [h3.len]
    exact hl ss ds h4
  · obtain ⟨M, ss, ds, h1, h2, h3, h4, q⟩ := h
    obtain ⟨te, ht, hq⟩ := hb cdv A outer s H E hr
    exact ⟨_, ht, hq M H ss ds h4 [] _ H (start_sr h1 h2 h3) _ fun p xs H' k hp e g => q p xs H' hp e (by rw [List.append_nil] at g; exact g) k⟩
end
/-! ### checks -/
def R_is_number : List DS → PD → Prop := fun ss d => ∃ e lo hi, ss = [.dat e, .dat (.int lo), .dat (.int hi)] ∧ d = .bool (K13.numD e lo hi)
def R_is_scheduler : List DS → PD → Prop := fun ss d => ∃ (e : PD) (n : Int), ss = [.dat e, .dat (.int n)] ∧ d = .bool (K13.schedD e (.int n))
def R_check_number (C : Addr) : List DS → Out → Prop := fun ss o => ∃ (e : PD), ss = [.dat e, .dat (.int 1), .dat (.int 4)] ∧ o = if K13.numD e 1 4 = true then .ok .none else .ex C
def R_check_number0 : List DS → PD → Prop := fun ss d => ∃ (e : PD) (lo hi : Int), K13.numD e lo hi = true ∧ ss = [.dat e, .dat (.int lo), .dat (.int hi)] ∧ d = .none
def R_check_scheduler : List DS → PD → Prop := fun ss d => ∃ (e : PD) (n : Int), K13.schedD e (.int n) = true ∧ ss = [.dat e, .dat (.int n)] ∧ d = .none
section
variable {P : Program} {w : World} {K : PySem.W.Frag} {mg : Str → Option Value} {base : Heap} {f : Addr} {fd : FuncData} {T : List Addr}
theorem is_number_D (h : FnOk P w K mg base CX0 1 f fd ["value", "least", "greatest"] (K13.spNum K)) : FnOk P w K mg base CX0 1 f fd ["value", "least", "greatest"] (spD K T R_is_number) := h.imp fun vs H Q E ⟨M, ss, d, _, _, h3, ⟨e, lo, hi, e1, e2⟩, q⟩ => by
  subst e1 e2
  cases h3 with
  | cons a1 h3 =>
    cases h3 with
    | cons a2 h3 =>
      cases h3 with
      | cons a3 h3 =>
        cases h3
        have b2 := dp_int a2
        have b3 := dp_int a3
        subst b2 b3
        exact ⟨_, e, lo, hi, rfl, DL.dp_same hid_same a1, q _ H (.bl _) .refl⟩

theorem is_scheduler_D (h : FnOk P w K mg base CX0 6 f fd ["value", "size"] (K13.spSched K T)) : FnOk P w K mg base CX0 6 f fd ["value", "size"] (spD K T R_is_scheduler) := h.imp fun vs H Q E ⟨M, ss, d, _, h2, h3, ⟨e, n, e1, e2⟩, q⟩ => by
  subst e1 e2
  obtain ⟨v, z, rfl, a1, a2⟩ := args2 h3
  exact ⟨v, z, e, .int n, rfl, DL.dp_same hid_same a1, DL.dp_same hid_same a2, h2, fun H' k => q _ H' (.bl _) k⟩
end
abbrev sChNum : Stmt := top 12
abbrev nChNum : List Str := ["value", "least", "greatest"]
theorem scChNum : FnScope nChNum ["value", "least", "greatest"] (defScope sChNum) := ⟨rfl, rfl, rfl, by decide +kernel, rfl, by decide +kernel, by decide +kernel⟩
section
variable {P : Program} {w : World} {K : PySem.W.Frag} {mg : Str → Option Value} {base : Heap} {f : Addr} {fd : FuncData} {T : List Addr}
theorem ok_check_number (F : Fun K "check_number" "check_number" sChNum f fd) (G : Glob K mg) (B : Bad K mg) {fN : Addr} {dN : FuncData} (c_is_number : Cal P w K mg base "is_number" 1 ["value", "least", "greatest"] (spD K T R_is_number) fN dN) : FnOk P w K mg base (L2.CX P w) 2 f fd ["value", "least", "greatest"] (spE K T (R_check_number B.aBadNumber)) := by
  refine fn_sdE F scChNum (fun ss o h => ?_) (fun cdv A outer s H E hr => ⟨_, (pss_one (ps_if (pt_not (pt_val (pe_call c_is_number.ok (hr.mono (by decide)) (by rfl) c_is_number.g c_is_number.kp c_is_number.b .nil pass0 (pa_cons (pv 0) (pa_cons (pv 1) (pa_cons (pv 2) pa_nil)))))) (pss_one (ps_raise rfl (takes_of rfl rfl rfl rfl) (SkE.pmk_own1 PySem.F.excBase_ValueError B.xBadNumber B.gBadNumber B.kBadNumber (raises_own B.bBadNumber B.tBadNumber) rfl (pe_joined (PJ.cons pe_str (PJ.cons (pe_fmt (pv 1)) (PJ.cons pe_str (PJ.cons (pe_fmt (pv 2)) PJ.nil)))))))) pss_nil)), fun M H0 ss o h xo => ?_⟩)
  · obtain ⟨e, rfl, rfl⟩ := h
    rfl
  · obtain ⟨e, rfl, rfl⟩ := h
    refine sd_when (b := !K13.numD e 1 4) (et_not (et_B (ed_call (ea_d (ed_var rfl) (ea_d (ed_var rfl) (ea_d (ed_var rfl) ea_nil))) ⟨e, 1, 4, rfl, rfl⟩))) (fun h => ?_) (fun h => ?_)
    · refine sd_raise1 (ed_joined (zs := [_, _, _, _]) (.cons jd_con (.cons (jd_int (i := 1) (ed_var rfl) (by decide)) (.cons jd_con (.cons (jd_int (i := 4) (ed_var rfl) (by decide)) .nil)))) (by decide +kernel)) fun H' k => xo B.aBadNumber ?_ H' k
      rw [if_neg (fun q => by rw [q] at h; cases h)]
    · show (if K13.numD e 1 4 = true then Out.ok .none else .ex B.aBadNumber) = .ok .none
      rw [if_pos (by cases q : K13.numD e 1 4 with | true => rfl | false => rw [q] at h; cases h)]
end
/-! the same where nothing is raised -/
section
variable {P : Program} {w : World} {K : PySem.W.Frag} {mg : Str → Option Value} {base : Heap} {f : Addr} {fd : FuncData} {T : List Addr}
theorem ok_check_number0 (F : Fun K "check_number" "check_number" sChNum f fd) (G : Glob K mg) {fN : Addr} {dN : FuncData} (c_is_number : Cal P w K mg base "is_number" 1 ["value", "least", "greatest"] (spD K T R_is_number) fN dN) : FnOk P w K mg base CX0 2 f fd ["value", "least", "greatest"] (spD K T R_check_number0) := by
  refine fn_sd F scChNum (fun ss d h => ?_) (fun cdv A outer s H E hr => ⟨_, (pss_one (ps_if (pt_not (pt_val (pe_call c_is_number.ok (hr.mono (by decide)) (by rfl) c_is_number.g c_is_number.kp c_is_number.b .nil pass0 (pa_cons (pv 0) (pa_cons (pv 1) (pa_cons (pv 2) pa_nil)))))) (pss_one ps_never) pss_nil)), fun M H0 ss d h => ?_⟩)
  · obtain ⟨e, lo, hi, h1, rfl, rfl⟩ := h
    rfl
  · obtain ⟨e, lo, hi, h1, rfl, rfl⟩ := h
    exact sd_when (b := false) (et_is (et_not (et_B (ed_call (ea_d (ed_var rfl) (ea_d (ed_var rfl) (ea_d (ed_var rfl) ea_nil))) ⟨e, lo, hi, rfl, rfl⟩))) (by rw [h1]; rfl)) (fun z => by cases z) (fun _ => rfl)
end
abbrev sChSch : Stmt := top 27
abbrev nChSch : List Str := ["value", "size"]
theorem scChSch : FnScope nChSch ["value", "size"] (defScope sChSch) := ⟨rfl, rfl, rfl, by decide +kernel, rfl, by decide +kernel, by decide +kernel⟩
section
variable {P : Program} {w : World} {K : PySem.W.Frag} {mg : Str → Option Value} {base : Heap} {f : Addr} {fd : FuncData} {T : List Addr}
theorem ok_check_scheduler (F : Fun K "check_scheduler" "check_scheduler" sChSch f fd) (G : Glob K mg) {fS : Addr} {dS : FuncData} (c_is_scheduler : Cal P w K mg base "is_scheduler" 6 ["value", "size"] (spD K T R_is_scheduler) fS dS) : FnOk P w K mg base CX0 7 f fd ["value", "size"] (spD K T R_check_scheduler) := by
  refine fn_sd F scChSch (fun ss d h => ?_) (fun cdv A outer s H E hr => ⟨_, (pss_one (ps_if (pt_not (pt_val (pe_call c_is_scheduler.ok (hr.mono (by decide)) (by rfl) c_is_scheduler.g c_is_scheduler.kp c_is_scheduler.b .nil pass0 (pa_cons (pv 0) (pa_cons (pv 1) pa_nil))))) (pss_one ps_never) pss_nil)), fun M H0 ss d h => ?_⟩)
  · obtain ⟨e, n, h1, rfl, rfl⟩ := h
    rfl
  · obtain ⟨e, n, h1, rfl, rfl⟩ := h
    exact sd_when (b := false) (et_is (et_not (et_B (ed_call (ea_d (ed_var rfl) (ea_d (ed_var rfl) ea_nil)) ⟨e, n, rfl, rfl⟩))) (by rw [h1]; rfl)) (fun z => by cases z) (fun _ => rfl)
end
end PT
namespace PT
open PySem PySem.Spec PyProof.Rows L2 DA DL TR TL
theorem et_anyC {c : DC} {ρ : DEnv} {te : TE} {bs : List Bool} (h : EL c te ρ (bs.map PyData.bool)) : ED c (tCB (rAny c.K) (tCons te tNil)) ρ (.bool (bs.any id)) := fun A σ H r Q q => h A σ H r _ fun a xs H1 k1 h1 h2 => by
  have e : xs = bs.map V.bl := by
    clear h1 h q
    induction bs generalizing xs with
    | nil => cases h2; rfl
    | cons b bs ih =>
      cases h2 with
      | cons a1 a2 =>
        rw [List.map_cons, dp_bool a1, ih _ a2]
  subst e
  exact ⟨a, bs, rfl, h1, q _ H1 k1 (.bl _)⟩
theorem atI_at {xs : List PD} {i : Nat} {d : PD} (h : xs[i]? = some d) : atI xs ((i : Nat) : Int) = some d := by
  unfold atI
  rw [show ixN xs.length ((i : Nat) : Int) = some i from by
    unfold ixN
    have := (List.getElem?_eq_some_iff.mp h).1
    rw [if_pos (by omega), if_pos (by omega)]
    simp]
  exact h

theorem atI_nat {α : Type} {xs : List α} {i : Nat} {d : α} (h : xs[i]? = some d) : atI xs ((i : Nat) : Int) = some d := by
  have hi := (List.getElem?_eq_some_iff.mp h).1
  unfold atI
  rw [show ixN xs.length ((i : Nat) : Int) = some i from by
    unfold ixN
    rw [if_pos (by omega), if_pos (by omega)]
    simp]
  exact h
theorem not_dec {p : Prop} [Decidable p] (h : (!decide p) = false) : p := of_decide_eq_true (by
  cases q : decide p with
  | true => rfl
  | false => rw [q] at h; cases h)
/-! ### numbers of at most two signs -/
abbrev digs : Str := "0123456789"
def isDg (n : Nat) : Bool := decide (n ∈ tl digs)
theorem tl_digs : tl digs = [48, 49, 50, 51, 52, 53, 54, 55, 56, 57] := by
  rw [tl_ofString]
  decide
theorem isDg_iff {n : Nat} : isDg n = true ↔ 48 ≤ n ∧ n ≤ 57 := by
  unfold isDg
  rw [decide_eq_true_iff, tl_digs]
  constructor
  · intro h
    simp only [List.mem_cons, List.not_mem_nil, or_false] at h
    omega
  · intro h
    simp only [List.mem_cons, List.not_mem_nil, or_false]
    omega
def numW (l : List Nat) : Option Nat := if l.length = 1 ∨ l.length = 2 then if l.all isDg = true then if l.length = 2 ∧ l.head? = some 48 then none else some (NumText.digitsVal l) else none else none
def R__number : List DS → PD → Prop := fun ss d => ∃ z : Str, z.length ≤ 100000 ∧ ss = [.dat (.str z)] ∧ d = encO (numW (tl z))
theorem big {n : Nat} (h : n ≤ 200000) : n ≤ sizeLine := by rw [sizeLine_eq]; omega
theorem all_dg {l : List Nat} (h : l.all isDg = true) : NumText.AllDigits l := fun c hc => isDg_iff.mp (List.all_eq_true.mp h c hc)
theorem any_dg (l : List Nat) : (l.map fun n => !isDg n).any id = !l.all isDg := by
  induction l with
  | nil => rfl
  | cons a r ih =>
    rw [List.map_cons, List.any_cons, List.all_cons, ih]
    cases isDg a <;> cases r.all isDg <;> rfl
abbrev sNum2 : Stmt := top 35
abbrev nNum2 : List Str := ["word", "sign"]
theorem scNum2 : FnScope nNum2 ["word"] (defScope sNum2) := ⟨rfl, rfl, rfl, by decide +kernel, rfl, by decide +kernel, by decide +kernel⟩
section
variable {P : Program} {w : World} {K : PySem.W.Frag} {mg : Str → Option Value} {base : Heap} {f : Addr} {fd : FuncData} {T : List Addr}
theorem ok__number (F : Fun K "_number" "_number" sNum2 f fd) (G : Glob K mg)  : FnOk P w K mg base CX0 1 f fd ["word"] (spD K T R__number) := by
  refine fn_sd F scNum2 (fun ss d h => ?_) (fun cdv A outer s H E hr => ⟨_, (pss_cons (ps_if (PW.pt (pw_or (pt_not (pt_chain op_le op_le pe_int (pe_callB call_len_str (by rfl) G.len PySem.boot_len (pa_cons (pv 0) pa_nil)) pe_int)) (pw_or1 (pt_val (pe_callB (cr_any rfl) (by rfl) G.any (by decide +kernel) (pa_cons (pe_lc (own := [("sign", 1)]) (g := (gName 1)) (tt := tYes) (te := (tOp (fun x y H Q => ∃ (c : Nat) (z : Str), x = .str ⟨#[c]⟩ ∧ y = .str z ∧ Q (.bl (!decide (c ∈ z.cps.toList))) H) (tVar 1) (tC (.str "0123456789")))) rfl scNum2.nd (pi_str (pv 0)) (blkOk_by (N := nNum2) (sc := defScope sNum2) (by decide +kernel)) (fun _ _ _ _ _ => (pg_name (i := 1) scNum2.nd rfl (.inl rfl))) (fun _ _ _ _ _ => pts_nil) (fun _ _ _ _ _ => (pe_cmpR op_notIn_sign (pv 1) pe_str (by rfl)))) pa_nil)))))) (pss_one (ps_ret pe_non)) pss_nil)
      (pss_cons (ps_if (PW.pt (pw_and (pt_cmpR op_eq (pe_callB call_len_str (by rfl) G.len PySem.boot_len (pa_cons (pv 0) pa_nil)) pe_int (nomark _)) (pw_and1 (pt_cmpR op_eq (pe_ix ix_str (pv 0) pe_int (fun _ _ => rfl)) pe_str (nomark _))))) (pss_one (ps_ret pe_non)) pss_nil)
      (pss_one (ps_ret (pe_callTy call_int_str (by rfl) G.int (by decide +kernel) (pa_cons (pv 0) pa_nil)))))), fun M H0 ss d h => ?_⟩)
  · obtain ⟨z, hz, rfl, rfl⟩ := h
    rfl
  · obtain ⟨z, hz, rfl, rfl⟩ := h
    have zl : z.length = (tl z).length := len_tl z
    have hb := big (show z.length ≤ 200000 by omega)
    have c1 : ET ⟨K, T, M, H0⟩ (tTest (tChain (rI0 fun i j => .bl (decide (i ≤ j))) (rI0 fun i j => .bl (decide (i ≤ j))) (tC (.int 1)) (tCB (fun xs H Q => ∃ z, xs = [.str z] ∧ z.length ≤ sizeLine ∧ Q (.int z.length) H) (tCons (tVar 0) tNil)) (tC (.int 2)))) (startD nNum2 [.dat (.str z)]) (decide ((1 : Int) ≤ (z.length : Int)) && decide ((z.length : Int) ≤ 2)) :=
      et_chain (p := fun i j => decide (i ≤ j)) (p' := fun i j => decide (i ≤ j)) (i := 1) (j := (z.length : Int)) (k := 2) ed_int (ed_lenS (ed_var rfl) hb) ed_int
    have c1' : (decide ((1 : Int) ≤ (z.length : Int)) && decide ((z.length : Int) ≤ 2)) = decide ((tl z).length = 1 ∨ (tl z).length = 2) := by
      rw [← Bool.decide_and]
      exact decide_eq_decide.mpr (by omega)
    refine sd_seq (sd_when (b := !decide ((tl z).length = 1 ∨ (tl z).length = 2) || !(tl z).all isDg) (et_or (et_not (et_is c1 c1')) (fun h => ?_)) (fun h => sd_ret ed_non ?_) (fun h => ?_))
    · have hl : (tl z).length = 1 ∨ (tl z).length = 2 := not_dec h
      refine et_is (et_B (et_anyC (bs := (tl z).map fun n => !isDg n) (el_is (en_el (en_lc (js := [1]) (fun _ => true) (fun d => match d with | .str y => .bool (!isDg ((tl y).headD 0)) | _ => .none) (id_str (z := z) (ed_var rfl)) (by unfold DL.signs; rw [List.length_map]; omega) (by decide) (fun d hd H1 _ => ?_))) ?_))) (any_dg _)
      · obtain ⟨n, hn, rfl⟩ := List.mem_map.mp hd
        exact ⟨[.str ⟨#[n]⟩], tg_name, et_yes, fun _ => ed_notInS (ed_var rfl) ed_str⟩
      · rw [List.filter_eq_self.mpr fun _ _ => rfl]
        unfold DL.signs
        rw [List.map_map, List.map_map]
        rfl
    · show PyData.none = encO (numW (tl z))
      have e : numW (tl z) = none := by
        unfold numW
        by_cases h1 : (tl z).length = 1 ∨ (tl z).length = 2
        · rw [if_pos h1]
          rw [show decide ((tl z).length = 1 ∨ (tl z).length = 2) = true from decide_eq_true h1] at h
          have h2 : ¬ ((tl z).all isDg = true) := fun q => by rw [q] at h; cases h
          rw [if_neg h2]
        · rw [if_neg h1]
      rw [e]
      rfl
    · obtain ⟨h1, h2⟩ := Bool.or_eq_false_iff.mp h
      have h1 : (tl z).length = 1 ∨ (tl z).length = 2 := not_dec h1
      have h2 : (tl z).all isDg = true := by simpa using h2
      obtain ⟨a, r, hz2⟩ : ∃ a r, tl z = a :: r := by
        cases q : tl z with
        | nil => rw [q] at h1; simp at h1
        | cons a r => exact ⟨a, r, rfl⟩
      have hz3 : z.cps.toList = a :: r := hz2
      refine sd_seq (sd_when (b := decide ((tl z).length = 2) && decide ((⟨#[a]⟩ : Str) = "0")) (et_and (et_is (et_test (ed_eq (x := .int (z.length : Int)) (y := .int 2) (ed_lenS (ed_var rfl) hb) ed_int rfl rfl rfl)) ?_) (fun _ => et_is (et_test (ed_eq (x := .str ⟨#[a]⟩) (y := .str "0") (ed_ixS (z := z) (i := ((0 : Nat) : Int)) (ed_var rfl) ed_int hb ?_) ed_str rfl rfl rfl)) (eqStr _ _))) (fun h => sd_ret ed_non ?_) (fun h => ?_))
      · show decide (V.int (z.length : Int) = V.int 2) = decide ((tl z).length = 2)
        rw [zl]
        exact decide_eq_decide.mpr ⟨fun e => by injection e with e; omega, fun e => by rw [e]; rfl⟩
      · show atI z.cps.toList ((0 : Nat) : Int) = some a
        rw [hz3]
        exact atI_nat (i := 0) rfl
      · obtain ⟨h3, h4⟩ := Bool.and_eq_true_iff.mp h
        have h3 := of_decide_eq_true h3
        have h4 := of_decide_eq_true h4
        have ha : a = 48 := by
          have e : tl (⟨#[a]⟩ : Str) = tl ("0" : Str) := by rw [h4]
          rw [tl_ofString] at e
          injection e
        show PyData.none = encO (numW (tl z))
        rw [show numW (tl z) = none from by
          unfold numW
          rw [if_pos h1, if_pos h2, if_pos ⟨h3, by rw [hz2, ha]; rfl⟩]]
        rfl
      · have e : numW (tl z) = some (NumText.digitsVal (tl z)) := by
          unfold numW
          rw [if_pos h1, if_pos h2, if_neg]
          rintro ⟨h3, h4⟩
          rw [hz2] at h4
          have ha : a = 48 := Option.some.inj h4
          subst ha
          rw [decide_eq_true h3, show decide ((⟨#[48]⟩ : Str) = "0") = true from by decide +kernel] at h
          cases h
        rw [e]
        refine sd_ret (d := .int ((NumText.digitsVal (tl z) : Nat) : Int)) (ed_intS (ed_var rfl) ?_ (by omega)) rfl
        exact intText_digits (x := z) (all_dg h2) (by rw [hz3]; simp) (by omega)
end
/-! ### what a text tells -/
abbrev cm : Str := ", "
abbrev sp : Str := " "
abbrev sc : Str := "; "
abbrev co : Str := ": "
abbrev strN (n : Nat) : Str := Str.ofString (toString ((n : Nat) : Int))
theorem strN_len {n : Nat} (h : n ≤ 99) : (strN n).length ≤ 2 := by
  rw [len_tl, tl_num]
  exact numL_len (k := 2) (by decide) (by omega)
theorem app_len (x y : Str) : (x ++ y).length = x.length + y.length := by rw [len_tl, tl_append, List.length_append, ← len_tl, ← len_tl]
theorem sum_le {α : Type} {f : α → Nat} {m : Nat} : ∀ {l : List α}, (∀ x ∈ l, f x ≤ m) → (l.map f).sum ≤ l.length * m
  | [], _ => by simp
  | a :: r, h => by
    rw [List.map_cons, List.sum_cons, List.length_cons, Nat.add_mul, Nat.one_mul]
    have := h a List.mem_cons_self
    have := sum_le (f := f) (l := r) fun x hx => h x (List.mem_cons_of_mem _ hx)
    omega
theorem join_len (y : Str) : ∀ parts : List Str, (Txt.join y parts).length ≤ (parts.map (·.length)).sum + parts.length * y.length := by
  have key : ∀ (S : List Nat) (ps : List (List Nat)), (joinL S ps).length ≤ (ps.map (·.length)).sum + ps.length * S.length := by
    intro S ps
    induction ps with
    | nil => exact Nat.zero_le _
    | cons a r ih =>
      cases r with
      | nil => show a.length ≤ _; simp
      | cons b t =>
        show (a ++ (S ++ joinL S (b :: t))).length ≤ _
        rw [List.length_append, List.length_append, List.map_cons, List.sum_cons, List.length_cons, Nat.add_mul, Nat.one_mul]
        omega
  intro parts
  rw [len_tl, join_eq, tl_join]
  refine Nat.le_trans (key _ _) ?_
  rw [List.map_map, List.length_map, ← len_tl]
  have e : (parts.map ((fun l : List Nat => l.length) ∘ tl)) = parts.map (·.length) := List.map_congr_left fun x _ => (len_tl x).symm
  rw [e]
  exact Nat.le_refl _
theorem small_log {n : Nat} (h : n ≤ 99) : ((n : Nat) : Int).natAbs.log2 < 1920 := by
  rw [Int.natAbs_natCast]
  have : n.log2 ≤ n := Nat.log2_le_self n
  omega
theorem pre_app {S l : List Nat} (h : pre S l = true) : l = S ++ l.drop S.length := by
  have e : l.take S.length = S := by simpa [pre] using h
  have := List.take_append_drop S.length l
  rw [e] at this
  exact this.symm
theorem spl_ne (S : List Nat) : ∀ (l : List Nat) (k : Nat) (acc : List Nat), spl S k acc l ≠ []
  | [], k, acc => by rw [spl_nil]; simp
  | c :: r, 0, acc => by
    show (if pre S (c :: r) = true then acc :: spl S (S.length - 1) [] r else spl S 0 (acc ++ [c]) r) ≠ []
    split
    · simp
    · exact spl_ne S r 0 _
  | c :: r, k + 1, acc => spl_ne S r k acc
theorem joinL_cons (S p : List Nat) {r : List (List Nat)} (h : r ≠ []) : joinL S (p :: r) = p ++ (S ++ joinL S r) := by
  cases r with
  | nil => exact absurd rfl h
  | cons q t => rfl
theorem join_spl {S : List Nat} (hS : S ≠ []) : ∀ (n : Nat) (l acc : List Nat), l.length ≤ n → joinL S (spl S 0 acc l) = acc ++ l
  | 0, l, acc, h => by
    have e : l = [] := List.length_eq_zero_iff.mp (by omega)
    subst e
    rw [spl_nil, List.append_nil]
    rfl
  | n + 1, [], acc, _ => by rw [spl_nil, List.append_nil]; rfl
  | n + 1, c :: r, acc, h => by
    cases e : pre S (c :: r) with
    | false =>
      rw [spl_miss e, join_spl hS n r (acc ++ [c]) (by simpa using h), List.append_assoc]
      rfl
    | true =>
      rw [spl_hit e, spl_pass, joinL_cons S acc (spl_ne S _ 0 []), join_spl hS n _ [] (by
        have : r.length ≤ n := by simpa using h
        rw [List.length_drop]; omega), List.nil_append]
      have e2 := pre_app e
      have hl : 0 < S.length := List.length_pos_iff.mpr hS
      have e3 : (c :: r).drop S.length = r.drop (S.length - 1) := by
        rw [show S.length = (S.length - 1) + 1 by omega, List.drop_succ_cons]
        rfl
      rw [e3] at e2
      rw [← e2]
theorem split_tl {x y : Str} (hy : tl y ≠ []) (hk : y.cps.all (· < 256) = true) : (Txt.split x y).map tl = spl (tl y) 0 [] (tl x) := split_spl x y hy (kind_ok hk)
/-- join(split(x)) = x -/
theorem join_split {x y : Str} (hy : tl y ≠ []) (hk : y.cps.all (· < 256) = true) : Txt.join y (Txt.split x y) = x := by
  refine ext_tl ?_
  rw [join_eq, tl_join, split_tl hy hk, join_spl hy _ _ _ (Nat.le_refl _), List.nil_append]
theorem joinL_part {S : List Nat} : ∀ {ps : List (List Nat)} {p : List Nat}, p ∈ ps → p.length ≤ (joinL S ps).length
  | [a], p, h => by
    rw [List.mem_singleton.mp h]
    exact Nat.le_refl _
  | a :: b :: r, p, h => by
    show p.length ≤ (a ++ (S ++ joinL S (b :: r))).length
    rw [List.length_append, List.length_append]
    rcases List.mem_cons.mp h with rfl | h
    · omega
    · have := joinL_part (S := S) h
      omega
theorem joinL_many {S : List Nat} (hS : S ≠ []) : ∀ {ps : List (List Nat)}, ps.length ≤ (joinL S ps).length + 1
  | [] => by simp
  | [a] => by simp
  | a :: b :: r => by
    have := joinL_many hS (ps := b :: r)
    have hl : 0 < S.length := List.length_pos_iff.mpr hS
    show (a :: b :: r).length ≤ (a ++ (S ++ joinL S (b :: r))).length + 1
    rw [List.length_append, List.length_append, List.length_cons]
    omega
theorem split_part {x y : Str} (hy : tl y ≠ []) (hk : y.cps.all (· < 256) = true) {p : Str} (h : p ∈ Txt.split x y) : p.length ≤ x.length := by
  have e := join_spl hy _ (tl x) [] (Nat.le_refl _)
  rw [← split_tl hy hk] at e
  have h2 := joinL_part (S := tl y) (List.mem_map_of_mem (f := tl) h)
  rw [e, List.nil_append] at h2
  rw [len_tl, len_tl]
  exact h2
theorem split_many {x y : Str} (hy : tl y ≠ []) (hk : y.cps.all (· < 256) = true) : (Txt.split x y).length ≤ x.length + 1 := by
  have e := join_spl hy _ (tl x) [] (Nat.le_refl _)
  rw [← split_tl hy hk] at e
  have h2 := joinL_many hy (ps := (Txt.split x y).map tl)
  rw [e, List.nil_append, List.length_map, ← len_tl] at h2
  exact h2
theorem split_one {x y : Str} {s : Nat} {S : List Nat} (ey : tl y = s :: S) (hk : y.cps.all (· < 256) = true) (h : s ∉ tl x) : Txt.split x y = [x] := by
  refine map_tl_inj ?_
  rw [split_tl (by rw [ey]; simp) hk, ey, spl_last1 h]
  rfl
theorem par_eq {S : List Nat} : ∀ (l acc a b : List Nat), par S acc l = some (a, b) → a ++ (S ++ b) = acc ++ l
  | [], acc, a, b, h => by cases h
  | c :: r, acc, a, b, h => by
    cases e : pre S (c :: r) with
    | true =>
      rw [par_hit e] at h
      cases h
      rw [← pre_app e]
    | false =>
      rw [par_miss e] at h
      rw [par_eq r _ a b h, List.append_assoc]
      rfl
/-- a text is put together again from its two parts -/
theorem part_eq {x y : Str} (hy : tl y ≠ []) : ((Txt.partition x y).2.1 = y ∧ (Txt.partition x y).1 ++ y ++ (Txt.partition x y).2.2 = x) ∨ (Txt.partition x y = (x, Str.empty, Str.empty)) := by
  rw [partition_par x y hy]
  cases e : par (tl y) [] (tl x) with
  | none => exact .inr rfl
  | some q =>
    obtain ⟨a, b⟩ := q
    refine .inl ⟨rfl, ext_tl ?_⟩
    have h := par_eq _ _ _ _ e
    rw [tl_append, tl_append, List.append_assoc]
    exact h
theorem part_len {x y : Str} (hy : tl y ≠ []) : (Txt.partition x y).1.length ≤ x.length ∧ (Txt.partition x y).2.2.length ≤ x.length := by
  rcases part_eq (x := x) hy with ⟨_, h⟩ | h
  · have e := congrArg Str.length h
    rw [app_len, app_len] at e
    omega
  · rw [h]
    exact ⟨Nat.le_refl _, Nat.zero_le _⟩
/-! ### the separators -/
theorem tl_cm : tl cm = [44, 32] := by rw [tl_ofString]; decide
theorem tl_sp : tl sp = [32] := by rw [tl_ofString]; decide
theorem tl_sc : tl sc = [59, 32] := by rw [tl_ofString]; decide
theorem tl_co : tl co = [58, 32] := by rw [tl_ofString]; decide
theorem cm_ne : tl cm ≠ [] := by rw [tl_cm]; simp
theorem sp_ne : tl sp ≠ [] := by rw [tl_sp]; simp
theorem sc_ne : tl sc ≠ [] := by rw [tl_sc]; simp
theorem co_ne : tl co ≠ [] := by rw [tl_co]; simp
theorem low_cm : cm.cps.all (· < 256) = true := by decide +kernel
theorem low_sc : sc.cps.all (· < 256) = true := by decide +kernel
theorem numW_num {n : Nat} (h : n ≤ 99) : numW (numL n) = some n := by
  have hd : (numL n).all isDg = true := List.all_eq_true.mpr fun c hc => isDg_iff.mpr (numL_digits n c hc)
  by_cases h1 : n < 10
  · have e := numL_lt h1
    unfold numW
    rw [if_pos (by rw [e]; simp), if_pos hd, if_neg (by rw [e]; simp), numL_val]
  · have e := numL_step (n := n) (by omega)
    have e2 := numL_lt (n := n / 10) (by omega)
    rw [e2] at e
    unfold numW
    rw [if_pos (by rw [e]; simp), if_pos hd, if_neg, numL_val]
    rintro ⟨_, z⟩
    rw [e] at z
    have z : 48 + n / 10 = 48 := Option.some.inj z
    omega
theorem numW_inv {l : List Nat} {n : Nat} (h : numW l = some n) : l = numL n ∧ n ≤ 99 := by
  unfold numW at h
  split at h
  · rename_i h1
    split at h
    · rename_i h2
      split at h
      · cases h
      · rename_i h3
        have hd := all_dg h2
        have e : NumText.digitsVal l = n := Option.some.inj h
        rcases h1 with h1 | h1
        · obtain ⟨a, rfl⟩ := List.length_eq_one_iff.mp h1
          have ha := hd a (by simp)
          have e2 : NumText.digitsVal [a] = a - 48 := by
            show 0 * 10 + (a - 48) = _
            omega
          rw [e2] at e
          subst e
          rw [numL_lt (by omega)]
          exact ⟨by rw [show 48 + (a - 48) = a by omega], by omega⟩
        · obtain ⟨a, b, rfl⟩ : ∃ a b, l = [a, b] := by
            match l, h1 with
            | [a, b], _ => exact ⟨a, b, rfl⟩
          have ha := hd a (by simp)
          have hb := hd b (by simp)
          have h4 : a ≠ 48 := fun z => h3 ⟨rfl, by rw [z]; rfl⟩
          have e2 : NumText.digitsVal [a, b] = (a - 48) * 10 + (b - 48) := by
            show (0 * 10 + (a - 48)) * 10 + (b - 48) = _
            omega
          rw [e2] at e
          subst e
          rw [numL_step (by omega), show ((a - 48) * 10 + (b - 48)) / 10 = a - 48 by omega, show ((a - 48) * 10 + (b - 48)) % 10 = b - 48 by omega, numL_lt (by omega)]
          refine ⟨?_, by omega⟩
          rw [show 48 + (a - 48) = a by omega, show 48 + (b - 48) = b by omega]
          rfl
    · cases h
  · cases h
theorem tl_strN (n : Nat) : tl (strN n) = numL n := tl_num n
end PT
/-! Schedulers as what they are, their words, and what words tell. -/
namespace PT
open PySem PySem.Spec PyProof.Rows L2 DA DL TR TL
inductive Rl where
  | plain | lent | top (a b : Nat)
inductive Sc where
  | bare (k : Str) | rounds (q l : Nat) | levels (qs : List Nat) (b : Nat) | aging (o : List Nat) (b : Nat) | lim (k : Str) (ls : List Nat) | order (o : List Nat) (t : Nat) (r : Rl)
def natsT (ls : List Nat) : PD := .tuple (ls.map intD)
def Rl.enc : Rl → PD
  | .plain => .tuple [.str "plain"]
  | .lent => .tuple [.str "lent"]
  | .top a b => .tuple [.str "top", natsT [a, b]]
def Sc.enc : Sc → PD
  | .bare k => .tuple [.str k]
  | .rounds q l => .tuple [.str "rounds", intD q, intD l]
  | .levels qs b => .tuple [.str "levels", natsT qs, intD b]
  | .aging o b => .tuple [.str "aging", natsT o, intD b]
  | .lim k ls => .tuple [.str k, natsT ls]
  | .order o t r => .tuple [.str "order", natsT o, intD t, r.enc]
def ordN (n : Nat) (o : List Nat) : Prop := K13.orderD (natsT o) (n : Int) = true
def inR (lo hi : Nat) (ls : List Nat) : Prop := ∀ x ∈ ls, lo ≤ x ∧ x ≤ hi
def Rl.ok (n : Nat) : Rl → Prop
  | .top a b => a < n ∧ b < n
  | _ => True
def Sc.ok (n : Nat) : Sc → Prop
  | .bare k => k = "first" ∨ k = "last"
  | .rounds q l => 1 ≤ q ∧ q ≤ 4 ∧ l ≤ 1
  | .levels qs b => 1 ≤ qs.length ∧ qs.length ≤ 3 ∧ inR 1 4 qs ∧ b ≤ 8
  | .aging o b => ordN n o ∧ 1 ≤ b ∧ b ≤ 3
  | .lim k ls => ls.length = n ∧ ((k = "due" ∧ inR 1 6 ls) ∨ (k = "shares" ∧ inR 1 4 ls))
  | .order o t r => ordN n o ∧ t ≤ 1 ∧ r.ok n
theorem numD_nat {d : PD} {lo hi : Nat} (h : K13.numD d (lo : Int) (hi : Int) = true) : ∃ i : Nat, d = intD i ∧ lo ≤ i ∧ i ≤ hi := by
  cases d with
  | int i =>
    have h : (decide ((lo : Int) ≤ i) && decide (i ≤ (hi : Int))) = true := h
    obtain ⟨h1, h2⟩ := Bool.and_eq_true_iff.mp h
    have h1 := of_decide_eq_true h1
    have h2 := of_decide_eq_true h2
    obtain ⟨m, rfl⟩ := Int.eq_ofNat_of_zero_le (show 0 ≤ i by omega)
    exact ⟨m, rfl, by omega, by omega⟩
  | _ => cases h
theorem numD_ok {i lo hi : Nat} (h1 : lo ≤ i) (h2 : i ≤ hi) : K13.numD (intD i) (lo : Int) (hi : Int) = true := by
  show (decide ((lo : Int) ≤ (i : Int)) && decide ((i : Int) ≤ (hi : Int))) = true
  rw [decide_eq_true (by omega), decide_eq_true (by omega)]
  rfl
theorem row_nat {d : PD} {m lo hi : Nat} (h : K13.rowD d (m : Int) (lo : Int) (hi : Int) = true) : ∃ ls : List Nat, d = natsT ls ∧ ls.length = m ∧ inR lo hi ls := by
  cases d with
  | tuple ds =>
    have h : (decide ((ds.length : Int) = (m : Int)) && ds.all fun x => K13.numD x lo hi) = true := h
    obtain ⟨h1, h2⟩ := Bool.and_eq_true_iff.mp h
    have h1 := of_decide_eq_true h1
    have h3 : ∀ ds : List PD, (∀ x ∈ ds, K13.numD x lo hi = true) → ∃ ls : List Nat, ds = ls.map intD ∧ inR lo hi ls := by
      intro ds
      induction ds with
      | nil => intro _; exact ⟨[], rfl, fun x z => nomatch z⟩
      | cons a r ih =>
        intro hd
        obtain ⟨i, rfl, i1, i2⟩ := numD_nat (hd _ List.mem_cons_self)
        obtain ⟨ls, rfl, hl⟩ := ih fun x hx => hd x (List.mem_cons_of_mem _ hx)
        exact ⟨i :: ls, rfl, fun x hx => by
          rcases List.mem_cons.mp hx with z | z
          · rw [z]; exact ⟨i1, i2⟩
          · exact hl x z⟩
    obtain ⟨ls, rfl, hl⟩ := h3 ds fun x hx => List.all_eq_true.mp h2 x hx
    exact ⟨ls, rfl, by rw [List.length_map] at h1; omega, hl⟩
  | _ => cases h
theorem row_nok {ls : List Nat} {m lo hi : Nat} (h1 : ls.length = m) (h2 : inR lo hi ls) : K13.rowD (natsT ls) (m : Int) (lo : Int) (hi : Int) = true := by
  show (decide (((ls.map intD).length : Int) = (m : Int)) && (ls.map intD).all fun x => K13.numD x lo hi) = true
  rw [List.length_map, decide_eq_true (by omega), Bool.true_and]
  refine List.all_eq_true.mpr fun x hx => ?_
  obtain ⟨i, hi, rfl⟩ := List.mem_map.mp hx
  exact numD_ok (h2 i hi).1 (h2 i hi).2
theorem natsT_inj {a b : List Nat} (h : natsT a = natsT b) : a = b := by
  have h : a.map intD = b.map intD := by
    unfold natsT at h
    injection h
  refine List.map_inj_right (f := intD) (fun x y e => ?_) |>.mp h
  have e : PyData.int (x : Int) = .int (y : Int) := e
  injection e with e
  omega
theorem ord_nat {d : PD} {n : Nat} (hn : 1 ≤ n) (h : K13.orderD d (n : Int) = true) : ∃ o, d = natsT o ∧ ordN n o := by
  have h0 := h
  cases d with
  | tuple ds =>
    have h : (K13.rowD (.tuple ds) (n : Int) 0 ((n : Int) - 1) && decide (K13.isort (K13.intsOf ds) = K13.rgI n)) = true := h
    obtain ⟨h1, _⟩ := Bool.and_eq_true_iff.mp h
    have h1 : K13.rowD (.tuple ds) ((n : Nat) : Int) ((0 : Nat) : Int) ((n - 1 : Nat) : Int) = true := by
      rw [show (((n - 1 : Nat)) : Int) = (n : Int) - 1 by omega]
      exact h1
    obtain ⟨ls, e, _, _⟩ := row_nat h1
    exact ⟨ls, e, by unfold ordN; rw [← e]; exact h0⟩
  | _ => cases h
theorem ord_len {n : Nat} {o : List Nat} (hn : 1 ≤ n) (h : ordN n o) : o.length = n ∧ ∀ x ∈ o, x < n := by
  have h : (K13.rowD (natsT o) (n : Int) 0 ((n : Int) - 1) && decide (K13.isort (K13.intsOf (o.map intD)) = K13.rgI n)) = true := h
  obtain ⟨h1, _⟩ := Bool.and_eq_true_iff.mp h
  have h1 : K13.rowD (natsT o) ((n : Nat) : Int) ((0 : Nat) : Int) ((n - 1 : Nat) : Int) = true := by
    rw [show (((n - 1 : Nat)) : Int) = (n : Int) - 1 by omega]
    exact h1
  obtain ⟨ls, e, l1, l2⟩ := row_nat h1
  rw [natsT_inj e]
  exact ⟨l1, fun x hx => by have := l2 x hx; omega⟩
theorem rule_nat {d : PD} {n : Nat} (hn : 1 ≤ n) (h : K13.ruleD d (n : Int) = true) : ∃ r : Rl, d = r.enc ∧ r.ok n := by
  unfold K13.ruleD at h
  split at h
  · rename_i e
    match d, h, e with
    | .tuple [k, r], h, e =>
      have h : K13.rowD r ((2 : Nat) : Int) ((0 : Nat) : Int) ((n : Int) - 1) = true := h
      rw [show (n : Int) - 1 = ((n - 1 : Nat) : Int) by omega] at h
      obtain ⟨ls, rfl, l1, l2⟩ := row_nat h
      match ls, l1, l2 with
      | [a, b], _, l2 =>
        cases k with
        | str s =>
          have e : s = "top" := e
          subst e
          have ha := l2 a (by simp)
          have hb := l2 b (by simp)
          exact ⟨.top a b, rfl, by omega, by omega⟩
        | _ => exact absurd (show ("" : Str) = "top" from e) (by decide)
  · obtain ⟨h1, h2⟩ := Bool.and_eq_true_iff.mp h
    match d, h1, h2 with
    | .tuple [k], h1, h2 =>
      cases k with
      | str s =>
        have h1 : inV (.str s) [.str "plain", .str "lent"] = true := h1
        rw [inStr2] at h1
        rcases of_decide_eq_true h1 with rfl | rfl
        · exact ⟨.plain, rfl, trivial⟩
        · exact ⟨.lent, rfl, trivial⟩
      | _ => exact absurd (show K13.kin "" "plain" "lent" = true from h1) (by decide +kernel)
theorem rule_ok {r : Rl} {n : Nat} (h : r.ok n) : K13.ruleD r.enc (n : Int) = true := by
  cases r with
  | plain =>
    show (if ("plain" : Str) = "top" then K13.topD (Rl.enc .plain) n else (K13.kin "plain" "plain" "lent" && true)) = true
    rw [if_neg (by decide)]
    decide +kernel
  | lent =>
    show (if ("lent" : Str) = "top" then K13.topD (Rl.enc .lent) n else (K13.kin "lent" "plain" "lent" && true)) = true
    rw [if_neg (by decide)]
    decide +kernel
  | top a b =>
    obtain ⟨h1, h2⟩ := h
    show (if K13.firstD (.tuple [.str "top", natsT [a, b]]) = "top" then K13.rowD (natsT [a, b]) 2 0 ((n : Int) - 1) else _) = true
    rw [if_pos (by rfl)]
    have := row_nok (ls := [a, b]) (m := 2) (lo := 0) (hi := n - 1) rfl fun x hx => by
      simp only [List.mem_cons, List.not_mem_nil, or_false] at hx
      rcases hx with rfl | rfl <;> omega
    rw [show (((n - 1 : Nat)) : Int) = (n : Int) - 1 by omega] at this
    exact this

theorem sched_nat {d : PD} {n : Nat} (h : K13.schedD d (.int (n : Int)) = true) : 1 ≤ n ∧ n ≤ 4 ∧ ∃ s : Sc, d = s.enc ∧ s.ok n := by
  cases d with
  | tuple ds =>
    have h : (K13.numD (intD n) ((1 : Nat) : Int) ((4 : Nat) : Int) && K13.kindD (K13.firstD (.tuple ds)) ds n) = true := h
    obtain ⟨h1, h2⟩ := Bool.and_eq_true_iff.mp h
    obtain ⟨m, e, n1, n4⟩ := numD_nat h1
    have e : PyData.int (n : Int) = .int (m : Int) := e
    injection e with e
    have e : n = m := by omega
    subst e
    refine ⟨n1, n4, ?_⟩
    unfold K13.kindD at h2
    have hd : ∀ {k : Str}, k ≠ "" → K13.firstD (.tuple ds) = k → ∃ r, ds = .str k :: r := fun {k} hk e => by
      match ds, e with
      | [], e => exact absurd e.symm hk
      | .str s :: r, e =>
        have e : s = k := e
        exact ⟨r, by rw [e]⟩
      | .none :: r, e => exact absurd (show ("" : Str) = k from e).symm hk
      | .bool _ :: r, e => exact absurd (show ("" : Str) = k from e).symm hk
      | .int _ :: r, e => exact absurd (show ("" : Str) = k from e).symm hk
      | .list _ :: r, e => exact absurd (show ("" : Str) = k from e).symm hk
      | .tuple _ :: r, e => exact absurd (show ("" : Str) = k from e).symm hk
      | .dict _ :: r, e => exact absurd (show ("" : Str) = k from e).symm hk
    split at h2
    · rename_i e
      obtain ⟨r, rfl⟩ := hd (by decide) e
      match r, h2 with
      | [], _ => exact ⟨.bare "first", rfl, .inl rfl⟩
    split at h2
    · rename_i e
      obtain ⟨r, rfl⟩ := hd (by decide) e
      match r, h2 with
      | [], _ => exact ⟨.bare "last", rfl, .inr rfl⟩
    split at h2
    · rename_i e
      obtain ⟨r, rfl⟩ := hd (by decide) e
      match r, h2 with
      | [o, t, r], h2 =>
        have h2 : ((K13.orderD o n && K13.numD t ((0 : Nat) : Int) ((1 : Nat) : Int)) && K13.ruleD r n) = true := h2
        obtain ⟨h3, h4⟩ := Bool.and_eq_true_iff.mp h2
        obtain ⟨h5, h6⟩ := Bool.and_eq_true_iff.mp h3
        obtain ⟨o', rfl, ho⟩ := ord_nat n1 h5
        obtain ⟨t', rfl, _, ht⟩ := numD_nat h6
        obtain ⟨r', rfl, hr⟩ := rule_nat n1 h4
        exact ⟨.order o' t' r', rfl, ho, ht, hr⟩
    split at h2
    · rename_i e
      obtain ⟨r, rfl⟩ := hd (by decide) e
      match r, h2 with
      | [q, l], h2 =>
        have h2 : (K13.numD q ((1 : Nat) : Int) ((4 : Nat) : Int) && K13.numD l ((0 : Nat) : Int) ((1 : Nat) : Int)) = true := h2
        obtain ⟨h3, h4⟩ := Bool.and_eq_true_iff.mp h2
        obtain ⟨q', rfl, q1, q2⟩ := numD_nat h3
        obtain ⟨l', rfl, _, l2⟩ := numD_nat h4
        exact ⟨.rounds q' l', rfl, q1, q2, l2⟩
    split at h2
    · rename_i e
      obtain ⟨r, rfl⟩ := hd (by decide) e
      match r, h2 with
      | [q, b], h2 =>
        have h2 : (K13.numD b ((0 : Nat) : Int) ((8 : Nat) : Int) && (K13.rowD q ((1 : Nat) : Int) ((1 : Nat) : Int) ((4 : Nat) : Int) || (K13.rowD q ((2 : Nat) : Int) ((1 : Nat) : Int) ((4 : Nat) : Int) || K13.rowD q ((3 : Nat) : Int) ((1 : Nat) : Int) ((4 : Nat) : Int)))) = true := h2
        obtain ⟨h3, h4⟩ := Bool.and_eq_true_iff.mp h2
        obtain ⟨b', rfl, _, b2⟩ := numD_nat h3
        rw [Bool.or_eq_true, Bool.or_eq_true] at h4
        rcases h4 with h4 | h4 | h4
        all_goals
          obtain ⟨ls, rfl, l1, l2⟩ := row_nat h4
          exact ⟨.levels ls b', rfl, by omega, by omega, l2, b2⟩
    split at h2
    · rename_i e
      obtain ⟨r, rfl⟩ := hd (by decide) e
      match r, h2 with
      | [o, b], h2 =>
        have h2 : (K13.orderD o n && K13.numD b ((1 : Nat) : Int) ((3 : Nat) : Int)) = true := h2
        obtain ⟨h3, h4⟩ := Bool.and_eq_true_iff.mp h2
        obtain ⟨o', rfl, ho⟩ := ord_nat n1 h3
        obtain ⟨b', rfl, b1, b2⟩ := numD_nat h4
        exact ⟨.aging o' b', rfl, ho, b1, b2⟩
    split at h2
    · rename_i e
      obtain ⟨r, rfl⟩ := hd (by decide) e
      match r, h2 with
      | [l], h2 =>
        have h2 : K13.rowD l (n : Int) ((1 : Nat) : Int) ((6 : Nat) : Int) = true := h2
        obtain ⟨ls, rfl, l1, l2⟩ := row_nat h2
        exact ⟨.lim "due" ls, rfl, l1, .inl ⟨rfl, l2⟩⟩
    split at h2
    · rename_i e
      obtain ⟨r, rfl⟩ := hd (by decide) e
      match r, h2 with
      | [l], h2 =>
        have h2 : K13.rowD l (n : Int) ((1 : Nat) : Int) ((4 : Nat) : Int) = true := h2
        obtain ⟨ls, rfl, l1, l2⟩ := row_nat h2
        exact ⟨.lim "shares" ls, rfl, l1, .inr ⟨rfl, l2⟩⟩
    cases h2
  | _ => cases h
theorem sched_ok {s : Sc} {n : Nat} (n1 : 1 ≤ n) (n4 : n ≤ 4) (h : s.ok n) : K13.schedD s.enc (.int (n : Int)) = true := by
  have hn := numD_ok n1 n4
  have key : ∀ {ds : List PD} {k : Str}, s.enc = .tuple (.str k :: ds) → K13.kindD k (.str k :: ds) n = true → K13.schedD s.enc (.int (n : Int)) = true := fun {ds k} e e2 => by
    rw [e]
    show (K13.numD (intD n) ((1 : Nat) : Int) ((4 : Nat) : Int) && K13.kindD k (.str k :: ds) n) = true
    rw [hn, e2]
    rfl
  cases s with
  | bare k =>
    rcases h with rfl | rfl
    · exact key rfl (by rfl)
    · exact key rfl (by rfl)
  | rounds q l =>
    obtain ⟨h1, h2, h3⟩ := h
    refine key rfl ?_
    show (K13.numD (intD q) ((1 : Nat) : Int) ((4 : Nat) : Int) && K13.numD (intD l) ((0 : Nat) : Int) ((1 : Nat) : Int)) = true
    rw [numD_ok h1 h2, numD_ok (Nat.zero_le _) h3]
    rfl
  | levels qs b =>
    obtain ⟨h1, h2, h3, h4⟩ := h
    refine key rfl ?_
    show (K13.numD (intD b) ((0 : Nat) : Int) ((8 : Nat) : Int) && (K13.rowD (natsT qs) ((1 : Nat) : Int) ((1 : Nat) : Int) ((4 : Nat) : Int) || (K13.rowD (natsT qs) ((2 : Nat) : Int) ((1 : Nat) : Int) ((4 : Nat) : Int) || K13.rowD (natsT qs) ((3 : Nat) : Int) ((1 : Nat) : Int) ((4 : Nat) : Int)))) = true
    rw [numD_ok (Nat.zero_le _) h4, Bool.true_and, Bool.or_eq_true, Bool.or_eq_true]
    rcases (show qs.length = 1 ∨ qs.length = 2 ∨ qs.length = 3 by omega) with e | e | e
    · exact .inl (row_nok e h3)
    · exact .inr (.inl (row_nok e h3))
    · exact .inr (.inr (row_nok e h3))
  | aging o b =>
    obtain ⟨h1, h2, h3⟩ := h
    refine key rfl ?_
    show (K13.orderD (natsT o) n && K13.numD (intD b) ((1 : Nat) : Int) ((3 : Nat) : Int)) = true
    rw [show K13.orderD (natsT o) n = true from h1, numD_ok h2 h3]
    rfl
  | lim k ls =>
    obtain ⟨h1, h2⟩ := h
    rcases h2 with ⟨rfl, h2⟩ | ⟨rfl, h2⟩
    · exact key rfl (row_nok h1 h2)
    · exact key rfl (row_nok h1 h2)
  | order o t r =>
    obtain ⟨h1, h2, h3⟩ := h
    refine key rfl ?_
    show ((K13.orderD (natsT o) n && K13.numD (intD t) ((0 : Nat) : Int) ((1 : Nat) : Int)) && K13.ruleD r.enc n) = true
    rw [show K13.orderD (natsT o) n = true from h1, numD_ok (Nat.zero_le _) h2, rule_ok h3]
    rfl
end PT
/-! The words of a scheduler, and what words tell. -/
namespace PT
open PySem PySem.Spec PyProof.Rows L2 DA DL TR TL
def lateW (l : Nat) : Str := if l = 0 then "early" else "late"
def takeW (t : Nat) : Str := if t = 0 then "keeping" else "taking"
def Rl.words : Rl → List Str
  | .plain => ["plain"]
  | .lent => ["lent"]
  | .top a b => ["top", strN a, strN b]
def Sc.words : Sc → List Str
  | .bare k => [k]
  | .rounds q l => ["rounds", strN q, lateW l]
  | .levels qs b => "levels" :: (qs.map strN ++ [("raised" : Str), strN b])
  | .aging o b => "aging" :: (o.map strN ++ [("step" : Str), strN b])
  | .lim k ls => k :: ls.map strN
  | .order o t r => "order" :: (o.map strN ++ takeW t :: r.words)
def wn (ws : List Str) (i : Nat) : Str := ws.getD i ""
def numO (w : Str) : PD := encO (numW (tl w))
def numsT (ws : List Str) : PD := .tuple (ws.map numO)
def ix2 (a x : Str) : Nat := if x = a then 0 else 1
def orderT (n : Nat) (ws : List Str) : PD :=
  if n + 3 ≤ ws.length ∧ (wn ws (n + 1) = "keeping" ∨ wn ws (n + 1) = "taking") then
    if wn ws (n + 2) = "top" then .tuple [.str "order", numsT ((ws.drop 1).take n), intD (ix2 "keeping" (wn ws (n + 1))), .tuple [.str "top", numsT (ws.drop (n + 3))]]
    else .tuple [.str "order", numsT ((ws.drop 1).take n), intD (ix2 "keeping" (wn ws (n + 1))), .tuple ((ws.drop (n + 2)).map .str)]
  else .none
def toldK (k : Str) (n : Nat) (ws : List Str) : PD :=
  if k = "order" then orderT n ws
  else if k = "rounds" ∧ ws.length = 3 ∧ (wn ws 2 = "early" ∨ wn ws 2 = "late") then .tuple [.str k, numO (wn ws 1), intD (ix2 "early" (wn ws 2))]
  else if k = "levels" ∧ 3 < ws.length ∧ wn ws (ws.length - 2) = "raised" then .tuple [.str k, numsT ((ws.drop 1).take (ws.length - 3)), numO (wn ws (ws.length - 1))]
  else if k = "aging" ∧ 3 < ws.length ∧ wn ws (ws.length - 2) = "step" then .tuple [.str k, numsT ((ws.drop 1).take (ws.length - 3)), numO (wn ws (ws.length - 1))]
  else if k = "due" ∨ k = "shares" then .tuple [.str k, numsT (ws.drop 1)]
  else if (k = "first" ∨ k = "last") ∧ ws.length = 1 then .tuple [.str k]
  else .none
def told (n : Nat) (ws : List Str) : PD := toldK (wn ws 0) n ws
theorem numO_strN {x : Nat} (h : x ≤ 99) : numO (strN x) = intD x := by
  unfold numO
  rw [tl_strN, numW_num h]
  rfl
theorem numsT_strN {ls : List Nat} (h : ∀ x ∈ ls, x ≤ 99) : numsT (ls.map strN) = natsT ls := by
  unfold numsT natsT
  rw [List.map_map]
  exact congrArg PyData.tuple (List.map_congr_left fun x hx => numO_strN (h x hx))
theorem numO_inv {w : Str} {x : Nat} (h : numO w = intD x) : w = strN x ∧ x ≤ 99 := by
  unfold numO at h
  cases q : numW (tl w) with
  | none => rw [q] at h; cases h
  | some m =>
    rw [q] at h
    have h : PyData.int (m : Int) = .int (x : Int) := h
    injection h with h
    have e : m = x := by omega
    subst e
    obtain ⟨e1, e2⟩ := numW_inv q
    exact ⟨ext_tl (by rw [e1, tl_strN]), e2⟩
theorem nums_inv : ∀ {ws : List Str} {ls : List Nat}, ws.map numO = ls.map intD → ws = ls.map strN
  | [], [], _ => rfl
  | [], a :: r, h => by cases h
  | w :: r, [], h => by cases h
  | w :: r, x :: t, h => by
    rw [List.map_cons, List.map_cons] at h
    injection h with h1 h2
    rw [List.map_cons, ← nums_inv h2, ← (numO_inv h1).1]
theorem numsT_inv {ws : List Str} {ls : List Nat} (h : numsT ws = natsT ls) : ws = ls.map strN := nums_inv (by
  unfold numsT natsT at h
  injection h)
theorem wn_mid (k : Str) (A : List Str) (x : Str) (B : List Str) : wn (k :: (A ++ x :: B)) (A.length + 1) = x := by
  unfold wn
  rw [List.getD_eq_getElem?_getD, List.getElem?_cons_succ, List.getElem?_append_right (Nat.le_refl _), Nat.sub_self]
  rfl
theorem wn_mid2 (k : Str) (A : List Str) (x y : Str) (B : List Str) : wn (k :: (A ++ x :: y :: B)) (A.length + 2) = y := by
  have := wn_mid k (A ++ [x]) y B
  rw [List.append_assoc, List.length_append] at this
  exact this
theorem take_mid (A : List Str) (B : List Str) : (A ++ B).take A.length = A := by rw [List.take_append_of_le_length (Nat.le_refl _), List.take_length]
theorem split_ws {ws : List Str} {m : Nat} (h : m + 2 ≤ ws.length) : ws = wn ws 0 :: ((ws.drop 1).take m ++ wn ws (m + 1) :: ws.drop (m + 2)) := by
  cases ws with
  | nil => simp at h
  | cons a r =>
    have hm : m < r.length := by simp at h; omega
    have e : wn (a :: r) (m + 1) = r[m] := by
      unfold wn
      rw [List.getD_eq_getElem?_getD, List.getElem?_cons_succ, List.getElem?_eq_getElem hm]
      rfl
    rw [e]
    show a :: r = a :: (r.take m ++ r[m] :: r.drop (m + 1))
    rw [← List.drop_eq_getElem_cons hm, List.take_append_drop]
theorem lateW_or (l : Nat) : lateW l = "early" ∨ lateW l = "late" := by
  unfold lateW
  split
  · exact .inl rfl
  · exact .inr rfl
theorem takeW_or (l : Nat) : takeW l = "keeping" ∨ takeW l = "taking" := by
  unfold takeW
  split
  · exact .inl rfl
  · exact .inr rfl
theorem ix_late {l : Nat} (h : l ≤ 1) : ix2 "early" (lateW l) = l := by
  match l, h with
  | 0, _ => rfl
  | 1, _ => decide +kernel
theorem ix_take {l : Nat} (h : l ≤ 1) : ix2 "keeping" (takeW l) = l := by
  match l, h with
  | 0, _ => rfl
  | 1, _ => decide +kernel
theorem late_ix {x : Str} (h : x = "early" ∨ x = "late") : lateW (ix2 "early" x) = x := by
  rcases h with rfl | rfl <;> decide +kernel
theorem take_ix {x : Str} (h : x = "keeping" ∨ x = "taking") : takeW (ix2 "keeping" x) = x := by
  rcases h with rfl | rfl <;> decide +kernel
theorem told_words {s : Sc} {n : Nat} (n1 : 1 ≤ n) (n4 : n ≤ 4) (h : s.ok n) : told n s.words = s.enc := by
  cases s with
  | bare k =>
    rcases h with rfl | rfl
    · show toldK "first" n [("first" : Str)] = _
      unfold toldK
      rw [if_neg (by decide), if_neg (fun z => absurd z.1 (by decide)), if_neg (fun z => absurd z.1 (by decide)), if_neg (fun z => absurd z.1 (by decide)), if_neg (fun z => z.elim (fun z => absurd z (by decide)) fun z => absurd z (by decide)), if_pos ⟨.inl rfl, rfl⟩]
      rfl
    · show toldK "last" n [("last" : Str)] = _
      unfold toldK
      rw [if_neg (by decide), if_neg (fun z => absurd z.1 (by decide)), if_neg (fun z => absurd z.1 (by decide)), if_neg (fun z => absurd z.1 (by decide)), if_neg (fun z => z.elim (fun z => absurd z (by decide)) fun z => absurd z (by decide)), if_pos ⟨.inr rfl, rfl⟩]
      rfl
  | rounds q l =>
    obtain ⟨h1, h2, h3⟩ := h
    show toldK "rounds" n _ = _
    unfold toldK
    rw [if_neg (by decide), if_pos ⟨rfl, rfl, lateW_or l⟩]
    show PyData.tuple [.str "rounds", numO (strN q), intD (ix2 "early" (lateW l))] = _
    rw [numO_strN (by omega), ix_late h3]
    rfl
  | levels qs b =>
    obtain ⟨h1, h2, h3, h4⟩ := h
    have el : (Sc.words (.levels qs b)).length = (qs.map strN).length + 3 := by
      show (("levels" : Str) :: (qs.map strN ++ [("raised" : Str), strN b])).length = _
      rw [List.length_cons, List.length_append]
      rfl
    have e1 : wn (Sc.words (.levels qs b)) ((Sc.words (.levels qs b)).length - 2) = "raised" := by
      rw [el]
      exact wn_mid "levels" (qs.map strN) "raised" [strN b]
    have e2 : wn (Sc.words (.levels qs b)) ((Sc.words (.levels qs b)).length - 1) = strN b := by
      rw [el]
      exact wn_mid2 "levels" (qs.map strN) "raised" (strN b) []
    have e3 : ((Sc.words (.levels qs b)).drop 1).take ((Sc.words (.levels qs b)).length - 3) = qs.map strN := by
      rw [el]
      exact take_mid (qs.map strN) [("raised" : Str), strN b]
    show toldK "levels" n _ = _
    unfold toldK
    rw [if_neg (by decide), if_neg (fun z => absurd z.1 (by decide)), if_pos ⟨rfl, by rw [el, List.length_map]; omega, e1⟩, e2, e3, numO_strN (by omega), numsT_strN fun x hx => by have := h3 x hx; omega]
    rfl
  | aging o b =>
    obtain ⟨h1, h2, h3⟩ := h
    obtain ⟨o1, o2⟩ := ord_len n1 h1
    have el : (Sc.words (.aging o b)).length = (o.map strN).length + 3 := by
      show (("aging" : Str) :: (o.map strN ++ [("step" : Str), strN b])).length = _
      rw [List.length_cons, List.length_append]
      rfl
    have e1 : wn (Sc.words (.aging o b)) ((Sc.words (.aging o b)).length - 2) = "step" := by
      rw [el]
      exact wn_mid "aging" (o.map strN) "step" [strN b]
    have e2 : wn (Sc.words (.aging o b)) ((Sc.words (.aging o b)).length - 1) = strN b := by
      rw [el]
      exact wn_mid2 "aging" (o.map strN) "step" (strN b) []
    have e3 : ((Sc.words (.aging o b)).drop 1).take ((Sc.words (.aging o b)).length - 3) = o.map strN := by
      rw [el]
      exact take_mid (o.map strN) [("step" : Str), strN b]
    show toldK "aging" n _ = _
    unfold toldK
    rw [if_neg (by decide), if_neg (fun z => absurd z.1 (by decide)), if_neg (fun z => absurd z.1 (by decide)), if_pos ⟨rfl, by rw [el, List.length_map]; omega, e1⟩, e2, e3, numO_strN (by omega), numsT_strN fun x hx => by have := o2 x hx; omega]
    rfl
  | lim k ls =>
    obtain ⟨h1, h2⟩ := h
    have hl : ∀ x ∈ ls, x ≤ 99 := fun x hx => by
      rcases h2 with ⟨_, h2⟩ | ⟨_, h2⟩
      · have := h2 x hx; omega
      · have := h2 x hx; omega
    have hk : k = "due" ∨ k = "shares" := h2.imp (fun z => z.1) fun z => z.1
    show toldK k n _ = _
    unfold toldK
    have n1 : k ≠ "order" := by rcases hk with rfl | rfl <;> decide
    have n2 : k ≠ "rounds" := by rcases hk with rfl | rfl <;> decide
    have n3 : k ≠ "levels" := by rcases hk with rfl | rfl <;> decide
    have n5 : k ≠ "aging" := by rcases hk with rfl | rfl <;> decide
    rw [if_neg n1, if_neg (fun z => n2 z.1), if_neg (fun z => n3 z.1), if_neg (fun z => n5 z.1), if_pos hk]
    show PyData.tuple [.str k, numsT (ls.map strN)] = _
    rw [numsT_strN hl]
    rfl
  | order o t r =>
    obtain ⟨h1, h2, h3⟩ := h
    obtain ⟨o1, o2⟩ := ord_len n1 h1
    have el : (o.map strN).length = n := by rw [List.length_map, o1]
    have e1 : wn (Sc.words (.order o t r)) (n + 1) = takeW t := by
      rw [← el]
      exact wn_mid "order" (o.map strN) (takeW t) r.words
    have e2 : ∀ {y B}, r.words = y :: B → wn (Sc.words (.order o t r)) (n + 2) = y := fun {y B} e => by
      rw [← el]
      show wn (("order" : Str) :: (o.map strN ++ takeW t :: r.words)) _ = _
      rw [e]
      exact wn_mid2 "order" (o.map strN) (takeW t) y B
    have e3 : ((Sc.words (.order o t r)).drop 1).take n = o.map strN := by
      rw [← el]
      exact take_mid (o.map strN) (takeW t :: r.words)
    have e4 : (Sc.words (.order o t r)).drop (n + 2) = r.words := by
      show (o.map strN ++ takeW t :: r.words).drop (n + 1) = _
      rw [← el, List.drop_append, List.drop_eq_nil_of_le (by omega), Nat.add_sub_cancel_left]
      rfl
    have e5 : (Sc.words (.order o t r)).length = n + 2 + r.words.length := by
      show (("order" : Str) :: (o.map strN ++ takeW t :: r.words)).length = _
      rw [List.length_cons, List.length_append, el, List.length_cons]
      omega
    have hr : 1 ≤ r.words.length := by cases r <;> exact Nat.le_add_left 1 _
    show toldK "order" n _ = _
    unfold toldK
    rw [if_pos rfl]
    unfold orderT
    rw [if_pos ⟨by rw [e5]; omega, by rw [e1]; exact takeW_or t⟩, e1, e3, ix_take h2, numsT_strN fun x hx => by have := o2 x hx; omega]
    cases r with
    | plain =>
      rw [if_neg (by rw [e2 (y := "plain") (B := []) rfl]; decide), e4]
      rfl
    | lent =>
      rw [if_neg (by rw [e2 (y := "lent") (B := []) rfl]; decide), e4]
      rfl
    | top a b =>
      obtain ⟨h4, h5⟩ := h3
      rw [if_pos (e2 (y := "top") (B := [strN a, strN b]) rfl)]
      have e6 : (Sc.words (.order o t (.top a b))).drop (n + 3) = [strN a, strN b] := by
        rw [show n + 3 = (n + 2) + 1 by omega, ← List.drop_drop, e4]
        rfl
      rw [e6, show [strN a, strN b] = [a, b].map strN from rfl, numsT_strN fun x hx => by
        simp only [List.mem_cons, List.not_mem_nil, or_false] at hx
        rcases hx with rfl | rfl <;> omega]
      rfl

/-! ### what is told of words that fit is those words -/
def hdP : PD → Str × Nat
  | .tuple (.str k :: r) => (k, r.length)
  | _ => ("", 9)
theorem tup_inj {a b : List PD} (h : PyData.tuple a = .tuple b) : a = b := by injection h
theorem intD_inj {a b : Nat} (h : intD a = intD b) : a = b := by
  have h : PyData.int (a : Int) = .int (b : Int) := h
  injection h with h
  omega
theorem nn {a b : Nat} (h : a = b) (hb : Nat.beq a b = false) : False := by
  rw [h, Nat.beq_refl] at hb
  cases hb
theorem words_of_order {n : Nat} {ws : List Str} {s : Sc} (n1 : 1 ≤ n) (hk : wn ws 0 = "order") (e : orderT n ws = s.enc) (ok : s.ok n) : s.words = ws := by
  unfold orderT at e
  split at e
  · rename_i hc
    obtain ⟨hl, ht⟩ := hc
    have hw := split_ws (ws := ws) (m := n) (by omega)
    have fin : ∀ {X Z : PD} {o t r}, PyData.tuple [.str "order", X, intD (ix2 "keeping" (wn ws (n + 1))), Z] = (Sc.order o t r).enc → X = numsT ((ws.drop 1).take n) → (Z = r.enc → ws.drop (n + 2) = r.words) → (Sc.order o t r).words = ws := fun {X Z o t r} e eX hZ => by
      have e := tup_inj e
      injection e with _ e
      injection e with e1 e
      injection e with e2 e
      injection e with e3 _
      rw [eX] at e1
      have w1 := numsT_inv e1
      have w2 := intD_inj e2
      have w3 := hZ e3
      rw [hw, hk, w1, w3]
      show ("order" : Str) :: (o.map strN ++ takeW t :: r.words) = _
      rw [← w2, take_ix ht]
    have no : ∀ {Y Z W : PD}, PyData.tuple [.str "order", Y, Z, W] = s.enc → ∃ o t r, s = .order o t r := fun {Y Z W} e => by
      have e := congrArg hdP e
      cases s with
      | order o t r => exact ⟨o, t, r, rfl⟩
      | bare k => exact (nn (congrArg Prod.snd e) rfl).elim
      | rounds q l => exact (nn (congrArg Prod.snd e) rfl).elim
      | levels q l => exact (nn (congrArg Prod.snd e) rfl).elim
      | aging q l => exact (nn (congrArg Prod.snd e) rfl).elim
      | lim q l => exact (nn (congrArg Prod.snd e) rfl).elim
    split at e
    · rename_i hr
      obtain ⟨o, t, r, rfl⟩ := no e
      refine fin e rfl fun eZ => ?_
      cases r with
      | plain => exact (nn (congrArg (fun z => (hdP z).2) eZ) rfl).elim
      | lent => exact (nn (congrArg (fun z => (hdP z).2) eZ) rfl).elim
      | top a b =>
        have eZ := tup_inj eZ
        injection eZ with _ eZ
        injection eZ with eZ _
        have w := numsT_inv eZ
        have e5 : ws.drop (n + 2) = wn ws (n + 2) :: ws.drop (n + 3) := by
          have hlt : n + 2 < ws.length := by omega
          rw [List.drop_eq_getElem_cons hlt]
          unfold wn
          rw [List.getD_eq_getElem?_getD, List.getElem?_eq_getElem hlt]
          rfl
        rw [e5, hr, w]
        rfl
    · rename_i hr
      obtain ⟨o, t, r, rfl⟩ := no e
      refine fin e rfl fun eZ => ?_
      have one : ∀ {k : Str}, PyData.tuple ((ws.drop (n + 2)).map .str) = .tuple [.str k] → ws.drop (n + 2) = [k] := fun {k} eZ => by
        have eZ := tup_inj eZ
        match ws.drop (n + 2), eZ with
        | [x], eZ =>
          injection eZ with eZ _
          injection eZ with eZ
          rw [eZ]
      cases r with
      | plain => exact one eZ
      | lent => exact one eZ
      | top a b =>
        have eZ := tup_inj eZ
        match ws.drop (n + 2), eZ with
        | [x, y], eZ =>
          injection eZ with _ eZ
          injection eZ with eZ _
          cases eZ
  · cases s <;> cases e
theorem told_sched {n : Nat} {ws : List Str} (h : K13.schedD (told n ws) (.int (n : Int)) = true) : ∃ s : Sc, told n ws = s.enc ∧ s.ok n ∧ s.words = ws := by
  obtain ⟨n1, n4, s, e, ok⟩ := sched_nat h
  refine ⟨s, e, ok, ?_⟩
  have e0 := e
  unfold told at e
  generalize hk : wn ws 0 = k at e
  unfold toldK at e
  have w0 : 1 ≤ ws.length → ws = k :: ws.drop 1 := fun hl => by
    cases ws with
    | nil => simp at hl
    | cons a r =>
      have : a = k := hk
      rw [this]
      rfl
  split at e
  · rename_i h1
    subst h1
    exact words_of_order n1 hk e ok
  split at e
  · rename_i h1
    obtain ⟨rfl, hl, hr⟩ := h1
    have e1 := congrArg hdP e
    have two : ∃ q l, s = .rounds q l := by
      cases s with
      | rounds q l => exact ⟨q, l, rfl⟩
      | order o t r => exact (nn (congrArg Prod.snd e1) rfl).elim
      | bare k => exact (nn (congrArg Prod.snd e1) rfl).elim
      | levels q l => exact absurd (show ("rounds" : Str) = "levels" from congrArg Prod.fst e1) (by decide)
      | aging q l => exact absurd (show ("rounds" : Str) = "aging" from congrArg Prod.fst e1) (by decide)
      | lim q l => exact (nn (congrArg Prod.snd e1) rfl).elim
    obtain ⟨q, l, rfl⟩ := two
    have e := tup_inj e
    injection e with _ e
    injection e with e1 e
    injection e with e2 _
    match ws, hl with
    | [a, b, c], _ =>
      have ha : a = "rounds" := hk
      have hb := (numO_inv e1).1
      have hb : b = strN q := hb
      have hc : ix2 "early" c = l := intD_inj e2
      have hr : c = "early" ∨ c = "late" := hr
      show [("rounds" : Str), strN q, lateW l] = [a, b, c]
      rw [ha, hb, ← hc, late_ix hr]
  have mid : ∀ {w : Str} {qs : List Nat} {b : Nat}, 3 < ws.length → wn ws (ws.length - 2) = w → numsT ((ws.drop 1).take (ws.length - 3)) = natsT qs → numO (wn ws (ws.length - 1)) = intD b → k :: (qs.map strN ++ [w, strN b]) = ws := fun {w qs b} hl hw e1 e2 => by
    have s1 := split_ws (ws := ws) (m := ws.length - 3) (by omega)
    have s2 : ws.drop (ws.length - 3 + 2) = [wn ws (ws.length - 1)] := by
      have hlt : ws.length - 1 < ws.length := by omega
      rw [show ws.length - 3 + 2 = ws.length - 1 by omega, List.drop_eq_getElem_cons hlt, List.drop_eq_nil_of_le (by omega)]
      unfold wn
      rw [List.getD_eq_getElem?_getD, List.getElem?_eq_getElem hlt]
      rfl
    rw [show ws.length - 3 + 1 = ws.length - 2 by omega, hw, s2, (numO_inv e2).1, numsT_inv e1, hk] at s1
    exact s1.symm
  split at e
  · rename_i h1
    obtain ⟨rfl, hl, hr⟩ := h1
    have e1 := congrArg hdP e
    have two : ∃ q l, s = .levels q l := by
      cases s with
      | levels q l => exact ⟨q, l, rfl⟩
      | order o t r => exact (nn (congrArg Prod.snd e1) rfl).elim
      | bare k => exact (nn (congrArg Prod.snd e1) rfl).elim
      | rounds q l => exact absurd (show ("levels" : Str) = "rounds" from congrArg Prod.fst e1) (by decide)
      | aging q l => exact absurd (show ("levels" : Str) = "aging" from congrArg Prod.fst e1) (by decide)
      | lim q l => exact (nn (congrArg Prod.snd e1) rfl).elim
    obtain ⟨q, l, rfl⟩ := two
    have e := tup_inj e
    injection e with _ e
    injection e with e1 e
    injection e with e2 _
    exact mid hl hr e1 e2
  split at e
  · rename_i h1
    obtain ⟨rfl, hl, hr⟩ := h1
    have e1 := congrArg hdP e
    have two : ∃ q l, s = .aging q l := by
      cases s with
      | aging q l => exact ⟨q, l, rfl⟩
      | order o t r => exact (nn (congrArg Prod.snd e1) rfl).elim
      | bare k => exact (nn (congrArg Prod.snd e1) rfl).elim
      | rounds q l => exact absurd (show ("aging" : Str) = "rounds" from congrArg Prod.fst e1) (by decide)
      | levels q l => exact absurd (show ("aging" : Str) = "levels" from congrArg Prod.fst e1) (by decide)
      | lim q l => exact (nn (congrArg Prod.snd e1) rfl).elim
    obtain ⟨q, l, rfl⟩ := two
    have e := tup_inj e
    injection e with _ e
    injection e with e1 e
    injection e with e2 _
    exact mid hl hr e1 e2
  split at e
  · rename_i h1
    have e1 := congrArg hdP e
    have two : ∃ q l, s = .lim q l := by
      cases s with
      | lim q l => exact ⟨q, l, rfl⟩
      | order o t r => exact (nn (congrArg Prod.snd e1) rfl).elim
      | bare k => exact (nn (congrArg Prod.snd e1) rfl).elim
      | rounds q l => exact (nn (congrArg Prod.snd e1) rfl).elim
      | levels q l => exact (nn (congrArg Prod.snd e1) rfl).elim
      | aging q l => exact (nn (congrArg Prod.snd e1) rfl).elim
    obtain ⟨q, l, rfl⟩ := two
    have e := tup_inj e
    injection e with e2 e
    injection e with e1 _
    injection e2 with e2
    have hl : 1 ≤ ws.length := by
      cases ws with
      | nil =>
        have hk : ("" : Str) = k := hk
        subst hk
        exact absurd h1 (by decide)
      | cons a r => simp
    show q :: l.map strN = ws
    rw [w0 hl, ← numsT_inv e1, e2]
  split at e
  · rename_i h1
    obtain ⟨h1, hl⟩ := h1
    have e1 := congrArg hdP e
    have two : ∃ q, s = .bare q := by
      cases s with
      | bare q => exact ⟨q, rfl⟩
      | order o t r => exact (nn (congrArg Prod.snd e1) rfl).elim
      | lim q l => exact (nn (congrArg Prod.snd e1) rfl).elim
      | rounds q l => exact (nn (congrArg Prod.snd e1) rfl).elim
      | levels q l => exact (nn (congrArg Prod.snd e1) rfl).elim
      | aging q l => exact (nn (congrArg Prod.snd e1) rfl).elim
    obtain ⟨q, rfl⟩ := two
    have e := tup_inj e
    injection e with e2 _
    injection e2 with e2
    rw [w0 (by omega), ← e2, List.drop_eq_nil_of_le (by omega)]
    rfl
  · cases s <;> cases e
end PT
namespace PT
open PySem PySem.Spec PyProof.Rows L2 DA DL TR TL
/-! ### what the layer lacks: a tuple's place of a text, a list by cases, str of a text or a number -/
section
variable {c : DC} {ρ : DEnv} {ta tb te : TE}
theorem ed_tupIx {a : Addr} {ys : List Str} {z : Str} {j : Nat} (hy : ∀ H, tyV c.K "tuple" (.ref a) H) (hd : ∀ H, Dp c.K H (.ref a) (.tuple (ys.map .str))) (hb : ED c tb ρ (.str z)) (e1 : ys[j]? = some z) (e2 : ∀ m, m < j → ys[m]? ≠ some z) :
    ED c (tBM c.K "tuple" (fun x xs H Q => ∃ p, ∃ ys : List Str, ∃ z j, x = .ref p ∧ xs = [.str z] ∧ SqT c.K H p (ys.map V.str) ∧ ys[j]? = some z ∧ (∀ m, m < j → ys[m]? ≠ some z) ∧ Q (.int (j : Nat)) H) (tC (.ref a)) (tCons tb tNil)) ρ (.int (j : Int)) := fun A σ H s Q q =>
  ⟨hy H, hb A σ H s _ fun v H1 k1 h1 => by
    obtain ⟨p, us, e, h3, h4⟩ := dp_tup (hd H1)
    cases e
    have := dps_strs h4
    subst this
    exact ⟨a, ys, z, j, rfl, by rw [DL.dp_str h1], h3, e1, e2, q _ H1 k1 (.int _)⟩⟩
theorem el_if {t : TT} {b : Bool} {ds : List PD} (h : ET c t ρ b) (h1 : b = true → EL c ta ρ ds) (h2 : b = false → EL c tb ρ ds) : EL c (tIf t ta tb) ρ ds := fun A σ H s Q q => h A σ H s _ fun H1 k1 => by
  cases b with
  | true =>
    show ta σ H1 Q
    exact h1 rfl A σ H1 (s.move k1) Q fun a xs H2 k2 g1 g2 => q a xs H2 (k1.trans k2) g1 g2
  | false =>
    show tb σ H1 Q
    exact h2 rfl A σ H1 (s.move k1) Q fun a xs H2 k2 g1 g2 => q a xs H2 (k1.trans k2) g1 g2
def rStrA : List V → Hp → VK → Prop := fun xs H Q => (∃ i, xs = [.int i] ∧ i.natAbs.log2 < 1920 ∧ Q (.str (toString i)) H) ∨ ∃ a, xs = [.str a] ∧ Q (.str a) H
theorem call_str_any {X : Cx} : CallR X (.type "str") rStrA := by
  intro pins s σ H xs us Q I r h
  rcases h with h | h
  · exact call_str_int pins s σ H xs us Q I r h
  · exact SkE.call_str_str pins s σ H xs us Q I r h
def txt : PD → Str
  | .str k => k
  | .int i => Str.ofString (toString i)
  | _ => ""
theorem ed_strA {d : PD} (ha : ED c ta ρ d) (h : (∃ k, d = .str k) ∨ ∃ i, d = .int i ∧ i.natAbs.log2 < 1920) : ED c (tCB rStrA (tCons ta tNil)) ρ (.str (txt d)) := fun A σ H s Q q => ha A σ H s _ fun v H1 k1 h1 => by
  rcases h with ⟨k, rfl⟩ | ⟨i, rfl, hi⟩
  · exact .inr ⟨k, by rw [DL.dp_str h1], q _ H1 k1 (.str _)⟩
  · exact .inl ⟨i, by rw [dp_int h1], hi, q _ H1 k1 (.str _)⟩
end
/-! ### schedulers formatted -/
def Rl.wd : Rl → List PD
  | .plain => [.str "plain"]
  | .lent => [.str "lent"]
  | .top a b => [.str "top", intD a, intD b]
def Sc.wd : Sc → List PD
  | .bare k => [.str k]
  | .rounds q l => [.str "rounds", intD q, .str (lateW l)]
  | .levels qs b => .str "levels" :: (qs.map intD ++ [.str "raised", intD b])
  | .aging o b => .str "aging" :: (o.map intD ++ [.str "step", intD b])
  | .lim k ls => .str k :: ls.map intD
  | .order o t r => .str "order" :: (o.map intD ++ .str (takeW t) :: r.wd)
theorem txt_ints (ls : List Nat) : (ls.map intD).map txt = ls.map strN := by
  rw [List.map_map]
  rfl
theorem Rl.txt_wd (r : Rl) : r.wd.map txt = r.words := by cases r <;> rfl
theorem Sc.txt_wd (s : Sc) : s.wd.map txt = s.words := by
  cases s with
  | bare k => rfl
  | rounds q l => rfl
  | levels qs b =>
    show ("levels" : Str) :: (qs.map intD ++ [.str "raised", intD b]).map txt = _
    rw [List.map_append, txt_ints]
    rfl
  | aging qs b =>
    show ("aging" : Str) :: (qs.map intD ++ [.str "step", intD b]).map txt = _
    rw [List.map_append, txt_ints]
    rfl
  | lim k ls =>
    show k :: (ls.map intD).map txt = _
    rw [txt_ints]
    rfl
  | order o t r =>
    show ("order" : Str) :: (o.map intD ++ .str (takeW t) :: r.wd).map txt = _
    rw [List.map_append, txt_ints, List.map_cons, r.txt_wd]
    rfl
def fmtS (s : Sc) : Str := Txt.join sp s.words
theorem fmtS_eq (s : Sc) : fmtS s = Txt.join sp s.words := rfl
theorem strN_free (n : Nat) : 32 ∉ tl (strN n) := by
  rw [tl_strN]
  intro z
  have := numL_digits n 32 z
  omega
theorem words_wd {s : Sc} {n : Nat} (n1 : 1 ≤ n) (n4 : n ≤ 4) (h : s.ok n) : (∀ d ∈ s.wd, (∃ k : Str, d = .str k ∧ k.length ≤ 7 ∧ 32 ∉ tl k) ∨ ∃ i : Nat, d = intD i ∧ i ≤ 99) ∧ 1 ≤ s.wd.length ∧ s.wd.length ≤ 9 := by
  have lit : ∀ {k : Str}, k ∈ ([("first" : Str), "last", "rounds", "early", "late", "levels", "raised", "aging", "step", "due"] ++ [("shares" : Str), "order", "keeping", "taking", "plain", "lent", "top"]) → (∃ k' : Str, PyData.str k = .str k' ∧ k'.length ≤ 7 ∧ 32 ∉ tl k') ∨ ∃ i : Nat, PyData.str k = intD i ∧ i ≤ 99 := fun {k} hk => by
    have all : ([("first" : Str), "last", "rounds", "early", "late", "levels", "raised", "aging", "step", "due"] ++ [("shares" : Str), "order", "keeping", "taking", "plain", "lent", "top"]).all (fun k => decide (k.length ≤ 7) && !(tl k).contains 32) = true := by decide +kernel
    obtain ⟨h1, h2⟩ := Bool.and_eq_true_iff.mp (List.all_eq_true.mp all k hk)
    exact .inl ⟨k, rfl, of_decide_eq_true h1, by simpa using h2⟩
  have num : ∀ {i : Nat}, i ≤ 99 → (∃ k' : Str, intD i = .str k' ∧ k'.length ≤ 7 ∧ 32 ∉ tl k') ∨ ∃ j : Nat, intD i = intD j ∧ j ≤ 99 := fun {i} hi => .inr ⟨i, rfl, hi⟩
  have nums : ∀ {ls : List Nat}, (∀ x ∈ ls, x ≤ 99) → ∀ d ∈ ls.map intD, (∃ k' : Str, d = .str k' ∧ k'.length ≤ 7 ∧ 32 ∉ tl k') ∨ ∃ j : Nat, d = intD j ∧ j ≤ 99 := fun {ls} hl d hd => by
    obtain ⟨x, hx, rfl⟩ := List.mem_map.mp hd
    exact num (hl x hx)
  cases s with
  | bare k =>
    refine ⟨fun d hd => ?_, by simp [Sc.wd], by simp [Sc.wd]⟩
    rw [List.mem_singleton.mp hd]
    rcases h with rfl | rfl
    · exact lit (by simp)
    · exact lit (by simp)
  | rounds q l =>
    obtain ⟨h1, h2, h3⟩ := h
    refine ⟨fun d hd => ?_, by simp [Sc.wd], by simp [Sc.wd]⟩
    have hd : d ∈ [PyData.str "rounds", intD q, .str (lateW l)] := hd
    simp only [List.mem_cons, List.not_mem_nil, or_false] at hd
    rcases hd with rfl | rfl | rfl
    · exact lit (by simp)
    · exact num (by omega)
    · rcases lateW_or l with e | e <;> (rw [e]; exact lit (by simp))
  | levels qs b =>
    obtain ⟨h1, h2, h3, h4⟩ := h
    refine ⟨fun d hd => ?_, by show 1 ≤ (_ :: _ : List PD).length; simp, by show (PyData.str "levels" :: (qs.map intD ++ [.str "raised", intD b])).length ≤ 9; simp; omega⟩
    have hd : d ∈ PyData.str "levels" :: (qs.map intD ++ [.str "raised", intD b]) := hd
    rcases List.mem_cons.mp hd with rfl | hd
    · exact lit (by simp)
    rcases List.mem_append.mp hd with hd | hd
    · exact nums (fun x hx => by have := h3 x hx; omega) d hd
    · simp only [List.mem_cons, List.not_mem_nil, or_false] at hd
      rcases hd with rfl | rfl
      · exact lit (by simp)
      · exact num (by omega)
  | aging o b =>
    obtain ⟨h1, h2, h3⟩ := h
    obtain ⟨o1, o2⟩ := ord_len n1 h1
    refine ⟨fun d hd => ?_, by show 1 ≤ (_ :: _ : List PD).length; simp, by show (PyData.str "aging" :: (o.map intD ++ [.str "step", intD b])).length ≤ 9; simp; omega⟩
    have hd : d ∈ PyData.str "aging" :: (o.map intD ++ [.str "step", intD b]) := hd
    rcases List.mem_cons.mp hd with rfl | hd
    · exact lit (by simp)
    rcases List.mem_append.mp hd with hd | hd
    · exact nums (fun x hx => by have := o2 x hx; omega) d hd
    · simp only [List.mem_cons, List.not_mem_nil, or_false] at hd
      rcases hd with rfl | rfl
      · exact lit (by simp)
      · exact num (by omega)
  | lim k ls =>
    obtain ⟨h1, h2⟩ := h
    refine ⟨fun d hd => ?_, by show 1 ≤ (_ :: _ : List PD).length; simp, by show (PyData.str k :: ls.map intD).length ≤ 9; simp; omega⟩
    have hd : d ∈ PyData.str k :: ls.map intD := hd
    rcases List.mem_cons.mp hd with rfl | hd
    · rcases h2 with ⟨rfl, _⟩ | ⟨rfl, _⟩
      · exact lit (by simp)
      · exact lit (by simp)
    · refine nums (fun x hx => ?_) d hd
      rcases h2 with ⟨_, h2⟩ | ⟨_, h2⟩
      · have := h2 x hx; omega
      · have := h2 x hx; omega
  | order o t r =>
    obtain ⟨h1, h2, h3⟩ := h
    obtain ⟨o1, o2⟩ := ord_len n1 h1
    have rl : r.wd.length ≤ 3 := by cases r <;> simp [Rl.wd]
    refine ⟨fun d hd => ?_, by show 1 ≤ (_ :: _ : List PD).length; simp, by show (PyData.str "order" :: (o.map intD ++ .str (takeW t) :: r.wd)).length ≤ 9; simp; omega⟩
    have hd : d ∈ PyData.str "order" :: (o.map intD ++ .str (takeW t) :: r.wd) := hd
    rcases List.mem_cons.mp hd with rfl | hd
    · exact lit (by simp)
    rcases List.mem_append.mp hd with hd | hd
    · exact nums (fun x hx => by have := o2 x hx; omega) d hd
    rcases List.mem_cons.mp hd with rfl | hd
    · rcases takeW_or t with e | e <;> (rw [e]; exact lit (by simp))
    · cases r with
      | plain =>
        rw [List.mem_singleton.mp hd]
        exact lit (by simp)
      | lent =>
        rw [List.mem_singleton.mp hd]
        exact lit (by simp)
      | top a b =>
        obtain ⟨h4, h5⟩ := h3
        have hd : d ∈ [PyData.str "top", intD a, intD b] := hd
        simp only [List.mem_cons, List.not_mem_nil, or_false] at hd
        rcases hd with rfl | rfl | rfl
        · exact lit (by simp)
        · exact num (by omega)
        · exact num (by omega)
/-- each word is short and has no space -/
theorem words_fit {s : Sc} {n : Nat} (n1 : 1 ≤ n) (n4 : n ≤ 4) (h : s.ok n) : (∀ w ∈ s.words, w.length ≤ 7 ∧ 32 ∉ tl w) ∧ 1 ≤ s.words.length ∧ s.words.length ≤ 9 := by
  obtain ⟨h1, h2, h3⟩ := words_wd n1 n4 h
  rw [← s.txt_wd]
  refine ⟨fun w hw => ?_, by rw [List.length_map]; exact h2, by rw [List.length_map]; exact h3⟩
  obtain ⟨d, hd, rfl⟩ := List.mem_map.mp hw
  rcases h1 d hd with ⟨k, rfl, h4, h5⟩ | ⟨i, rfl, h4⟩
  · exact ⟨h4, h5⟩
  · exact ⟨Nat.le_trans (strN_len h4) (by decide), strN_free i⟩
theorem fmtS_len {s : Sc} {n : Nat} (n1 : 1 ≤ n) (n4 : n ≤ 4) (h : s.ok n) : (fmtS s).length ≤ 72 ∧ (s.words.map (·.length)).sum + s.words.length * sp.length ≤ 72 := by
  obtain ⟨h1, h2, h3⟩ := words_fit n1 n4 h
  have e2 : sp.length = 1 := by decide
  have s1 : (s.words.map (·.length)).sum ≤ s.words.length * 7 := sum_le fun x hx => (h1 x hx).1
  have s2 : (s.words.map (·.length)).sum + s.words.length * sp.length ≤ 72 := by
    rw [e2]
    omega
  exact ⟨Nat.le_trans (join_len _ _) s2, s2⟩
theorem tl_sp2 : tl sp = 32 :: [] := tl_sp
theorem low_sp : sp.cps.all (· < 256) = true := by decide +kernel
/-- what is formatted is split into its words -/
theorem split_fmtS {s : Sc} {n : Nat} (n1 : 1 ≤ n) (n4 : n ≤ 4) (h : s.ok n) : Txt.split (fmtS s) sp = s.words := by
  obtain ⟨h1, h2, _⟩ := words_fit n1 n4 h
  exact split_join (y := sp) (s := 32) (S := []) tl_sp low_sp (fun z => by rw [z] at h2; cases h2) fun p hp => (h1 p hp).2
/-! ### the defs -/
def R__words_of_rule : List DS → List PD → Prop := fun ss ds => ∃ r : Rl, ss = [.dat r.enc] ∧ ds = r.wd
def R__words_of : List DS → PD → Prop := fun ss d => ∃ (s : Sc) (n : Nat), 1 ≤ n ∧ n ≤ 4 ∧ s.ok n ∧ ss = [.dat s.enc] ∧ d = .list s.wd
def R_format_scheduler : List DS → PD → Prop := fun ss d => ∃ (s : Sc) (n : Nat), 1 ≤ n ∧ n ≤ 4 ∧ s.ok n ∧ ss = [.dat s.enc, .dat (intD n)] ∧ d = .str (fmtS s)
end PT
namespace PT
open PySem PySem.Spec PyProof.Rows L2 DA DL TR TL
/-! ### the words of a scheduler, read -/
abbrev sWRule : Stmt := top 33
abbrev nWRule : List Str := ["rule"]
theorem scWRule : FnScope nWRule ["rule"] (defScope sWRule) := ⟨rfl, rfl, rfl, by decide +kernel, rfl, by decide +kernel, by decide +kernel⟩
section
variable {P : Program} {w : World} {K : PySem.W.Frag} {mg : Str → Option Value} {base : Heap} {f : Addr} {fd : FuncData} {T : List Addr}
theorem ok__words_of_rule (F : Fun K "_words_of_rule" "_words_of_rule" sWRule f fd) (G : Glob K mg) : FnOk P w K mg base CX0 1 f fd ["rule"] (spNw K T R__words_of_rule) := by
  refine fn_new F scWRule (fun ss ds h => ?_) (fun cdv A outer s H E hr => ⟨_, (pss_one (ps_ret (pe_op op_catL (pe_lst (pa_cons (pe_ix ix_tup (pv 0) pe_int (fun _ _ => rfl)) pa_nil)) (pe_ifExp (pt_cmpR op_eq (pe_ix ix_tup (pv 0) pe_int (fun _ _ => rfl)) pe_str (nomark _)) (pe_callTy call_list_of (by rfl) G.list (by decide +kernel) (pa_cons (pe_ix ix_tup (pv 0) pe_int (fun _ _ => rfl)) pa_nil)) (pe_lst pa_nil))))), fun M H0 ss ds h => ?_⟩)
  · obtain ⟨r, rfl, rfl⟩ := h
    rfl
  · obtain ⟨r, rfl, rfl⟩ := h
    have lt : ∀ {k : Str} {ds : List PD} {H0}, ET ⟨K, T, M, H0⟩ (tTest (tOp rEq (tOp (rIxT K) (tVar 0) (tC (.int 0))) (tC (.str "top")))) (startD nWRule [.dat (.tuple (.str k :: ds))]) (decide (k = "top")) := fun {k ds H0} => et_is (et_test (ed_eq (x := .str k) (y := .str "top") (ed_ixT (ds := .str k :: ds) (i := 0) (ed_var rfl) ed_int (atI_nat (i := 0) rfl)) ed_str rfl rfl rfl)) (eqStr k "top")
    have e0 : ∀ {k : Str} {ds : List PD} {H0}, EN ⟨K, T, M, H0⟩ (tLst (tCons (tOp (rIxT K) (tVar 0) (tC (.int 0))) tNil)) (startD nWRule [.dat (.tuple (.str k :: ds))]) [.str k] := fun {k ds H0} => en_lst (ds := [.str k]) (ea_d (ed_ixT (ds := .str k :: ds) (i := 0) (ed_var rfl) ed_int (atI_nat (i := 0) rfl)) ea_nil) (by simp)
    cases r with
    | plain => exact en_catL (xs := [.str "plain"]) (ys := []) (en_el e0) (el_if (b := false) (et_is lt (by decide)) (fun z => by cases z) fun _ => en_el (en_lst (ds := []) ea_nil (by decide))) (by decide)
    | lent => exact en_catL (xs := [.str "lent"]) (ys := []) (en_el e0) (el_if (b := false) (et_is lt (by decide)) (fun z => by cases z) fun _ => en_el (en_lst (ds := []) ea_nil (by decide))) (by decide)
    | top a b => exact en_catL (xs := [.str "top"]) (ys := [intD a, intD b]) (en_el e0) (el_if (b := true) (et_is lt (by decide)) (fun _ => en_el (en_listT (ed_ixT (ds := [.str "top", natsT [a, b]]) (i := 1) (ed_var rfl) ed_int (atI_nat (i := 1) rfl)))) fun z => by cases z) (by simp)
end
abbrev sWOf : Stmt := top 32
abbrev nWOf : List Str := ["scheduler", "kind", "words"]
theorem scWOf : FnScope nWOf ["scheduler"] (defScope sWOf) := ⟨rfl, rfl, rfl, by decide +kernel, rfl, by decide +kernel, by decide +kernel⟩
section
variable {P : Program} {w : World} {K : PySem.W.Frag} {mg : Str → Option Value} {base : Heap} {f : Addr} {fd : FuncData} {T : List Addr}
theorem ok__words_of (F : Fun K "_words_of" "_words_of" sWOf f fd) (G : Glob K mg) {fR : Addr} {dR : FuncData} (c__words_of_rule : Cal P w K mg base "_words_of_rule" 1 ["rule"] (spNw K T R__words_of_rule) fR dR) : FnOk P w K mg base CX0 2 f fd ["scheduler"] (spD K T R__words_of) := by
  refine fn_sd F scWOf (fun ss d h => ?_) (fun cdv A outer s H E hr => ⟨_, (pss_cons (ps_set (i := 1) scWOf.nd rfl (.inl rfl) (pe_ix ix_tup (pv 0) pe_int (fun _ _ => rfl)))
      (pss_cons (ps_if (pt_cmpR op_in_seq (pv 1) (pe_tup (pa_cons pe_str (pa_cons pe_str pa_nil))) (by rfl)) (pss_one (ps_ret (pe_lst (pa_cons (pv 1) pa_nil)))) pss_nil)
      (pss_cons (ps_if (pt_cmpR op_eq (pv 1) pe_str (nomark _)) (pss_one (ps_ret (pe_lst (pa_cons (pv 1) (pa_cons (pe_ix ix_tup (pv 0) pe_int (fun _ _ => rfl)) (pa_cons (pe_ix ix_tup (pe_glob (v := .ref G.aLATES) (by rfl) G.LATES rfl) (pe_ix ix_tup (pv 0) pe_int (fun _ _ => rfl)) (fun _ _ => rfl)) pa_nil)))))) pss_nil)
      (pss_cons (ps_set (i := 2) scWOf.nd rfl (.inl rfl) (pe_op op_catL (pe_lst (pa_cons (pv 1) pa_nil)) (pe_callTy call_list_of (by rfl) G.list (by decide +kernel) (pa_cons (pe_ix ix_tup (pv 0) pe_int (fun _ _ => rfl)) pa_nil))))
      (pss_cons (ps_if (pt_cmpR op_eq (pv 1) pe_str (nomark _)) (pss_cons (ps_expr (pe_bm PySem.F.plainAttrs_list PySem.F.slot_list_append PySem.F.type_list_append mt_append (pv 2) (pa_cons (pe_ix ix_tup (pe_glob (v := .ref G.aTAKINGS) (by rfl) G.TAKINGS rfl) (pe_ix ix_tup (pv 0) pe_int (fun _ _ => rfl)) (fun _ _ => rfl)) pa_nil)))
      (pss_one (ps_expr (pe_bm PySem.F.plainAttrs_list PySem.F.slot_list_extend PySem.F.type_list_extend mt_extend (pv 2) (pa_cons (pe_call c__words_of_rule.ok (hr.mono (by decide)) (by rfl) c__words_of_rule.g c__words_of_rule.kp c__words_of_rule.b .nil pass0 (pa_cons (pe_ix ix_tup (pv 0) pe_int (fun _ _ => rfl)) pa_nil)) pa_nil))))) pss_nil)
      (pss_cons (ps_if (pt_cmpR op_eq (pv 1) pe_str (nomark _)) (pss_one (ps_expr (pe_bm PySem.F.plainAttrs_list PySem.F.slot_list_extend PySem.F.type_list_extend mt_extend (pv 2) (pa_cons (pe_lst (pa_cons pe_str (pa_cons (pe_ix ix_tup (pv 0) pe_int (fun _ _ => rfl)) pa_nil))) pa_nil)))) pss_nil)
      (pss_cons (ps_if (pt_cmpR op_eq (pv 1) pe_str (nomark _)) (pss_one (ps_expr (pe_bm PySem.F.plainAttrs_list PySem.F.slot_list_extend PySem.F.type_list_extend mt_extend (pv 2) (pa_cons (pe_lst (pa_cons pe_str (pa_cons (pe_ix ix_tup (pv 0) pe_int (fun _ _ => rfl)) pa_nil))) pa_nil)))) pss_nil)
      (pss_one (ps_ret (pv 2)))))))))), fun M H0 ss d h => ?_⟩)
  · obtain ⟨sc, n, n1, n4, ok, rfl, rfl⟩ := h
    rfl
  · obtain ⟨sc, n, n1, n4, ok, rfl, rfl⟩ := h
    have lt : ∀ {k z : Str} {x y : DS} {H0}, ET ⟨K, T, M, H0⟩ (tTest (tOp rEq (tVar 1) (tC (.str z)))) [x, .dat (.str k), y] (decide (k = z)) := fun {k z x y H0} => et_is (et_test (ed_eq (x := .str k) (y := .str z) (ed_var rfl) ed_str rfl rfl rfl)) (eqStr k z)
    have l2 : ∀ {k : Str} {x y : DS} {H0}, ET ⟨K, T, M, H0⟩ (tTest (tOp (rIn K false) (tVar 1) (tTup (tCons (tC (.str "first")) (tCons (tC (.str "last")) tNil))))) [x, .dat (.str k), y] (decide (k = "first" ∨ k = "last")) := fun {k x y H0} => et_is (et_test (ed_inT (neg := false) (x := .str k) (ys := [.str "first", .str "last"]) (ed_var rfl) (ed_tup (ds := [.str "first", .str "last"]) (ea_d ed_str (ea_d ed_str ea_nil)) (by decide)) rfl rfl)) (inStr2 k "first" "last")
    have hd : ∀ {k : Str} {ds : List PD} {x y : DS} {H0}, ED ⟨K, T, M, H0⟩ (tOp (rIxT K) (tVar 0) (tC (.int 0))) [.dat (.tuple (.str k :: ds)), x, y] (.str k) := fun {k ds x y H0} => ed_ixT (ds := .str k :: ds) (i := 0) (ed_var rfl) ed_int (atI_nat (i := 0) rfl)
    have it : ∀ {ds : List PD} {d : PD} {i : Nat} {x y : DS} {H0}, ds[i]? = some d → ED ⟨K, T, M, H0⟩ (tOp (rIxT K) (tVar 0) (tC (.int (i : Int)))) [.dat (.tuple ds), x, y] d := fun {ds d i x y H0} e => ed_ixT (ds := ds) (i := (i : Int)) (ed_var rfl) ed_int (atI_nat e)
    have tail : ∀ {k : Str} {ls : List Nat} {ds : List PD} {H0 : Hp}, ls.length ≤ 10 → EN ⟨K, T, M, H0⟩ (tOp (rCatL K) (tLst (tCons (tVar 1) tNil)) (tCB (listR K) (tCons (tOp (rIxT K) (tVar 0) (tC (.int 1))) tNil))) [.dat (.tuple (.str k :: natsT ls :: ds)), .dat (.str k), .non] (.str k :: ls.map intD) := fun {k ls ds H0} hl => en_catL (xs := [.str k]) (ys := ls.map intD) (en_el (en_lst (ds := [.str k]) (ea_d (ed_var rfl) ea_nil) (by simp))) (en_el (en_listT (it (i := 1) rfl))) (by simp; omega)
    cases sc with
    | bare k =>
      refine sd_seq (sd_set (d := .str k) hd ?_)
      exact sd_seq (sd_when (b := true) (et_is l2 (decide_eq_true ok)) (fun _ => sd_ret (d := .list [.str k]) (ed_en (en_lst (ds := [.str k]) (ea_d (ed_var rfl) ea_nil) (by simp))) rfl) fun z => by cases z)
    | rounds q l =>
      obtain ⟨h1, h2, h3⟩ := ok
      refine sd_seq (sd_set (d := .str "rounds") hd ?_)
      refine sd_seq (sd_when (b := false) (et_is l2 (by decide)) (fun z => by cases z) fun _ => ?_)
      refine sd_seq (sd_when (b := true) (et_is lt (by decide)) (fun _ => sd_ret (d := .list [.str "rounds", intD q, .str (lateW l)]) (ed_en (en_lst (ds := [.str "rounds", intD q, .str (lateW l)]) (ea_d (ed_var rfl) (ea_d (it (i := 1) rfl) (ea_d (ed_ixT (ds := [.str "early", .str "late"]) (i := (l : Int)) (ed_glob G.dLATES) (it (i := 2) rfl) (atI_nat ?_)) ea_nil))) (by simp))) rfl) fun z => by cases z)
      match l, h3 with
      | 0, _ => rfl
      | 1, _ => rfl
    | levels qs b =>
      obtain ⟨h1, h2, h3, h4⟩ := ok
      refine sd_seq (sd_set (d := .str "levels") hd ?_)
      refine sd_seq (sd_when (b := false) (et_is l2 (by decide)) (fun z => by cases z) fun _ => ?_)
      refine sd_seq (sd_when (b := false) (et_is lt (by decide)) (fun z => by cases z) fun _ => ?_)
      refine sd_seq (sd_setN (tail (by omega)) ?_)
      refine sd_seq (sd_when (b := false) (et_is lt (by decide)) (fun z => by cases z) fun _ => ?_)
      refine sd_seq (sd_if (b := true) (et_is lt (by decide)) (fun _ => sd_ext (ds := .str "levels" :: qs.map intD) (es := [.str "raised", intD b]) rfl (en_lst (ds := [.str "raised", intD b]) (ea_d ed_str (ea_d (it (i := 2) rfl) ea_nil)) (by simp)) (by simp; omega) ?_) fun z => by cases z)
      refine sd_seq (sd_when (b := false) (et_is lt (by decide)) (fun z => by cases z) fun _ => ?_)
      exact sd_freeze 2 (ds := .str "levels" :: qs.map intD ++ [.str "raised", intD b]) rfl (sd_ret (d := .list (.str "levels" :: qs.map intD ++ [.str "raised", intD b])) (ed_var rfl) rfl)
    | aging o b =>
      obtain ⟨h1, h2, h3⟩ := ok
      obtain ⟨o1, o2⟩ := ord_len n1 h1
      refine sd_seq (sd_set (d := .str "aging") hd ?_)
      refine sd_seq (sd_when (b := false) (et_is l2 (by decide)) (fun z => by cases z) fun _ => ?_)
      refine sd_seq (sd_when (b := false) (et_is lt (by decide)) (fun z => by cases z) fun _ => ?_)
      refine sd_seq (sd_setN (tail (by omega)) ?_)
      refine sd_seq (sd_when (b := false) (et_is lt (by decide)) (fun z => by cases z) fun _ => ?_)
      refine sd_seq (sd_when (b := false) (et_is lt (by decide)) (fun z => by cases z) fun _ => ?_)
      refine sd_seq (sd_if (b := true) (et_is lt (by decide)) (fun _ => sd_ext (ds := .str "aging" :: o.map intD) (es := [.str "step", intD b]) rfl (en_lst (ds := [.str "step", intD b]) (ea_d ed_str (ea_d (it (i := 2) rfl) ea_nil)) (by simp)) (by simp; omega) ?_) fun z => by cases z)
      exact sd_freeze 2 (ds := .str "aging" :: o.map intD ++ [.str "step", intD b]) rfl (sd_ret (d := .list (.str "aging" :: o.map intD ++ [.str "step", intD b])) (ed_var rfl) rfl)
    | lim k ls =>
      obtain ⟨h1, h2⟩ := ok
      have hk : k = "due" ∨ k = "shares" := h2.imp (fun z => z.1) fun z => z.1
      have nk : ∀ {z : Str}, z ≠ "due" → z ≠ "shares" → decide (k = z) = false := fun {z} z1 z2 => decide_eq_false fun e => hk.elim (fun y => z1 (e ▸ y)) fun y => z2 (e ▸ y)
      refine sd_seq (sd_set (d := .str k) hd ?_)
      refine sd_seq (sd_when (b := false) (et_is l2 (decide_eq_false fun e => by rcases hk with rfl | rfl <;> exact absurd e (by decide))) (fun z => by cases z) fun _ => ?_)
      refine sd_seq (sd_when (b := false) (et_is lt (nk (by decide) (by decide))) (fun z => by cases z) fun _ => ?_)
      refine sd_seq (sd_setN (tail (by omega)) ?_)
      refine sd_seq (sd_when (b := false) (et_is lt (nk (by decide) (by decide))) (fun z => by cases z) fun _ => ?_)
      refine sd_seq (sd_when (b := false) (et_is lt (nk (by decide) (by decide))) (fun z => by cases z) fun _ => ?_)
      refine sd_seq (sd_when (b := false) (et_is lt (nk (by decide) (by decide))) (fun z => by cases z) fun _ => ?_)
      exact sd_freeze 2 (ds := .str k :: ls.map intD) rfl (sd_ret (d := .list (.str k :: ls.map intD)) (ed_var rfl) rfl)
    | order o t r =>
      obtain ⟨h1, h2, h3⟩ := ok
      obtain ⟨o1, o2⟩ := ord_len n1 h1
      have rl : r.wd.length ≤ 3 := by cases r <;> simp [Rl.wd]
      refine sd_seq (sd_set (d := .str "order") hd ?_)
      refine sd_seq (sd_when (b := false) (et_is l2 (by decide)) (fun z => by cases z) fun _ => ?_)
      refine sd_seq (sd_when (b := false) (et_is lt (by decide)) (fun z => by cases z) fun _ => ?_)
      refine sd_seq (sd_setN (tail (by omega)) ?_)
      refine sd_seq (sd_if (b := true) (et_is lt (by decide)) (fun _ => sd_seq (sd_app (d := .str (takeW t)) (ds := .str "order" :: o.map intD) rfl (ed_ixT (ds := [.str "keeping", .str "taking"]) (i := (t : Int)) (ed_glob G.dTAKINGS) (it (i := 2) rfl) (atI_nat ?_)) (by simp; omega) (sd_ext (ds := .str "order" :: o.map intD ++ [.str (takeW t)]) (es := r.wd) rfl (en_call (R := R__words_of_rule) (ea_d (it (i := 3) rfl) ea_nil) ⟨r, rfl, rfl⟩) (by simp; omega) ?_))) fun z => by cases z)
      · match t, h2 with
        | 0, _ => rfl
        | 1, _ => rfl
      refine sd_seq (sd_when (b := false) (et_is lt (by decide)) (fun z => by cases z) fun _ => ?_)
      refine sd_seq (sd_when (b := false) (et_is lt (by decide)) (fun z => by cases z) fun _ => ?_)
      refine sd_freeze 2 (ds := .str "order" :: o.map intD ++ [.str (takeW t)] ++ r.wd) rfl (sd_ret (d := .list (.str "order" :: o.map intD ++ [.str (takeW t)] ++ r.wd)) (ed_var rfl) ?_)
      show PyData.list (.str "order" :: o.map intD ++ [.str (takeW t)] ++ r.wd) = .list (.str "order" :: (o.map intD ++ .str (takeW t) :: r.wd))
      rw [List.cons_append, List.cons_append, List.append_assoc]
      rfl
end
end PT
namespace PT
open PySem PySem.Spec PyProof.Rows L2 DA DL TR TL
/-! ### places in a list of words -/
theorem wn_get {ws : List Str} {i : Nat} (h : i < ws.length) : (ws.map PyData.str)[i]? = some (.str (wn ws i)) := by
  rw [List.getElem?_map, List.getElem?_eq_getElem h]
  unfold wn
  rw [List.getD_eq_getElem?_getD, List.getElem?_eq_getElem h]
  rfl
theorem at_neg {ws : List Str} {k : Nat} (h1 : 1 ≤ k) (h : k ≤ ws.length) : atI (ws.map PyData.str) (-(k : Int)) = some (.str (wn ws (ws.length - k))) := by
  have e : ixN (ws.map PyData.str).length (-(k : Int)) = some (ws.length - k) := by
    rw [List.length_map]
    unfold ixN
    first
      | (rw [if_neg (by omega), if_pos (by omega)]; simp; omega)
      | (rw [if_neg (by omega)]; simp; omega)
      | (simp; omega)
  unfold atI
  rw [e]
  exact wn_get (by omega)
theorem cut_ab {ws : List Str} {a b : Nat} (h1 : a ≤ b) (h2 : b ≤ ws.length) : cutPD (ws.map PyData.str) (some (a : Int)) (some (b : Int)) = ((ws.drop a).take (b - a)).map .str := by
  unfold cutPD
  rw [List.length_map, HT.sIx_nat, HT.sIx_nat, Nat.min_eq_left (show a ≤ ws.length by omega), Nat.min_eq_left h2, ← List.map_drop, ← List.map_take]
theorem cut_a {ws : List Str} {a : Nat} (h1 : a ≤ ws.length) : cutPD (ws.map PyData.str) (some (a : Int)) none = (ws.drop a).map .str := by
  unfold cutPD
  rw [List.length_map, HT.sIx_nat, HT.sIx_none, Nat.min_eq_left h1, ← List.map_drop, ← List.map_take, List.take_of_length_le (by rw [List.length_drop]; omega)]
theorem cut_neg {ws : List Str} {a k : Nat} (hk : 1 ≤ k) (h1 : a + k ≤ ws.length) : cutPD (ws.map PyData.str) (some (a : Int)) (some (-(k : Int))) = ((ws.drop a).take (ws.length - a - k)).map .str := by
  have e : HT.sIx ws.length ws.length (some (-(k : Int))) = ws.length - k := by
    show (if -(k : Int) < 0 then (-(k : Int) + (ws.length : Int)).toNat else min (-(k : Int)).toNat ws.length) = _
    rw [if_pos (by omega)]
    omega
  unfold cutPD
  rw [List.length_map, HT.sIx_nat, e, Nat.min_eq_left (by omega), ← List.map_drop, ← List.map_take, show ws.length - k - a = ws.length - a - k by omega]
theorem ix2_get {a b x : Str} (hab : a ≠ b) (h : x = a ∨ x = b) : [a, b][ix2 a x]? = some x ∧ ∀ m, m < ix2 a x → [a, b][m]? ≠ some x := by
  unfold ix2
  rcases h with rfl | rfl
  · rw [if_pos rfl]
    exact ⟨rfl, fun m z => nomatch z⟩
  · rw [if_neg (fun z => hab z.symm)]
    refine ⟨rfl, fun m hm => ?_⟩
    match m, hm with
    | 0, _ => exact fun z => hab (Option.some.inj z)
/-! ### schedulers formatted and told -/
def okWs (ws : List Str) : Prop := ws.length ≤ 900 ∧ ∀ w ∈ ws, w.length ≤ 100000
def R__numbers : List DS → PD → Prop := fun ss d => ∃ ws, okWs ws ∧ ss = [.dat (.list (ws.map .str))] ∧ d = numsT ws
def R__order_told : List DS → PD → Prop := fun ss d => ∃ (ws : List Str) (n : Nat), okWs ws ∧ n ≤ 4 ∧ ss = [.dat (.list (ws.map .str)), .dat (intD n)] ∧ d = orderT n ws
def R__scheduler_told : List DS → PD → Prop := fun ss d => ∃ (ws : List Str) (n : Nat), okWs ws ∧ 1 ≤ ws.length ∧ n ≤ 4 ∧ ss = [.dat (.list (ws.map .str)), .dat (intD n)] ∧ d = told n ws
theorem okWs.sub {ws us : List Str} (h : okWs ws) (h1 : us.length ≤ ws.length) (h2 : ∀ w ∈ us, w ∈ ws) : okWs us := ⟨by have := h.1; omega, fun w hw => h.2 w (h2 w hw)⟩
theorem okWs.cut {ws : List Str} (h : okWs ws) (a b : Nat) : okWs ((ws.drop a).take b) := h.sub (by rw [List.length_take, List.length_drop]; omega) fun w hw => List.mem_of_mem_drop (List.mem_of_mem_take hw)
theorem okWs.drop {ws : List Str} (h : okWs ws) (a : Nat) : okWs (ws.drop a) := h.sub (by rw [List.length_drop]; omega) fun w hw => List.mem_of_mem_drop hw
theorem okWs.wn {ws : List Str} (h : okWs ws) (i : Nat) : (wn ws i).length ≤ 100000 := by
  unfold PT.wn
  rw [List.getD_eq_getElem?_getD]
  cases q : ws[i]? with
  | none => decide
  | some w => exact h.2 w (List.mem_of_getElem? q)
abbrev sFmtS : Stmt := top 31
abbrev nFmtS : List Str := ["scheduler", "size", "word"]
theorem scFmtS : FnScope nFmtS ["scheduler", "size"] (defScope sFmtS) := ⟨rfl, rfl, rfl, by decide +kernel, rfl, by decide +kernel, by decide +kernel⟩
section
variable {P : Program} {w : World} {K : PySem.W.Frag} {mg : Str → Option Value} {base : Heap} {f : Addr} {fd : FuncData} {T : List Addr}
theorem ok_format_scheduler (F : Fun K "format_scheduler" "format_scheduler" sFmtS f fd) (G : Glob K mg) {fN : Addr} {dN : FuncData} (c_check_number : Cal P w K mg base "check_number" 2 ["value", "least", "greatest"] (spD K T R_check_number0) fN dN) {fS : Addr} {dS : FuncData} (c_check_scheduler : Cal P w K mg base "check_scheduler" 7 ["value", "size"] (spD K T R_check_scheduler) fS dS) {fW : Addr} {dW : FuncData} (c__words_of : Cal P w K mg base "_words_of" 2 ["scheduler"] (spD K T R__words_of) fW dW) : FnOk P w K mg base CX0 8 f fd ["scheduler", "size"] (spD K T R_format_scheduler) := by
  refine fn_sd F scFmtS (fun ss d h => ?_) (fun cdv A outer s H E hr => ⟨_, (pss_cons (ps_expr (pe_call c_check_number.ok (hr.mono (by decide)) (by rfl) c_check_number.g c_check_number.kp c_check_number.b .nil pass0 (pa_cons (pv 1) (pa_cons pe_int (pa_cons (pe_glob (v := .int 4) (by rfl) G.MOST_PROCESSES ⟨_, rfl⟩) pa_nil)))))
      (pss_cons (ps_expr (pe_call c_check_scheduler.ok (hr.mono (by decide)) (by rfl) c_check_scheduler.g c_check_scheduler.kp c_check_scheduler.b .nil pass0 (pa_cons (pv 0) (pa_cons (pv 1) pa_nil))))
      (pss_one (ps_ret (pe_join pe_str (pe_lc (own := [("word", 2)]) (g := (gName 2)) (tt := tYes) (te := (tCB rStrA (tCons (tVar 2) tNil))) rfl scFmtS.nd (pi_list (pe_call c__words_of.ok (hr.mono (by decide)) (by rfl) c__words_of.g c__words_of.kp c__words_of.b .nil pass0 (pa_cons (pv 0) pa_nil))) (blkOk_by (N := nFmtS) (sc := defScope sFmtS) (by decide +kernel)) (fun _ _ _ _ _ => (pg_name (i := 2) scFmtS.nd rfl (.inl rfl))) (fun _ _ _ _ _ => pts_nil) (fun _ _ _ _ _ => (pe_callTy call_str_any (by rfl) G.str (by decide +kernel) (pa_cons (pv 2) pa_nil))))))))), fun M H0 ss d h => ?_⟩)
  · obtain ⟨sc, n, n1, n4, ok, rfl, rfl⟩ := h
    rfl
  · obtain ⟨sc, n, n1, n4, ok, rfl, rfl⟩ := h
    obtain ⟨w1, w2, w3⟩ := words_wd n1 n4 ok
    refine sd_seq (sd_drop (d := .none) (ed_call (R := R_check_number0) (ea_d (ed_var rfl) (ea_d ed_int (ea_d ed_int ea_nil))) ⟨intD n, 1, 4, numD_ok n1 n4, rfl, rfl⟩) ?_)
    refine sd_seq (sd_drop (d := .none) (ed_call (R := R_check_scheduler) (ea_d (ed_var rfl) (ea_d (ed_var rfl) ea_nil)) ⟨sc.enc, (n : Int), sched_ok n1 n4 ok, rfl, rfl⟩) ?_)
    refine sd_ret (d := .str (fmtS sc)) (ed_join (x := sp) (ys := sc.words) ed_str (el_is (en_el (en_lc (js := [2]) (fun _ => true) (fun d => .str (txt d)) (id_list (ed_call (R := R__words_of) (ea_d (ed_var rfl) ea_nil) ⟨sc, n, n1, n4, ok, rfl, rfl⟩)) (by omega) (by decide) (fun d hm H1 _ => ?_))) ?_) ?_) rfl
    · refine ⟨[d], tg_name, et_yes, fun _ => ed_strA (ed_var rfl) ?_⟩
      rcases w1 d hm with ⟨k, rfl, _⟩ | ⟨i, rfl, hi⟩
      · exact .inl ⟨k, rfl⟩
      · exact .inr ⟨(i : Int), rfl, small_log hi⟩
    · rw [List.filter_eq_self.mpr fun _ _ => rfl, ← sc.txt_wd, List.map_map]
      rfl
    · exact Nat.le_trans (fmtS_len n1 n4 ok).2 (by decide)
end
abbrev sNums : Stmt := top 36
abbrev nNums : List Str := ["words", "word"]
theorem scNums : FnScope nNums ["words"] (defScope sNums) := ⟨rfl, rfl, rfl, by decide +kernel, rfl, by decide +kernel, by decide +kernel⟩
section
variable {P : Program} {w : World} {K : PySem.W.Frag} {mg : Str → Option Value} {base : Heap} {f : Addr} {fd : FuncData} {T : List Addr}
theorem ok__numbers (F : Fun K "_numbers" "_numbers" sNums f fd) (G : Glob K mg) {fN : Addr} {dN : FuncData} (c__number : Cal P w K mg base "_number" 1 ["word"] (spD K T R__number) fN dN) : FnOk P w K mg base CX0 2 f fd ["words"] (spD K T R__numbers) := by
  refine fn_sd F scNums (fun ss d h => ?_) (fun cdv A outer s H E hr => ⟨_, (pss_one (ps_ret (pe_callTy call_tuple_of (by rfl) G.tuple (by decide +kernel) (pa_cons (pe_lc (own := [("word", 1)]) (g := (gName 1)) (tt := tYes) (te := (tCall (spD K T R__number) [] E0 (tCons (tVar 1) tNil))) rfl scNums.nd (pi_list (pv 0)) (blkOk_by (N := nNums) (sc := defScope sNums) (by decide +kernel)) (fun _ _ _ _ _ => (pg_name (i := 1) scNums.nd rfl (.inl rfl))) (fun _ _ _ _ _ => pts_nil) (fun _ _ _ _ _ => (pe_call c__number.ok (hr.mono (by decide)) (by rfl) c__number.g c__number.kp c__number.b .nil pass0 (pa_cons (pv 1) pa_nil)))) pa_nil)))), fun M H0 ss d h => ?_⟩)
  · obtain ⟨ws, ok, rfl, rfl⟩ := h
    rfl
  · obtain ⟨ws, ok, rfl, rfl⟩ := h
    have := ok.1
    refine sd_ret (d := numsT ws) (ed_tupleL rfl (en_el (en_is (en_lc (js := [1]) (fun _ => true) (fun d => match d with | .str w => numO w | _ => .none) (id_list (ed_var rfl)) (by rw [List.length_map]; omega) (by decide) (fun d hm H1 _ => ?_)) ?_))) rfl
    · obtain ⟨w, hw, rfl⟩ := List.mem_map.mp hm
      exact ⟨[.str w], tg_name, et_yes, fun _ => ed_call (R := R__number) (ea_d (ed_var rfl) ea_nil) ⟨w, ok.2 w hw, rfl, rfl⟩⟩
    · rw [List.filter_eq_self.mpr fun _ _ => rfl, List.map_map]
      rfl
end
abbrev sOTold : Stmt := top 39
abbrev nOTold : List Str := ["words", "size", "order", "rule"]
theorem scOTold : FnScope nOTold ["words", "size"] (defScope sOTold) := ⟨rfl, rfl, rfl, by decide +kernel, rfl, by decide +kernel, by decide +kernel⟩
section
variable {P : Program} {w : World} {K : PySem.W.Frag} {mg : Str → Option Value} {base : Heap} {f : Addr} {fd : FuncData} {T : List Addr}
theorem ok__order_told (F : Fun K "_order_told" "_order_told" sOTold f fd) (G : Glob K mg) {fN : Addr} {dN : FuncData} (c__numbers : Cal P w K mg base "_numbers" 2 ["words"] (spD K T R__numbers) fN dN) : FnOk P w K mg base CX0 3 f fd ["words", "size"] (spD K T R__order_told) := by
  refine fn_sd F scOTold (fun ss d h => ?_) (fun cdv A outer s H E hr => ⟨_, (pss_cons (ps_if (PW.pt (pw_or (pt_cmpR op_lt (pe_callB call_len_seq (by rfl) G.len PySem.boot_len (pa_cons (pv 0) pa_nil)) (pe_op op_add (pv 1) pe_int) (nomark _)) (pw_or1 (pt_cmpR op_notIn_seq (pe_ix ix_list (pv 0) (pe_op op_add (pv 1) pe_int) (fun _ _ => rfl)) (pe_glob (v := .ref G.aTAKINGS) (by rfl) G.TAKINGS rfl) (by rfl))))) (pss_one (ps_ret pe_non)) pss_nil)
      (pss_cons (ps_set (i := 2) scOTold.nd rfl (.inl rfl) (pe_call c__numbers.ok (hr.mono (by decide)) (by rfl) c__numbers.g c__numbers.kp c__numbers.b .nil pass0 (pa_cons (pe_slice sl_list (pv 0) (po_some pe_int) (po_some (pe_op op_add (pv 1) pe_int))) pa_nil)))
      (pss_cons (ps_set (i := 3) scOTold.nd rfl (.inl rfl) (pe_slice sl_list (pv 0) (po_some (pe_op op_add (pv 1) pe_int)) po_none))
      (pss_cons (ps_if (pt_cmpR op_eq (pe_ix ix_list (pv 3) pe_int (fun _ _ => rfl)) pe_str (nomark _)) (pss_one (ps_ret (pe_tup (pa_cons pe_str (pa_cons (pv 2) (pa_cons (pe_bm PySem.F.plainAttrs_tuple PySem.F.slot_tuple_index PySem.F.type_tuple_index mt_tup_index (pe_glob (v := .ref G.aTAKINGS) (by rfl) G.TAKINGS rfl) (pa_cons (pe_ix ix_list (pv 0) (pe_op op_add (pv 1) pe_int) (fun _ _ => rfl)) pa_nil)) (pa_cons (pe_tup (pa_cons pe_str (pa_cons (pe_call c__numbers.ok (hr.mono (by decide)) (by rfl) c__numbers.g c__numbers.kp c__numbers.b .nil pass0 (pa_cons (pe_slice sl_list (pv 3) (po_some pe_int) po_none) pa_nil)) pa_nil))) pa_nil))))))) pss_nil)
      (pss_one (ps_ret (pe_tup (pa_cons pe_str (pa_cons (pv 2) (pa_cons (pe_bm PySem.F.plainAttrs_tuple PySem.F.slot_tuple_index PySem.F.type_tuple_index mt_tup_index (pe_glob (v := .ref G.aTAKINGS) (by rfl) G.TAKINGS rfl) (pa_cons (pe_ix ix_list (pv 0) (pe_op op_add (pv 1) pe_int) (fun _ _ => rfl)) pa_nil)) (pa_cons (pe_callTy call_tuple_of (by rfl) G.tuple (by decide +kernel) (pa_cons (pv 3) pa_nil)) pa_nil))))))))))), fun M H0 ss d h => ?_⟩)
  · obtain ⟨ws, n, ok, n4, rfl, rfl⟩ := h
    rfl
  · obtain ⟨ws, n, ok, n4, rfl, rfl⟩ := h
    have o1 := ok.1
    have pl : ∀ {ρ : DEnv} {H0 : Hp} {k : Nat}, ρ[1]? = some (.dat (intD n)) → ED ⟨K, T, M, H0⟩ (tOp (rI0 fun i j => .int (i + j)) (tVar 1) (tC (.int (k : Int)))) ρ (.int ((n + k : Nat) : Int)) := fun {ρ H0 k} h => ed_is (ed_I0 (g := fun i j => i + j) (i := (n : Int)) (j := (k : Int)) (ed_var h) ed_int) (by rw [Int.natCast_add])
    have wd : ∀ {ρ : DEnv} {H0 : Hp}, n + 3 ≤ ws.length → ρ[0]? = some (.dat (.list (ws.map .str))) → ρ[1]? = some (.dat (intD n)) → ED ⟨K, T, M, H0⟩ (tOp (rIxL K) (tVar 0) (tOp (rI0 fun i j => .int (i + j)) (tVar 1) (tC (.int 1)))) ρ (.str (wn ws (n + 1))) := fun {ρ H0} hl h0 h1 => ed_ixL (ds := ws.map .str) (i := ((n + 1 : Nat) : Int)) (el_ed (ed_var h0)) (pl (k := 1) h1) (atI_nat (wn_get (by omega)))
    have tk : ∀ {ρ : DEnv} {H0 : Hp} {te : TE}, ED ⟨K, T, M, H0⟩ te ρ (.str (wn ws (n + 1))) → ET ⟨K, T, M, H0⟩ (tTest (tOp (rIn K true) te (tC (.ref G.aTAKINGS)))) ρ (!decide (wn ws (n + 1) = "keeping" ∨ wn ws (n + 1) = "taking")) := fun {ρ H0 te} h => et_is (et_test (ed_inT (neg := true) (x := .str (wn ws (n + 1))) (ys := [.str "keeping", .str "taking"]) h (ed_glob G.dTAKINGS) rfl rfl)) (congrArg (fun b => !b) (inStr2 _ _ _))
    by_cases hl : n + 3 ≤ ws.length
    · by_cases ht : wn ws (n + 1) = "keeping" ∨ wn ws (n + 1) = "taking"
      · obtain ⟨i1, i2⟩ := ix2_get (a := "keeping") (b := "taking") (by decide) ht
        have ixT : ∀ {ρ : DEnv} {H0 : Hp} {te : TE}, ED ⟨K, T, M, H0⟩ te ρ (.str (wn ws (n + 1))) → ED ⟨K, T, M, H0⟩ (tBM K "tuple" (fun x xs H Q => ∃ p, ∃ ys : List Str, ∃ z j, x = .ref p ∧ xs = [.str z] ∧ SqT K H p (ys.map V.str) ∧ ys[j]? = some z ∧ (∀ m, m < j → ys[m]? ≠ some z) ∧ Q (.int (j : Nat)) H) (tC (.ref G.aTAKINGS)) (tCons te tNil)) ρ (intD (ix2 "keeping" (wn ws (n + 1)))) := fun {ρ H0 te} h => ed_tupIx (c := ⟨K, T, M, H0⟩) (ys := ["keeping", "taking"]) G.yTAKINGS G.dTAKINGS h i1 i2
        refine sd_seq (sd_when (b := false || false) (et_or (et_is (et_test (ed_IB (g := fun a b => decide (a < b)) (ed_lenL (ds := ws.map .str) (el_ed (ed_var rfl))) (pl (k := 3) rfl))) (decide_eq_false (by rw [List.length_map]; omega))) fun _ => et_is (tk (wd hl rfl rfl)) (by rw [decide_eq_true ht]; rfl)) (fun z => by cases z) fun _ => ?_)
        refine sd_seq (sd_set (d := numsT ((ws.drop 1).take n)) (ed_call (R := R__numbers) (ea_d (ed_en (en_slL (xs := ws.map .str) (el_ed (ed_var rfl)) (eo_some (i := ((1 : Nat) : Int)) ed_int) (eo_some (pl (k := 1) rfl)))) ea_nil) ⟨(ws.drop 1).take n, ok.cut 1 n, ?_, rfl⟩) ?_)
        · rw [cut_ab (by omega) (by omega), Nat.add_sub_cancel]
        refine sd_seq (sd_set (d := .list ((ws.drop (n + 2)).map .str)) (ed_en (en_is (en_slL (xs := ws.map .str) (el_ed (ed_var rfl)) (eo_some (pl (k := 2) rfl)) eo_none) (cut_a (by omega)))) ?_)
        have e0 : (ws.drop (n + 2)).length = ws.length - (n + 2) := List.length_drop
        have er : wn (ws.drop (n + 2)) 0 = wn ws (n + 2) := by
          unfold wn
          rw [List.getD_eq_getElem?_getD, List.getD_eq_getElem?_getD, List.getElem?_drop]
        have hr : ∀ {ρ : DEnv} {H0 : Hp}, ρ[3]? = some (.dat (.list ((ws.drop (n + 2)).map .str))) → ET ⟨K, T, M, H0⟩ (tTest (tOp rEq (tOp (rIxL K) (tVar 3) (tC (.int 0))) (tC (.str "top")))) ρ (decide (wn ws (n + 2) = "top")) := fun {ρ H0} h => et_is (et_test (ed_eq (x := .str (wn ws (n + 2))) (y := .str "top") (ed_ixL (ds := (ws.drop (n + 2)).map .str) (i := ((0 : Nat) : Int)) (el_ed (ed_var h)) ed_int (by rw [← er]; exact atI_nat (wn_get (by omega)))) ed_str rfl rfl rfl)) (eqStr _ _)
        by_cases hc : wn ws (n + 2) = "top"
        · refine sd_seq (sd_when (b := true) (et_is (hr rfl) (decide_eq_true hc)) (fun _ => sd_ret (d := .tuple [.str "order", numsT ((ws.drop 1).take n), intD (ix2 "keeping" (wn ws (n + 1))), .tuple [.str "top", numsT (ws.drop (n + 3))]]) (ed_tup (ds := [.str "order", numsT ((ws.drop 1).take n), intD (ix2 "keeping" (wn ws (n + 1))), .tuple [.str "top", numsT (ws.drop (n + 3))]]) (ea_d ed_str (ea_d (ed_var rfl) (ea_d (ixT (wd hl rfl rfl)) (ea_d (ed_tup (ds := [.str "top", numsT (ws.drop (n + 3))]) (ea_d ed_str (ea_d (ed_call (R := R__numbers) (ea_d (ed_en (en_slL (xs := (ws.drop (n + 2)).map .str) (el_ed (ed_var rfl)) (eo_some (i := ((1 : Nat) : Int)) ed_int) eo_none)) ea_nil) ⟨ws.drop (n + 3), ok.drop _, ?_, rfl⟩) ea_nil)) (by simp)) ea_nil)))) (by simp)) ?_) fun z => by cases z)
          · rw [cut_a (by omega), List.drop_drop]
          · show _ = orderT n ws
            unfold orderT
            rw [if_pos ⟨hl, ht⟩, if_pos hc]
        · refine sd_seq (sd_when (b := false) (et_is (hr rfl) (decide_eq_false hc)) (fun z => by cases z) fun _ => ?_)
          refine sd_ret (d := .tuple [.str "order", numsT ((ws.drop 1).take n), intD (ix2 "keeping" (wn ws (n + 1))), .tuple ((ws.drop (n + 2)).map .str)]) (ed_tup (ds := [.str "order", numsT ((ws.drop 1).take n), intD (ix2 "keeping" (wn ws (n + 1))), .tuple ((ws.drop (n + 2)).map .str)]) (ea_d ed_str (ea_d (ed_var rfl) (ea_d (ixT (wd hl rfl rfl)) (ea_d (ed_tupleL rfl (el_ed (ed_var rfl))) ea_nil)))) (by simp)) ?_
          show _ = orderT n ws
          unfold orderT
          rw [if_pos ⟨hl, ht⟩, if_neg hc]
      · refine sd_seq (sd_when (b := false || true) (et_or (et_is (et_test (ed_IB (g := fun a b => decide (a < b)) (ed_lenL (ds := ws.map .str) (el_ed (ed_var rfl))) (pl (k := 3) rfl))) (decide_eq_false (by rw [List.length_map]; omega))) fun _ => et_is (tk (wd hl rfl rfl)) (by rw [decide_eq_false ht]; rfl)) (fun _ => sd_ret (d := .none) ed_non ?_) fun z => by cases z)
        show _ = orderT n ws
        unfold orderT
        rw [if_neg fun z => ht z.2]
    · refine sd_seq (sd_when (b := true) (et_is (et_or (a := true) (b := true) (et_is (et_test (ed_IB (g := fun a b => decide (a < b)) (ed_lenL (ds := ws.map .str) (el_ed (ed_var rfl))) (pl (k := 3) rfl))) (decide_eq_true (by rw [List.length_map]; omega))) fun z => by cases z) rfl) (fun _ => sd_ret (d := .none) ed_non ?_) fun z => by cases z)
      show _ = orderT n ws
      unfold orderT
      rw [if_neg fun z => hl z.1]
end
end PT
namespace PT
open PySem PySem.Spec PyProof.Rows L2 DA DL TR TL
theorem ed_un_neg {c : DC} {ρ : DEnv} {ta : TE} {i : Int} (h : ED c ta ρ (.int i)) : ED c (tUn (rU fun i => .int (-i)) ta) ρ (.int (-i)) := fun A σ H r Q q => h A σ H r _ fun v H1 k1 h1 => ⟨i, dp_int h1, q _ H1 k1 (.int _)⟩
theorem eqInt (a b : Nat) : decide (vOf (.int (a : Int)) = vOf (.int (b : Int))) = decide (a = b) := decide_eq_decide.mpr ⟨fun h => by
  have h : V.int (a : Int) = V.int (b : Int) := h
  injection h with h
  omega, fun h => by rw [h]⟩
/-! ### texts read -/
def R__check_text (C : Addr) : List DS → Out → Prop := fun ss o => ∃ e, ss = [.dat e] ∧ o = if isStr e = true then .ok .none else .ex C
def natOf : PD → Nat
  | .int i => i.toNat
  | _ => 0
def parseS (Ct Cn : Addr) (e z : PD) : Out := if K13.numD z 1 4 = true then (match e with
  | .str t => if K13.schedD (told (natOf z) (Txt.split t sp)) z = true then .ok (told (natOf z) (Txt.split t sp)) else .ex Ct
  | _ => .ex Ct) else .ex Cn
def okS (t : Str) : Prop := t.length ≤ 100000 ∧ (Txt.split t sp).length ≤ 900
def R_parse_scheduler (Ct Cn : Addr) : List DS → Out → Prop := fun ss o => ∃ e z, (∀ t, e = .str t → okS t) ∧ ss = [.dat e, .dat z] ∧ o = parseS Ct Cn e z
theorem okS.ws {t : Str} (h : okS t) : okWs (Txt.split t sp) := ⟨h.2, fun w hw => by
  have := split_part (y := sp) sp_ne low_sp hw
  have := h.1
  omega⟩
theorem split_pos (t : Str) : 1 ≤ (Txt.split t sp).length := by
  have e := split_tl (x := t) (y := sp) sp_ne low_sp
  have h := spl_ne (tl sp) (tl t) 0 []
  rw [← e] at h
  cases q : Txt.split t sp with
  | nil => rw [q] at h; exact absurd rfl h
  | cons a r => simp
abbrev sSTold : Stmt := top 38
abbrev nSTold : List Str := ["words", "size", "kind"]
theorem scSTold : FnScope nSTold ["words", "size"] (defScope sSTold) := ⟨rfl, rfl, rfl, by decide +kernel, rfl, by decide +kernel, by decide +kernel⟩
section
variable {P : Program} {w : World} {K : PySem.W.Frag} {mg : Str → Option Value} {base : Heap} {f : Addr} {fd : FuncData} {T : List Addr}
theorem ok__scheduler_told (F : Fun K "_scheduler_told" "_scheduler_told" sSTold f fd) (G : Glob K mg) {fO : Addr} {dO : FuncData} (c__order_told : Cal P w K mg base "_order_told" 3 ["words", "size"] (spD K T R__order_told) fO dO) {fN : Addr} {dN : FuncData} (c__numbers : Cal P w K mg base "_numbers" 2 ["words"] (spD K T R__numbers) fN dN) {fM : Addr} {dM : FuncData} (c__number : Cal P w K mg base "_number" 1 ["word"] (spD K T R__number) fM dM) : FnOk P w K mg base CX0 4 f fd ["words", "size"] (spD K T R__scheduler_told) := by
  refine fn_sd F scSTold (fun ss d h => ?_) (fun cdv A outer s H E hr => ⟨_, (pss_cons (ps_set (i := 2) scSTold.nd rfl (.inl rfl) (pe_ix ix_list (pv 0) pe_int (fun _ _ => rfl)))
      (pss_cons (ps_if (pt_cmpR op_eq (pv 2) pe_str (nomark _)) (pss_one (ps_ret (pe_call c__order_told.ok (hr.mono (by decide)) (by rfl) c__order_told.g c__order_told.kp c__order_told.b .nil pass0 (pa_cons (pv 0) (pa_cons (pv 1) pa_nil))))) pss_nil)
      (pss_cons (ps_if (PW.pt (pw_and (pt_cmpR op_eq (pv 2) pe_str (nomark _)) (pw_and (pt_cmpR op_eq (pe_callB call_len_seq (by rfl) G.len PySem.boot_len (pa_cons (pv 0) pa_nil)) pe_int (nomark _)) (pw_and1 (pt_cmpR op_in_seq (pe_ix ix_list (pv 0) pe_int (fun _ _ => rfl)) (pe_glob (v := .ref G.aLATES) (by rfl) G.LATES rfl) (by rfl)))))) (pss_one (ps_ret (pe_tup (pa_cons (pv 2) (pa_cons (pe_call c__number.ok (hr.mono (by decide)) (by rfl) c__number.g c__number.kp c__number.b .nil pass0 (pa_cons (pe_ix ix_list (pv 0) pe_int (fun _ _ => rfl)) pa_nil)) (pa_cons (pe_bm PySem.F.plainAttrs_tuple PySem.F.slot_tuple_index PySem.F.type_tuple_index mt_tup_index (pe_glob (v := .ref G.aLATES) (by rfl) G.LATES rfl) (pa_cons (pe_ix ix_list (pv 0) pe_int (fun _ _ => rfl)) pa_nil)) pa_nil)))))) pss_nil)
      (pss_cons (ps_if (PW.pt (pw_and (pt_cmpR op_eq (pv 2) pe_str (nomark _)) (pw_and (pt_cmpR op_gt (pe_callB call_len_seq (by rfl) G.len PySem.boot_len (pa_cons (pv 0) pa_nil)) pe_int (nomark _)) (pw_and1 (pt_cmpR op_eq (pe_ix ix_list (pv 0) (pe_un un_neg pe_int) (fun _ _ => rfl)) pe_str (nomark _)))))) (pss_one (ps_ret (pe_tup (pa_cons (pv 2) (pa_cons (pe_call c__numbers.ok (hr.mono (by decide)) (by rfl) c__numbers.g c__numbers.kp c__numbers.b .nil pass0 (pa_cons (pe_slice sl_list (pv 0) (po_some pe_int) (po_some (pe_un un_neg pe_int))) pa_nil)) (pa_cons (pe_call c__number.ok (hr.mono (by decide)) (by rfl) c__number.g c__number.kp c__number.b .nil pass0 (pa_cons (pe_ix ix_list (pv 0) (pe_un un_neg pe_int) (fun _ _ => rfl)) pa_nil)) pa_nil)))))) pss_nil)
      (pss_cons (ps_if (PW.pt (pw_and (pt_cmpR op_eq (pv 2) pe_str (nomark _)) (pw_and (pt_cmpR op_gt (pe_callB call_len_seq (by rfl) G.len PySem.boot_len (pa_cons (pv 0) pa_nil)) pe_int (nomark _)) (pw_and1 (pt_cmpR op_eq (pe_ix ix_list (pv 0) (pe_un un_neg pe_int) (fun _ _ => rfl)) pe_str (nomark _)))))) (pss_one (ps_ret (pe_tup (pa_cons (pv 2) (pa_cons (pe_call c__numbers.ok (hr.mono (by decide)) (by rfl) c__numbers.g c__numbers.kp c__numbers.b .nil pass0 (pa_cons (pe_slice sl_list (pv 0) (po_some pe_int) (po_some (pe_un un_neg pe_int))) pa_nil)) (pa_cons (pe_call c__number.ok (hr.mono (by decide)) (by rfl) c__number.g c__number.kp c__number.b .nil pass0 (pa_cons (pe_ix ix_list (pv 0) (pe_un un_neg pe_int) (fun _ _ => rfl)) pa_nil)) pa_nil)))))) pss_nil)
      (pss_cons (ps_if (pt_cmpR op_in_seq (pv 2) (pe_tup (pa_cons pe_str (pa_cons pe_str pa_nil))) (by rfl)) (pss_one (ps_ret (pe_tup (pa_cons (pv 2) (pa_cons (pe_call c__numbers.ok (hr.mono (by decide)) (by rfl) c__numbers.g c__numbers.kp c__numbers.b .nil pass0 (pa_cons (pe_slice sl_list (pv 0) (po_some pe_int) po_none) pa_nil)) pa_nil))))) pss_nil)
      (pss_cons (ps_if (PW.pt (pw_and (pt_cmpR op_in_seq (pv 2) (pe_tup (pa_cons pe_str (pa_cons pe_str pa_nil))) (by rfl)) (pw_and1 (pt_cmpR op_eq (pe_callB call_len_seq (by rfl) G.len PySem.boot_len (pa_cons (pv 0) pa_nil)) pe_int (nomark _))))) (pss_one (ps_ret (pe_tup (pa_cons (pv 2) pa_nil)))) pss_nil)
      (pss_one (ps_ret pe_non))))))))), fun M H0 ss d h => ?_⟩)
  · obtain ⟨ws, n, ok, hl1, n4, rfl, rfl⟩ := h
    rfl
  · obtain ⟨ws, n, ok, hl1, n4, rfl, rfl⟩ := h
    have o1 := ok.1
    unfold told
    refine sd_seq (sd_set (d := .str (wn ws 0)) (ed_ixL (ds := ws.map .str) (i := ((0 : Nat) : Int)) (el_ed (ed_var rfl)) ed_int (atI_nat (wn_get (by omega)))) ?_)
    have hwd : ∀ i, (wn ws i).length ≤ 100000 := ok.wn
    generalize hk : wn ws 0 = k
    have lt : ∀ {z : Str} {H0 : Hp}, ET ⟨K, T, M, H0⟩ (tTest (tOp rEq (tVar 2) (tC (.str z)))) [.dat (.list (ws.map .str)), .dat (intD n), .dat (.str k)] (decide (k = z)) := fun {z H0} => et_is (et_test (ed_eq (x := .str k) (y := .str z) (ed_var rfl) ed_str rfl rfl rfl)) (eqStr k z)
    have l2 : ∀ {a b : Str} {H0 : Hp}, ET ⟨K, T, M, H0⟩ (tTest (tOp (rIn K false) (tVar 2) (tTup (tCons (tC (.str a)) (tCons (tC (.str b)) tNil))))) [.dat (.list (ws.map .str)), .dat (intD n), .dat (.str k)] (decide (k = a ∨ k = b)) := fun {a b H0} => et_is (et_test (ed_inT (neg := false) (x := .str k) (ys := [.str a, .str b]) (ed_var rfl) (ed_tup (ds := [.str a, .str b]) (ea_d ed_str (ea_d ed_str ea_nil)) (by simp)) rfl rfl)) (inStr2 k a b)
    have ln : ∀ {m : Nat} {H0 : Hp}, ET ⟨K, T, M, H0⟩ (tTest (tOp rEq (tCB (lenR K) (tCons (tVar 0) tNil)) (tC (.int (m : Int))))) [.dat (.list (ws.map .str)), .dat (intD n), .dat (.str k)] (decide (ws.length = m)) := fun {m H0} => et_is (et_test (ed_eq (x := .int (ws.length : Int)) (y := .int (m : Int)) (ed_is (ed_lenL (ds := ws.map .str) (el_ed (ed_var rfl))) (by rw [List.length_map])) ed_int rfl rfl rfl)) (eqInt _ _)
    have lg : ∀ {H0 : Hp}, ET ⟨K, T, M, H0⟩ (tTest (tOp (rI0 fun i j => .bl (decide (j < i))) (tCB (lenR K) (tCons (tVar 0) tNil)) (tC (.int 3)))) [.dat (.list (ws.map .str)), .dat (intD n), .dat (.str k)] (decide (3 < ws.length)) := fun {H0} => et_is (et_test (ed_IB (g := fun a b => decide (b < a)) (ed_is (ed_lenL (ds := ws.map .str) (el_ed (ed_var rfl))) (by rw [List.length_map])) ed_int)) (decide_eq_decide.mpr ⟨fun h => by omega, fun h => by omega⟩)
    have wi : ∀ {i : Nat} {H0 : Hp}, i < ws.length → ED ⟨K, T, M, H0⟩ (tOp (rIxL K) (tVar 0) (tC (.int (i : Int)))) [.dat (.list (ws.map .str)), .dat (intD n), .dat (.str k)] (.str (wn ws i)) := fun {i H0} h => ed_ixL (ds := ws.map .str) (i := (i : Int)) (el_ed (ed_var rfl)) ed_int (atI_nat (wn_get h))
    have wk : ∀ {i : Nat} {H0 : Hp}, 1 ≤ i → i ≤ ws.length → ED ⟨K, T, M, H0⟩ (tOp (rIxL K) (tVar 0) (tUn (rU fun i => .int (-i)) (tC (.int (i : Int))))) [.dat (.list (ws.map .str)), .dat (intD n), .dat (.str k)] (.str (wn ws (ws.length - i))) := fun {i H0} h1 h2 => ed_ixL (ds := ws.map .str) (i := -(i : Int)) (el_ed (ed_var rfl)) (ed_un_neg ed_int) (at_neg h1 h2)
    have num : ∀ {te : TE} {i : Nat} {H0 : Hp}, ED ⟨K, T, M, H0⟩ te [.dat (.list (ws.map .str)), .dat (intD n), .dat (.str k)] (.str (wn ws i)) → ED ⟨K, T, M, H0⟩ (tCall (spD K T R__number) [] E0 (tCons te tNil)) [.dat (.list (ws.map .str)), .dat (intD n), .dat (.str k)] (numO (wn ws i)) := fun {te i H0} h => ed_call (R := R__number) (ea_d h ea_nil) ⟨wn ws i, hwd i, rfl, rfl⟩
    -- order
    refine sd_seq (sd_when lt (fun h => ?_) fun h => ?_)
    · have h := of_decide_eq_true h
      refine sd_ret (d := orderT n ws) (ed_call (R := R__order_told) (ea_d (ed_var rfl) (ea_d (ed_var rfl) ea_nil)) ⟨ws, n, ok, n4, rfl, rfl⟩) ?_
      show _ = toldK k n ws
      unfold toldK
      rw [if_pos h]
    have c1 := of_decide_eq_false h
    -- rounds
    refine sd_seq (sd_when (b := decide (k = "rounds" ∧ ws.length = 3 ∧ (wn ws 2 = "early" ∨ wn ws 2 = "late"))) (et_is (et_and (b := decide (ws.length = 3 ∧ (wn ws 2 = "early" ∨ wn ws 2 = "late"))) lt fun _ => et_is (et_and (b := decide (wn ws 2 = "early" ∨ wn ws 2 = "late")) (ln (m := 3)) fun h3 => et_is (et_test (ed_inT (neg := false) (x := .str (wn ws 2)) (ys := [.str "early", .str "late"]) (wi (i := 2) (by have := of_decide_eq_true h3; omega)) (ed_glob G.dLATES) rfl rfl)) (inStr2 _ _ _)) (Bool.decide_and _ _).symm) (Bool.decide_and _ _).symm) (fun h => ?_) fun h => ?_)
    · have h := of_decide_eq_true h
      obtain ⟨e1, e2, e3⟩ := h
      obtain ⟨i1, i2⟩ := ix2_get (a := "early") (b := "late") (by decide) e3
      refine sd_ret (d := .tuple [.str k, numO (wn ws 1), intD (ix2 "early" (wn ws 2))]) (ed_tup (ds := [.str k, numO (wn ws 1), intD (ix2 "early" (wn ws 2))]) (ea_d (ed_var rfl) (ea_d (num (wi (i := 1) (by omega))) (ea_d (ed_tupIx (c := ⟨K, T, M, H0⟩) (ys := ["early", "late"]) G.yLATES G.dLATES (wi (i := 2) (by omega)) i1 i2) ea_nil))) (by simp)) ?_
      show _ = toldK k n ws
      unfold toldK
      rw [if_neg c1, if_pos ⟨e1, e2, e3⟩]
    have c2 := of_decide_eq_false h
    have mid : ∀ {z y : Str} {H0 : Hp}, ET ⟨K, T, M, H0⟩ (tAnd (tTest (tOp rEq (tVar 2) (tC (.str z)))) (tAnd (tTest (tOp (rI0 fun i j => .bl (decide (j < i))) (tCB (lenR K) (tCons (tVar 0) tNil)) (tC (.int 3)))) (tTest (tOp rEq (tOp (rIxL K) (tVar 0) (tUn (rU fun i => .int (-i)) (tC (.int 2)))) (tC (.str y)))))) [.dat (.list (ws.map .str)), .dat (intD n), .dat (.str k)] (decide (k = z ∧ 3 < ws.length ∧ wn ws (ws.length - 2) = y)) := fun {z y H0} =>
      et_is (et_and (b := decide (3 < ws.length ∧ wn ws (ws.length - 2) = y)) lt fun _ => et_is (et_and (b := decide (wn ws (ws.length - 2) = y)) lg fun h3 => et_is (et_test (ed_eq (x := .str (wn ws (ws.length - 2))) (y := .str y) (wk (i := 2) (by decide) (by have := of_decide_eq_true h3; omega)) ed_str rfl rfl rfl)) (eqStr _ _)) (Bool.decide_and _ _).symm) (Bool.decide_and _ _).symm
    have mret : ∀ {H0 : Hp}, 3 < ws.length → ED ⟨K, T, M, H0⟩ (tTup (tCons (tVar 2) (tCons (tCall (spD K T R__numbers) [] E0 (tCons (tSl (rSlL K) (tVar 0) (tPart (tC (.int 1))) (tPart (tUn (rU fun i => .int (-i)) (tC (.int 2))))) tNil)) (tCons (tCall (spD K T R__number) [] E0 (tCons (tOp (rIxL K) (tVar 0) (tUn (rU fun i => .int (-i)) (tC (.int 1)))) tNil)) tNil)))) [.dat (.list (ws.map .str)), .dat (intD n), .dat (.str k)] (.tuple [.str k, numsT ((ws.drop 1).take (ws.length - 3)), numO (wn ws (ws.length - 1))]) := fun {H0} hl => by
      refine ed_tup (ds := [.str k, numsT ((ws.drop 1).take (ws.length - 3)), numO (wn ws (ws.length - 1))]) (ea_d (ed_var rfl) (ea_d (ed_call (R := R__numbers) (ea_d (ed_en (en_slL (xs := ws.map .str) (el_ed (ed_var rfl)) (eo_some (i := ((1 : Nat) : Int)) ed_int) (eo_some (i := -((2 : Nat) : Int)) (ed_un_neg ed_int)))) ea_nil) ⟨(ws.drop 1).take (ws.length - 3), ok.cut _ _, ?_, rfl⟩) (ea_d (num (wk (i := 1) (by decide) (by omega))) ea_nil))) (by simp)
      rw [cut_neg (by decide) (by omega), show ws.length - 1 - 2 = ws.length - 3 by omega]
    -- levels
    refine sd_seq (sd_when mid (fun h => ?_) fun h => ?_)
    · have h := of_decide_eq_true h
      refine sd_ret (mret h.2.1) ?_
      show _ = toldK k n ws
      unfold toldK
      rw [if_neg c1, if_neg c2, if_pos h]
    have c3 := of_decide_eq_false h
    -- aging
    refine sd_seq (sd_when mid (fun h => ?_) fun h => ?_)
    · have h := of_decide_eq_true h
      refine sd_ret (mret h.2.1) ?_
      show _ = toldK k n ws
      unfold toldK
      rw [if_neg c1, if_neg c2, if_neg c3, if_pos h]
    have c4 := of_decide_eq_false h
    -- due, shares
    refine sd_seq (sd_when l2 (fun h => ?_) fun h => ?_)
    · have h := of_decide_eq_true h
      refine sd_ret (d := .tuple [.str k, numsT (ws.drop 1)]) (ed_tup (ds := [.str k, numsT (ws.drop 1)]) (ea_d (ed_var rfl) (ea_d (ed_call (R := R__numbers) (ea_d (ed_en (en_is (en_slL (xs := ws.map .str) (el_ed (ed_var rfl)) (eo_some (i := ((1 : Nat) : Int)) ed_int) eo_none) (cut_a hl1))) ea_nil) ⟨ws.drop 1, ok.drop 1, rfl, rfl⟩) ea_nil)) (by simp)) ?_
      show _ = toldK k n ws
      unfold toldK
      rw [if_neg c1, if_neg c2, if_neg c3, if_neg c4, if_pos h]
    have c5 := of_decide_eq_false h
    -- first, last
    refine sd_seq (sd_when (b := decide ((k = "first" ∨ k = "last") ∧ ws.length = 1)) (et_is (et_and (b := decide (ws.length = 1)) l2 fun _ => ln (m := 1)) (Bool.decide_and _ _).symm) (fun h => ?_) fun h => ?_)
    · have h := of_decide_eq_true h
      refine sd_ret (d := .tuple [.str k]) (ed_tup (ds := [.str k]) (ea_d (ed_var rfl) ea_nil) (by simp)) ?_
      show _ = toldK k n ws
      unfold toldK
      rw [if_neg c1, if_neg c2, if_neg c3, if_neg c4, if_neg c5, if_pos h]
    have c6 := of_decide_eq_false h
    refine sd_ret (d := .none) ed_non ?_
    show _ = toldK k n ws
    unfold toldK
    rw [if_neg c1, if_neg c2, if_neg c3, if_neg c4, if_neg c5, if_neg c6]
end
abbrev sChText : Stmt := top 34
abbrev nChText : List Str := ["value"]
theorem scChText : FnScope nChText ["value"] (defScope sChText) := ⟨rfl, rfl, rfl, by decide +kernel, rfl, by decide +kernel, by decide +kernel⟩
section
variable {P : Program} {w : World} {K : PySem.W.Frag} {mg : Str → Option Value} {base : Heap} {f : Addr} {fd : FuncData} {T : List Addr}
theorem ok__check_text (F : Fun K "_check_text" "_check_text" sChText f fd) (G : Glob K mg) (B : Bad K mg) : FnOk P w K mg base (L2.CX P w) 1 f fd ["value"] (spE K T (R__check_text B.aBadText)) := by
  refine fn_sdE F scChText (fun ss o h => ?_) (fun cdv A outer s H E hr => ⟨_, (pss_one (ps_if (pt_not (pt_val (pe_callB call_isi (by rfl) G.isinstance boot_isinstance (pa_cons (pv 0) (pa_cons (pe_bltn (v := .ty "str") (by rfl) G.str (by decide +kernel) rfl) pa_nil))))) (pss_one (ps_raise rfl (takes_of rfl rfl rfl rfl) (pmk_own PySem.F.excBase_ValueError B.xBadText B.gBadText B.kBadText (raises_own B.bBadText B.tBadText) rfl))) pss_nil)), fun M H0 ss o h xo => ?_⟩)
  · obtain ⟨e, rfl, rfl⟩ := h
    rfl
  · obtain ⟨e, rfl, rfl⟩ := h
    refine sd_when (b := !isStr e) (et_not (et_B (ed_isiStr (ed_var rfl)))) (fun h => sd_raise fun H' k => xo B.aBadText ?_ H' k) (fun h => ?_)
    · rw [if_neg (fun q => by rw [q] at h; cases h)]
    · show (if isStr e = true then Out.ok .none else .ex B.aBadText) = .ok .none
      rw [if_pos (by cases q : isStr e with | true => rfl | false => rw [q] at h; cases h)]
end
abbrev sParS : Stmt := top 37
abbrev nParS : List Str := ["text", "size", "scheduler"]
theorem scParS : FnScope nParS ["text", "size"] (defScope sParS) := ⟨rfl, rfl, rfl, by decide +kernel, rfl, by decide +kernel, by decide +kernel⟩
section
variable {P : Program} {w : World} {K : PySem.W.Frag} {mg : Str → Option Value} {base : Heap} {f : Addr} {fd : FuncData} {T : List Addr}
theorem ok_parse_scheduler (F : Fun K "parse_scheduler" "parse_scheduler" sParS f fd) (G : Glob K mg) (B : Bad K mg) {fN : Addr} {dN : FuncData} (c_check_number : CalE P w K mg base "check_number" 2 ["value", "least", "greatest"] (spE K T (R_check_number B.aBadNumber)) fN dN) {fC : Addr} {dC : FuncData} (c__check_text : CalE P w K mg base "_check_text" 1 ["value"] (spE K T (R__check_text B.aBadText)) fC dC) {fT : Addr} {dT : FuncData} (c__scheduler_told : Cal P w K mg base "_scheduler_told" 4 ["words", "size"] (spD K T R__scheduler_told) fT dT) {fS : Addr} {dS : FuncData} (c_is_scheduler : Cal P w K mg base "is_scheduler" 6 ["value", "size"] (spD K T R_is_scheduler) fS dS) : FnOk P w K mg base (L2.CX P w) 7 f fd ["text", "size"] (spE K T (R_parse_scheduler B.aBadText B.aBadNumber)) := by
  refine fn_sdE F scParS (fun ss o h => ?_) (fun cdv A outer s H E hr => ⟨_, (pss_cons (ps_expr (pe_call c_check_number.ok (hr.mono (by decide)) (by rfl) c_check_number.g c_check_number.kp c_check_number.b .nil (passes_call (takes_of rfl rfl rfl rfl) fun _ _ _ _ z => z) (pa_cons (pv 1) (pa_cons pe_int (pa_cons (pe_glob (v := .int 4) (by rfl) G.MOST_PROCESSES ⟨_, rfl⟩) pa_nil)))))
      (pss_cons (ps_expr (pe_call c__check_text.ok (hr.mono (by decide)) (by rfl) c__check_text.g c__check_text.kp c__check_text.b .nil (passes_call (takes_of rfl rfl rfl rfl) fun _ _ _ _ z => z) (pa_cons (pv 0) pa_nil)))
      (pss_cons (ps_set (i := 2) scParS.nd rfl (.inl rfl) (pe_call c__scheduler_told.ok (hr.mono (by decide)) (by rfl) c__scheduler_told.g c__scheduler_told.kp c__scheduler_told.b .nil pass0 (pa_cons (pe_split (pv 0) pe_str) (pa_cons (pv 1) pa_nil))))
      (pss_cons (ps_if (pt_not (pt_val (pe_call c_is_scheduler.ok (hr.mono (by decide)) (by rfl) c_is_scheduler.g c_is_scheduler.kp c_is_scheduler.b .nil pass0 (pa_cons (pv 2) (pa_cons (pv 1) pa_nil))))) (pss_one (ps_raise rfl (takes_of rfl rfl rfl rfl) (pmk_own PySem.F.excBase_ValueError B.xBadText B.gBadText B.kBadText (raises_own B.bBadText B.tBadText) rfl))) pss_nil)
      (pss_one (ps_ret (pv 2))))))), fun M H0 ss o h xo => ?_⟩)
  · obtain ⟨e, z, h1, rfl, rfl⟩ := h
    rfl
  · obtain ⟨e, z, h1, rfl, rfl⟩ := h
    unfold parseS at xo ⊢
    by_cases hz : K13.numD z 1 4 = true
    · rw [if_pos hz] at xo ⊢
      refine sd_seq (sd_dropE (o := .ok .none) (ea_d (ed_var rfl) (ea_d ed_int (ea_d ed_int ea_nil))) ⟨z, rfl, by rw [if_pos hz]⟩ (fun C z => nomatch z) fun d _he => ?_)
      obtain ⟨n, rfl, n1, n4⟩ := numD_nat (lo := 1) (hi := 4) hz
      by_cases hs : ∃ t, e = .str t
      · obtain ⟨t, rfl⟩ := hs
        have ok := h1 t rfl
        have xo : XO T H0 E (if K13.schedD (told n (Txt.split t sp)) (intD n) = true then .ok (told n (Txt.split t sp)) else .ex B.aBadText) := xo
        show SD _ _ (DO (if K13.schedD (told n (Txt.split t sp)) (intD n) = true then .ok (told n (Txt.split t sp)) else .ex B.aBadText)) _
        refine sd_seq (sd_dropE (o := .ok .none) (ea_d (ed_var rfl) ea_nil) ⟨.str t, rfl, rfl⟩ (fun C z => nomatch z) fun d _he => ?_)
        refine sd_seq (sd_set (d := told n (Txt.split t sp)) (ed_call (R := R__scheduler_told) (ea_d (ed_en (en_split (x := t) (y := sp) (ed_var rfl) ed_str (by decide +kernel) (by rw [sizeLine_eq]; have := ok.1; omega))) (ea_d (ed_var rfl) ea_nil)) ⟨Txt.split t sp, n, ok.ws, split_pos t, n4, rfl, rfl⟩) ?_)
        refine sd_seq (sd_when (b := !K13.schedD (told n (Txt.split t sp)) (intD n)) (et_not (et_B (ed_call (R := R_is_scheduler) (ea_d (ed_var rfl) (ea_d (ed_var rfl) ea_nil)) ⟨_, (n : Int), rfl, rfl⟩))) (fun h => sd_raise fun H' k => xo B.aBadText ?_ H' k) (fun h => sd_ret (ed_var rfl) ?_))
        · rw [if_neg (fun q => by rw [q] at h; cases h)]
        · show (if K13.schedD (told n (Txt.split t sp)) (intD n) = true then Out.ok (told n (Txt.split t sp)) else .ex B.aBadText) = .ok _
          rw [if_pos (by cases q : K13.schedD (told n (Txt.split t sp)) (intD n) with | true => rfl | false => rw [q] at h; cases h)]
      · have e1 : isStr e = false := by
          cases e <;> first | rfl | exact absurd ⟨_, rfl⟩ hs
        have e2 : (match e with
            | .str t => if K13.schedD (told (natOf (intD n)) (Txt.split t sp)) (intD n) = true then Out.ok (told (natOf (intD n)) (Txt.split t sp)) else .ex B.aBadText
            | _ => .ex B.aBadText) = .ex B.aBadText := by
          cases e <;> first | rfl | exact absurd ⟨_, rfl⟩ hs
        rw [e2] at xo ⊢
        refine sd_seq (sd_dropE (o := .ex B.aBadText) (ea_d (ed_var rfl) ea_nil) ⟨e, rfl, ?_⟩ xo fun d z => nomatch z)
        rw [if_neg (by rw [e1]; decide)]
    · rw [if_neg hz] at xo ⊢
      exact sd_seq (sd_dropE (o := .ex B.aBadNumber) (ea_d (ed_var rfl) (ea_d ed_int (ea_d ed_int ea_nil))) ⟨z, rfl, by rw [if_neg hz]⟩ xo fun d z => nomatch z)
end
end PT
namespace LW
open PySem PySem.Spec PyProof.Rows L2 DA DL
/-! ### draws -/
abbrev sStart : Stmt := PT.top 41
abbrev sDraw : Stmt := PT.top 42
/-- the numbers at nu, the counter: what the draws are made of -/
structure Drw (H : Hp) (d nu : Addr) : Prop where
  ex : ∃ (ns : List Int) (c : Int), H d = some (.lst [.ref nu, .int c]) ∧ H nu = some (.lst (ns.map V.int)) ∧ ns ≠ [] ∧ ns.length ≤ 63 ∧ 0 ≤ c
/-- all but the draws' own -/
structure Frm (T : List Addr) (d nu : Addr) (H H' : Hp) : Prop where
  at_ : ∀ b o, H b = some o → b ≠ d → b ≠ nu → b ∉ T → H' b = some o
  tab : ∀ P ∈ T, GxR.TabG H P → GxR.TabG H' P
  drw : Drw H' d nu
theorem scStart : FnScope ["_law_script"] ["_law_script"] (defScope sStart) := ⟨rfl, rfl, rfl, by decide +kernel, rfl, by decide +kernel, by decide +kernel⟩
theorem scDraw : FnScope ["_law_draws", "_law_limit", "_law_numbers", "_law_at", "_law_cell", "_law_mixed"] ["_law_draws", "_law_limit"] (defScope sDraw) := ⟨rfl, rfl, rfl, by decide +kernel, rfl, by decide +kernel, by decide +kernel⟩
theorem ints_lay (ns : List Int) : PyData.canLayAll0 (ns.map PyData.int) = true := by
  induction ns with
  | nil => rfl
  | cons n r ih => simp only [List.map_cons, PyData.canLayAll0, PyData.canLay0, ih, Bool.and_self]
theorem ints_depth (ns : List Int) : PyData.depthAll (ns.map PyData.int) = 0 := by
  induction ns with
  | nil => rfl
  | cons n r ih => simp only [List.map_cons, PyData.depthAll, PyData.depth, ih, Nat.max_self]
theorem ints_shaped (ns : List Int) : SeqAt.shaped (.list (ns.map PyData.int)) = true := by
  show (PyData.canLay0 (.list (ns.map .int)) && decide (PyData.depth (.list (ns.map .int)) ≤ 64)) = true
  simp only [PyData.canLay0, PyData.depth, ints_lay, ints_depth]
  decide
section
variable {P : Program} {w : World} {K : PySem.W.Frag} {mg : Str → Option Value} {base : Heap} {f : Addr} {fd : FuncData}
def spStart (K : PySem.W.Frag) : Sp := fun vs H Q _ => ∃ (a : Addr) (ns : List Int), vs = [.ref a] ∧ SqL K H a (ns.map V.int) ∧ ns.length ≤ 63 ∧ ∀ d nu H', Same H H' → H d = none → H nu = none → Drw H' d nu → Q (.ref d) H'
theorem ok_start (F : Fun K "_law_start" "_law_start" sStart f fd) (G : PT.Glob K mg) : FnOk P w K mg base CX0 1 f fd ["_law_script"] (spStart K) := by
  refine F.ok scStart (fun vs H Q E h => ?_) (fun cdv A outer s H vs Q E hr h => ?_)
  · obtain ⟨a, ns, rfl, _⟩ := h
    rfl
  · obtain ⟨a, ns, rfl, hS, hl, q⟩ := h
    refine ⟨_, pss_one (ps_ret (pe_lst (pa_cons (pe_ifExp (pt_cmpR (op_neD hr.units) (pv 0) (pe_lst pa_nil) (nomark _)) (pe_callTy call_list_of (by rfl) G.list (by decide +kernel) (pa_cons (pv 0) pa_nil)) (pe_lst (pa_cons pe_int pa_nil))) (pa_cons pe_int pa_nil)))), ?_⟩
    refine ⟨.ref a, rfl, Nat.zero_le _, fun p np => ?_⟩
    have s1 : Same H (upd H p (.lst [])) := same_new np
    refine ⟨.list (ns.map .int), .list [], .lst (s1.seq hS) (dps_ints ns), .lst (.of upd_same) .nil, ints_shaped ns, rfl, _, rfl, ite2 (fun e => ?_) fun e => ?_⟩
    · have hne : ns ≠ [] := fun z => by rw [z] at e; cases e
      refine ⟨_, rfl, a, ns.map V.int, rfl, .inl (s1.seq hS), fun l nl => ?_⟩
      refine ⟨by show 2 ≤ sizeLine; decide, fun d nd => ?_⟩
      have s2 := same_new (o := .lst (ns.map V.int)) nl
      have s3 := same_new (o := .lst [.ref l, .int 0]) nd
      refine q d l _ ((s1.trans s2).trans s3) ((s1.trans s2).free nd) (s1.free nl) ⟨ns, 0, upd_same, ?_, hne, hl, Int.le_refl _⟩
      exact s3 _ _ upd_same
    · refine ⟨by show 1 ≤ sizeLine; decide, fun l nl => ?_⟩
      refine ⟨by show 2 ≤ sizeLine; decide, fun d nd => ?_⟩
      have s2 := same_new (o := .lst [.int 0]) nl
      have s3 := same_new (o := .lst [.ref l, .int 0]) nd
      exact q d l _ ((s1.trans s2).trans s3) ((s1.trans s2).free nd) (s1.free nl) ⟨[0], 0, upd_same, s3 _ _ upd_same, by simp, by decide, Int.le_refl _⟩
def spDraw (T : List Addr) : Sp := fun vs H Q _ => ∃ (d nu : Addr) (lim : Int), vs = [.ref d, .int lim] ∧ 1 ≤ lim ∧ lim ≤ 1000 ∧ Drw H d nu ∧ ∀ (r : Int) H', 0 ≤ r → r < lim → Frm T d nu H H' → Q (.int r) H'
theorem ok_draw {T : List Addr} (F : Fun K "_law_draw" "_law_draw" sDraw f fd) (G : PT.Glob K mg) : FnOk P w K mg base CX0 1 f fd ["_law_draws", "_law_limit"] (spDraw T) := by
  refine F.ok scDraw (fun vs H Q E h => ?_) (fun cdv A outer s H vs Q E hr h => ?_)
  · obtain ⟨d, nu, lim, rfl, _⟩ := h
    rfl
  · obtain ⟨d, nu, lim, rfl, l1, l2, ⟨ns, c, hd, hnu, hne, hl, hc⟩, q⟩ := h
    have ndu : d ≠ nu := fun z => by
      rw [z, hnu] at hd
      cases ns with
      | nil => exact hne rfl
      | cons n r => cases hd
    have hpos : 0 < ns.length := List.length_pos_iff.mpr hne
    refine ⟨_, pss_cons (ps_set (i := 2) scDraw.nd rfl (.inl rfl) (pe_ix ix_list (pv 0) pe_int (fun _ _ => rfl)))
      (pss_cons (ps_asg (pe_op op_add (pe_ix ix_list (pv 0) pe_int (fun _ _ => rfl)) pe_int) (pg_sub (pv 0) pe_int set_list))
      (pss_cons (ps_set (i := 3) scDraw.nd rfl (.inl rfl) (pe_op op_mod (pe_ix ix_list (pv 0) pe_int (fun _ _ => rfl)) (pe_callB call_len_seq (by rfl) G.len PySem.boot_len (pa_cons (pv 2) pa_nil))))
      (pss_cons (ps_set (i := 4) scDraw.nd rfl (.inl rfl) (pe_ix ix_list (pv 2) (pv 3) (fun _ _ => rfl)))
      (pss_cons (ps_if (pt_cmpR op_ge (pv 4) pe_int (nomark _)) (pss_cons (ps_asg (pe_op op_fdiv (pv 4) (pv 1)) (pg_sub (pv 2) (pv 3) set_list)) (pss_one (ps_ret (pe_op op_mod (pv 4) (pv 1))))) pss_nil)
      (pss_cons (ps_set (i := 5) scDraw.nd rfl (.inl rfl) (pe_op op_mod (pe_op op_add (pv 4) (pe_op op_mul pe_int (pe_ix ix_list (pv 0) pe_int (fun _ _ => rfl)))) pe_int))
      (pss_cons (ps_set (i := 5) scDraw.nd rfl (.inl rfl) (pe_op op_mod (pe_op op_pow (pv 5) pe_int) pe_int))
      (pss_one (ps_ret (pe_op op_mod (pe_op op_fdiv (pe_op op_mod (pe_op op_add (pe_op op_mul (pe_op op_fdiv (pv 5) pe_int) pe_int) (pv 5)) pe_int) pe_int) (pv 1)))))))))), ?_⟩
    refine ⟨.ref d, rfl, d, _, 0, .ref nu, rfl, rfl, .of hd, rfl, ?_⟩
    refine ⟨.ref d, rfl, d, _, 1, .int c, rfl, rfl, .of hd, rfl, c, 1, rfl, rfl, .ref d, rfl, d, _, 1, 1, rfl, rfl, hd, rfl, ?_⟩
    have hd1 : (upd H d (.lst [.ref nu, .int (c + 1)])) d = some (.lst [.ref nu, .int (c + 1)]) := upd_same
    have hnu1 : (upd H d (.lst [.ref nu, .int (c + 1)])) nu = some (.lst (ns.map V.int)) := by rw [upd_ne ndu.symm]; exact hnu
    generalize hH1 : upd H d (.lst [.ref nu, .int (c + 1)]) = H1 at hd1 hnu1
    have hlen : ((ns.map V.int).length : Int) = ns.length := by rw [List.length_map]
    have hlp : (0 : Int) < (ns.map V.int).length := by rw [hlen]; omega
    generalize hj : (c + 1) % ((ns.map V.int).length : Int) = j
    have j0 : 0 ≤ j := by rw [← hj]; exact Int.emod_nonneg _ (by omega)
    have j1 : j < ns.length := by rw [← hj, ← hlen]; exact Int.emod_lt_of_pos _ hlp
    have hix : ixN (ns.map V.int).length j = some j.toNat := by
      unfold ixN
      rw [if_pos j0, if_pos (by rw [hlen]; exact j1)]
    have hjn : j.toNat < ns.length := by omega
    have hat : atI (ns.map V.int) j = some (.int (ns[j.toNat]'hjn)) := by
      unfold atI
      rw [hix]
      show (ns.map V.int)[j.toNat]? = _
      rw [List.getElem?_map, List.getElem?_eq_getElem hjn]
      rfl
    generalize hcell : ns[j.toNat]'hjn = cell at hat
    have frame1 : ∀ H2, (∀ b, b ≠ nu → H2 b = H1 b) → (∃ ms : List Int, H2 nu = some (.lst (ms.map V.int)) ∧ ms ≠ [] ∧ ms.length ≤ 63) → Frm T d nu H H2 := fun H2 e2 ⟨ms, e3, e4, e5⟩ => by
      refine ⟨fun b o e n1 n2 _ => ?_, fun P hP ⟨ps, e, ok⟩ => ⟨ps, ?_, ok⟩, ⟨ms, c + 1, ?_, e3, e4, e5, by omega⟩⟩
      · rw [e2 b n2, ← hH1, upd_ne n1]; exact e
      · have n1 : P ≠ d := fun z => by rw [z, hd] at e; cases e
        have n2 : P ≠ nu := fun z => by rw [z, hnu] at e; cases e
        rw [e2 P n2, ← hH1, upd_ne n1]; exact e
      · rw [e2 d ndu]; exact hd1
    have eH : upd H d (HO.lst ([V.ref nu, V.int c].set 1 ((fun i j => V.int (i + j)) c 1))) = H1 := hH1
    rw [eH]
    refine ⟨.ref d, rfl, d, _, 1, .int (c + 1), rfl, rfl, .of hd1, rfl, .ref nu, rfl, nu, _, rfl, .inl (.of hnu1), _, _, rfl, rfl, hlp, ?_⟩
    refine ⟨.ref nu, rfl, .int j, by show some (some (V.int ((c + 1) % ((ns.map V.int).length : Int)))) = _; rw [hj], nu, _, j, .int cell, rfl, rfl, .of hnu1, hat, ?_⟩
    refine ⟨.int cell, rfl, _, _, rfl, rfl, _, rfl, ite2 (fun e => ?_) fun e => ?_⟩
    · refine ⟨.int cell, rfl, .int lim, rfl, _, _, rfl, rfl, ⟨by omega, by omega⟩, .ref nu, rfl, .int j, by show some (some (V.int ((c + 1) % ((ns.map V.int).length : Int)))) = _; rw [hj], nu, _, j, j.toNat, rfl, rfl, hnu1, hix, ?_⟩
      refine ⟨.int cell, rfl, .int lim, rfl, _, _, rfl, rfl, by show (0 : Int) < lim; omega, ?_⟩
      refine q (cell % lim) _ (Int.emod_nonneg _ (by omega)) (Int.emod_lt_of_pos _ (by omega)) (frame1 _ (fun b hb => upd_ne hb) ⟨ns.set j.toNat (cell / lim), ?_, ?_, by rw [List.length_set]; exact hl⟩)
      · rw [upd_same, List.map_set]
      · intro z
        have := congrArg List.length z
        rw [List.length_set] at this
        simp at this
        exact hne this
    · refine ⟨.int cell, rfl, .ref d, rfl, d, _, 1, .int (c + 1), rfl, rfl, .of hd1, rfl, 104729, c + 1, rfl, rfl, .inl ⟨by decide, by decide⟩, _, _, rfl, rfl, _, _, rfl, rfl, by show (0 : Int) < 4294967291; decide, ?_⟩
      generalize hm : (cell + 104729 * (c + 1)) % 4294967291 = m
      have m0 : 0 ≤ m := by rw [← hm]; exact Int.emod_nonneg _ (by decide)
      have m1 : m < 4294967291 := by rw [← hm]; exact Int.emod_lt_of_pos _ (by decide)
      refine ⟨.int m, by show some (some (V.int ((cell + 104729 * (c + 1)) % 4294967291))) = _; rw [hm], m, 5, rfl, rfl, ⟨by decide, by decide, by omega⟩, _, _, rfl, rfl, by show (0 : Int) < 4294967279; decide, ?_⟩
      generalize hm2 : m ^ (5 : Int).toNat % 4294967279 = m2
      have n0 : 0 ≤ m2 := by rw [← hm2]; exact Int.emod_nonneg _ (by decide)
      have n1 : m2 < 4294967279 := by rw [← hm2]; exact Int.emod_lt_of_pos _ (by decide)
      refine ⟨.int m2, by show some (some (V.int (m ^ (5 : Int).toNat % 4294967279))) = _; rw [hm2], _, _, rfl, rfl, ⟨by decide, by decide⟩, _, _, rfl, rfl, .inr ⟨by decide, by decide⟩, .int m2, by show some (some (V.int (m ^ (5 : Int).toNat % 4294967279))) = _; rw [hm2], _, _, rfl, rfl, _, _, rfl, rfl, by show (0 : Int) < 4294967231; decide, _, _, rfl, rfl, ⟨by decide, by decide⟩, .int lim, rfl, _, _, rfl, rfl, by show (0 : Int) < lim; omega, ?_⟩
      exact q _ _ (Int.emod_nonneg _ (by omega)) (Int.emod_lt_of_pos _ (by omega)) (frame1 H1 (fun _ _ => rfl) ⟨ns, hnu1, hne, hl⟩)
end
/-! ### frames of draws -/
section
variable {K : PySem.W.Frag} {T : List Addr} {d nu : Addr} {H H1 H2 : Hp}
theorem Frm.refl (h : Drw H d nu) : Frm T d nu H H := ⟨fun _ _ e _ _ _ => e, fun _ _ e => e, h⟩
theorem Frm.trans (a : Frm T d nu H H1) (b : Frm T d nu H1 H2) : Frm T d nu H H2 := ⟨fun c o e n1 n2 n3 => b.at_ c o (a.at_ c o e n1 n2 n3) n1 n2 n3, fun P hP t => b.tab P hP (a.tab P hP t), b.drw⟩
theorem Frm.tabs (a : Frm T d nu H H1) (t : Tabs T H) : Tabs T H1 := fun P hP => a.tab P hP (t P hP)
theorem Drw.keep (h : Drw H d nu) (t : Tabs T H) (k : Keep T H H1) : Drw H1 d nu := by
  obtain ⟨ns, c, h1, h2, h3⟩ := h.ex
  exact ⟨⟨ns, c, k.lst t h1, k.lst t h2, h3⟩⟩
theorem Frm.keep (h : Drw H d nu) (t : Tabs T H) (k : Keep T H H1) : Frm T d nu H H1 := ⟨fun b o e _ _ n => k.at_ b o e n, k.tab, h.keep t k⟩
theorem Drw.ne (h : Drw H d nu) {p : Addr} (hp : H p = none) : p ≠ d ∧ p ≠ nu := by
  obtain ⟨ns, c, h1, h2, h3⟩ := h.ex
  exact ⟨fun z => (by rw [z, h1] at hp; cases hp), fun z => (by rw [z, h2] at hp; cases hp)⟩
theorem Drw.ne' (h : Drw H d nu) : d ≠ nu := fun z => by
  obtain ⟨ns, c, h1, h2, h3, _⟩ := h.ex
  rw [z, h2] at h1
  cases ns with
  | nil => exact h3 rfl
  | cons n r => cases h1
/-- a new object, or one that is none of the first heap's, is written -/
theorem Frm.own (k : Frm T d nu H H1) (h : Drw H d nu) (t : Tabs T H) {p : Addr} {o : HO} (hp : H p = none) : Frm T d nu H (upd H1 p o) := by
  obtain ⟨n1, n2⟩ := h.ne hp
  have nT : p ∉ T := fun m => by
    obtain ⟨ps, e, _⟩ := t p m
    rw [hp] at e; cases e
  refine ⟨fun b x e m1 m2 m3 => ?_, fun P hP tb => ?_, ?_⟩
  · rw [upd_ne (ne_of_none e hp)]
    exact k.at_ b x e m1 m2 m3
  · obtain ⟨ps, e, ok⟩ := k.tab P hP tb
    refine ⟨ps, ?_, ok⟩
    rw [upd_ne (fun z => nT (by rw [← z]; exact hP))]
    exact e
  · obtain ⟨ns, c, h1, h2, h3⟩ := k.drw.ex
    exact ⟨⟨ns, c, by rw [upd_ne n1.symm]; exact h1, by rw [upd_ne n2.symm]; exact h2, h3⟩⟩
theorem Frm.free (k : Frm T d nu H H1) (h : Drw H d nu) (t : Tabs T H) {p : Addr} (hp : H1 p = none) : H p = none := by
  cases e : H p with
  | none => rfl
  | some o =>
    obtain ⟨n1, n2⟩ := k.drw.ne hp
    by_cases m : p ∈ T
    · obtain ⟨ps, e', _⟩ := k.tabs t p m
      rw [hp] at e'; cases e'
    · have := k.at_ p o e n1 n2 m
      rw [hp] at this; cases this
theorem Frm.lst (k : Frm T d nu H H1) (t : Tabs T H) {a : Addr} {xs : List V} (h : H a = some (.lst xs)) (n1 : a ≠ d) (n2 : a ≠ nu) : H1 a = some (.lst xs) := k.at_ _ _ h n1 n2 (nT_of t h fun ps z => by cases z)
theorem Frm.sqT (k : Frm T d nu H H1) (h : Drw H d nu) (t : Tabs T H) {a : Addr} {xs : List V} (hs : SqT K H a xs) : SqT K H1 a xs := by
  obtain ⟨ns, c, h1, h2, h3⟩ := h.ex
  rcases hs with (hs | ⟨o, hs⟩) | hs
  · exact .inl (.inl (k.at_ _ _ hs (ne_of hs h1 (by intro z; cases z)) (ne_of hs h2 (by intro z; cases z)) (nT_of t hs fun ps z => by cases z)))
  · exact .inl (.inr ⟨o, k.at_ _ _ hs (ne_of hs h1 (by intro z; cases z)) (ne_of hs h2 (by intro z; cases z)) (nT_of t hs fun ps z => by cases z)⟩)
  · exact .inr hs
end
end LW
/-! draws beside plain data -/
namespace DL
open PySem PySem.Spec PyProof.Rows L2 DA
structure WC where
  K : PySem.W.Frag
  T : List Addr
  M : List Addr
  d : Addr
  nu : Addr
abbrev WC.at (k : WC) (H : Hp) : DC := ⟨k.K, k.T, k.M, H⟩
abbrev WC.mask (k : WC) (M : List Addr) : WC := ⟨k.K, k.T, M, k.d, k.nu⟩
structure SW (k : WC) (σ : L2.St) (H : Hp) (ρ : DEnv) : Prop where
  sr : SR ⟨k.K, k.T, k.M, H⟩ [] σ H ρ
  dr : LW.Drw H k.d k.nu
  hd : k.d ∈ k.M
  hn : k.nu ∈ k.M
theorem frm_hid {T M : List Addr} {d nu : Addr} {H H' : Hp} (hd : d ∈ M) (hn : nu ∈ M) (f : LW.Frm T d nu H H') : Keep T (hid M H) (hid M H') := by
  refine ⟨fun b o e nT => ?_, fun P hP tb => ?_⟩
  · obtain ⟨m, e⟩ := hid_inv e
    exact hid_of m (f.at_ b o e (fun z => m (by rw [z]; exact hd)) (fun z => m (by rw [z]; exact hn)) nT)
  · obtain ⟨ps, e, ok⟩ := tb
    obtain ⟨m, e⟩ := hid_inv e
    obtain ⟨ps', e', ok'⟩ := f.tab P hP ⟨ps, e, ok⟩
    exact ⟨ps', hid_of m e', ok'⟩
section
variable {k : WC} {σ : L2.St} {H H' H1 : Hp} {ρ : DEnv}
theorem SW.tabm (r : SW k σ H ρ) : Tabs k.T (hid k.M H) := tabs_hid r.sr.tab fun a h => (r.sr.msk a h).1
theorem SW.keepF (r : SW k σ H ρ) (f : Keep k.T H H') : LW.Frm k.T k.d k.nu H H' := LW.Frm.keep r.dr r.sr.tab f
theorem drw_none {T : List Addr} {d nu : Addr} {H H' : Hp} (f : LW.Frm T d nu H H') (t : Tabs T H) {a : Addr} (h : H a ≠ none) : H' a ≠ none := by
  obtain ⟨ns, c, h1, h2, _⟩ := f.drw.ex
  by_cases z : a = d
  · rw [z, h1]; intro z; cases z
  · by_cases y : a = nu
    · rw [y, h2]; intro z; cases z
    · cases e : H a with
      | none => exact absurd e h
      | some o =>
        by_cases m : a ∈ T
        · obtain ⟨ps, e', _⟩ := f.tabs t a m
          rw [e']; intro z; cases z
        · rw [f.at_ a o e z y m]; intro z; cases z
theorem SW.frm (r : SW k σ H ρ) (f : LW.Frm k.T k.d k.nu H H') : SW k σ H' ρ :=
  ⟨r.sr.reb (frm_hid r.hd r.hn f) (f.tabs r.sr.tab) fun a h => ⟨(r.sr.msk a h).1, drw_none f r.sr.tab (r.sr.msk a h).2⟩, f.drw, r.hd, r.hn⟩
theorem SW.more (r : SW k σ H ρ) (f : LW.Frm k.T k.d k.nu H H') {D : Addr} (hD : H D = none) (hD' : H' D ≠ none) (nT : D ∉ k.T) : SW (k.mask (D :: k.M)) σ H' ρ := by
  have h1 := frm_hid r.hd r.hn f
  have km : Keep k.T (hid k.M H) (hid (D :: k.M) H') := by
    refine ⟨fun b o e nb => ?_, fun P hP tb => ?_⟩
    · have e2 := h1.at_ b o e nb
      obtain ⟨m, e2⟩ := hid_inv e2
      refine hid_of (fun q => (List.mem_cons.mp q).elim (fun z => ?_) m) e2
      rw [z] at e
      rw [(hid_inv e).2] at hD
      cases hD
    · obtain ⟨ps, e, ok⟩ := h1.tab P hP tb
      obtain ⟨m, e⟩ := hid_inv e
      exact ⟨ps, hid_of (fun q => (List.mem_cons.mp q).elim (fun z => nT (by rw [← z]; exact hP)) m) e, ok⟩
  exact ⟨r.sr.reb km (f.tabs r.sr.tab) fun a h => (List.mem_cons.mp h).elim (fun z => by rw [z]; exact ⟨nT, hD'⟩) fun h => ⟨(r.sr.msk a h).1, drw_none f r.sr.tab (r.sr.msk a h).2⟩, f.drw, List.mem_cons_of_mem _ r.hd, List.mem_cons_of_mem _ r.hn⟩
theorem SW.wipe (r : SW k σ H ρ) (vs : List Nat) : SW k (L2.wipe σ vs) H (wipeD ρ vs) := ⟨r.sr.wipe vs, r.dr, r.hd, r.hn⟩
theorem SW.setD (r : SW k σ H ρ) (i : Nat) {v : V} {x : PD} (h : Dp k.K (hid k.M H) v x) : SW k (σ.set i (some v)) H (ρ.set i (.dat x)) := ⟨r.sr.setD i (by rw [List.append_nil]; exact h), r.dr, r.hd, r.hn⟩
end
def WE (k : WC) (te : TE) (ρ : DEnv) (P : PD → Prop) : Prop := ∀ σ H, SW k σ H ρ → ∀ Q : VK, (∀ v H' x, LW.Frm k.T k.d k.nu H H' → Dp k.K (hid k.M H') v x → P x → Q v H') → te σ H Q
def WA (k : WC) (ta : TA) (ρ : DEnv) (P : List DS → Prop) : Prop := ∀ σ H, SW k σ H ρ → ∀ Q : List V → Hp → Prop, (∀ vs H' ss, LW.Frm k.T k.d k.nu H H' → ArgsOk k.K (hid k.M H') vs ss → P ss → Q vs H') → ta σ H Q
def WL (k : WC) (te : TE) (ρ : DEnv) (P : List PD → Prop) : Prop := ∀ σ H, SW k σ H ρ → ∀ Q : VK, (∀ p xs H' ds, LW.Frm k.T k.d k.nu H H' → H p = none → H' p = some (.lst xs) → DpAll k.K (hid k.M H') xs ds → P ds → Q (.ref p) H') → te σ H Q
section
variable {k : WC} {ρ : DEnv} {te ta tb : TE} {tr : TA} {P R S : PD → Prop}
theorem we_ed {x : PD} (h : ∀ H, ED (k.at H) te ρ x) (hp : P x) : WE k te ρ P := fun σ H r Q q => h H [] σ H r.sr Q fun v H' k' h' => by
  rw [List.append_nil] at h'
  exact q v H' x (r.keepF k') h' hp
theorem we_is (h : WE k te ρ P) (hp : ∀ x, P x → R x) : WE k te ρ R := fun σ H r Q q => h σ H r Q fun v H' x f h' p => q v H' x f h' (hp x p)
theorem wa_nil {P : List DS → Prop} (h : P []) : WA k tNil ρ P := fun σ H r Q q => q [] H [] (.refl r.dr) .nil h
theorem wa_cons {P : PD → Prop} {R S : List DS → Prop} (h : WE k te ρ P) (hr : WA k tr ρ R) (hs : ∀ x ss, P x → R ss → S (.dat x :: ss)) : WA k (tCons te tr) ρ S := fun σ H r Q q =>
  h σ H r _ fun v H1 x f1 h1 p1 => hr σ H1 (r.frm f1) _ fun vs H2 ss f2 h2 p2 => q _ H2 _ (f1.trans f2) (.cons (ArgOk.keep (s := .dat x) (frm_hid r.hd r.hn f2) (r.frm f1).tabm h1) h2) (hs x ss p1 p2)
theorem wa_raw {i : Nat} {w : V} {R S : List DS → Prop} (h : ρ[i]? = some (.raw w)) (hr : WA k tr ρ R) (hs : ∀ ss, R ss → S (.raw w :: ss)) : WA k (tCons (tVar i) tr) ρ S := fun σ H r Q q => by
  obtain ⟨ov, h1, h2⟩ := r.sr.rel i _ h
  cases ov with
  | none => exact False.elim h2
  | some v =>
    have h2 : v = w := h2
    subst h2
    refine ⟨v, ?_, hr σ H r _ fun vs H2 ss f2 h3 p2 => q _ H2 _ f2 (.cons (show ArgOk k.K (hid k.M H2) v (.raw v) from rfl) h3) (hs ss p2)⟩
    rw [h1]
theorem we_draw {i : Nat} {E : XK} {n : Nat} (h : ρ[i]? = some (.raw (.ref k.d))) (hb : ∀ H, ED (k.at H) tb ρ (.int (n : Int))) (h1 : 1 ≤ n) (h2 : n ≤ 1000) : WE k (tCall (LW.spDraw k.T) [] E (tCons (tVar i) (tCons tb tNil))) ρ (fun x => ∃ r : Nat, r < n ∧ x = .int (r : Int)) := fun σ H r Q q =>
  wa_raw (R := fun ss => ss = [.dat (.int (n : Int))]) (S := fun ss => ss = [.raw (.ref k.d), .dat (.int (n : Int))]) h (wa_cons (we_ed (P := fun x => x = .int (n : Int)) hb rfl) (wa_nil (P := fun ss => ss = []) rfl) fun x ss e1 e2 => by rw [e1, e2]) (fun ss e => by rw [e]) σ H r _ fun vs H1 ss f1 h3 e => by
    subst e
    cases h3 with
    | cons a h3 =>
      have a : _ = V.ref k.d := a
      subst a
      obtain ⟨v, rfl, h4⟩ := args1 h3
      have h4 := dp_int h4
      subst h4
      refine ⟨k.d, k.nu, (n : Int), rfl, by omega, by omega, f1.drw, fun r H2 r0 r1 f2 => q (.int r) H2 (.int ((r.toNat : Nat) : Int)) (f1.trans f2) (by rw [Int.toNat_of_nonneg r0]; exact .int _) ⟨r.toNat, by omega, rfl⟩⟩
theorem we_I0 {g : Int → Int → Int} (ha : WE k ta ρ P) (hb : WE k tb ρ R) (hs : ∀ x y, P x → R y → ∃ i j, x = .int i ∧ y = .int j ∧ S (.int (g i j))) : WE k (tOp (rI0 fun i j => .int (g i j)) ta tb) ρ S := fun σ H r Q q =>
  ha σ H r _ fun v H1 x f1 h1 p1 => hb σ H1 (r.frm f1) _ fun w H2 y f2 h2 p2 => by
    obtain ⟨i, j, rfl, rfl, hs⟩ := hs x y p1 p2
    exact ⟨i, j, dp_int h1, dp_int h2, q _ H2 _ (f1.trans f2) (.int _) hs⟩
theorem we_tup {ta : TA} (h : WA k ta ρ fun ss => ∃ ds : List PD, ss = ds.map .dat ∧ ds.length ≤ 1000 ∧ P (.tuple ds)) : WE k (tTup ta) ρ P := fun σ H r Q q => h σ H r _ fun vs H1 ss f1 h1 ⟨ds, e, hl, hp⟩ => by
  subst e
  have h2 := args_dps h1
  refine ⟨by rw [dps_len h2]; exact Nat.le_of_lt (small1000 hl), fun p hp2 => ?_⟩
  have r1 := r.frm f1
  have kn : Keep k.T H1 (upd H1 p (.tup vs)) := .new hp2
  have pM : p ∉ k.M := fun m => (r1.sr.msk p m).2 hp2
  exact q _ _ _ (f1.trans (r1.keepF kn)) (.tup (.of (hid_of pM upd_same)) (dps_keep (hid_keep kn) r1.tabm h2)) hp
theorem wl_lst {ta : TA} {P : List PD → Prop} (h : WA k ta ρ fun ss => ∃ ds : List PD, ss = ds.map .dat ∧ ds.length ≤ 1000 ∧ P ds) : WL k (tLst ta) ρ P := fun σ H r Q q => h σ H r _ fun vs H1 ss f1 h1 ⟨ds, e, hl, hp⟩ => by
  subst e
  have h2 := args_dps h1
  refine ⟨by rw [dps_len h2]; exact Nat.le_of_lt (small1000 hl), fun p hp2 => ?_⟩
  have r1 := r.frm f1
  have kn : Keep k.T H1 (upd H1 p (.lst vs)) := .new hp2
  exact q p _ _ _ (f1.trans (r1.keepF kn)) (f1.free r.dr r.sr.tab hp2) upd_same (dps_keep (hid_keep kn) r1.tabm h2) hp
theorem wl_rep {P S : List PD → Prop} (ha : WL k ta ρ P) (hb : WE k tb ρ R) (hs : ∀ ds x, P ds → R x → ∃ n : Nat, x = .int (n : Int) ∧ ds.length * n ≤ 1000 ∧ n ≤ 1000000 ∧ S (List.replicate n ds).flatten) : WL k (tOp rRep ta tb) ρ S := fun σ H r Q q =>
  ha σ H r _ fun p xs H1 ds f1 hp e1 h1 p1 => hb σ H1 (r.frm f1) _ fun w H2 y f2 h2 p2 => by
    obtain ⟨n, rfl, hz, hn, hs⟩ := hs ds y p1 p2
    have r1 := r.frm f1
    have r2 := r1.frm f2
    obtain ⟨n1, n2⟩ := r.dr.ne hp
    have e2 : H2 p = some (.lst xs) := f2.lst r1.sr.tab e1 n1 n2
    have h3 := dps_keep (frm_hid r.hd r.hn f2) r1.tabm h1
    refine ⟨p, (n : Int), xs, rfl, dp_int h2, e2, by omega, by omega, ?_, fun z hz2 => ?_⟩
    · rw [Int.toNat_natCast, dps_len h1]
      exact Nat.le_of_lt (small1000 hz)
    · rw [Int.toNat_natCast]
      have kn : Keep k.T H2 (upd H2 z (.lst (List.replicate n xs).flatten)) := .new hz2
      exact q z _ _ _ ((f1.trans f2).trans (r2.keepF kn)) ((f1.trans f2).free r.dr r.sr.tab hz2) upd_same (dps_keep (hid_keep kn) r2.tabm (dps_rep n h3)) hs
theorem we_wl {P : List PD → Prop} (h : WL k te ρ P) (hp : ∀ ds, P ds → R (.list ds)) : WE k te ρ R := fun σ H r Q q => h σ H r _ fun p xs H1 ds f1 e0 e1 h1 p1 =>
  q _ H1 _ f1 (.lst (.of (hid_of (fun m => (r.sr.msk p m).2 e0) e1)) h1) (hp ds p1)
/-- [e for i in range(n)], e may draw -/
theorem wl_lcR {tn : TE} {i n : Nat} {vs : List Nat} (hi : i ∈ vs) (hn : ∀ H, ED (k.at H) tn ρ (.int (n : Int))) (hz : n ≤ 1000) (he : ∀ M j, j < n → WE (k.mask M) te ((wipeD ρ vs).set i (.dat (.int (j : Int)))) R) : WL k (tLc (iRng1 (tCons tn tNil)) (gName i) tYes te vs) ρ (fun ds => ds.length = n ∧ ∀ d ∈ ds, R d) := fun σ H r Q q =>
  hn H [] σ H r.sr _ fun v H1 k1 h1 => by
    have h1 := dp_int h1
    subst h1
    refine ⟨(n : Int), rfl, by omega, by omega, fun D hD => ?_⟩
    have r1 := r.frm (r.keepF k1)
    have nT : D ∉ k.T := fun m => by
      obtain ⟨ps, e, _⟩ := r1.sr.tab D m
      have e : H1 D = _ := e
      rw [hD] at e; cases e
    have f0 := r1.keepF (Keep.new (T := k.T) (o := .lst []) hD)
    obtain ⟨nd, nn⟩ := r1.dr.ne hD
    refine lc_range (lo := 0) (n := (n : Int).toNat) (fun j H2 => ∃ xs ds, LW.Frm k.T k.d k.nu H1 H2 ∧ H2 D = some (.lst xs) ∧ DpAll k.K (hid (D :: k.M) H2) xs ds ∧ ds.length = j ∧ ∀ d ∈ ds, R d) ⟨[], [], f0, upd_same, .nil, rfl, fun _ z => nomatch z⟩ ?_ ?_
    · rintro j H2 hj ⟨xs, ds, f2, e2, h2, hl, hR⟩
      have hj : j < n := by omega
      have r2 : SW (k.mask (D :: k.M)) σ H2 ρ := r1.more f2 hD (by rw [e2]; intro z; cases z) nT
      have r3 := (r2.wipe vs).setD i (v := .int (0 + (j : Int))) (x := .int (j : Int)) (by rw [Int.zero_add]; exact .int _)
      refine ⟨?_, ?_⟩
      · rw [wipe_set_in hi, wipe_wipe (fun _ h => h)]
      · refine he (D :: k.M) j hj _ H2 r3 _ fun y H3 x f3 h3 p3 => ?_
        have e3 : H3 D = some (.lst xs) := f3.lst r2.sr.tab e2 nd nn
        have h4 := dps_keep (frm_hid r2.hd r2.hn f3) r2.tabm h2
        have eh : hid (D :: k.M) (upd H3 D (.lst (xs ++ [y]))) = hid (D :: k.M) H3 := hid_in List.mem_cons_self
        refine ⟨xs, e3, ?_, xs ++ [y], ds ++ [x], (f2.trans f3).own r1.dr r1.sr.tab hD, upd_same, ?_, by rw [List.length_append, hl]; rfl, fun z hz2 => ?_⟩
        · rw [dps_len h2]
          exact small1000 (by omega)
        · rw [eh]
          exact dps_append h4 (.cons h3 .nil)
        · rcases List.mem_append.mp hz2 with m | m
          · exact hR z m
          · rw [List.mem_singleton.mp m]; exact p3
    · rintro H2 ⟨xs, ds, f2, e2, h2, hl, hR⟩
      exact q D xs H2 ds ((r.keepF k1).trans f2) ((r.keepF k1).free r.dr r.sr.tab hD) e2 (dps_same (hid_sub fun a m => List.mem_cons_of_mem _ m) h2) ⟨by omega, hR⟩
/-- x = e -/
theorem sw_set {i : Nat} {σ : L2.St} {H : Hp} {u : TS} {D : Ends} (r : SW k σ H ρ) (h : WE k te ρ P) (q : ∀ v H' x, P x → SW k (σ.set i (some v)) H' (ρ.set i (.dat x)) → u D (σ.set i (some v)) H') : tSeq (tAsg te (gName i)) u D σ H :=
  h σ H r _ fun v H' x f h' p => q v H' x p ((r.frm f).setD i h')
/-- draws begin -/
theorem sw_start {K : PySem.W.Frag} {T M : List Addr} {E : XK} {i j : Nat} {ns : List Int} {σ : L2.St} {H : Hp} {ρ : DEnv} {u : TS} {D : Ends} (r : SR ⟨K, T, M, H⟩ [] σ H ρ) (hj : ρ[j]? = some (.dat (.list (ns.map .int)))) (hl : ns.length ≤ 63)
    (q : ∀ d nu H', SW ⟨K, T, d :: nu :: M, d, nu⟩ (σ.set i (some (.ref d))) H' (ρ.set i (.raw (.ref d))) → u D (σ.set i (some (.ref d))) H') : tSeq (tAsg (tCall (LW.spStart K) [] E (tCons (tVar j) tNil)) (gName i)) u D σ H := by
  obtain ⟨ov, h1, h2⟩ := r.rel j _ hj
  cases ov with
  | none => exact False.elim h2
  | some v =>
    have h2 : Dp K (hid (M ++ []) H) v (.list (ns.map .int)) := h2
    obtain ⟨a, xs, rfl, h3, h4⟩ := dp_list h2
    have h4 := dps_flat h4 (by rw [List.all_map]; exact List.all_eq_true.mpr fun _ _ => rfl)
    rw [List.map_map] at h4
    subst h4
    refine ⟨.ref a, h1, a, ns, rfl, hid_same.seq h3, hl, fun d nu H' s hd hn dr => ?_⟩
    refine q d nu H' ⟨?_, dr, List.mem_cons_self, List.mem_cons_of_mem _ List.mem_cons_self⟩
    have t2 : Tabs T H' := (Keep.same s).tabs r.tab
    obtain ⟨ms, c, e1, e2, _⟩ := dr.ex
    have nT : ∀ {b : Addr} {zs : List V}, H' b = some (.lst zs) → b ∉ T := fun e m => by
      obtain ⟨ps, e', _⟩ := t2 _ m
      rw [e] at e'; cases e'
    have km : Keep T (hid M H) (hid (d :: nu :: M) H') := by
      have nm : ∀ {b : Addr} {o : HO}, H b = some o → b ∉ M → b ∉ d :: nu :: M := fun e m q => by
        rcases List.mem_cons.mp q with z | q
        · rw [z, hd] at e; cases e
        · rcases List.mem_cons.mp q with z | q
          · rw [z, hn] at e; cases e
          · exact m q
      refine ⟨fun b o e nb => ?_, fun P hP tb => ?_⟩
      · obtain ⟨m, e⟩ := hid_inv e
        exact hid_of (nm e m) (s b o e)
      · obtain ⟨ps, e, ok⟩ := tb
        obtain ⟨m, e⟩ := hid_inv e
        exact ⟨ps, hid_of (nm e m) (s P _ e), ok⟩
    have r2 : SR ⟨K, T, d :: nu :: M, H'⟩ [] σ H' ρ := r.reb km t2 fun b hb => by
      rcases List.mem_cons.mp hb with z | hb
      · rw [z]; exact ⟨nT e1, by rw [e1]; intro z; cases z⟩
      · rcases List.mem_cons.mp hb with z | hb
        · rw [z]; exact ⟨nT e2, by rw [e2]; intro z; cases z⟩
        · refine ⟨(r.msk b hb).1, ?_⟩
          cases e : H b with
          | none => exact absurd e (r.msk b hb).2
          | some o => rw [s b o e]; intro z; cases z
    exact r2.setS i (v := .ref d) (s := .raw (.ref d)) rfl (fun ds z => nomatch z)
end
end DL
/-! draws beside lists of one's own -/
namespace DL
open PySem PySem.Spec PyProof.Rows L2 DA
structure VC where
  K : PySem.W.Frag
  T : List Addr
  M : List Addr
  d : Addr
  nu : Addr
  Hs : Hp
abbrev VC.at (k : VC) (H : Hp) : DC := ⟨k.K, k.T, k.M, H⟩
/-- the state: plain data and own lists over a base that the draws went with -/
def SV (k : VC) (A : List Addr) (σ : L2.St) (H : Hp) (ρ : DEnv) : Prop := ∃ H0, SR (k.at H0) A σ H ρ ∧ LW.Frm k.T k.d k.nu k.Hs H0 ∧ k.d ∈ k.M ∧ k.nu ∈ k.M
section
variable {k : VC} {A : List Addr} {σ : L2.St} {H H' : Hp} {ρ : DEnv}
theorem drw_keep {T : List Addr} {d nu : Addr} {H H1 : Hp} (h : LW.Drw H d nu) (t : Tabs T H) (k : Keep T H H1) : LW.Drw H1 d nu := h.keep t k
theorem SV.drw (r : SV k A σ H ρ) : LW.Drw H k.d k.nu := let ⟨_, s, f, _⟩ := r; f.drw.keep s.tab s.keep
theorem SV.fs (r : SV k A σ H ρ) : LW.Frm k.T k.d k.nu k.Hs H := let ⟨_, s, f, _⟩ := r; f.trans (.keep f.drw s.tab s.keep)
theorem SV.tabs (r : SV k A σ H ρ) : Tabs k.T H := let ⟨_, s, _⟩ := r; s.tabs
theorem SV.tabm (r : SV k A σ H ρ) : Tabs k.T (hid (k.M ++ A) H) := let ⟨_, s, _⟩ := r; s.tabm
theorem SV.keepF (r : SV k A σ H ρ) (f : Keep k.T H H') : LW.Frm k.T k.d k.nu H H' := .keep r.drw r.tabs f
theorem SV.move (r : SV k A σ H ρ) (f : Keep k.T H H') : SV k A σ H' ρ := let ⟨H0, s, g⟩ := r; ⟨H0, s.move f, g⟩
theorem SV.hide (r : SV k A σ H ρ) (f : LW.Frm k.T k.d k.nu H H') : Keep k.T (hid (k.M ++ A) H) (hid (k.M ++ A) H') :=
  let ⟨_, _, _, hd, hn⟩ := r; frm_hid (List.mem_append_left _ hd) (List.mem_append_left _ hn) f
/-- the draws go on -/
theorem SV.frm (r : SV k A σ H ρ) (f : LW.Frm k.T k.d k.nu H H') : SV k A σ H' ρ := by
  have kh := r.hide f
  obtain ⟨H0, s, g, hd, hn⟩ := r
  obtain ⟨ns, c, e1, e2, e3⟩ := f.drw.ex
  have dT : k.d ∉ k.T := (s.msk k.d hd).1
  have nT : k.nu ∉ k.T := (s.msk k.nu hn).1
  have aN : ∀ a ∈ A, a ≠ k.d ∧ a ≠ k.nu := fun a ha => ⟨fun z => (s.msk k.d hd).2 (z ▸ (s.new a ha).1), fun z => (s.msk k.nu hn).2 (z ▸ (s.new a ha).1)⟩
  let H1 : Hp := fun b => if b = k.d then H' k.d else if b = k.nu then H' k.nu else H0 b
  have h1d : H1 k.d = H' k.d := if_pos rfl
  have h1n : H1 k.nu = H' k.nu := by
    show (if k.nu = k.d then H' k.d else if k.nu = k.nu then H' k.nu else H0 k.nu) = _
    by_cases z : k.nu = k.d
    · rw [if_pos z, z]
    · rw [if_neg z, if_pos rfl]
  have h1o : ∀ b, b ≠ k.d → b ≠ k.nu → H1 b = H0 b := fun b z1 z2 => by
    show (if b = k.d then H' k.d else if b = k.nu then H' k.nu else H0 b) = _
    rw [if_neg z1, if_neg z2]
  have tN : ∀ P ∈ k.T, P ≠ k.d ∧ P ≠ k.nu := fun P hP => ⟨fun z => dT (z ▸ hP), fun z => nT (z ▸ hP)⟩
  have tb : ∀ P ∈ k.T, GxR.TabG H0 P → GxR.TabG H1 P := fun P hP t => by
    obtain ⟨ps, e, ok⟩ := t
    exact ⟨ps, by rw [h1o P (tN P hP).1 (tN P hP).2]; exact e, ok⟩
  have kp : Keep k.T H1 H' := by
    refine ⟨fun b o e nb => ?_, fun P hP t => ?_⟩
    · by_cases z1 : b = k.d
      · rw [z1] at e ⊢
        rw [h1d] at e
        exact e
      · by_cases z2 : b = k.nu
        · rw [z2] at e ⊢
          rw [h1n] at e
          exact e
        · rw [h1o b z1 z2] at e
          exact f.at_ b o (s.keep.at_ b o e nb) z1 z2 nb
    · obtain ⟨ps, e, ok⟩ := t
      rw [h1o P (tN P hP).1 (tN P hP).2] at e
      exact f.tab P hP (s.keep.tab P hP ⟨ps, e, ok⟩)
  have sl : ∀ ov sx, SlotOk k.K (hid (k.M ++ A) H) H A ov sx → SlotOk k.K (hid (k.M ++ A) H') H' A ov sx := fun ov sx h => by
    cases sx with
    | own ds =>
      cases ov with
      | none =>
        obtain ⟨a, xs, z, _⟩ := h
      | some v =>
        obtain ⟨a, xs, z1, z2, z3, z4⟩ := h
        exact ⟨a, xs, z1, z2, f.at_ a _ z3 (aN a z2).1 (aN a z2).2 (s.nA z2), dps_keep kh s.tabm z4⟩
    | non => cases ov <;> exact h
    | dat d =>
      cases ov with
      | none => exact h
      | some v => exact ArgOk.keep (s := .dat d) kh s.tabm h
    | ob C fs =>
      cases ov with
      | none => exact h
      | some v => exact ArgOk.keep (s := .ob C fs) kh s.tabm h
    | raw w => cases ov <;> exact h
  refine ⟨H1, ⟨fun P hP => tb P hP (s.tab P hP), kp, fun a ha => ⟨(s.msk a ha).1, fun z => ?_⟩, fun a ha => ⟨?_, ?_⟩, s.len, fun i sx e => ?_, s.inj⟩, ⟨fun b o e z1 z2 nb => ?_, fun P hP t => tb P hP (g.tab P hP t), ⟨ns, c, by rw [h1d]; exact e1, by rw [h1n]; exact e2, e3⟩⟩, hd, hn⟩
  · by_cases z1 : a = k.d
    · have z : H1 a = none := z
      rw [z1, h1d, e1] at z
      cases z
    · by_cases z2 : a = k.nu
      · have z : H1 a = none := z
        rw [z2, h1n, e2] at z
        cases z
      · exact (s.msk a ha).2 ((h1o a z1 z2).symm.trans z)
  · show H1 a = none
    rw [h1o a (aN a ha).1 (aN a ha).2]
    exact (s.new a ha).1
  · obtain ⟨xs, e⟩ := (s.new a ha).2
    exact ⟨xs, f.at_ a _ e (aN a ha).1 (aN a ha).2 (s.nA ha)⟩
  · obtain ⟨ov, q1, q2⟩ := s.rel i sx e
    exact ⟨ov, q1, sl ov sx q2⟩
  · show H1 b = some o
    rw [h1o b z1 z2]
    exact g.at_ b o e z1 z2 nb
theorem SV.setD (r : SV k A σ H ρ) (i : Nat) {v : V} {x : PD} (h : Dp k.K (hid (k.M ++ A) H) v x) : SV k A (σ.set i (some v)) H (ρ.set i (.dat x)) := let ⟨H0, s, g⟩ := r; ⟨H0, s.setD i h, g⟩
end
/-! ### expressions -/
def VE (k : VC) (te : TE) (ρ : DEnv) (P : PD → Prop) : Prop := ∀ A σ H, SV k A σ H ρ → ∀ Q : VK, (∀ v H' x, LW.Frm k.T k.d k.nu H H' → Dp k.K (hid (k.M ++ A) H') v x → P x → Q v H') → te σ H Q
def VA (k : VC) (ta : TA) (ρ : DEnv) (P : List DS → Prop) : Prop := ∀ A σ H, SV k A σ H ρ → ∀ Q : List V → Hp → Prop, (∀ vs H' ss, LW.Frm k.T k.d k.nu H H' → ArgsOk k.K (hid (k.M ++ A) H') vs ss → P ss → Q vs H') → ta σ H Q
section
variable {k : VC} {ρ : DEnv} {te ta tb : TE} {tr : TA} {P R S : PD → Prop}
theorem ve_ed {x : PD} (h : ∀ H, ED (k.at H) te ρ x) (hp : P x) : VE k te ρ P := fun A σ H r Q q => by
  obtain ⟨H0, s, g⟩ := r
  exact h H0 A σ H s Q fun v H' k' h' => q v H' x (SV.keepF ⟨H0, s, g⟩ k') h' hp
theorem ve_is (h : VE k te ρ P) (hp : ∀ x, P x → R x) : VE k te ρ R := fun A σ H r Q q => h A σ H r Q fun v H' x f h' p => q v H' x f h' (hp x p)
theorem va_nil {P : List DS → Prop} (h : P []) : VA k tNil ρ P := fun A σ H r Q q => q [] H [] (.refl r.drw) .nil h
theorem va_cons {P : PD → Prop} {R S : List DS → Prop} (h : VE k te ρ P) (hr : VA k tr ρ R) (hs : ∀ x ss, P x → R ss → S (.dat x :: ss)) : VA k (tCons te tr) ρ S := fun A σ H r Q q =>
  h A σ H r _ fun v H1 x f1 h1 p1 => hr A σ H1 (r.frm f1) _ fun vs H2 ss f2 h2 p2 => q _ H2 _ (f1.trans f2) (.cons (ArgOk.keep (s := .dat x) ((r.frm f1).hide f2) (r.frm f1).tabm h1) h2) (hs x ss p1 p2)
theorem va_raw {i : Nat} {w : V} {R S : List DS → Prop} (h : ρ[i]? = some (.raw w)) (hr : VA k tr ρ R) (hs : ∀ ss, R ss → S (.raw w :: ss)) : VA k (tCons (tVar i) tr) ρ S := fun A σ H r Q q => by
  obtain ⟨H0, s, g⟩ := id r
  obtain ⟨ov, h1, h2⟩ := s.rel i _ h
  cases ov with
  | none => exact False.elim h2
  | some v =>
    have h2 : v = w := h2
    subst h2
    refine ⟨v, ?_, hr A σ H r _ fun vs H2 ss f2 h3 p2 => q _ H2 _ f2 (.cons (show ArgOk k.K (hid (k.M ++ A) H2) v (.raw v) from rfl) h3) (hs ss p2)⟩
    rw [h1]
theorem ve_draw {i : Nat} {E : XK} {n : Nat} (h : ρ[i]? = some (.raw (.ref k.d))) (hb : VE k tb ρ fun x => x = .int (n : Int)) (h1 : 1 ≤ n) (h2 : n ≤ 1000) : VE k (tCall (LW.spDraw k.T) [] E (tCons (tVar i) (tCons tb tNil))) ρ (fun x => ∃ r : Nat, r < n ∧ x = .int (r : Int)) := fun A σ H r Q q =>
  va_raw (R := fun ss => ss = [.dat (.int (n : Int))]) (S := fun ss => ss = [.raw (.ref k.d), .dat (.int (n : Int))]) h (va_cons hb (va_nil (P := fun ss => ss = []) rfl) fun x ss e1 e2 => by rw [e1, e2]) (fun ss e => by rw [e]) A σ H r _ fun vs H1 ss f1 h3 e => by
    subst e
    cases h3 with
    | cons a h3 =>
      have a : _ = V.ref k.d := a
      subst a
      obtain ⟨v, rfl, h4⟩ := args1 h3
      have h4 := dp_int h4
      subst h4
      exact ⟨k.d, k.nu, (n : Int), rfl, by omega, by omega, f1.drw, fun r H2 r0 r1 f2 => q (.int r) H2 (.int ((r.toNat : Nat) : Int)) (f1.trans f2) (by rw [Int.toNat_of_nonneg r0]; exact .int _) ⟨r.toNat, by omega, rfl⟩⟩
theorem ve_I0 {g : Int → Int → Int} (ha : VE k ta ρ P) (hb : VE k tb ρ R) (hs : ∀ x y, P x → R y → ∃ i j, x = .int i ∧ y = .int j ∧ S (.int (g i j))) : VE k (tOp (rI0 fun i j => .int (g i j)) ta tb) ρ S := fun A σ H r Q q =>
  ha A σ H r _ fun v H1 x f1 h1 p1 => hb A σ H1 (r.frm f1) _ fun w H2 y f2 h2 p2 => by
    obtain ⟨i, j, rfl, rfl, hs⟩ := hs x y p1 p2
    exact ⟨i, j, dp_int h1, dp_int h2, q _ H2 _ (f1.trans f2) (.int _) hs⟩
theorem SV.fresh {A : List Addr} {σ : L2.St} {H : Hp} (r : SV k A σ H ρ) {p : Addr} (hp : H p = none) : p ∉ k.M ++ A := let ⟨_, s, _⟩ := r; nfresh s hp
theorem ve_tup {ta : TA} (h : VA k ta ρ fun ss => ∃ ds : List PD, ss = ds.map .dat ∧ ds.length ≤ 1000 ∧ P (.tuple ds)) : VE k (tTup ta) ρ P := fun A σ H r Q q => h A σ H r _ fun vs H1 ss f1 h1 ⟨ds, e, hl, hp⟩ => by
  subst e
  have h2 := args_dps h1
  refine ⟨by rw [dps_len h2]; exact Nat.le_of_lt (small1000 hl), fun p hp2 => ?_⟩
  have r1 := r.frm f1
  have kn : Keep k.T H1 (upd H1 p (.tup vs)) := .new hp2
  exact q _ _ _ (f1.trans (r1.keepF kn)) (.tup (.of (hid_of (r1.fresh hp2) upd_same)) (dps_keep (hid_keep kn) r1.tabm h2)) hp
end
/-! ### defs that draw -/
def spW (K : PySem.W.Frag) (T : List Addr) (R : List DS → (PD → Prop) → Prop) : Sp := fun vs H Q _ => ∃ M d nu ss P, (∀ a ∈ M, a ∉ T ∧ H a ≠ none) ∧ d ∈ M ∧ nu ∈ M ∧ Tabs T H ∧ LW.Drw H d nu ∧ ArgsOk K (hid M H) vs (.raw (.ref d) :: ss) ∧ R ss P ∧
  ∀ v H' x, LW.Frm T d nu H H' → Dp K (hid M H') v x → P x → Q v H'
theorem ve_callW {k : VC} {ρ : DEnv} {ta : TA} {E : XK} {R : List DS → (PD → Prop) → Prop} {P : PD → Prop} (h : VA k ta ρ fun ss => ∃ s2, ss = .raw (.ref k.d) :: s2 ∧ R s2 P) : VE k (tCall (spW k.K k.T R) [] E ta) ρ P := fun A σ H r Q q => h A σ H r _ fun vs H1 ss f1 h1 ⟨s2, e, hR⟩ => by
  subst e
  have r1 := r.frm f1
  obtain ⟨H0, s, g, hd, hn⟩ := id r1
  exact ⟨k.M ++ A, k.d, k.nu, s2, P, s.nM, List.mem_append_left _ hd, List.mem_append_left _ hn, s.tabs, f1.drw, by rw [List.append_nil]; exact h1, hR, fun v H' x f h' p => q v H' x (f1.trans f) h' p⟩
/-- the same over draws alone (W1) -/
theorem we_callW {k : WC} {ρ : DEnv} {ta : TA} {E : XK} {R : List DS → (PD → Prop) → Prop} {P : PD → Prop} (h : WA k ta ρ fun ss => ∃ s2, ss = .raw (.ref k.d) :: s2 ∧ R s2 P) : WE k (tCall (spW k.K k.T R) [] E ta) ρ P := fun σ H r Q q => h σ H r _ fun vs H1 ss f1 h1 ⟨s2, e, hR⟩ => by
  subst e
  have r1 := r.frm f1
  exact ⟨k.M, k.d, k.nu, s2, P, r1.sr.msk, r1.hd, r1.hn, r1.sr.tab, f1.drw, by rw [List.append_nil]; exact h1, hR, fun v H' x f h' p => q v H' x (f1.trans f) h' p⟩
/-! ### statements -/
structure VEnds where
  nx : DEnv → Prop
  rt : PD → Prop
  bk : DEnv → Prop := fun _ => False
  ct : DEnv → Prop := fun _ => False
structure LeV (k : VC) (D : VEnds) (E : Ends) : Prop where
  nx : ∀ A σ H ρ, SV k A σ H ρ → D.nx ρ → E.nx σ H
  rt : ∀ v H d, LW.Frm k.T k.d k.nu k.Hs H → Dp k.K (hid k.M H) v d → D.rt d → E.rt v H
  bk : ∀ A σ H ρ, SV k A σ H ρ → D.bk ρ → E.bk σ H
  ct : ∀ A σ H ρ, SV k A σ H ρ → D.ct ρ → E.ct σ H
def VS (k : VC) (t : TS) (D : VEnds) (ρ : DEnv) : Prop := ∀ E, LeV k D E → ∀ A σ H, SV k A σ H ρ → t E σ H
section
variable {k : VC} {ρ : DEnv} {D : VEnds} {t u : TS} {te tk : TE} {P : PD → Prop}
/-- what draws nothing -/
theorem vs_sd (h : ∀ H0, SD (k.at H0) t ⟨D.nx, D.rt, D.bk, D.ct⟩ ρ) : VS k t D ρ := fun E L A σ H r => by
  obtain ⟨H0, s, g, hd, hn⟩ := r
  exact h H0 E ⟨fun A' σ' H' ρ' r' q => L.nx A' σ' H' ρ' ⟨H0, r', g, hd, hn⟩ q, fun v H' d kk hv q => L.rt v H' d (g.trans (.keep g.drw s.tab kk)) hv q, fun A' σ' H' ρ' r' q => L.bk A' σ' H' ρ' ⟨H0, r', g, hd, hn⟩ q, fun A' σ' H' ρ' r' q => L.ct A' σ' H' ρ' ⟨H0, r', g, hd, hn⟩ q⟩ A σ H s
theorem vs_seq (h : VS k t { D with nx := fun ρ' => VS k u D ρ' } ρ) : VS k (tSeq t u) D ρ := fun E L A σ H r => h { E with nx := u E } ⟨fun A' σ' H' ρ' r' q => q E L A' σ' H' r', L.rt, L.bk, L.ct⟩ A σ H r
theorem vs_next (h : D.nx ρ) : VS k tNext D ρ := fun E L A σ H r => L.nx A σ H ρ r h
theorem vs_set {i : Nat} (h : VE k te ρ P) (q : ∀ x, P x → D.nx (ρ.set i (.dat x))) : VS k (tAsg te (gName i)) D ρ := fun E L A σ H r => h A σ H r _ fun v H1 x f h1 p => L.nx _ _ _ _ ((r.frm f).setD i h1) (q x p)
theorem vs_ret (h : VE k te ρ P) (q : ∀ x, P x → D.rt x) : VS k (tRet te) D ρ := fun E L A σ H r => h A σ H r _ fun v H1 x f h1 p => L.rt v H1 x (r.fs.trans f) (dp_same (hid_sub fun a m => List.mem_append_left _ m) h1) (q x p)
theorem vs_if {tt : TT} {b : Bool} (h : ∀ H0, ET (k.at H0) tt ρ b) (h1 : b = true → VS k t D ρ) (h2 : b = false → VS k u D ρ) : VS k (tIfS tt t u) D ρ := fun E L A σ H r => by
  obtain ⟨H0, s, g⟩ := id r
  refine h H0 A σ H s _ fun H1 k1 => ?_
  cases b with
  | true => exact h1 rfl E L A σ H1 (r.move k1)
  | false => exact h2 rfl E L A σ H1 (r.move k1)
/-- xs.append(e), xs one's own, e may draw -/
theorem vs_app {i : Nat} {ds : List PD} (h0 : ρ[i]? = some (.own ds)) (h : VE k te ρ P) (hz : ds.length ≤ 1000) (q : ∀ x, P x → D.nx (ρ.set i (.own (ds ++ [x])))) : VS k (tDrop (tBM k.K "list" rAppend (tVar i) (tCons te tNil))) D ρ := fun E L A σ H r => by
  obtain ⟨H0, s, g⟩ := id r
  obtain ⟨a, xs, e1, e2, e3, e4⟩ := own_at s h0
  refine ⟨_, e1, .inl ⟨rfl, _, SqL.of e3⟩, h A σ H r _ fun v H1 x f h1 p => ?_⟩
  have r1 := r.frm f
  obtain ⟨H2, s2, g2⟩ := id r1
  obtain ⟨a2, ys, y1, y2, y3, y4⟩ := own_at s2 h0
  rw [e1] at y1
  cases y1
  refine ⟨a, ys, v, rfl, rfl, y3, by rw [dps_len y4]; exact small1000 hz, ?_⟩
  exact L.nx _ _ _ _ ⟨H2, s2.mut h0 e1 y2 (dps_append y4 (.cons h1 .nil)), g2⟩ (q x p)
/-- for i in range(n), n drawn or not: a word of the turn and the slots -/
theorem vs_forR {tb : TS} {tn : TE} {j : Nat} {Pn : Nat → Prop} (hn : VE k tn ρ fun x => ∃ n : Nat, n ≤ 1000 ∧ Pn n ∧ x = .int (n : Int)) (Inv : Nat → Nat → DEnv → Prop) (h0 : ∀ n, Pn n → Inv n 0 ρ)
    (hs : ∀ n i ρ', i < n → Inv n i ρ' → VS k tb { D with nx := Inv n (i + 1), ct := Inv n (i + 1), bk := D.nx } (ρ'.set j (.dat (.int (i : Int)))))
    (hd : ∀ n ρ', Inv n n ρ' → D.nx ρ') : VS k (tFor (iRng1 (tCons tn tNil)) (gName j) tb) D ρ := fun E L A σ H r => hn A σ H r _ fun v H1 x f h1 ⟨n, n1, pn, e⟩ => by
  subst e
  have h1 := dp_int h1
  subst h1
  have r1 := r.frm f
  refine ⟨(n : Int), rfl, by omega, by omega, ?_⟩
  refine ⟨fun i m σ' H' => m = n - i ∧ i ≤ n ∧ ∃ A' ρ', SV k A' σ' H' ρ' ∧ Inv n i ρ', ⟨_, rfl, Nat.zero_le _, A, ρ, r1, h0 n pn⟩, ?_⟩
  rintro i m σ' H' ⟨rfl, hle, A', ρ', r', hv⟩
  by_cases hlt : i < n
  · have hz : i < ((n : Nat) : Int).toNat := by rw [Int.toNat_natCast]; exact hlt
    refine .inr ⟨(by first | exact hz | exact hlt), fun σ2 H2 => ∃ A2 ρ2, SV k A2 σ2 H2 ρ2 ∧ Inv n (i + 1) ρ2, fun σ2 H2 ⟨A2, ρ2, r2, q⟩ => ⟨_, by omega, rfl, hlt, A2, ρ2, r2, q⟩, ?_⟩
    rintro x H2 ⟨rfl, rfl⟩
    refine hs n i ρ' hlt hv { E with nx := fun σ2 H2 => ∃ A2 ρ2, SV k A2 σ2 H2 ρ2 ∧ Inv n (i + 1) ρ2, ct := fun σ2 H2 => ∃ A2 ρ2, SV k A2 σ2 H2 ρ2 ∧ Inv n (i + 1) ρ2, bk := E.nx } ⟨fun A3 σ3 H3 ρ3 r3 q => ⟨A3, ρ3, r3, q⟩, L.rt, fun A3 σ3 H3 ρ3 r3 q => L.nx A3 σ3 H3 ρ3 r3 q, fun A3 σ3 H3 ρ3 r3 q => ⟨A3, ρ3, r3, q⟩⟩ A' _ H2 (r'.setD j ?_)
    first
      | exact .int _
      | (rw [Int.zero_add]; exact .int _)
  · have e : i = n := by omega
    subst e
    refine .inl ⟨?_, L.nx A' σ' H' ρ' r' (hd _ ρ' hv)⟩
    first
      | exact Nat.le_refl _
      | (show ((i : Nat) : Int).toNat ≤ i; rw [Int.toNat_natCast]; exact Nat.le_refl _)
end
end DL
/-! more of draws and own lists -/
namespace DL
open PySem PySem.Spec PyProof.Rows L2 DA
section
variable {c : DC} {ρ : DEnv} {D : DEnds} {te ta tb : TE} {d : PD}
/-- a, b = [], [] -/
theorem sd_new2 {i j : Nat} {xs ys : List PD} (hij : i ≠ j) (ha : EN c ta ρ xs) (hb : EN c tb ρ ys) (k : D.nx ((ρ.set i (.own xs)).set j (.own ys))) : SD c (tPar i j (tCons ta (tCons tb tNil))) D ρ := fun E L A σ H r =>
  ha A σ H r _ fun p1 us1 H1 k1 hp1 e1 g1 => by
    have r1 := r.grow k1 hp1 e1
    have g1 : DpAll c.K (hid (c.M ++ p1 :: A) H1) us1 xs := by
      rw [hid_cong (N := p1 :: (c.M ++ A)) (fun a => by simp [or_left_comm])]; exact g1
    refine hb _ σ H1 r1 _ fun p2 us2 H2 k2 hp2 e2 g2 => ?_
    have r2 := r1.grow k2 hp2 e2
    have g2 : DpAll c.K (hid (c.M ++ p2 :: p1 :: A) H2) us2 ys := by
      rw [hid_cong (N := p2 :: (c.M ++ p1 :: A)) (fun a => by simp [or_left_comm])]; exact g2
    have g1 := dps_keep (r1.growK k2 hp2 e2) r1.tabm g1
    have d21 : p1 ≠ p2 := fun z => by rw [← z, e1] at hp2; cases hp2
    have e1 := k2.at_ _ _ e1 (r1.nA List.mem_cons_self)
    have n1 := r.noOwn hp1
    have n2 := r1.noOwn hp2
    have q1 := r2.setO i (List.mem_cons_of_mem _ List.mem_cons_self) e1 g1 fun m gs _ => n1 m gs
    have n2' := noOwn_set (i := i) (s := .own xs) d21 n2
    exact ⟨_, _, rfl, L.nx _ _ _ _ (q1.setO j List.mem_cons_self e2 g2 fun m gs _ => n2' m gs) k⟩
/-- the same by a tuple's target -/
theorem sd_new2T {i j : Nat} {xs ys : List PD} (hij : i ≠ j) (ha : EN c ta ρ xs) (hb : EN c tb ρ ys) (k : D.nx ((ρ.set i (.own xs)).set j (.own ys))) : SD c (tAsg (tTup (tCons ta (tCons tb tNil))) (gTup c.K 2 (gCons (gName i) (gCons (gName j) gNil)))) D ρ := fun E L A σ H r =>
  ha A σ H r _ fun p1 us1 H1 k1 hp1 e1 g1 => by
    have r1 := r.grow k1 hp1 e1
    have g1 : DpAll c.K (hid (c.M ++ p1 :: A) H1) us1 xs := by
      rw [hid_cong (N := p1 :: (c.M ++ A)) (fun a => by simp [or_left_comm])]; exact g1
    refine hb _ σ H1 r1 _ fun p2 us2 H2 k2 hp2 e2 g2 => ?_
    have r2 := r1.grow k2 hp2 e2
    have g2 : DpAll c.K (hid (c.M ++ p2 :: p1 :: A) H2) us2 ys := by
      rw [hid_cong (N := p2 :: (c.M ++ p1 :: A)) (fun a => by simp [or_left_comm])]; exact g2
    have g1 := dps_keep (r1.growK k2 hp2 e2) r1.tabm g1
    have d21 : p1 ≠ p2 := fun z => by rw [← z, e1] at hp2; cases hp2
    have e1 := k2.at_ _ _ e1 (r1.nA List.mem_cons_self)
    refine ⟨by show 2 ≤ sizeLine; decide, fun p hp => ?_⟩
    have kn : Keep c.T H2 (upd H2 p (.tup [.ref p1, .ref p2])) := .new hp
    have r3 := r2.move kn
    have g1 := dps_keep (hid_keep kn) r2.tabm g1
    have g2 := dps_keep (hid_keep kn) r2.tabm g2
    have e1 := kn.at_ _ _ e1 (r2.nA (List.mem_cons_of_mem _ List.mem_cons_self))
    have e2 := kn.at_ _ _ e2 (r2.nA List.mem_cons_self)
    have n1 := r.noOwn hp1
    have n2 := r1.noOwn hp2
    have q1 := r3.setO i (List.mem_cons_of_mem _ List.mem_cons_self) e1 g1 fun m gs _ => n1 m gs
    have n2' := noOwn_set (i := i) (s := .own xs) d21 n2
    have q2 := q1.setO j List.mem_cons_self e2 g2 fun m gs _ => n2' m gs
    exact ⟨p, _, rfl, .of upd_same, rfl, _, _, rfl, _, _, rfl, rfl, L.nx _ _ _ _ q2 k⟩
/-- a list of one's own as a value that is read at once -/
def EV (c : DC) (te : TE) (ρ : DEnv) (d : PD) : Prop := ∀ A σ H, SR c A σ H ρ → ∀ Q : VK, (∀ v H', Keep c.T H H' → Dp c.K H' v d → Q v H') → te σ H Q
theorem ev_ed (h : ED c te ρ d) : EV c te ρ d := fun A σ H s Q q => h A σ H s Q fun v H' k g => q v H' k (dp_same hid_same g)
theorem ev_el {ds : List PD} (h : EL c te ρ ds) : EV c te ρ (.list ds) := fun A σ H s Q q => h A σ H s Q fun a xs H' k g1 g2 => q _ H' k (.lst g1 (dps_same hid_same g2))
theorem ed_eqV {x y : PD} (ha : EV c ta ρ x) (hb : ED c tb ρ y) (hx : SeqAt.shaped x = true) (hy : SeqAt.shaped y = true) (hk : ∀ A σ H H' v, SR c A σ H ρ → Keep c.T H H' → Dp c.K H v x → Dp c.K H' v x := by intro A σ H H' v s k h; exact dp_keep k s.tabs h) : ED c (tOp (rEqD c.K) ta tb) ρ (.bool (PyData.eqv x y)) := fun A σ H s Q q =>
  ha A σ H s _ fun v H1 k1 g1 => hb A σ H1 (s.move k1) _ fun w H2 k2 g2 => ⟨x, y, hk A σ H1 H2 v (s.move k1) k2 g1, dp_same hid_same g2, hx, hy, q _ H2 (k1.trans k2) (.bl _)⟩
theorem ed_neV {x y : PD} (ha : EV c ta ρ x) (hb : ED c tb ρ y) (hx : SeqAt.shaped x = true) (hy : SeqAt.shaped y = true) (hk : ∀ A σ H H' v, SR c A σ H ρ → Keep c.T H H' → Dp c.K H v x → Dp c.K H' v x := by intro A σ H H' v s k h; exact dp_keep k s.tabs h) : ED c (tOp (rNeD c.K) ta tb) ρ (.bool (!PyData.eqv x y)) := fun A σ H s Q q =>
  ha A σ H s _ fun v H1 k1 g1 => hb A σ H1 (s.move k1) _ fun w H2 k2 g2 => ⟨x, y, hk A σ H1 H2 v (s.move k1) k2 g1, dp_same hid_same g2, hx, hy, q _ H2 (k1.trans k2) (.bl _)⟩
/-- xs.remove(n): whole numbers of one's own -/
theorem sd_remove {i : Nat} {ns : List Int} {n : Int} {j : Nat} (h0 : ρ[i]? = some (.own (ns.map .int))) (h : ED c te ρ (.int n)) (e1 : ns[j]? = some n) (e2 : ∀ m : Nat, m < j → ns[m]? ≠ some n) (k : D.nx (ρ.set i (.own ((ns.eraseIdx j).map .int)))) :
    SD c (tDrop (tBM c.K "list" rRemI (tVar i) (tCons te tNil))) D ρ := fun E L A σ H r => by
  obtain ⟨a, xs, h1, ha, h2, h3⟩ := own_at r h0
  have ex : xs = ns.map V.int := by
    have := dps_flat h3 (by rw [List.all_map]; exact List.all_eq_true.mpr fun _ _ => rfl)
    rw [List.map_map] at this
    exact this
  refine ⟨_, h1, .inl ⟨rfl, _, SqL.of h2⟩, h A σ H r _ fun v H1 k1 g1 => ?_⟩
  have g1 := dp_int g1
  subst g1
  have r1 := r.move k1
  have h4 := k1.at_ _ _ h2 (r.nA ha)
  rw [ex] at h4
  refine ⟨a, ns, n, j, rfl, rfl, h4, e1, e2, L.nx _ _ _ _ (r1.mut h0 h1 ha ?_) k⟩
  have : ∀ l : List Int, DpAll c.K (hid (c.M ++ A) H1) (l.map V.int) (l.map .int) := fun l => by
    induction l with
    | nil => exact .nil
    | cons x r ih => exact .cons (.int x) ih
  exact this _
end
section
variable {k : VC} {ρ : DEnv} {te ta tb : TE}
/-- xs[e], e drawn: one of the items -/
theorem ve_ixL {ds : List PD} (ha : ∀ H0, ED (k.at H0) ta ρ (.list ds)) (hb : VE k tb ρ fun x => ∃ r : Nat, r < ds.length ∧ x = .int (r : Int)) : VE k (tOp (rIxL k.K) ta tb) ρ fun x => x ∈ ds := fun A σ H r Q q => by
  obtain ⟨H0, s, g⟩ := id r
  refine ha H0 A σ H s _ fun v H1 k1 h1 => ?_
  have r1 := r.move k1
  refine hb A σ H1 r1 _ fun w H2 y f2 h2 ⟨n, hn, e⟩ => ?_
  subst e
  have h2 := dp_int h2
  subst h2
  have h3 := dp_keep (r1.hide f2) r1.tabm h1
  obtain ⟨a, xs, rfl, g1, g2⟩ := dp_list h3
  have e1 : atI ds ((n : Nat) : Int) = some ds[n] := by
    unfold atI
    rw [show ixN ds.length ((n : Nat) : Int) = some n from by
      unfold ixN
      rw [if_pos (by omega), if_pos (by omega)]
      simp]
    exact List.getElem?_eq_getElem hn
  obtain ⟨z, z1, z2⟩ := atI_map g2 e1
  exact ⟨a, xs, (n : Int), z, rfl, rfl, hid_same.seq g1, z1, q z H2 _ ((r.keepF k1).trans f2) z2 (List.getElem_mem hn)⟩
end
/-- one of a list of one's own, of whole numbers -/
def R_pick : List DS → (PD → Prop) → Prop := fun ss P => ∃ ds : List PD, ds ≠ [] ∧ ds.length ≤ 1000 ∧ ss = [.dat (.list ds)] ∧ P = fun x => x ∈ ds
theorem ve_pickOwn {k : VC} {ρ : DEnv} {E : XK} {i j : Nat} {ds : List PD} (h0 : ρ[j]? = some (.raw (.ref k.d))) (h : ρ[i]? = some (.own ds)) (hn : ds ≠ []) (hl : ds.length ≤ 1000) (hf : ds.all flatD = true) : VE k (tCall (spW k.K k.T R_pick) [] E (tCons (tVar j) (tCons (tVar i) tNil))) ρ fun x => x ∈ ds := fun A σ H r Q q => by
  obtain ⟨H0, s, g, hd, hv⟩ := id r
  obtain ⟨ov, y1, y2⟩ := s.rel j _ h0
  cases ov with
  | none => exact False.elim y2
  | some v =>
    have y2 : v = .ref k.d := y2
    subst y2
    obtain ⟨a, xs, e1, e2, e3, e4⟩ := own_at s h
    have aM : a ∉ k.M := fun m => (s.msk a m).2 (s.new a e2).1
    refine ⟨_, y1, _, e1, ?_⟩
    refine ⟨k.M, k.d, k.nu, [.dat (.list ds)], fun x => x ∈ ds, fun b hb => s.nM b (List.mem_append_left _ hb), hd, hv, s.tabs, r.drw, ?_, ⟨ds, hn, hl, rfl, rfl⟩, fun v H' x f hx p => ?_⟩
    · exact .cons (show ArgOk k.K (hid k.M H) (.ref k.d) (.raw (.ref k.d)) from rfl) (.cons (show Dp k.K (hid k.M H) (.ref a) (.list ds) from .lst (.of (hid_of aM e3)) (dps_same (hid_sub fun b m => List.mem_append_left _ m) e4)) .nil)
    · have fx := List.all_eq_true.mp hf x p
      rw [dp_flat hx fx]
      exact q _ H' x f (flat_dp fx) p
section
variable {P : Program} {w : World} {K : PySem.W.Frag} {mg : Str → Option Value} {base : Heap}
/-- a def that draws -/
theorem fn_vs {T : List Addr} {x qual : Str} {st : Stmt} {f : Addr} {fd : FuncData} {N ps : List Str} {kk : Nat} {R : List DS → (PD → Prop) → Prop} (F : Fun K x qual st f fd) (S : FnScope N ps (defScope st)) (hl : ∀ ss R2, R ss R2 → ss.length + 1 = ps.length)
    (hb : ∀ (cdv : Value) (A : Around) (outer : List Env) (s : Shared) (H : Hp) (E : XK), Room kk (A.deeper (envOfC qual (defScope st) s.heap.objs.size f cdv)) →
      ∃ t, PSs (cxOf CX0 P w K mg base N qual (defScope st) f cdv A outer s H E).nox (defBody st) t ∧ ∀ M d nu Hs ss R2, R ss R2 → VS ⟨K, T, M, d, nu, Hs⟩ t { nx := fun _ => R2 .none, rt := R2 } (startD N (.raw (.ref d) :: ss))) : FnOk P w K mg base CX0 (kk + 1) f fd ps (spW K T R) := by
  refine F.ok S (fun vs H Q E h => ?_) (fun cdv A outer s H vs Q E hr h => ?_)
  · obtain ⟨M, d, nu, ss, R2, _, _, _, _, _, h3, h4, _⟩ := h
    rw [h3.len]
    exact hl ss R2 h4
  · obtain ⟨M, d, nu, ss, R2, h1, hd, hn, h2, hD, h3, h4, q⟩ := h
    obtain ⟨t, ht, hq⟩ := hb cdv A outer s H E hr
    refine ⟨t, ht, hq M d nu H ss R2 h4 _ ⟨fun A' σ' H' ρ' r' e => q .non H' .none r'.fs .non e, fun v H' e f h5 h6 => q v H' e f h5 h6, fun _ _ _ _ _ z => z.elim, fun _ _ _ _ _ z => z.elim⟩ [] _ H ⟨H, start_sr h1 h2 h3, .refl hD, hd, hn⟩⟩
end
end DL
namespace PT
open PySem PySem.Spec PyProof.Rows L2 DA DL TR TL
/-! ### what the layer lacks: while with draws, list(range(n)), draws without own lists, a drawn count -/
section
variable {k : VC} {ρ : DEnv} {D : VEnds} {te tn ta tb' : TE} {P R S : PD → Prop}
theorem vs_while {tt : TT} {tb : TS} (Inv : Nat → DEnv → Prop) (m0 : Nat) (h0 : Inv m0 ρ)
    (hs : ∀ m ρ', Inv m ρ' → ∃ b, (∀ H0, ET (k.at H0) tt ρ' b) ∧ (b = true → VS k tb { D with nx := fun ρ2 => ∃ m', m' < m ∧ Inv m' ρ2, ct := fun ρ2 => ∃ m', m' < m ∧ Inv m' ρ2, bk := D.nx } ρ') ∧ (b = false → D.nx ρ')) : VS k (tWhile tt tb) D ρ := fun E L A σ H r => by
  refine ⟨fun m σ' H' => ∃ A' ρ', SV k A' σ' H' ρ' ∧ Inv m ρ', ⟨m0, A, ρ, r, h0⟩, ?_⟩
  rintro m σ' H' ⟨A', ρ', r', hv⟩
  obtain ⟨b, hb, h1, h2⟩ := hs m ρ' hv
  obtain ⟨H0, s, g⟩ := id r'
  refine hb H0 A' σ' H' s _ fun H1 k1 => ?_
  have r1 := r'.move k1
  cases b with
  | true =>
    refine ⟨fun σ2 H2 => ∃ m', m' < m ∧ ∃ A2 ρ2, SV k A2 σ2 H2 ρ2 ∧ Inv m' ρ2, fun σ2 H2 ⟨m', q2, A2, ρ2, r2, q1⟩ => ⟨m', q2, A2, ρ2, r2, q1⟩, ?_⟩
    exact h1 rfl { E with nx := fun σ2 H2 => ∃ m', m' < m ∧ ∃ A2 ρ2, SV k A2 σ2 H2 ρ2 ∧ Inv m' ρ2, ct := fun σ2 H2 => ∃ m', m' < m ∧ ∃ A2 ρ2, SV k A2 σ2 H2 ρ2 ∧ Inv m' ρ2, bk := E.nx } ⟨fun A3 σ3 H3 ρ3 r3 ⟨m', q, q'⟩ => ⟨m', q, A3, ρ3, r3, q'⟩, L.rt, fun A3 σ3 H3 ρ3 r3 q => L.nx A3 σ3 H3 ρ3 r3 q, fun A3 σ3 H3 ρ3 r3 ⟨m', q, q'⟩ => ⟨m', q, A3, ρ3, r3, q'⟩⟩ A' σ' H1 r1
  | false => exact L.nx A' σ' H1 ρ' r1 (h2 rfl)
def plainS : DS → Bool
  | .own _ => false
  | .ob _ _ => false
  | _ => true
theorem sv_sw {A : List Addr} {σ : L2.St} {H : Hp} (r : SV k A σ H ρ) (hp : ρ.all plainS = true) : SW ⟨k.K, k.T, k.M ++ A, k.d, k.nu⟩ σ H ρ := by
  obtain ⟨H0, s, g, hd, hn⟩ := id r
  refine ⟨⟨s.tabs, .refl, fun a ha => s.nM a ha, fun a z => (nomatch z), s.len, fun i sx e => ?_, fun i j ds es a hij e1 e2 => ?_⟩, r.drw, List.mem_append_left _ hd, List.mem_append_left _ hn⟩
  · obtain ⟨ov, q1, q2⟩ := s.rel i sx e
    have hsx := List.all_eq_true.mp hp sx (List.mem_of_getElem? e)
    refine ⟨ov, q1, ?_⟩
    rw [List.append_nil]
    cases sx with
    | own ds => cases hsx
    | ob C fs => cases hsx
    | non => cases ov <;> exact trivial
    | dat d => cases ov <;> exact q2
    | raw w => cases ov <;> exact q2
  · have hsx := List.all_eq_true.mp hp _ (List.mem_of_getElem? e1)
    cases hsx
theorem ve_we (hp : ρ.all plainS = true) (h : ∀ M, WE ⟨k.K, k.T, M, k.d, k.nu⟩ te ρ P) : VE k te ρ P := fun A σ H r Q q => h (k.M ++ A) σ H (sv_sw r hp) Q q
end
section
variable {k : WC} {ρ : DEnv} {te tn ta tb : TE} {P R S : PD → Prop}
theorem we_tupleL {K : PySem.W.Frag} {P : List PD → Prop} (hK : K = k.K) (h : WL k te ρ P) (hp : ∀ ds, P ds → R (.tuple ds)) : WE k (tCB (fun xs H Q => ∃ p ys, xs = [.ref p] ∧ ((SqL K H p ys ∧ ∀ l, H l = none → Q (.ref l) (upd H l (.tup ys))) ∨ (SqT K H p ys ∧ Q (.ref p) H))) (tCons te tNil)) ρ R := fun σ H r Q q => h σ H r _ fun p xs H1 ds f1 e0 e1 h1 p1 => by
  subst hK
  refine ⟨p, xs, rfl, .inl ⟨.of e1, fun l hl => ?_⟩⟩
  have r1 := r.frm f1
  have kn : Keep k.T H1 (upd H1 l (.tup xs)) := .new hl
  have lM : l ∉ k.M := fun m => (r1.sr.msk l m).2 hl
  exact q _ _ _ (f1.trans (r1.keepF kn)) (.tup (.of (hid_of lM upd_same)) (dps_keep (hid_keep kn) r1.tabm h1)) (hp ds p1)
/-- [e for i in range(n)], n drawn, e may draw -/
theorem wl_lcD {i : Nat} {vs : List Nat} {Pn : Nat → Prop} {S : List PD → Prop} (hi : i ∈ vs) (hn : WE k tn ρ fun x => ∃ n : Nat, n ≤ 1000 ∧ Pn n ∧ x = .int (n : Int)) (he : ∀ M j n, j < n → Pn n → WE (k.mask M) te ((wipeD ρ vs).set i (.dat (.int (j : Int)))) R) (hS : ∀ n ds, Pn n → ds.length = n → (∀ d ∈ ds, R d) → S ds) : WL k (tLc (iRng1 (tCons tn tNil)) (gName i) tYes te vs) ρ S := fun σ H r Q q =>
  hn σ H r _ fun v H1 x fr h1 ⟨n, hz, pn, e⟩ => by
    subst e
    have h1 := dp_int h1
    subst h1
    refine ⟨(n : Int), rfl, by omega, by omega, fun D hD => ?_⟩
    have r1 := r.frm fr
    have nT : D ∉ k.T := fun m => by
      obtain ⟨ps, e, _⟩ := r1.sr.tab D m
      have e : H1 D = _ := e
      rw [hD] at e; cases e
    have f0 := r1.keepF (Keep.new (T := k.T) (o := .lst []) hD)
    obtain ⟨nd, nn⟩ := r1.dr.ne hD
    refine lc_range (lo := 0) (n := (n : Int).toNat) (fun j H2 => ∃ xs ds, LW.Frm k.T k.d k.nu H1 H2 ∧ H2 D = some (.lst xs) ∧ DpAll k.K (hid (D :: k.M) H2) xs ds ∧ ds.length = j ∧ ∀ d ∈ ds, R d) ⟨[], [], f0, upd_same, .nil, rfl, fun _ z => nomatch z⟩ ?_ ?_
    · rintro j H2 hj ⟨xs, ds, f2, e2, h2, hl, hR⟩
      have hj : j < n := by omega
      have r2 : SW (k.mask (D :: k.M)) σ H2 ρ := r1.more f2 hD (by rw [e2]; intro z; cases z) nT
      have r3 := (r2.wipe vs).setD i (v := .int (0 + (j : Int))) (x := .int (j : Int)) (by rw [Int.zero_add]; exact .int _)
      refine ⟨?_, ?_⟩
      · rw [wipe_set_in hi, wipe_wipe (fun _ h => h)]
      · refine he (D :: k.M) j n hj pn _ H2 r3 _ fun y H3 x f3 h3 p3 => ?_
        have e3 : H3 D = some (.lst xs) := f3.lst r2.sr.tab e2 nd nn
        have h4 := dps_keep (frm_hid r2.hd r2.hn f3) r2.tabm h2
        have eh : hid (D :: k.M) (upd H3 D (.lst (xs ++ [y]))) = hid (D :: k.M) H3 := hid_in List.mem_cons_self
        refine ⟨xs, e3, ?_, xs ++ [y], ds ++ [x], (f2.trans f3).own r1.dr r1.sr.tab hD, upd_same, ?_, by rw [List.length_append, hl]; rfl, fun z hz2 => ?_⟩
        · rw [dps_len h2]
          exact small1000 (by omega)
        · rw [eh]
          exact dps_append h4 (.cons h3 .nil)
        · rcases List.mem_append.mp hz2 with m | m
          · exact hR z m
          · rw [List.mem_singleton.mp m]; exact p3
    · rintro H2 ⟨xs, ds, f2, e2, h2, hl, hR⟩
      exact q D xs H2 ds (fr.trans f2) (fr.free r.dr r.sr.tab hD) e2 (dps_same (hid_sub fun a m => List.mem_cons_of_mem _ m) h2) (hS n ds pn (by omega) hR)
end
section
variable {c : DC} {ρ : DEnv} {te : TE}
theorem en_listRg {n : Nat} (h : ED c te ρ (.int (n : Int))) (hn : n ≤ 1000) : EN c (tLstRg (tRg1 te)) ρ ((K13.rgI n).map .int) := fun A σ H r Q q => h A σ H r _ fun v H1 k1 h1 => by
  have h1 := dp_int h1
  subst h1
  refine ⟨(n : Int), rfl, RgOk.of_le (by decide) (by omega) (by decide) (by omega), fun p hp => ?_⟩
  have e : rgV 0 (n : Int) = (K13.rgI n).map V.int := by
    unfold rgV K13.rgI
    rw [List.map_map, Int.sub_zero]
    refine List.map_congr_left fun i _ => ?_
    show V.int (0 + (i : Int)) = V.int (i : Int)
    rw [Int.zero_add]
  rw [e]
  have : ∀ (l : List Int) {K : PySem.W.Frag} {H : Hp}, DpAll K H (l.map V.int) (l.map .int) := fun l => by
    intro K H
    induction l with
    | nil => exact .nil
    | cons x r ih => exact .cons (.int x) ih
  exact q p _ _ (k1.trans (.new hp)) (k1.free r.tabs hp) upd_same (this _)
end
end PT
namespace K13
open PySem PySem.Spec PyProof.Rows L2 DA
abbrev intT (l : List Int) : PD := .tuple (l.map .int)
theorem intsOf_map : ∀ l : List Int, intsOf (l.map .int) = l
  | [] => rfl
  | k :: l => by
    show k :: intsOf (l.map .int) = _
    rw [intsOf_map l]
theorem row_ints (l : List Int) (m lo hi : Int) : rowD (intT l) m lo hi = (decide ((l.length : Int) = m) && l.all fun x => decide (lo ≤ x) && decide (x ≤ hi)) := by
  show (decide (((l.map PyData.int).length : Int) = m) && (l.map PyData.int).all fun x => numD x lo hi) = _
  rw [List.length_map, List.all_map]
  rfl
theorem row_ok {l : List Int} {m lo hi : Int} (h1 : (l.length : Int) = m) (h2 : ∀ x ∈ l, lo ≤ x ∧ x ≤ hi) : rowD (intT l) m lo hi = true := by
  rw [row_ints, decide_eq_true h1, Bool.true_and, List.all_eq_true]
  intro x hx
  obtain ⟨a, b⟩ := h2 x hx
  rw [decide_eq_true a, decide_eq_true b]; rfl
theorem rgI_len (n : Nat) : (rgI (n : Int)).length = n := by
  unfold rgI
  rw [List.length_map, List.length_range, Int.toNat_natCast]
theorem rgI_sorted (n : Nat) : (rgI (n : Int)).Pairwise (· ≤ ·) := by
  unfold rgI
  rw [List.pairwise_map, Int.toNat_natCast]
  exact List.pairwise_lt_range.imp fun h => by omega
theorem rgI_mem {n : Nat} {x : Int} (h : x ∈ rgI (n : Int)) : 0 ≤ x ∧ x ≤ (n : Int) - 1 := by
  unfold rgI at h
  obtain ⟨k, hk, rfl⟩ := List.mem_map.mp h
  have := List.mem_range.mp hk
  rw [Int.toNat_natCast] at this
  omega
theorem order_perm {ls : List Int} {n : Nat} (h : ls.Perm (rgI n)) : orderD (intT ls) n = true := by
  show (rowD (intT ls) n 0 ((n : Int) - 1) && decide (isort (intsOf (ls.map .int)) = rgI n)) = true
  rw [intsOf_map, row_ok (by rw [h.length_eq, rgI_len]) fun x hx => rgI_mem (h.mem_iff.mp hx), Bool.true_and]
  exact decide_eq_true (sorted_unique ((isort_perm ls).trans h) (isort_sorted ls) (rgI_sorted n))
theorem idx_first {n : Int} : ∀ (ns : List Int) (m : Nat), m < ns.idxOf n → ns[m]? ≠ some n
  | [], m, h => by simp at h
  | x :: r, 0, h => by
    intro e
    have e' : x = n := by simpa using e
    rw [e', List.idxOf_cons_self] at h
    exact absurd h (Nat.lt_irrefl _)
  | x :: r, m + 1, h => by
    have hx : ¬ x = n := fun e' => by
      rw [e', List.idxOf_cons_self] at h
      omega
    have e0 : List.idxOf n (x :: r) = List.idxOf n r + 1 := by rw [List.idxOf_cons, show (x == n) = false from beq_eq_false_iff_ne.mpr hx]; rfl
    rw [e0] at h
    have := idx_first r m (Nat.lt_of_succ_lt_succ h)
    simpa using this
theorem first_ix {ns : List Int} {n : Int} (h : n ∈ ns) : ns[ns.idxOf n]? = some n ∧ (∀ m : Nat, m < ns.idxOf n → ns[m]? ≠ some n) ∧ ns.eraseIdx (ns.idxOf n) = ns.erase n := by
  refine ⟨?_, fun m hm e => idx_first ns m hm e, ?_⟩
  · have := List.idxOf_lt_length_iff.mpr h
    rw [List.getElem?_eq_getElem this, List.getElem_idxOf]
  · exact (List.erase_eq_eraseIdx_of_idxOf rfl).symm


end K13
namespace PT
open PySem PySem.Spec PyProof.Rows L2 DA DL TR TL
theorem eqv_nil (ds : List PD) : PyData.eqv (.list ds) (.list []) = ds.isEmpty := by cases ds <;> rfl
theorem flat_int (ns : List Int) : (ns.map PyData.int).all flatD = true := by rw [List.all_map]; exact List.all_eq_true.mpr fun _ _ => rfl
theorem ints_sh (ns : List Int) : SeqAt.shaped (.list (ns.map PyData.int)) = true := LW.ints_shaped ns
theorem sh_nil : SeqAt.shaped (.list []) = true := by decide
theorem ord_of_perm {ls : List Int} {n : Nat} (h : ls.Perm (K13.rgI n)) : ∃ o : List Nat, ls.map PyData.int = o.map intD ∧ ordN n o := by
  have hp := K13.order_perm h
  have hm : ∀ x ∈ ls, 0 ≤ x := fun x hx => (K13.rgI_mem (h.mem_iff.mp hx)).1
  refine ⟨ls.map Int.toNat, ?_, ?_⟩
  · rw [List.map_map]
    refine List.map_congr_left fun x hx => ?_
    show PyData.int x = .int ((x.toNat : Nat) : Int)
    rw [Int.toNat_of_nonneg (hm x hx)]
  · show K13.orderD (.tuple ((ls.map Int.toNat).map intD)) n = true
    have e : (ls.map Int.toNat).map intD = ls.map PyData.int := by
      rw [List.map_map]
      refine List.map_congr_left fun x hx => ?_
      show PyData.int ((x.toNat : Nat) : Int) = .int x
      rw [Int.toNat_of_nonneg (hm x hx)]
    rw [e]
    exact hp
def R_order : List DS → (PD → Prop) → Prop := fun ss P => ∃ n : Nat, 1 ≤ n ∧ n ≤ 4 ∧ ss = [.dat (intD n)] ∧ P = fun x => ∃ o, x = natsT o ∧ ordN n o
abbrev sPick : Stmt := top 43
abbrev nPick : List Str := ["_law_draws", "_law_choices"]
theorem scPick : FnScope nPick ["_law_draws", "_law_choices"] (defScope sPick) := ⟨rfl, rfl, rfl, by decide +kernel, rfl, by decide +kernel, by decide +kernel⟩
section
variable {P : Program} {w : World} {K : PySem.W.Frag} {mg : Str → Option Value} {base : Heap} {f : Addr} {fd : FuncData} {T : List Addr}
theorem ok__law_pick (F : Fun K "_law_pick" "_law_pick" sPick f fd) (G : Glob K mg) {fD : Addr} {dD : FuncData} (c__law_draw : Cal P w K mg base "_law_draw" 1 ["_law_draws", "_law_limit"] (LW.spDraw T) fD dD) : FnOk P w K mg base CX0 2 f fd ["_law_draws", "_law_choices"] (spW K T R_pick) := by
  refine fn_vs F scPick (fun ss R2 h => ?_) (fun cdv A outer s H E hr => ⟨_, (pss_one (ps_ret (pe_ix ix_list (pv 1) (pe_call c__law_draw.ok (hr.mono (by decide)) (by rfl) c__law_draw.g c__law_draw.kp c__law_draw.b .nil pass0 (pa_cons (pv 0) (pa_cons (pe_callB call_len_seq (by rfl) G.len PySem.boot_len (pa_cons (pv 1) pa_nil)) pa_nil))) (fun _ _ => rfl)))), fun M d nu Hs ss R2 h => ?_⟩)
  · obtain ⟨ds, h1, h2, rfl, rfl⟩ := h
    rfl
  · obtain ⟨ds, h1, h2, rfl, rfl⟩ := h
    have hl : 1 ≤ ds.length := List.length_pos_iff.mpr h1
    exact vs_ret (ve_ixL (ds := ds) (fun H0 => ed_var rfl) (ve_draw (n := ds.length) rfl (ve_ed (fun H0 => ed_lenL (el_ed (ed_var rfl))) rfl) hl h2)) fun x hx => hx
end
abbrev sLOrd : Stmt := top 45
abbrev nLOrd : List Str := ["_law_draws", "_law_size", "_law_left", "_law_found"]
theorem scLOrd : FnScope nLOrd ["_law_draws", "_law_size"] (defScope sLOrd) := ⟨rfl, rfl, rfl, by decide +kernel, rfl, by decide +kernel, by decide +kernel⟩
section
variable {P : Program} {w : World} {K : PySem.W.Frag} {mg : Str → Option Value} {base : Heap} {f : Addr} {fd : FuncData} {T : List Addr}
theorem ok__law_order (F : Fun K "_law_order" "_law_order" sLOrd f fd) (G : Glob K mg) {fP : Addr} {dP : FuncData} (c__law_pick : Cal P w K mg base "_law_pick" 2 ["_law_draws", "_law_choices"] (spW K T R_pick) fP dP) : FnOk P w K mg base CX0 3 f fd ["_law_draws", "_law_size"] (spW K T R_order) := by
  refine fn_vs F scLOrd (fun ss R2 h => ?_) (fun cdv A outer s H E hr => ⟨_, (pss_cons (ps_par (i := 2) (j := 3) (by rfl) scLOrd.nd rfl rfl (by decide) rfl rfl (pa_cons (pe_listRg rfl (by rfl) G.list (prg_1 (by rfl) G.range (pv 1))) (pa_cons (pe_lst pa_nil) pa_nil)) (by rfl))
      (pss_cons (ps_while PassesOwn.never (pt_cmpR (op_neD hr.units) (pv 2) (pe_lst pa_nil) (nomark _)) (pss_cons (ps_expr (pe_bm PySem.F.plainAttrs_list PySem.F.slot_list_append PySem.F.type_list_append mt_append (pv 3) (pa_cons (pe_call c__law_pick.ok (hr.mono (by decide)) (by rfl) c__law_pick.g c__law_pick.kp c__law_pick.b .nil pass0 (pa_cons (pv 0) (pa_cons (pv 2) pa_nil))) pa_nil)))
      (pss_one (ps_expr (pe_bm PySem.F.plainAttrs_list PySem.F.slot_list_remove PySem.F.type_list_remove mt_remove (pv 2) (pa_cons (pe_ix ix_list (pv 3) (pe_un un_neg pe_int) (fun _ _ => rfl)) pa_nil))))))
      (pss_one (ps_ret (pe_callTy call_tuple_of (by rfl) G.tuple (by decide +kernel) (pa_cons (pv 3) pa_nil)))))), fun M d nu Hs ss R2 h => ?_⟩)
  · obtain ⟨n, n1, n4, rfl, rfl⟩ := h
    rfl
  · obtain ⟨n, n1, n4, rfl, rfl⟩ := h
    refine vs_seq (vs_sd fun H0 => sd_new2 (i := 2) (j := 3) (xs := (K13.rgI n).map .int) (ys := []) (by decide) (en_listRg (ed_var rfl) (by omega)) (en_lst (ds := []) ea_nil (by decide)) ?_)
    refine vs_seq (vs_while (fun m ρ' => ∃ left found : List Int, ρ' = [.raw (.ref d), .dat (intD n), .own (left.map .int), .own (found.map .int)] ∧ m = left.length ∧ (found ++ left).Perm (K13.rgI n)) (K13.rgI n).length ⟨K13.rgI n, [], rfl, rfl, List.Perm.refl _⟩ ?_)
    rintro m ρ' ⟨left, found, rfl, rfl, pm⟩
    have hlen : found.length + left.length = n := by
      have := pm.length_eq
      rw [List.length_append, K13.rgI_len] at this
      exact this
    refine ⟨!(left.map PyData.int).isEmpty, fun H0 => et_is (et_test (ed_neV (x := .list (left.map .int)) (y := .list []) (ev_el (el_own rfl)) (ed_en (en_lst (ds := []) ea_nil (by decide))) (ints_sh left) sh_nil)) (by rw [eqv_nil]), fun hb => ?_, fun hb => ?_⟩
    · have hne : left.map PyData.int ≠ [] := fun z => by rw [z] at hb; cases hb
      refine vs_seq (vs_app (P := fun x => ∃ l : Int, l ∈ left ∧ x = .int l) rfl (ve_is (ve_pickOwn (i := 2) (j := 0) rfl rfl hne (by rw [List.length_map]; omega) (flat_int _)) (fun x hx => ?_)) (by rw [List.length_map]; omega) (fun x ⟨l, hl, e⟩ => ?_))
      · obtain ⟨l, hl, rfl⟩ := List.mem_map.mp hx
        exact ⟨l, hl, rfl⟩
      · subst e
        obtain ⟨g1, g2, g3⟩ := K13.first_ix hl
        have eh : found.map PyData.int ++ [.int l] = (found ++ [l]).map .int := by rw [List.map_append]; rfl
        rw [eh]
        refine vs_sd fun H0 => sd_remove (ns := left) (n := l) (j := left.idxOf l) rfl (ed_ixL (ds := (found ++ [l]).map .int) (i := -1) (el_own rfl) (ed_un_neg ed_int) ?_) g1 g2 ?_
        · unfold atI
          rw [List.length_map, List.length_append, show ixN (found.length + [l].length) (-1) = some found.length from by
            show ixN (found.length + 1) (-1) = _
            unfold ixN
            first
              | (rw [if_neg (by omega), if_pos (by omega)]; simp; omega)
              | (rw [if_neg (by omega)]; simp; omega)
              | (rw [if_neg (by omega), if_pos (by omega)]; simp)
              | (simp; omega)]
          show ((found ++ [l]).map PyData.int)[found.length]? = _
          rw [List.getElem?_map, List.getElem?_append, if_neg (by omega), Nat.sub_self]
          rfl
        · rw [g3]
          have hne2 : left ≠ [] := fun z => by rw [z] at hl; cases hl
          refine ⟨(left.erase l).length, ?_, left.erase l, found ++ [l], rfl, rfl, ?_⟩
          · rw [List.length_erase_of_mem hl]
            have := List.length_pos_iff.mpr hne2
            omega
          · rw [List.append_assoc]
            exact (List.Perm.append_left found (List.perm_cons_erase hl).symm).trans pm
    · have hz : left = [] := by
        cases left with
        | nil => rfl
        | cons a r => cases hb
      subst hz
      rw [List.append_nil] at pm
      obtain ⟨o, e1, e2⟩ := ord_of_perm pm
      refine vs_sd fun H0 => sd_ret (d := natsT o) (ed_is (ed_tupleL rfl (el_own (ds := found.map .int) rfl)) ?_) ⟨o, rfl, e2⟩
      rw [e1]
      rfl
end
end PT
namespace PT
open PySem PySem.Spec PyProof.Rows L2 DA DL TR TL
/-! ### draws in tuples; picks of what is drawn -/
section
variable {k : VC} {ρ : DEnv} {te ta : TE} {tr : TA} {P S : PD → Prop} {R : List PD → Prop}
def VT (k : VC) (ta : TA) (ρ : DEnv) (R : List PD → Prop) : Prop := VA k ta ρ fun ss => ∃ ds : List PD, ss = ds.map .dat ∧ R ds
theorem vt_nil : VT k tNil ρ fun ds => ds = [] := va_nil ⟨[], rfl, rfl⟩
theorem vt_cons (h : VE k te ρ P) (hr : VT k tr ρ R) : VT k (tCons te tr) ρ fun ds => ∃ x r, ds = x :: r ∧ P x ∧ R r := va_cons h hr fun x ss hx ⟨ds, e, hR⟩ => ⟨x :: ds, by rw [e]; rfl, x, ds, rfl, hx, hR⟩
theorem ve_tupT {ta : TA} (h : VT k ta ρ R) (hp : ∀ ds, R ds → ds.length ≤ 1000 ∧ P (.tuple ds)) : VE k (tTup ta) ρ P := ve_tup fun A σ H r Q q => h A σ H r Q fun vs H' ss f a ⟨ds, e, hR⟩ => q vs H' ss f a ⟨ds, e, (hp ds hR).1, (hp ds hR).2⟩
theorem vs_when {D : VEnds} {tt : TT} {t : TS} {b : Bool} (h : ∀ H0, ET (k.at H0) tt ρ b) (h1 : b = true → VS k t D ρ) (h2 : b = false → D.nx ρ) : VS k (tIfS tt t tNext) D ρ := vs_if h h1 fun e => vs_next (h2 e)
theorem ve_lst {ta : TA} (h : VT k ta ρ R) (hp : ∀ ds, R ds → ds.length ≤ 1000 ∧ P (.list ds)) : VE k (tLst ta) ρ P := fun A σ H r Q q => h A σ H r _ fun vs H1 ss f1 h1 ⟨ds, e, hR⟩ => by
  subst e
  have h2 := args_dps h1
  obtain ⟨hl, hP⟩ := hp ds hR
  refine ⟨by rw [dps_len h2]; exact Nat.le_of_lt (small1000 hl), fun p hp2 => ?_⟩
  have r1 := r.frm f1
  have kn : Keep k.T H1 (upd H1 p (.lst vs)) := .new hp2
  exact q _ _ _ (f1.trans (r1.keepF kn)) (.lst (.of (hid_of (r1.fresh hp2) upd_same)) (dps_keep (hid_keep kn) r1.tabm h2)) hP
/-- one of a list: what holds of all holds of it -/
def R_pickM : List DS → (PD → Prop) → Prop := fun ss P => ∃ ds : List PD, ds ≠ [] ∧ ds.length ≤ 1000 ∧ ss = [.dat (.list ds)] ∧ ∀ x ∈ ds, P x
theorem pickM {P : Program} {w : World} {K : PySem.W.Frag} {mg : Str → Option Value} {base : Heap} {CX : CXT} {kk : Nat} {f : Addr} {fd : FuncData} {ps : List Str} {T : List Addr} (h : FnOk P w K mg base CX kk f fd ps (spW K T R_pick)) : FnOk P w K mg base CX kk f fd ps (spW K T R_pickM) := h.imp fun vs H Q E ⟨M, d, nu, ss, PP, h1, h2, h3, h4, h5, h6, ⟨ds, a1, a2, a3, a4⟩, q⟩ =>
  ⟨M, d, nu, ss, fun x => x ∈ ds, h1, h2, h3, h4, h5, h6, ⟨ds, a1, a2, a3, rfl⟩, fun v H' x f hx hm => q v H' x f hx (a4 x hm)⟩
theorem ve_pick {E : XK} {P : PD → Prop} (h0 : ρ[0]? = some (.raw (.ref k.d))) (h : VE k te ρ fun x => ∃ ds : List PD, x = .list ds ∧ ds ≠ [] ∧ ds.length ≤ 1000 ∧ ∀ y ∈ ds, P y) : VE k (tCall (spW k.K k.T R_pickM) [] E (tCons (tVar 0) (tCons te tNil))) ρ P :=
  ve_callW (R := R_pickM) (va_raw (R := fun ss => ∃ ds : List PD, ss = [.dat (.list ds)] ∧ ds ≠ [] ∧ ds.length ≤ 1000 ∧ ∀ y ∈ ds, P y) h0 (va_cons h (va_nil (P := fun ss => ss = []) rfl) fun x ss ⟨ds, e, h1, h2, h3⟩ e2 => ⟨ds, by rw [e, e2], h1, h2, h3⟩) fun ss ⟨ds, e, h1, h2, h3⟩ => ⟨_, rfl, ds, h1, h2, e, h3⟩)
theorem ve_dr {E : XK} {m : Nat} (h0 : ρ[0]? = some (.raw (.ref k.d))) (h : ∀ H0, ED (k.at H0) te ρ (.int (m : Int))) (h1 : 1 ≤ m) (h2 : m ≤ 1000) : VE k (tCall (LW.spDraw k.T) [] E (tCons (tVar 0) (tCons te tNil))) ρ fun x => ∃ r, r < m ∧ x = intD r := ve_draw h0 (ve_ed h rfl) h1 h2
theorem ve_dr1 {E : XK} {m : Nat} (h0 : ρ[0]? = some (.raw (.ref k.d))) (h : ∀ H0, ED (k.at H0) te ρ (.int (m : Int))) (h1 : 1 ≤ m) (h2 : m ≤ 1000) : VE k (tOp (rI0 fun i j => .int (i + j)) (tC (.int 1)) (tCall (LW.spDraw k.T) [] E (tCons (tVar 0) (tCons te tNil)))) ρ fun x => ∃ r, 1 ≤ r ∧ r ≤ m ∧ x = intD r :=
  ve_I0 (g := fun i j => i + j) (P := fun x => x = .int 1) (ve_ed (fun H0 => ed_int) rfl) (ve_dr h0 h h1 h2) fun x y e1 ⟨r, h5, e2⟩ => ⟨1, (r : Int), e1, e2, r + 1, by omega, by omega, by
    show PyData.int (1 + (r : Int)) = .int ((r + 1 : Nat) : Int)
    rw [Int.natCast_add, Int.add_comm]
    rfl⟩
end
theorem we_dr1 {k : WC} {ρ : DEnv} {te : TE} {E : XK} {m : Nat} (h0 : ρ[0]? = some (.raw (.ref k.d))) (h : ∀ H0, ED (k.at H0) te ρ (.int (m : Int))) (h1 : 1 ≤ m) (h2 : m ≤ 1000) : WE k (tOp (rI0 fun i j => .int (i + j)) (tC (.int 1)) (tCall (LW.spDraw k.T) [] E (tCons (tVar 0) (tCons te tNil)))) ρ fun x => ∃ r, 1 ≤ r ∧ r ≤ m ∧ x = intD r :=
  we_I0 (g := fun i j => i + j) (P := fun x => x = .int 1) (we_ed (fun H0 => ed_int) rfl) (we_draw h0 h h1 h2) fun x y e1 ⟨r, h5, e2⟩ => ⟨1, (r : Int), e1, e2, r + 1, by omega, by omega, by
    show PyData.int (1 + (r : Int)) = .int ((r + 1 : Nat) : Int)
    rw [Int.natCast_add, Int.add_comm]
    rfl⟩
theorem nats_of {lo hi : Nat} : ∀ {ds : List PD}, (∀ d ∈ ds, ∃ r, lo ≤ r ∧ r ≤ hi ∧ d = intD r) → ∃ ls : List Nat, ds = ls.map intD ∧ inR lo hi ls
  | [], _ => ⟨[], rfl, fun x z => nomatch z⟩
  | d :: ds, h => by
    obtain ⟨r, h1, h2, rfl⟩ := h _ List.mem_cons_self
    obtain ⟨ls, rfl, hl⟩ := nats_of fun x hx => h x (List.mem_cons_of_mem _ hx)
    exact ⟨r :: ls, rfl, fun x hx => by
      rcases List.mem_cons.mp hx with z | z
      · rw [z]; exact ⟨h1, h2⟩
      · exact hl x z⟩
def R_lsched : List DS → (PD → Prop) → Prop := fun ss P => ∃ n : Nat, 1 ≤ n ∧ n ≤ 4 ∧ ss = [.dat (intD n)] ∧ P = fun x => ∃ s : Sc, x = s.enc ∧ s.ok n
abbrev kinds8 : List PD := [.str "first", .str "last", .str "order", .str "rounds", .str "levels", .str "aging", .str "due", .str "shares"]
abbrev sLSch : Stmt := top 46
abbrev nLSch : List Str := ["_law_draws", "_law_size", "_law_kind", "_law_tops", "_law_rule", "_law_quanta", "_law_level", "_law_top", "_law_slot"]
theorem scLSch : FnScope nLSch ["_law_draws", "_law_size"] (defScope sLSch) := ⟨rfl, rfl, rfl, by decide +kernel, rfl, by decide +kernel, by decide +kernel⟩
section
variable {P : Program} {w : World} {K : PySem.W.Frag} {mg : Str → Option Value} {base : Heap} {f : Addr} {fd : FuncData} {T : List Addr}
theorem ok__law_scheduler (F : Fun K "_law_scheduler" "_law_scheduler" sLSch f fd) (G : Glob K mg) {fD : Addr} {dD : FuncData} (c__law_draw : Cal P w K mg base "_law_draw" 1 ["_law_draws", "_law_limit"] (LW.spDraw T) fD dD) {fP : Addr} {dP : FuncData} (c__law_pick : Cal P w K mg base "_law_pick" 2 ["_law_draws", "_law_choices"] (spW K T R_pickM) fP dP) {fO : Addr} {dO : FuncData} (c__law_order : Cal P w K mg base "_law_order" 3 ["_law_draws", "_law_size"] (spW K T R_order) fO dO) : FnOk P w K mg base CX0 4 f fd ["_law_draws", "_law_size"] (spW K T R_lsched) := by
  refine fn_vs F scLSch (fun ss R2 h => ?_) (fun cdv A outer s H E hr => ⟨_, (pss_cons (ps_set (i := 2) scLSch.nd rfl (.inl rfl) (pe_call c__law_pick.ok (hr.mono (by decide)) (by rfl) c__law_pick.g c__law_pick.kp c__law_pick.b .nil pass0 (pa_cons (pv 0) (pa_cons (pe_lst (pa_cons pe_str (pa_cons pe_str (pa_cons pe_str (pa_cons pe_str (pa_cons pe_str (pa_cons pe_str (pa_cons pe_str (pa_cons pe_str pa_nil))))))))) pa_nil))))
      (pss_cons (ps_if (pt_cmpR op_in_seq (pv 2) (pe_tup (pa_cons pe_str (pa_cons pe_str pa_nil))) (by rfl)) (pss_one (ps_ret (pe_tup (pa_cons (pv 2) pa_nil)))) pss_nil)
      (pss_cons (ps_if (pt_cmpR op_eq (pv 2) pe_str (nomark _)) (pss_cons (ps_set (i := 3) scLSch.nd rfl (.inl rfl) (pe_tup (pa_cons (pe_call c__law_draw.ok (hr.mono (by decide)) (by rfl) c__law_draw.g c__law_draw.kp c__law_draw.b .nil pass0 (pa_cons (pv 0) (pa_cons (pv 1) pa_nil))) (pa_cons (pe_call c__law_draw.ok (hr.mono (by decide)) (by rfl) c__law_draw.g c__law_draw.kp c__law_draw.b .nil pass0 (pa_cons (pv 0) (pa_cons (pv 1) pa_nil))) pa_nil))))
      (pss_cons (ps_set (i := 4) scLSch.nd rfl (.inl rfl) (pe_call c__law_pick.ok (hr.mono (by decide)) (by rfl) c__law_pick.g c__law_pick.kp c__law_pick.b .nil pass0 (pa_cons (pv 0) (pa_cons (pe_lst (pa_cons (pe_tup (pa_cons pe_str pa_nil)) (pa_cons (pe_tup (pa_cons pe_str pa_nil)) (pa_cons (pe_tup (pa_cons pe_str (pa_cons (pv 3) pa_nil))) pa_nil)))) pa_nil))))
      (pss_one (ps_ret (pe_tup (pa_cons (pv 2) (pa_cons (pe_call c__law_order.ok (hr.mono (by decide)) (by rfl) c__law_order.g c__law_order.kp c__law_order.b .nil pass0 (pa_cons (pv 0) (pa_cons (pv 1) pa_nil))) (pa_cons (pe_call c__law_draw.ok (hr.mono (by decide)) (by rfl) c__law_draw.g c__law_draw.kp c__law_draw.b .nil pass0 (pa_cons (pv 0) (pa_cons pe_int pa_nil))) (pa_cons (pv 4) pa_nil))))))))) pss_nil)
      (pss_cons (ps_if (pt_cmpR op_eq (pv 2) pe_str (nomark _)) (pss_one (ps_ret (pe_tup (pa_cons (pv 2) (pa_cons (pe_op op_add pe_int (pe_call c__law_draw.ok (hr.mono (by decide)) (by rfl) c__law_draw.g c__law_draw.kp c__law_draw.b .nil pass0 (pa_cons (pv 0) (pa_cons pe_int pa_nil)))) (pa_cons (pe_call c__law_draw.ok (hr.mono (by decide)) (by rfl) c__law_draw.g c__law_draw.kp c__law_draw.b .nil pass0 (pa_cons (pv 0) (pa_cons pe_int pa_nil))) pa_nil)))))) pss_nil)
      (pss_cons (ps_if (pt_cmpR op_eq (pv 2) pe_str (nomark _)) (pss_cons (ps_set (i := 5) scLSch.nd rfl (.inl rfl) (pe_callTy call_tuple_of (by rfl) G.tuple (by decide +kernel) (pa_cons (pe_lc (own := [("_law_level", 6)]) (g := (gName 6)) (tt := tYes) (te := (tOp (rI0 fun i j => .int (i + j)) (tC (.int 1)) (tCall (LW.spDraw T) [] E0 (tCons (tVar 0) (tCons (tC (.int 4)) tNil))))) rfl scLSch.nd (pi_range1 (by rfl) G.range (pa_cons (pe_op op_add pe_int (pe_call c__law_draw.ok (hr.mono (by decide)) (by rfl) c__law_draw.g c__law_draw.kp c__law_draw.b .nil pass0 (pa_cons (pv 0) (pa_cons pe_int pa_nil)))) pa_nil)) (blkOk_by (N := nLSch) (sc := defScope sLSch) (by decide +kernel)) (fun _ _ _ _ _ => (pg_name (i := 6) scLSch.nd rfl (.inl rfl))) (fun _ _ _ _ _ => pts_nil) (fun _ _ _ _ _ => (pe_op op_add pe_int (pe_call c__law_draw.ok (hr.mono (by decide)) (by rfl) c__law_draw.g c__law_draw.kp c__law_draw.b .nil pass0 (pa_cons (pv 0) (pa_cons pe_int pa_nil)))))) pa_nil)))
      (pss_one (ps_ret (pe_tup (pa_cons (pv 2) (pa_cons (pv 5) (pa_cons (pe_call c__law_pick.ok (hr.mono (by decide)) (by rfl) c__law_pick.g c__law_pick.kp c__law_pick.b .nil pass0 (pa_cons (pv 0) (pa_cons (pe_lst (pa_cons pe_int (pa_cons pe_int (pa_cons (pe_op op_add pe_int (pe_call c__law_draw.ok (hr.mono (by decide)) (by rfl) c__law_draw.g c__law_draw.kp c__law_draw.b .nil pass0 (pa_cons (pv 0) (pa_cons pe_int pa_nil)))) pa_nil)))) pa_nil))) pa_nil))))))) pss_nil)
      (pss_cons (ps_if (pt_cmpR op_eq (pv 2) pe_str (nomark _)) (pss_one (ps_ret (pe_tup (pa_cons (pv 2) (pa_cons (pe_call c__law_order.ok (hr.mono (by decide)) (by rfl) c__law_order.g c__law_order.kp c__law_order.b .nil pass0 (pa_cons (pv 0) (pa_cons (pv 1) pa_nil))) (pa_cons (pe_op op_add pe_int (pe_call c__law_draw.ok (hr.mono (by decide)) (by rfl) c__law_draw.g c__law_draw.kp c__law_draw.b .nil pass0 (pa_cons (pv 0) (pa_cons pe_int pa_nil)))) pa_nil)))))) pss_nil)
      (pss_cons (ps_set (i := 7) scLSch.nd rfl (.inr rfl) (pe_ifExp (pt_cmpR op_eq (pv 2) pe_str (nomark _)) pe_int pe_int))
      (pss_one (ps_ret (pe_tup (pa_cons (pv 2) (pa_cons (pe_callTy call_tuple_of (by rfl) G.tuple (by decide +kernel) (pa_cons (pe_lc (own := [("_law_slot", 8)]) (g := (gName 8)) (tt := tYes) (te := (tOp (rI0 fun i j => .int (i + j)) (tC (.int 1)) (tCall (LW.spDraw T) [] E0 (tCons (tVar 0) (tCons (tVar 7) tNil))))) rfl scLSch.nd (pi_range1 (by rfl) G.range (pa_cons (pv 1) pa_nil)) (blkOk_by (N := nLSch) (sc := defScope sLSch) (by decide +kernel)) (fun _ _ _ _ _ => (pg_name (i := 8) scLSch.nd rfl (.inl rfl))) (fun _ _ _ _ _ => pts_nil) (fun _ _ _ _ _ => (pe_op op_add pe_int (pe_call c__law_draw.ok (hr.mono (by decide)) (by rfl) c__law_draw.g c__law_draw.kp c__law_draw.b .nil pass0 (pa_cons (pv 0) (pa_cons (pv 7) pa_nil)))))) pa_nil)) pa_nil)))))))))))), fun M d nu Hs ss R2 h => ?_⟩)
  · obtain ⟨n, n1, n4, rfl, rfl⟩ := h
    rfl
  · obtain ⟨n, n1, n4, rfl, rfl⟩ := h
    refine vs_seq (vs_set (P := fun x => ∃ kd : Str, x = .str kd ∧ PyData.str kd ∈ kinds8) (ve_pick rfl (ve_ed (fun H0 => ed_en (en_lst (ds := kinds8) (ea_d ed_str (ea_d ed_str (ea_d ed_str (ea_d ed_str (ea_d ed_str (ea_d ed_str (ea_d ed_str (ea_d ed_str ea_nil)))))))) (by decide))) ⟨kinds8, rfl, List.cons_ne_nil _ _, by decide, fun y hy => ?_⟩)) fun x hx => ?_)
    · simp only [kinds8, List.mem_cons, List.not_mem_nil, or_false] at hy
      rcases hy with rfl | rfl | rfl | rfl | rfl | rfl | rfl | rfl <;> exact ⟨_, rfl, by simp [kinds8]⟩
    obtain ⟨kd, rfl, hkd⟩ := hx
    have lt : ∀ {z : Str} {a b c e f g : DS}, ∀ H0, ET ((⟨K, T, M, d, nu, Hs⟩ : VC).at H0) (tTest (tOp rEq (tVar 2) (tC (.str z)))) [.raw (.ref d), .dat (intD n), .dat (.str kd), a, b, c, e, f, g] (decide (kd = z)) := fun {z a b c e f g} H0 => et_is (et_test (ed_eq (x := .str kd) (y := .str z) (ed_var rfl) ed_str rfl rfl rfl)) (eqStr kd z)
    have ord : ∀ {ρ : DEnv}, ρ[0]? = some (.raw (.ref d)) → ρ[1]? = some (.dat (intD n)) → VE ⟨K, T, M, d, nu, Hs⟩ (tCall (spW K T R_order) [] E0 (tCons (tVar 0) (tCons (tVar 1) tNil))) ρ fun x => ∃ o, x = natsT o ∧ ordN n o := fun {ρ} h0 h1 => ve_callW (k := ⟨K, T, M, d, nu, Hs⟩) (R := R_order) (va_raw (R := fun ss => ss = [.dat (intD n)]) h0 (va_cons (P := fun x => x = intD n) (ve_ed (fun H0 => ed_var h1) rfl) (va_nil (P := fun ss => ss = []) rfl) fun x ss e1 e2 => by rw [e1, e2]) fun ss e => ⟨_, rfl, n, n1, n4, e, rfl⟩)
    -- first, last
    refine vs_seq (vs_when (b := decide (kd = "first" ∨ kd = "last")) (fun H0 => et_is (et_test (ed_inT (neg := false) (x := .str kd) (ys := [.str "first", .str "last"]) (ed_var rfl) (ed_tup (ds := [.str "first", .str "last"]) (ea_d ed_str (ea_d ed_str ea_nil)) (by decide)) rfl rfl)) (inStr2 kd _ _)) (fun h => ?_) fun h => ?_)
    · have h := of_decide_eq_true h
      exact vs_ret (ve_ed (x := .tuple [.str kd]) (P := fun x => ∃ s : Sc, x = s.enc ∧ s.ok n) (fun H0 => ed_tup (ds := [.str kd]) (ea_d (ed_var rfl) ea_nil) (by simp)) ⟨.bare kd, rfl, h⟩) fun x hx => hx
    have c1 := of_decide_eq_false h
    -- order
    refine vs_seq (vs_when lt (fun h => ?_) fun h => ?_)
    · have h := of_decide_eq_true h
      subst h
      refine vs_seq (vs_set (P := fun x => ∃ a b, a < n ∧ b < n ∧ x = natsT [a, b]) (ve_tupT (vt_cons (ve_dr (m := n) rfl (fun H0 => ed_var rfl) n1 (by omega)) (vt_cons (ve_dr (m := n) rfl (fun H0 => ed_var rfl) n1 (by omega)) vt_nil)) ?_) fun x hx => ?_)
      · rintro ds ⟨x, _, rfl, ⟨a, ha, rfl⟩, y, _, rfl, ⟨b, hb, rfl⟩, rfl⟩
        exact ⟨by simp, a, b, ha, hb, rfl⟩
      obtain ⟨a, b, ha, hb, rfl⟩ := hx
      refine vs_seq (vs_set (P := fun x => ∃ r : Rl, x = r.enc ∧ r.ok n) (ve_pick rfl (ve_ed (fun H0 => ed_en (en_lst (ds := [.tuple [.str "plain"], .tuple [.str "lent"], .tuple [.str "top", natsT [a, b]]]) (ea_d (ed_tup (ds := [.str "plain"]) (ea_d ed_str ea_nil) (by simp)) (ea_d (ed_tup (ds := [.str "lent"]) (ea_d ed_str ea_nil) (by simp)) (ea_d (ed_tup (ds := [.str "top", natsT [a, b]]) (ea_d ed_str (ea_d (ed_var rfl) ea_nil)) (by simp)) ea_nil))) (by simp))) ⟨_, rfl, List.cons_ne_nil _ _, by simp, fun y hy => ?_⟩)) fun x hx => ?_)
      · simp only [List.mem_cons, List.not_mem_nil, or_false] at hy
        rcases hy with rfl | rfl | rfl
        · exact ⟨.plain, rfl, trivial⟩
        · exact ⟨.lent, rfl, trivial⟩
        · exact ⟨.top a b, rfl, ha, hb⟩
      obtain ⟨r, rfl, hr⟩ := hx
      refine vs_ret (P := fun x => ∃ s : Sc, x = s.enc ∧ s.ok n) (ve_tupT (vt_cons (P := fun x => x = .str "order") (ve_ed (fun H0 => ed_var rfl) rfl) (vt_cons (ord rfl rfl) (vt_cons (ve_dr (m := 2) rfl (fun H0 => ed_int) (by decide) (by decide)) (vt_cons (P := fun x => x = r.enc) (ve_ed (fun H0 => ed_var rfl) rfl) vt_nil)))) ?_) fun x hx => hx
      rintro ds ⟨x, _, rfl, rfl, y, _, rfl, ⟨o, rfl, ho⟩, z, _, rfl, ⟨t, ht, rfl⟩, u, _, rfl, rfl, rfl⟩
      exact ⟨by simp, .order o t r, rfl, ho, by omega, hr⟩
    have c2 := of_decide_eq_false h
    -- rounds
    refine vs_seq (vs_when lt (fun h => ?_) fun h => ?_)
    · have h := of_decide_eq_true h
      subst h
      refine vs_ret (P := fun x => ∃ s : Sc, x = s.enc ∧ s.ok n) (ve_tupT (vt_cons (P := fun x => x = .str "rounds") (ve_ed (fun H0 => ed_var rfl) rfl) (vt_cons (ve_dr1 (m := 4) rfl (fun H0 => ed_int) (by decide) (by decide)) (vt_cons (ve_dr (m := 2) rfl (fun H0 => ed_int) (by decide) (by decide)) vt_nil))) ?_) fun x hx => hx
      rintro ds ⟨x, _, rfl, rfl, y, _, rfl, ⟨q, q1, q2, rfl⟩, z, _, rfl, ⟨l, hl, rfl⟩, rfl⟩
      exact ⟨by simp, .rounds q l, rfl, q1, q2, by omega⟩
    have c3 := of_decide_eq_false h
    -- levels
    refine vs_seq (vs_when lt (fun h => ?_) fun h => ?_)
    · have h := of_decide_eq_true h
      subst h
      refine vs_seq (vs_set (P := fun x => ∃ qs : List Nat, x = natsT qs ∧ 1 ≤ qs.length ∧ qs.length ≤ 3 ∧ inR 1 4 qs) (ve_we rfl fun M2 => we_tupleL rfl (wl_lcD (Pn := fun m => 1 ≤ m ∧ m ≤ 3) (R := fun x => ∃ r, 1 ≤ r ∧ r ≤ 4 ∧ x = intD r) (S := fun ds => ∃ qs : List Nat, ds = qs.map intD ∧ 1 ≤ qs.length ∧ qs.length ≤ 3 ∧ inR 1 4 qs) (by decide) (?_ : WE ⟨K, T, M2, d, nu⟩ _ _ _) (fun M3 j m hj hm => we_dr1 (m := 4) rfl (fun H0 => ed_int) (by decide) (by decide)) ?_) ?_) fun x hx => ?_)
      · exact we_is (we_dr1 (m := 3) rfl (fun H0 => ed_int) (by decide) (by decide)) fun x ⟨r, r1, r2, e⟩ => ⟨r, by omega, ⟨r1, r2⟩, e⟩
      · intro m ds hm hl hR
        obtain ⟨ls, rfl, h2⟩ := nats_of hR
        rw [List.length_map] at hl
        exact ⟨ls, rfl, by omega, by omega, h2⟩
      · rintro ds ⟨qs, rfl, h1, h2, h3⟩
        exact ⟨qs, rfl, h1, h2, h3⟩
      obtain ⟨qs, rfl, q1, q2, q3⟩ := hx
      refine vs_ret (P := fun x => ∃ s : Sc, x = s.enc ∧ s.ok n) (ve_tupT (vt_cons (P := fun x => x = .str "levels") (ve_ed (fun H0 => ed_var rfl) rfl) (vt_cons (P := fun x => x = natsT qs) (ve_ed (fun H0 => ed_var rfl) rfl) (vt_cons (P := fun x => ∃ b, b ≤ 8 ∧ x = intD b) (ve_pick rfl (ve_lst (vt_cons (P := fun x => x = .int 0) (ve_ed (fun H0 => ed_int) rfl) (vt_cons (P := fun x => x = .int 0) (ve_ed (fun H0 => ed_int) rfl) (vt_cons (ve_dr1 (m := 8) rfl (fun H0 => ed_int) (by decide) (by decide)) vt_nil))) ?_)) vt_nil))) ?_) fun x hx => hx
      · rintro ds ⟨x, _, rfl, rfl, y, _, rfl, rfl, z, _, rfl, ⟨r, r1, r2, rfl⟩, rfl⟩
        refine ⟨by simp, _, rfl, List.cons_ne_nil _ _, by simp, fun y hy => ?_⟩
        simp only [List.mem_cons, List.not_mem_nil, or_false] at hy
        rcases hy with rfl | rfl | rfl
        · exact ⟨0, by decide, rfl⟩
        · exact ⟨0, by decide, rfl⟩
        · exact ⟨r, r2, rfl⟩
      · rintro ds ⟨x, _, rfl, rfl, y, _, rfl, rfl, z, _, rfl, ⟨b, hb, rfl⟩, rfl⟩
        exact ⟨by simp, .levels qs b, rfl, q1, q2, q3, hb⟩
    have c4 := of_decide_eq_false h
    -- aging
    refine vs_seq (vs_when lt (fun h => ?_) fun h => ?_)
    · have h := of_decide_eq_true h
      subst h
      refine vs_ret (P := fun x => ∃ s : Sc, x = s.enc ∧ s.ok n) (ve_tupT (vt_cons (P := fun x => x = .str "aging") (ve_ed (fun H0 => ed_var rfl) rfl) (vt_cons (ord rfl rfl) (vt_cons (ve_dr1 (m := 3) rfl (fun H0 => ed_int) (by decide) (by decide)) vt_nil))) ?_) fun x hx => hx
      rintro ds ⟨x, _, rfl, rfl, y, _, rfl, ⟨o, rfl, ho⟩, z, _, rfl, ⟨b, b1, b2, rfl⟩, rfl⟩
      exact ⟨by simp, .aging o b, rfl, ho, b1, b2⟩
    have c5 := of_decide_eq_false h
    -- due, shares
    have hk : kd = "due" ∨ kd = "shares" := by
      simp only [kinds8, List.mem_cons, List.not_mem_nil, or_false, PyData.str.injEq] at hkd
      rcases hkd with z | z | z | z | z | z | z | z
      · exact absurd (.inl z) c1
      · exact absurd (.inr z) c1
      · exact absurd z c2
      · exact absurd z c3
      · exact absurd z c4
      · exact absurd z c5
      · exact .inl z
      · exact .inr z
    refine vs_seq (vs_set (P := fun x => x = intD (if kd = "due" then 6 else 4)) (ve_ed (fun H0 => ed_if (lt H0) (fun h => ed_is ed_int (by rw [if_pos (of_decide_eq_true h)]; rfl)) fun h => ed_is ed_int (by rw [if_neg (of_decide_eq_false h)]; rfl)) rfl) fun x hx => ?_)
    subst hx
    have hm : 1 ≤ (if kd = "due" then 6 else 4) ∧ (if kd = "due" then 6 else 4) ≤ 1000 := by split <;> decide
    refine vs_ret (P := fun x => ∃ s : Sc, x = s.enc ∧ s.ok n) (ve_tupT (vt_cons (P := fun x => x = .str kd) (ve_ed (fun H0 => ed_var rfl) rfl) (vt_cons (P := fun x => ∃ ls : List Nat, x = natsT ls ∧ ls.length = n ∧ inR 1 (if kd = "due" then 6 else 4) ls) (ve_we rfl fun M2 => we_tupleL rfl (wl_lcD (Pn := fun m => m = n) (R := fun x => ∃ r, 1 ≤ r ∧ r ≤ (if kd = "due" then 6 else 4) ∧ x = intD r) (S := fun ds => ∃ qs : List Nat, ds = qs.map intD ∧ qs.length = n ∧ inR 1 (if kd = "due" then 6 else 4) qs) (by decide) (?_ : WE ⟨K, T, M2, d, nu⟩ _ _ _) (fun M3 j m hj hm2 => we_dr1 (m := if kd = "due" then 6 else 4) rfl (fun H0 => ed_var rfl) hm.1 hm.2) ?_) ?_) vt_nil)) ?_) fun x hx => hx
    · exact we_ed (fun H0 => ed_var rfl) ⟨n, by omega, rfl, rfl⟩
    · intro m ds hm hl hR
      obtain ⟨ls, rfl, h2⟩ := nats_of hR
      rw [List.length_map] at hl
      exact ⟨ls, rfl, by omega, h2⟩
    · rintro ds ⟨qs, rfl, h1, h2⟩
      exact ⟨qs, rfl, h1, h2⟩
    · rintro ds ⟨x, _, rfl, rfl, y, _, rfl, ⟨ls, rfl, h1, h2⟩, rfl⟩
      refine ⟨by simp, .lim kd ls, rfl, h1, ?_⟩
      rcases hk with rfl | rfl
      · rw [if_pos rfl] at h2
        exact .inl ⟨rfl, h2⟩
      · rw [if_neg (by decide)] at h2
        exact .inr ⟨rfl, h2⟩
end
end PT
namespace PT
open PySem PySem.Spec PyProof.Rows L2 DA DL TR TL
/-! ### the law's own words -/
theorem jn_app {S : List Nat} : ∀ {a b : List (List Nat)}, a ≠ [] → b ≠ [] → joinL S (a ++ b) = joinL S a ++ (S ++ joinL S b)
  | [], b, h, _ => absurd rfl h
  | [x], b, _, hb => joinL_cons S x hb
  | x :: y :: r, b, _, hb => by
    rw [List.cons_append, joinL_cons S x (by simp), joinL_cons S x (by simp), jn_app (by simp) hb]
    simp only [List.append_assoc]
theorem tl_jn (A : List Str) : tl (Txt.join sp A) = joinL [32] (A.map tl) := by rw [join_eq, tl_join, tl_sp]
theorem jn_cons (k : Str) {A : List Str} (hA : A ≠ []) : tl (Txt.join sp (k :: A)) = tl k ++ ([32] ++ tl (Txt.join sp A)) := by
  rw [tl_jn, tl_jn, List.map_cons, joinL_cons [32] _ (by simp [hA])]
theorem jn_mid {A B : List Str} (hA : A ≠ []) (hB : B ≠ []) : tl (Txt.join sp (A ++ B)) = tl (Txt.join sp A) ++ ([32] ++ tl (Txt.join sp B)) := by
  rw [tl_jn, tl_jn, tl_jn, List.map_append, jn_app (by simp [hA]) (by simp [hB])]
theorem jn_one (k : Str) : tl (Txt.join sp [k]) = tl k := by rw [tl_jn]; rfl
abbrev nums (ls : List Nat) : Str := Txt.join sp (ls.map strN)
theorem nums_len {ls : List Nat} (h1 : ls.length ≤ 4) (h2 : ∀ x ∈ ls, x ≤ 99) : (nums ls).length ≤ 12 ∧ ((ls.map strN).map (·.length)).sum + (ls.map strN).length * sp.length ≤ 12 := by
  have e2 : sp.length = 1 := by decide
  have s1 : ((ls.map strN).map (·.length)).sum ≤ ls.length * 2 := by
    rw [List.map_map]
    exact sum_le fun x hx => strN_len (h2 x hx)
  have s2 : ((ls.map strN).map (·.length)).sum + (ls.map strN).length * sp.length ≤ 12 := by
    rw [List.length_map, e2]
    omega
  exact ⟨Nat.le_trans (join_len _ _) s2, s2⟩
def earlyW (l : Nat) : Str := if l = 0 then " early" else " late"
def keepW (t : Nat) : Str := if t = 0 then " keeping " else " taking "
theorem early_tl (l : Nat) : tl (earlyW l) = [32] ++ tl (lateW l) := by
  unfold earlyW lateW
  split <;> (rw [tl_ofString, tl_ofString]; decide)
theorem keep_tl (t : Nat) : tl (keepW t) = [32] ++ (tl (takeW t) ++ [32]) := by
  unfold keepW takeW
  split <;> (rw [tl_ofString, tl_ofString]; decide)
theorem wd_rounds (q l : Nat) : (("rounds " : Str) ++ strN q) ++ earlyW l = fmtS (.rounds q l) := by
  refine ext_tl ?_
  show _ = tl (Txt.join sp (("rounds" : Str) :: [strN q, lateW l]))
  rw [tl_append, tl_append, early_tl, jn_cons _ (by simp), jn_cons _ (by simp), jn_one, show tl ("rounds " : Str) = tl ("rounds" : Str) ++ [32] by rw [tl_ofString, tl_ofString]; decide]
  simp only [List.append_assoc]
theorem wd_levels {qs : List Nat} (h : qs ≠ []) (b : Nat) : ((("levels " : Str) ++ nums qs) ++ " raised ") ++ strN b = fmtS (.levels qs b) := by
  refine ext_tl ?_
  show _ = tl (Txt.join sp (("levels" : Str) :: (qs.map strN ++ ("raised" : Str) :: [strN b])))
  rw [tl_append, tl_append, tl_append, jn_cons _ (by simp), jn_mid (by simp [h]) (by simp), jn_cons _ (by simp), jn_one, show tl ("levels " : Str) = tl ("levels" : Str) ++ [32] by rw [tl_ofString, tl_ofString]; decide, show tl (" raised " : Str) = [32] ++ (tl ("raised" : Str) ++ [32]) by rw [tl_ofString, tl_ofString]; decide]
  simp only [List.append_assoc]
theorem wd_aging {qs : List Nat} (h : qs ≠ []) (b : Nat) : ((("aging " : Str) ++ nums qs) ++ " step ") ++ strN b = fmtS (.aging qs b) := by
  refine ext_tl ?_
  show _ = tl (Txt.join sp (("aging" : Str) :: (qs.map strN ++ ("step" : Str) :: [strN b])))
  rw [tl_append, tl_append, tl_append, jn_cons _ (by simp), jn_mid (by simp [h]) (by simp), jn_cons _ (by simp), jn_one, show tl ("aging " : Str) = tl ("aging" : Str) ++ [32] by rw [tl_ofString, tl_ofString]; decide, show tl (" step " : Str) = [32] ++ (tl ("step" : Str) ++ [32]) by rw [tl_ofString, tl_ofString]; decide]
  simp only [List.append_assoc]
theorem wd_lim (k : Str) {ls : List Nat} (h : ls ≠ []) : (k ++ " ") ++ nums ls = fmtS (.lim k ls) := by
  refine ext_tl ?_
  show _ = tl (Txt.join sp (k :: ls.map strN))
  rw [tl_append, tl_append, jn_cons _ (by simp [h]), show tl (" " : Str) = [32] from tl_sp]
  simp only [List.append_assoc]
def ruleW : Rl → Str
  | .plain => "plain"
  | .lent => "lent"
  | .top a b => ((("top " : Str) ++ strN a) ++ " ") ++ strN b
theorem ruleW_tl (r : Rl) : tl (ruleW r) = tl (Txt.join sp r.words) := by
  cases r with
  | plain => exact (jn_one _).symm
  | lent => exact (jn_one _).symm
  | top a b =>
    show tl (((("top " : Str) ++ strN a) ++ " ") ++ strN b) = tl (Txt.join sp (("top" : Str) :: [strN a, strN b]))
    rw [tl_append, tl_append, tl_append, jn_cons _ (by simp), jn_cons _ (by simp), jn_one, show tl ("top " : Str) = tl ("top" : Str) ++ [32] by rw [tl_ofString, tl_ofString]; decide, show tl (" " : Str) = [32] from tl_sp]
    simp only [List.append_assoc]
theorem wd_order {o : List Nat} (h : o ≠ []) (t : Nat) (r : Rl) : ((("order " : Str) ++ nums o) ++ keepW t) ++ ruleW r = fmtS (.order o t r) := by
  refine ext_tl ?_
  show _ = tl (Txt.join sp (("order" : Str) :: (o.map strN ++ takeW t :: r.words)))
  have hr : r.words ≠ [] := by cases r <;> simp [Rl.words]
  rw [tl_append, tl_append, tl_append, jn_cons _ (by simp), jn_mid (by simp [h]) (by simp), jn_cons _ hr, ruleW_tl, keep_tl, show tl ("order " : Str) = tl ("order" : Str) ++ [32] by rw [tl_ofString, tl_ofString]; decide]
  simp only [List.append_assoc]
theorem wd_bare (k : Str) : k = fmtS (.bare k) := ext_tl (jn_one k).symm
def R_law_words : List DS → PD → Prop := fun ss d => ∃ (s : Sc) (n : Nat), 1 ≤ n ∧ n ≤ 4 ∧ s.ok n ∧ ss = [.dat s.enc] ∧ d = .str (fmtS s)
abbrev sLWords : Stmt := top 47
abbrev nLWords : List Str := ["_law_scheduler_here", "_law_kind", "_law_numbers", "_law_one", "_law_rule", "_law_tail"]
theorem scLWords : FnScope nLWords ["_law_scheduler_here"] (defScope sLWords) := ⟨rfl, rfl, rfl, by decide +kernel, rfl, by decide +kernel, by decide +kernel⟩
section
variable {P : Program} {w : World} {K : PySem.W.Frag} {mg : Str → Option Value} {base : Heap} {f : Addr} {fd : FuncData} {T : List Addr}
theorem ok__law_words (F : Fun K "_law_words" "_law_words" sLWords f fd) (G : Glob K mg)  : FnOk P w K mg base CX0 1 f fd ["_law_scheduler_here"] (spD K T R_law_words) := by
  refine fn_sd F scLWords (fun ss d h => ?_) (fun cdv A outer s H E hr => ⟨_, (pss_cons (ps_set (i := 1) scLWords.nd rfl (.inl rfl) (pe_ix ix_tup (pv 0) pe_int (fun _ _ => rfl)))
      (pss_cons (ps_if (pt_cmpR op_eq (pe_callB call_len_seq (by rfl) G.len PySem.boot_len (pa_cons (pv 0) pa_nil)) pe_int (nomark _)) (pss_one (ps_ret (pv 1))) pss_nil)
      (pss_cons (ps_if (pt_cmpR op_eq (pv 1) pe_str (nomark _)) (pss_one (ps_ret (pe_op op_add_str (pe_op op_add_str pe_str (pe_callTy call_str_int (by rfl) G.str (by decide +kernel) (pa_cons (pe_ix ix_tup (pv 0) pe_int (fun _ _ => rfl)) pa_nil))) (pe_ix ix_list (pe_lst (pa_cons pe_str (pa_cons pe_str pa_nil))) (pe_ix ix_tup (pv 0) pe_int (fun _ _ => rfl)) (fun _ _ => rfl))))) pss_nil)
      (pss_cons (ps_set (i := 2) scLWords.nd rfl (.inl rfl) (pe_join pe_str (pe_lc (own := [("_law_one", 3)]) (g := (gName 3)) (tt := tYes) (te := (tCB (fun xs H Q => ∃ i, xs = [.int i] ∧ i.natAbs.log2 < 1920 ∧ Q (.str (toString i)) H) (tCons (tVar 3) tNil))) rfl scLWords.nd (pi_tup (pe_ix ix_tup (pv 0) pe_int (fun _ _ => rfl))) (blkOk_by (N := nLWords) (sc := defScope sLWords) (by decide +kernel)) (fun _ _ _ _ _ => (pg_name (i := 3) scLWords.nd rfl (.inl rfl))) (fun _ _ _ _ _ => pts_nil) (fun _ _ _ _ _ => (pe_callTy call_str_int (by rfl) G.str (by decide +kernel) (pa_cons (pv 3) pa_nil))))))
      (pss_cons (ps_if (pt_cmpR op_eq (pv 1) pe_str (nomark _)) (pss_one (ps_ret (pe_op op_add_str (pe_op op_add_str (pe_op op_add_str pe_str (pv 2)) pe_str) (pe_callTy call_str_int (by rfl) G.str (by decide +kernel) (pa_cons (pe_ix ix_tup (pv 0) pe_int (fun _ _ => rfl)) pa_nil))))) pss_nil)
      (pss_cons (ps_if (pt_cmpR op_eq (pv 1) pe_str (nomark _)) (pss_one (ps_ret (pe_op op_add_str (pe_op op_add_str (pe_op op_add_str pe_str (pv 2)) pe_str) (pe_callTy call_str_int (by rfl) G.str (by decide +kernel) (pa_cons (pe_ix ix_tup (pv 0) pe_int (fun _ _ => rfl)) pa_nil))))) pss_nil)
      (pss_cons (ps_if (pt_cmpR op_eq (pv 1) pe_str (nomark _)) (pss_cons (ps_set (i := 4) scLWords.nd rfl (.inl rfl) (pe_ix ix_tup (pv 0) pe_int (fun _ _ => rfl)))
      (pss_cons (ps_set (i := 5) scLWords.nd rfl (.inl rfl) (pe_ifExp (pt_cmpR op_eq (pe_callB call_len_seq (by rfl) G.len PySem.boot_len (pa_cons (pv 4) pa_nil)) pe_int (nomark _)) (pe_ix ix_tup (pv 4) pe_int (fun _ _ => rfl)) (pe_op op_add_str (pe_op op_add_str (pe_op op_add_str pe_str (pe_callTy call_str_int (by rfl) G.str (by decide +kernel) (pa_cons (pe_ix ix_tup (pe_ix ix_tup (pv 4) pe_int (fun _ _ => rfl)) pe_int (fun _ _ => rfl)) pa_nil))) pe_str) (pe_callTy call_str_int (by rfl) G.str (by decide +kernel) (pa_cons (pe_ix ix_tup (pe_ix ix_tup (pv 4) pe_int (fun _ _ => rfl)) pe_int (fun _ _ => rfl)) pa_nil)))))
      (pss_one (ps_ret (pe_op op_add_str (pe_op op_add_str (pe_op op_add_str pe_str (pv 2)) (pe_ix ix_list (pe_lst (pa_cons pe_str (pa_cons pe_str pa_nil))) (pe_ix ix_tup (pv 0) pe_int (fun _ _ => rfl)) (fun _ _ => rfl))) (pv 5)))))) pss_nil)
      (pss_one (ps_ret (pe_op op_add_str (pe_op op_add_str (pv 1) pe_str) (pv 2))))))))))), fun M H0 ss d h => ?_⟩)
  · obtain ⟨sc, n, n1, n4, ok, rfl, rfl⟩ := h
    rfl
  · obtain ⟨sc, n, n1, n4, ok, rfl, rfl⟩ := h
    have lt : ∀ {k z : Str} {x a b c e : DS} {H0}, ET ⟨K, T, M, H0⟩ (tTest (tOp rEq (tVar 1) (tC (.str z)))) [x, .dat (.str k), a, b, c, e] (decide (k = z)) := fun {k z x a b c e H0} => et_is (et_test (ed_eq (x := .str k) (y := .str z) (ed_var rfl) ed_str rfl rfl rfl)) (eqStr k z)
    have it : ∀ {ds : List PD} {dd : PD} {i j : Nat} {ρ : DEnv} {H0}, ρ[j]? = some (.dat (.tuple ds)) → ds[i]? = some dd → ED ⟨K, T, M, H0⟩ (tOp (rIxT K) (tVar j) (tC (.int (i : Int)))) ρ dd := fun {ds dd i j ρ H0} h e => ed_ixT (ds := ds) (i := (i : Int)) (ed_var h) ed_int (atI_nat e)
    have ln : ∀ {ds : List PD} {m j : Nat} {ρ : DEnv} {H0}, ρ[j]? = some (.dat (.tuple ds)) → ET ⟨K, T, M, H0⟩ (tTest (tOp rEq (tCB (lenR K) (tCons (tVar j) tNil)) (tC (.int (m : Int))))) ρ (decide (ds.length = m)) := fun {ds m j ρ H0} h => et_is (et_test (ed_eq (x := .int (ds.length : Int)) (y := .int (m : Int)) (ed_lenT (ds := ds) (ed_var h)) ed_int rfl rfl rfl)) (eqInt _ _)
    have hd : ∀ {k : Str} {ds : List PD} {a b c e g : DS} {H0}, ED ⟨K, T, M, H0⟩ (tOp (rIxT K) (tVar 0) (tC (.int 0))) [.dat (.tuple (.str k :: ds)), a, b, c, e, g] (.str k) := fun {k ds a b c e g H0} => it (i := 0) (j := 0) rfl rfl
    have sn : ∀ {te : TE} {ρ : DEnv} {i : Nat} {H0}, i ≤ 99 → ED ⟨K, T, M, H0⟩ te ρ (intD i) → ED ⟨K, T, M, H0⟩ (tCB (fun xs H Q => ∃ i, xs = [.int i] ∧ i.natAbs.log2 < 1920 ∧ Q (.str (toString i)) H) (tCons te tNil)) ρ (.str (strN i)) := fun {te ρ i H0} hi h => ed_strI (i := (i : Int)) h (small_log hi)
    have nm : ∀ {ls : List Nat} {k : Str} {ds : List PD} {H0}, ls.length ≤ 4 → (∀ x ∈ ls, x ≤ 99) → ED ⟨K, T, M, H0⟩ (tM1 (fun x xs H Q => ∃ a p, ∃ ys : List Str, x = .str a ∧ xs = [.ref p] ∧ (SqL K H p (ys.map V.str) ∨ SqT K H p (ys.map V.str)) ∧ (ys.map (·.length)).sum + ys.length * a.length ≤ 16777216 ∧ Q (.str (Txt.join a ys)) H) (tC (.str " ")) (tLc (iTup K (tOp (rIxT K) (tVar 0) (tC (.int 1)))) (gName 3) tYes (tCB (fun xs H Q => ∃ i, xs = [.int i] ∧ i.natAbs.log2 < 1920 ∧ Q (.str (toString i)) H) (tCons (tVar 3) tNil)) [3])) [.dat (.tuple (.str k :: natsT ls :: ds)), .dat (.str k), .non, .non, .non, .non] (.str (nums ls)) := fun {ls k ds H0} h1 h2 => by
      refine ed_join (c := ⟨K, T, M, H0⟩) (x := sp) (ys := ls.map strN) ed_str (el_is (en_el (en_lc (js := [3]) (fun _ => true) (fun d => match d with | .int i => .str (strN i.toNat) | _ => .none) (id_tup (it (i := 1) (j := 0) (dd := natsT ls) rfl rfl)) (by rw [List.length_map]; omega) (by decide) (fun d hm H1 _ => ?_))) ?_) ?_
      · obtain ⟨x, hx, rfl⟩ := List.mem_map.mp hm
        exact ⟨[intD x], tg_name, et_yes, fun _ => sn (h2 x hx) (ed_var rfl)⟩
      · rw [List.filter_eq_self.mpr fun _ _ => rfl, List.map_map, List.map_map]
        rfl
      · exact Nat.le_trans (nums_len h1 h2).2 (by decide)
    have ladd : ∀ {ta tb : TE} {x y : Str} {ρ : DEnv} {H0}, ED ⟨K, T, M, H0⟩ ta ρ (.str x) → ED ⟨K, T, M, H0⟩ tb ρ (.str y) → x.length + y.length ≤ 1000 → ED ⟨K, T, M, H0⟩ (tOp (fun x y H Q => ∃ i j, x = .str i ∧ y = .str j ∧ i.length + j.length ≤ sizeLine ∧ Q (.str (i ++ j)) H) ta tb) ρ (.str (x ++ y)) := fun {ta tb x y ρ H0} h1 h2 h3 => ed_addS h1 h2 (big (by omega))
    cases sc with
    | bare k =>
      refine sd_seq (sd_set (d := .str k) hd ?_)
      exact sd_seq (sd_when (b := true) (et_is (ln (m := 1) (j := 0) rfl) rfl) (fun _ => sd_ret (d := .str k) (ed_var rfl) (congrArg PyData.str (wd_bare k))) fun z => by cases z)
    | rounds q l =>
      obtain ⟨h1, h2, h3⟩ := ok
      have q2 := strN_len (n := q) (by omega)
      refine sd_seq (sd_set (d := .str "rounds") hd ?_)
      refine sd_seq (sd_when (b := false) (et_is (ln (m := 1) (j := 0) rfl) rfl) (fun z => by cases z) fun _ => ?_)
      refine sd_seq (sd_when (b := true) (et_is lt (by decide)) (fun _ => sd_ret (d := .str ((("rounds " : Str) ++ strN q) ++ earlyW l)) (ladd (ladd ed_str (sn (by omega) (it (i := 1) (j := 0) rfl rfl)) (by have : ("rounds " : Str).length = 7 := (by decide); omega)) (ed_ixL (ds := [.str " early", .str " late"]) (i := (l : Int)) (en_el (en_lst (ds := [.str " early", .str " late"]) (ea_d ed_str (ea_d ed_str ea_nil)) (by simp))) (it (i := 2) (j := 0) rfl rfl) (atI_nat ?_)) ?_) (congrArg PyData.str (wd_rounds q l))) fun z => by cases z)
      · match l, h3 with
        | 0, _ => rfl
        | 1, _ => rfl
      · rw [app_len]
        have : ("rounds " : Str).length = 7 := (by decide)
        have : (earlyW l).length ≤ 6 := by unfold earlyW; split <;> decide
        omega
    | levels qs b =>
      obtain ⟨h1, h2, h3, h4⟩ := ok
      have q1 : ∀ x ∈ qs, x ≤ 99 := fun x hx => by have := h3 x hx; omega
      have q2 := strN_len (n := b) (by omega)
      have q3 := (nums_len (by omega) q1).1
      have c1 : ("levels " : Str).length = 7 := by decide
      have c2 : (" raised " : Str).length = 8 := by decide
      refine sd_seq (sd_set (d := .str "levels") hd ?_)
      refine sd_seq (sd_when (b := false) (et_is (ln (m := 1) (j := 0) rfl) rfl) (fun z => by cases z) fun _ => ?_)
      refine sd_seq (sd_when (b := false) (et_is lt (by decide)) (fun z => by cases z) fun _ => ?_)
      refine sd_seq (sd_set (d := .str (nums qs)) (nm (by omega) q1) ?_)
      exact sd_seq (sd_when (b := true) (et_is lt (by decide)) (fun _ => sd_ret (d := .str (((("levels " : Str) ++ nums qs) ++ " raised ") ++ strN b)) (ladd (ladd (ladd ed_str (ed_var rfl) (by omega)) ed_str (by rw [app_len]; omega)) (sn (by omega) (it (i := 2) (j := 0) rfl rfl)) (by rw [app_len, app_len]; omega)) (congrArg PyData.str (wd_levels (fun z => by rw [z] at h1; cases h1) b))) fun z => by cases z)
    | aging o b =>
      obtain ⟨h1, h2, h3⟩ := ok
      obtain ⟨o1, o2⟩ := ord_len n1 h1
      have q1 : ∀ x ∈ o, x ≤ 99 := fun x hx => by have := o2 x hx; omega
      have q2 := strN_len (n := b) (by omega)
      have q3 := (nums_len (by omega) q1).1
      have c1 : ("aging " : Str).length = 6 := by decide
      have c2 : (" step " : Str).length = 6 := by decide
      refine sd_seq (sd_set (d := .str "aging") hd ?_)
      refine sd_seq (sd_when (b := false) (et_is (ln (m := 1) (j := 0) rfl) rfl) (fun z => by cases z) fun _ => ?_)
      refine sd_seq (sd_when (b := false) (et_is lt (by decide)) (fun z => by cases z) fun _ => ?_)
      refine sd_seq (sd_set (d := .str (nums o)) (nm (by omega) q1) ?_)
      refine sd_seq (sd_when (b := false) (et_is lt (by decide)) (fun z => by cases z) fun _ => ?_)
      exact sd_seq (sd_when (b := true) (et_is lt (by decide)) (fun _ => sd_ret (d := .str (((("aging " : Str) ++ nums o) ++ " step ") ++ strN b)) (ladd (ladd (ladd ed_str (ed_var rfl) (by omega)) ed_str (by rw [app_len]; omega)) (sn (by omega) (it (i := 2) (j := 0) rfl rfl)) (by rw [app_len, app_len]; omega)) (congrArg PyData.str (wd_aging (fun z => by rw [z] at o1; simp at o1; omega) b))) fun z => by cases z)
    | lim k ls =>
      obtain ⟨h1, h2⟩ := ok
      have hk : k = "due" ∨ k = "shares" := h2.imp (fun z => z.1) fun z => z.1
      have nk : ∀ {z : Str}, z ≠ "due" → z ≠ "shares" → decide (k = z) = false := fun {z} z1 z2 => decide_eq_false fun e => hk.elim (fun y => z1 (e ▸ y)) fun y => z2 (e ▸ y)
      have q1 : ∀ x ∈ ls, x ≤ 99 := fun x hx => by
        rcases h2 with ⟨_, h2⟩ | ⟨_, h2⟩
        · have := h2 x hx; omega
        · have := h2 x hx; omega
      have q3 := (nums_len (by omega) q1).1
      have kl : k.length ≤ 6 := by rcases hk with rfl | rfl <;> decide
      have c1 : (" " : Str).length = 1 := by decide
      refine sd_seq (sd_set (d := .str k) hd ?_)
      refine sd_seq (sd_when (b := false) (et_is (ln (m := 1) (j := 0) rfl) rfl) (fun z => by cases z) fun _ => ?_)
      refine sd_seq (sd_when (b := false) (et_is lt (nk (by decide) (by decide))) (fun z => by cases z) fun _ => ?_)
      refine sd_seq (sd_set (d := .str (nums ls)) (nm (by omega) q1) ?_)
      refine sd_seq (sd_when (b := false) (et_is lt (nk (by decide) (by decide))) (fun z => by cases z) fun _ => ?_)
      refine sd_seq (sd_when (b := false) (et_is lt (nk (by decide) (by decide))) (fun z => by cases z) fun _ => ?_)
      refine sd_seq (sd_when (b := false) (et_is lt (nk (by decide) (by decide))) (fun z => by cases z) fun _ => ?_)
      exact sd_ret (d := .str ((k ++ " ") ++ nums ls)) (ladd (ladd (ed_var rfl) ed_str (by omega)) (ed_var rfl) (by rw [app_len]; omega)) (congrArg PyData.str (wd_lim k (fun z => by rw [z] at h1; simp at h1; omega)))
    | order o t r =>
      obtain ⟨h1, h2, h3⟩ := ok
      obtain ⟨o1, o2⟩ := ord_len n1 h1
      have q1 : ∀ x ∈ o, x ≤ 99 := fun x hx => by have := o2 x hx; omega
      have q3 := (nums_len (by omega) q1).1
      have c1 : ("order " : Str).length = 6 := by decide
      have c2 : (keepW t).length ≤ 9 := by unfold keepW; split <;> decide
      refine sd_seq (sd_set (d := .str "order") hd ?_)
      refine sd_seq (sd_when (b := false) (et_is (ln (m := 1) (j := 0) rfl) rfl) (fun z => by cases z) fun _ => ?_)
      refine sd_seq (sd_when (b := false) (et_is lt (by decide)) (fun z => by cases z) fun _ => ?_)
      refine sd_seq (sd_set (d := .str (nums o)) (nm (by omega) q1) ?_)
      refine sd_seq (sd_when (b := false) (et_is lt (by decide)) (fun z => by cases z) fun _ => ?_)
      refine sd_seq (sd_when (b := false) (et_is lt (by decide)) (fun z => by cases z) fun _ => ?_)
      have hW : (ruleW r).length ≤ 10 := by
        cases r with
        | plain => decide
        | lent => decide
        | top a b =>
          obtain ⟨z1, z2⟩ := h3
          show (((("top " : Str) ++ strN a) ++ " ") ++ strN b).length ≤ 10
          rw [app_len, app_len, app_len]
          have := strN_len (n := a) (by omega)
          have := strN_len (n := b) (by omega)
          have : ("top " : Str).length = 4 := by decide
          have : (" " : Str).length = 1 := by decide
          omega
      refine sd_seq (sd_when (b := true) (et_is lt (by decide)) (fun _ => sd_seq (sd_set (d := r.enc) (it (i := 3) (j := 0) rfl rfl) (sd_seq (sd_set (d := .str (ruleW r)) ?_ (sd_ret (d := .str (((("order " : Str) ++ nums o) ++ keepW t) ++ ruleW r)) (ladd (ladd (ladd ed_str (ed_var rfl) (by omega)) (ed_ixL (ds := [.str " keeping ", .str " taking "]) (i := (t : Int)) (en_el (en_lst (ds := [.str " keeping ", .str " taking "]) (ea_d ed_str (ea_d ed_str ea_nil)) (by simp))) (it (i := 2) (j := 0) rfl rfl) (atI_nat ?_)) (by rw [app_len]; omega)) (ed_var rfl) (by rw [app_len, app_len]; omega)) (congrArg PyData.str (wd_order (fun z => by rw [z] at o1; simp at o1; omega) t r))))))) fun z => by cases z)
      · cases r with
        | plain => exact ed_if (b := true) (et_is (ln (ds := [.str "plain"]) (m := 1) (j := 4) rfl) rfl) (fun _ => it (ds := [.str "plain"]) (i := 0) (j := 4) rfl rfl) fun z => by cases z
        | lent => exact ed_if (b := true) (et_is (ln (ds := [.str "lent"]) (m := 1) (j := 4) rfl) rfl) (fun _ => it (ds := [.str "lent"]) (i := 0) (j := 4) rfl rfl) fun z => by cases z
        | top a b =>
          obtain ⟨z1, z2⟩ := h3
          have s1 := strN_len (n := a) (by omega)
          have s2 := strN_len (n := b) (by omega)
          have s3 : ("top " : Str).length = 4 := by decide
          have s4 : (" " : Str).length = 1 := by decide
          refine ed_if (b := false) (et_is (ln (ds := [.str "top", natsT [a, b]]) (m := 1) (j := 4) rfl) rfl) (fun z => by cases z) fun _ => ladd (ladd (ladd ed_str (sn (by omega) (ed_ixT (ds := [intD a, intD b]) (i := ((0 : Nat) : Int)) (it (ds := [.str "top", natsT [a, b]]) (i := 1) (j := 4) rfl rfl) ed_int (atI_nat rfl))) (by omega)) ed_str (by rw [app_len]; omega)) (sn (by omega) (ed_ixT (ds := [intD a, intD b]) (i := ((1 : Nat) : Int)) (it (ds := [.str "top", natsT [a, b]]) (i := 1) (j := 4) rfl rfl) ed_int (atI_nat rfl))) (by rw [app_len, app_len]; omega)
      · match t, h2 with
        | 0, _ => rfl
        | 1, _ => rfl
end
end PT
namespace PT
open PySem PySem.Spec PyProof.Rows L2 DA DL TR TL
/-! ### an error told -/
structure GlobN (K : PySem.W.Frag) (mg : Str → Option Value) where
  isinstance : mg "isinstance" = none
  ValueError : mg "ValueError" = none
  aBadProgram : Addr
  BadProgram : mg "BadProgram" = some (.ref aBadProgram)
  aBadHall : Addr
  BadHall : mg "BadHall" = some (.ref aBadHall)
  aBadScheduler : Addr
  BadScheduler : mg "BadScheduler" = some (.ref aBadScheduler)
  aBadNumber : Addr
  BadNumber : mg "BadNumber" = some (.ref aBadNumber)
  aBadRecord : Addr
  BadRecord : mg "BadRecord" = some (.ref aBadRecord)
  aBadText : Addr
  BadText : mg "BadText" = some (.ref aBadText)
  aNotFound : Addr
  NotFound : mg "NotFound" = some (.ref aNotFound)
  aTurnError : Addr
  TurnError : mg "TurnError" = some (.ref aTurnError)
/-- the class of an error: of all the module's, which it is -/
structure ErrC (K : PySem.W.Frag) {mg : Str → Option Value} (G : GlobN K mg) (C : Addr) (num : Bool) : Prop where
  ex : ExcC K C
  k1 : PySem.W.kitOne K (.ref C) (.ref G.aBadProgram) = some false
  k2 : PySem.W.kitOne K (.ref C) (.ref G.aBadHall) = some false
  k3 : PySem.W.kitOne K (.ref C) (.ref G.aBadScheduler) = some false
  k4 : PySem.W.kitOne K (.ref C) (.ref G.aBadNumber) = some num
  k5 : PySem.W.kitOne K (.ref C) (.ref G.aBadRecord) = some false
  k6 : PySem.W.kitOne K (.ref C) (.ref G.aBadText) = some (!num)
  k7 : PySem.W.kitOne K (.ref C) (.ref G.aNotFound) = some false
  k8 : PySem.W.kitOne K (.ref C) (.ref G.aTurnError) = some true
  k9 : PySem.W.kitOne K (.ref C) (.type "ValueError") = some true
  ct : PySem.W.exmOne K (.ref C) (.ref G.aTurnError) = some true
theorem ed_isK {c : DC} {ρ : DEnv} {i : Nat} {a D : Addr} {cX : V} {cv : Value} {b : Bool} (h : ρ[i]? = some (.raw (.ref a))) (hH : c.H0 a = some (ExK (.ref D) none a)) (Z : ExcC c.K D) (k : ClsV cX cv) (e : PySem.W.kitOne c.K (.ref D) cv = some b) :
    ED c (tCB (rIsK c.K) (tCons (tVar i) (tCons (tC cX) tNil))) ρ (.bool b) := fun A σ H s Q q => by
  obtain ⟨ov, y1, y2⟩ := s.rel i _ h
  cases ov with
  | none => exact False.elim y2
  | some v =>
    have y2 : v = .ref a := y2
    subst y2
    exact ⟨_, y1, a, D, cX, cv, b, rfl, s.keep.at_ a _ hH (nT_of s.tab hH fun ps z => by cases z), Z, k, e, q _ H .refl (.bl b)⟩
theorem hu65 {A : Around} {k : Nat} (hr : Room k A) : A.units + 65 < cLine := by have := hr.un; omega

def R_law_error (C : Addr) (wd : Str) : List Addr → Hp → List DS → PD → Prop := fun M H ss d => ∃ a, H a = some (ExK (.ref C) none a) ∧ ss = [.raw (.ref a)] ∧ d = .str wd
def R_law_error2 (Ct Cn : Addr) : List Addr → Hp → List DS → PD → Prop := fun M H ss d => R_law_error Ct "text" M H ss d ∨ R_law_error Cn "number" M H ss d
theorem fnok_orX {P : Program} {w : World} {K : PySem.W.Frag} {mg : Str → Option Value} {base : Heap} {CX : CXT} {k : Nat} {f : Addr} {fd : FuncData} {ps : List Str} {T : List Addr} {R1 R2 : List Addr → Hp → List DS → PD → Prop} (h1 : FnOk P w K mg base CX k f fd ps (spX K T R1)) (h2 : FnOk P w K mg base CX k f fd ps (spX K T R2)) :
    FnOk P w K mg base CX k f fd ps (spX K T fun M H ss d => R1 M H ss d ∨ R2 M H ss d) := by
  have sp : ∀ vs H Q E, spX K T (fun M H ss d => R1 M H ss d ∨ R2 M H ss d) vs H Q E → spX K T R1 vs H Q E ∨ spX K T R2 vs H Q E := fun vs H Q E ⟨M, ss, d, a, b, e, g, q⟩ => g.elim (fun g => .inl ⟨M, ss, d, a, b, e, g, q⟩) (fun g => .inr ⟨M, ss, d, a, b, e, g, q⟩)
  refine ⟨fun vs H Q E h => (sp vs H Q E h).elim (h1.len vs H Q E) (h2.len vs H Q E), fun A outer s H args us vs Q E hr he hb hv h => ?_⟩
  exact (sp vs H Q E h).elim (h1.run A outer s H args us vs Q E hr he hb hv) (h2.run A outer s H args us vs Q E hr he hb hv)
abbrev sLErr : Stmt := top 44
abbrev nLErr : List Str := ["_law_caught", "_law_kinds"]
theorem scLErr : FnScope nLErr ["_law_caught"] (defScope sLErr) := ⟨rfl, rfl, rfl, by decide +kernel, rfl, by decide +kernel, by decide +kernel⟩
section
variable {P : Program} {w : World} {K : PySem.W.Frag} {mg : Str → Option Value} {base : Heap} {f : Addr} {fd : FuncData} {T : List Addr}
theorem ok__law_error_t {C : Addr} (F : Fun K "_law_error" "_law_error" sLErr f fd) (G : GlobN K mg) (Z : ErrC K G C false) : FnOk P w K mg base CX0 1 f fd ["_law_caught"] (spX K T (R_law_error C "text")) := by
  refine fn_sdX F scLErr (fun M H ss d h => ?_) (fun cdv A outer s H E hr => ⟨_, (pss_cons (ps_set (i := 1) scLErr.nd rfl (.inl rfl) (pe_lst (pa_cons (pe_callB call_isK (by rfl) G.isinstance boot_isinstance (pa_cons (pv 0) (pa_cons (pe_glob (v := .ref G.aBadProgram) (by rfl) G.BadProgram rfl) pa_nil))) (pa_cons (pe_callB call_isK (by rfl) G.isinstance boot_isinstance (pa_cons (pv 0) (pa_cons (pe_glob (v := .ref G.aBadHall) (by rfl) G.BadHall rfl) pa_nil))) (pa_cons (pe_callB call_isK (by rfl) G.isinstance boot_isinstance (pa_cons (pv 0) (pa_cons (pe_glob (v := .ref G.aBadScheduler) (by rfl) G.BadScheduler rfl) pa_nil))) pa_nil)))))
      (pss_cons (ps_set (i := 1) scLErr.nd rfl (.inl rfl) (pe_op op_catL (pv 1) (pe_lst (pa_cons (pe_callB call_isK (by rfl) G.isinstance boot_isinstance (pa_cons (pv 0) (pa_cons (pe_glob (v := .ref G.aBadNumber) (by rfl) G.BadNumber rfl) pa_nil))) (pa_cons (pe_callB call_isK (by rfl) G.isinstance boot_isinstance (pa_cons (pv 0) (pa_cons (pe_glob (v := .ref G.aBadRecord) (by rfl) G.BadRecord rfl) pa_nil))) (pa_cons (pe_callB call_isK (by rfl) G.isinstance boot_isinstance (pa_cons (pv 0) (pa_cons (pe_glob (v := .ref G.aBadText) (by rfl) G.BadText rfl) pa_nil))) pa_nil))))))
      (pss_cons (ps_expr (pe_bm PySem.F.plainAttrs_list PySem.F.slot_list_append PySem.F.type_list_append mt_append (pv 1) (pa_cons (pe_callB call_isK (by rfl) G.isinstance boot_isinstance (pa_cons (pv 0) (pa_cons (pe_glob (v := .ref G.aNotFound) (by rfl) G.NotFound rfl) pa_nil))) pa_nil)))
      (pss_cons (ps_if (PW.pt (pw_or (pt_cmpR op_ne (pe_bm PySem.F.plainAttrs_list PySem.F.slot_list_count PySem.F.type_list_count (mt_countD (hu65 hr)) (pv 1) (pa_cons pe_bl pa_nil)) pe_int (nomark _)) (pw_or (pt_not (pt_val (pe_callB call_isK (by rfl) G.isinstance boot_isinstance (pa_cons (pv 0) (pa_cons (pe_glob (v := .ref G.aTurnError) (by rfl) G.TurnError rfl) pa_nil))))) (pw_or1 (pt_not (pt_val (pe_callB call_isK (by rfl) G.isinstance boot_isinstance (pa_cons (pv 0) (pa_cons (pe_bltn (v := .ty "ValueError") (by rfl) G.ValueError (by decide +kernel) rfl) pa_nil))))))))) (pss_one (ps_ret pe_str)) pss_nil)
      (pss_one (ps_ret (pe_ix ix_list (pe_lst (pa_cons pe_str (pa_cons pe_str (pa_cons pe_str (pa_cons pe_str (pa_cons pe_str (pa_cons pe_str (pa_cons pe_str pa_nil)))))))) (pe_bm PySem.F.plainAttrs_list PySem.F.slot_list_index PySem.F.type_list_index (mt_indexD (hu65 hr)) (pv 1) (pa_cons pe_bl pa_nil)) (fun _ _ => rfl)))))))), fun M H0 ss d h _ _ => ?_⟩)
  · obtain ⟨a, _, rfl, rfl⟩ := h
    rfl
  · obtain ⟨a, ha, rfl, rfl⟩ := h
    have is1 : ∀ {cX : V} {cv : Value} {b : Bool} {ρ : DEnv}, ρ[0]? = some (.raw (.ref a)) → ClsV cX cv → PySem.W.kitOne K (.ref C) cv = some b → ED ⟨K, T, M, H0⟩ (tCB (rIsK K) (tCons (tVar 0) (tCons (tC cX) tNil))) ρ (.bool b) := fun h k e => ed_isK h ha Z.ex k e
    refine sd_seq (sd_setN (en_lst (ds := [.bool false, .bool false, .bool false]) (ea_d (is1 rfl (.own _) Z.k1) (ea_d (is1 rfl (.own _) Z.k2) (ea_d (is1 rfl (.own _) Z.k3) ea_nil))) (by decide)) ?_)
    refine sd_seq (sd_setN (en_catL (xs := [.bool false, .bool false, .bool false]) (ys := [.bool false, .bool false, .bool true]) (el_own rfl) (en_el (en_lst (ds := [.bool false, .bool false, .bool true]) (ea_d (is1 rfl (.own _) Z.k4) (ea_d (is1 rfl (.own _) Z.k5) (ea_d (is1 rfl (.own _) Z.k6) ea_nil))) (by decide))) (by decide)) ?_)
    refine sd_seq (sd_app (d := .bool false) rfl (is1 rfl (.own _) Z.k7) (by decide) ?_)
    have hsh : SeqAt.shaped (.list [PyData.bool false, .bool false, .bool false, .bool false, .bool false, .bool true, .bool false]) = true := by decide
    refine sd_seq (sd_when (b := (false || (!true || !true))) (et_or (et_is (et_test (ed_ne (x := .int 1) (y := .int 1) (ed_is (ed_countD (ds := [.bool false, .bool false, .bool false, .bool false, .bool false, .bool true, .bool false]) (d := .bool true) (el_own rfl) ed_bl hsh (by decide)) rfl) ed_int rfl rfl rfl)) rfl) fun _ => et_or (et_not (et_B (is1 rfl (.own _) Z.k8))) fun _ => et_not (et_B (is1 rfl (.ty _) Z.k9))) (fun z => by cases z) (fun _ => ?_))
    exact sd_ret (d := .str "text") (ed_ixL (ds := [.str "program", .str "hall", .str "scheduler", .str "number", .str "record", .str "text", .str "none"]) (i := ((5 : Nat) : Int)) (en_el (en_lst (ds := [.str "program", .str "hall", .str "scheduler", .str "number", .str "record", .str "text", .str "none"]) (ea_d ed_str (ea_d ed_str (ea_d ed_str (ea_d ed_str (ea_d ed_str (ea_d ed_str (ea_d ed_str ea_nil))))))) (by decide))) (ed_indexD (ds := [.bool false, .bool false, .bool false, .bool false, .bool false, .bool true, .bool false]) (d := .bool true) (j := 5) (z := .bool true) (el_own rfl) ed_bl hsh (by decide) rfl rfl (fun m z' hm e => by
      match m, hm with
      | 0, _ => cases e; rfl
      | 1, _ => cases e; rfl
      | 2, _ => cases e; rfl
      | 3, _ => cases e; rfl
      | 4, _ => cases e; rfl)) (atI_nat (i := 5) rfl)) rfl
end
section
variable {P : Program} {w : World} {K : PySem.W.Frag} {mg : Str → Option Value} {base : Heap} {f : Addr} {fd : FuncData} {T : List Addr}
theorem ok__law_error_n {C : Addr} (F : Fun K "_law_error" "_law_error" sLErr f fd) (G : GlobN K mg) (Z : ErrC K G C true) : FnOk P w K mg base CX0 1 f fd ["_law_caught"] (spX K T (R_law_error C "number")) := by
  refine fn_sdX F scLErr (fun M H ss d h => ?_) (fun cdv A outer s H E hr => ⟨_, (pss_cons (ps_set (i := 1) scLErr.nd rfl (.inl rfl) (pe_lst (pa_cons (pe_callB call_isK (by rfl) G.isinstance boot_isinstance (pa_cons (pv 0) (pa_cons (pe_glob (v := .ref G.aBadProgram) (by rfl) G.BadProgram rfl) pa_nil))) (pa_cons (pe_callB call_isK (by rfl) G.isinstance boot_isinstance (pa_cons (pv 0) (pa_cons (pe_glob (v := .ref G.aBadHall) (by rfl) G.BadHall rfl) pa_nil))) (pa_cons (pe_callB call_isK (by rfl) G.isinstance boot_isinstance (pa_cons (pv 0) (pa_cons (pe_glob (v := .ref G.aBadScheduler) (by rfl) G.BadScheduler rfl) pa_nil))) pa_nil)))))
      (pss_cons (ps_set (i := 1) scLErr.nd rfl (.inl rfl) (pe_op op_catL (pv 1) (pe_lst (pa_cons (pe_callB call_isK (by rfl) G.isinstance boot_isinstance (pa_cons (pv 0) (pa_cons (pe_glob (v := .ref G.aBadNumber) (by rfl) G.BadNumber rfl) pa_nil))) (pa_cons (pe_callB call_isK (by rfl) G.isinstance boot_isinstance (pa_cons (pv 0) (pa_cons (pe_glob (v := .ref G.aBadRecord) (by rfl) G.BadRecord rfl) pa_nil))) (pa_cons (pe_callB call_isK (by rfl) G.isinstance boot_isinstance (pa_cons (pv 0) (pa_cons (pe_glob (v := .ref G.aBadText) (by rfl) G.BadText rfl) pa_nil))) pa_nil))))))
      (pss_cons (ps_expr (pe_bm PySem.F.plainAttrs_list PySem.F.slot_list_append PySem.F.type_list_append mt_append (pv 1) (pa_cons (pe_callB call_isK (by rfl) G.isinstance boot_isinstance (pa_cons (pv 0) (pa_cons (pe_glob (v := .ref G.aNotFound) (by rfl) G.NotFound rfl) pa_nil))) pa_nil)))
      (pss_cons (ps_if (PW.pt (pw_or (pt_cmpR op_ne (pe_bm PySem.F.plainAttrs_list PySem.F.slot_list_count PySem.F.type_list_count (mt_countD (hu65 hr)) (pv 1) (pa_cons pe_bl pa_nil)) pe_int (nomark _)) (pw_or (pt_not (pt_val (pe_callB call_isK (by rfl) G.isinstance boot_isinstance (pa_cons (pv 0) (pa_cons (pe_glob (v := .ref G.aTurnError) (by rfl) G.TurnError rfl) pa_nil))))) (pw_or1 (pt_not (pt_val (pe_callB call_isK (by rfl) G.isinstance boot_isinstance (pa_cons (pv 0) (pa_cons (pe_bltn (v := .ty "ValueError") (by rfl) G.ValueError (by decide +kernel) rfl) pa_nil))))))))) (pss_one (ps_ret pe_str)) pss_nil)
      (pss_one (ps_ret (pe_ix ix_list (pe_lst (pa_cons pe_str (pa_cons pe_str (pa_cons pe_str (pa_cons pe_str (pa_cons pe_str (pa_cons pe_str (pa_cons pe_str pa_nil)))))))) (pe_bm PySem.F.plainAttrs_list PySem.F.slot_list_index PySem.F.type_list_index (mt_indexD (hu65 hr)) (pv 1) (pa_cons pe_bl pa_nil)) (fun _ _ => rfl)))))))), fun M H0 ss d h _ _ => ?_⟩)
  · obtain ⟨a, _, rfl, rfl⟩ := h
    rfl
  · obtain ⟨a, ha, rfl, rfl⟩ := h
    have is1 : ∀ {cX : V} {cv : Value} {b : Bool} {ρ : DEnv}, ρ[0]? = some (.raw (.ref a)) → ClsV cX cv → PySem.W.kitOne K (.ref C) cv = some b → ED ⟨K, T, M, H0⟩ (tCB (rIsK K) (tCons (tVar 0) (tCons (tC cX) tNil))) ρ (.bool b) := fun h k e => ed_isK h ha Z.ex k e
    refine sd_seq (sd_setN (en_lst (ds := [.bool false, .bool false, .bool false]) (ea_d (is1 rfl (.own _) Z.k1) (ea_d (is1 rfl (.own _) Z.k2) (ea_d (is1 rfl (.own _) Z.k3) ea_nil))) (by decide)) ?_)
    refine sd_seq (sd_setN (en_catL (xs := [.bool false, .bool false, .bool false]) (ys := [.bool true, .bool false, .bool false]) (el_own rfl) (en_el (en_lst (ds := [.bool true, .bool false, .bool false]) (ea_d (is1 rfl (.own _) Z.k4) (ea_d (is1 rfl (.own _) Z.k5) (ea_d (is1 rfl (.own _) Z.k6) ea_nil))) (by decide))) (by decide)) ?_)
    refine sd_seq (sd_app (d := .bool false) rfl (is1 rfl (.own _) Z.k7) (by decide) ?_)
    have hsh : SeqAt.shaped (.list [PyData.bool false, .bool false, .bool false, .bool true, .bool false, .bool false, .bool false]) = true := by decide
    refine sd_seq (sd_when (b := (false || (!true || !true))) (et_or (et_is (et_test (ed_ne (x := .int 1) (y := .int 1) (ed_is (ed_countD (ds := [.bool false, .bool false, .bool false, .bool true, .bool false, .bool false, .bool false]) (d := .bool true) (el_own rfl) ed_bl hsh (by decide)) rfl) ed_int rfl rfl rfl)) rfl) fun _ => et_or (et_not (et_B (is1 rfl (.own _) Z.k8))) fun _ => et_not (et_B (is1 rfl (.ty _) Z.k9))) (fun z => by cases z) (fun _ => ?_))
    exact sd_ret (d := .str "number") (ed_ixL (ds := [.str "program", .str "hall", .str "scheduler", .str "number", .str "record", .str "text", .str "none"]) (i := ((3 : Nat) : Int)) (en_el (en_lst (ds := [.str "program", .str "hall", .str "scheduler", .str "number", .str "record", .str "text", .str "none"]) (ea_d ed_str (ea_d ed_str (ea_d ed_str (ea_d ed_str (ea_d ed_str (ea_d ed_str (ea_d ed_str ea_nil))))))) (by decide))) (ed_indexD (ds := [.bool false, .bool false, .bool false, .bool true, .bool false, .bool false, .bool false]) (d := .bool true) (j := 3) (z := .bool true) (el_own rfl) ed_bl hsh (by decide) rfl rfl (fun m z' hm e => by
      match m, hm with
      | 0, _ => cases e; rfl
      | 1, _ => cases e; rfl
      | 2, _ => cases e; rfl)) (atI_nat (i := 3) rfl)) rfl
end
/-! ### a text read, or an error told -/
def parsedS (e z : PD) : PD := if K13.numD z 1 4 = true then (match e with
  | .str t => if K13.schedD (told (natOf z) (Txt.split t sp)) z = true then told (natOf z) (Txt.split t sp) else .str "text"
  | _ => .str "text") else .str "number"
theorem parse_cases (Ct Cn : Addr) (e z : PD) : (∃ x, parseS Ct Cn e z = .ok x ∧ parsedS e z = x) ∨ (parseS Ct Cn e z = .ex Ct ∧ parsedS e z = .str "text") ∨ (parseS Ct Cn e z = .ex Cn ∧ parsedS e z = .str "number") := by
  unfold parseS parsedS
  by_cases h : K13.numD z 1 4 = true
  · rw [if_pos h, if_pos h]
    cases e with
    | str t =>
      by_cases h2 : K13.schedD (told (natOf z) (Txt.split t sp)) z = true
      · exact .inl ⟨_, if_pos h2, if_pos h2⟩
      · exact .inr (.inl ⟨if_neg h2, if_neg h2⟩)
    | _ => exact .inr (.inl ⟨rfl, rfl⟩)
  · rw [if_neg h, if_neg h]
    exact .inr (.inr ⟨rfl, rfl⟩)
def R_law_parsed : List DS → PD → Prop := fun ss d => ∃ e z, (∀ t, e = .str t → okS t) ∧ ss = [.dat e, .dat z] ∧ d = parsedS e z
abbrev sParsed : Stmt := top 48
abbrev nParsed : List Str := ["_law_text", "_law_size", "_law_found", "_law_caught", "e"]
theorem scParsed : FnScope nParsed ["_law_text", "_law_size"] (defScope sParsed) := ⟨rfl, rfl, rfl, by decide +kernel, rfl, by decide +kernel, by decide +kernel⟩
section
variable {P : Program} {w : World} {K : PySem.W.Frag} {mg : Str → Option Value} {base : Heap} {f : Addr} {fd : FuncData} {T : List Addr}
theorem ok__law_parsed {Ct Cn : Addr} (F : Fun K "_law_parsed" "_law_parsed" sParsed f fd) (G : GlobN K mg) (Zt : ErrC K G Ct false) (Zn : ErrC K G Cn true) {fS : Addr} {dS : FuncData} (c_parse_scheduler : CalE P w K mg base "parse_scheduler" 7 ["text", "size"] (spE K T (R_parse_scheduler Ct Cn)) fS dS)
    {fE : Addr} {dE : FuncData} (c__law_error : Cal P w K mg base "_law_error" 1 ["_law_caught"] (spX K T (R_law_error2 Ct Cn)) fE dE) : FnOk P w K mg base CX0 8 f fd ["_law_text", "_law_size"] (spD K T R_law_parsed) := by
  refine F.ok scParsed (fun vs H Q E h => ?_) (fun cdv A outer s H vs Q E hr h => ?_)
  · obtain ⟨M, ss, d, _, _, h3, ⟨e, z, _, rfl, _⟩, _⟩ := h
    rw [h3.len]
    rfl
  · obtain ⟨M, ss, d, h1, h2, h3, ⟨e, z, hk, rfl, hd⟩, q⟩ := h
    refine ⟨_, (pss_cons (ps_set (i := 2) scParsed.nd rfl (.inl rfl) pe_non)
      (pss_cons (ps_set (i := 3) scParsed.nd rfl (.inl rfl) pe_non)
      (pss_cons (ps_try_keep (i := 4) (tb := fun W => tAsg (tCallS (spE K T (R_parse_scheduler Ct Cn)) (WE W) (tCons (tVar 0) (tCons (tVar 1) tNil))) (gName 2)) (ts := fun _ _ _ => tAsg (tVar 4) (gName 3)) (Wo := fun _ _ _ _ => False) rfl rfl scParsed.nd rfl rfl ⟨rfl, by decide, .inl G.TurnError⟩ takes0
          (fun W pn xe tk _ => pss_one (ps_set (i := 2) scParsed.nd rfl (.inl rfl) (pe_callS c_parse_scheduler.ok (hr.mono (by decide)) (by rfl) c_parse_scheduler.g c_parse_scheduler.kp c_parse_scheduler.b (fun σ => passAt tk σ) (pa_cons (pv 0) (pa_cons (pv 1) pa_nil)))))
          (fun a cls dd pn => pss_one (ps_set (i := 3) scParsed.nd rfl (.inl rfl) (pv 4))))
      (pss_one (ps_ret (pe_ifExp (pt_cmp (pc_isN (pv 3))) (pv 2) (pe_call c__law_error.ok (hr.mono (by decide)) (by rfl) c__law_error.g c__law_error.kp c__law_error.b .nil pass0 (pa_cons (pv 3) pa_nil)))))))), ?_⟩
    have r0 := start_sr (N := nParsed) h1 h2 h3
    have r1 : SR ⟨K, T, M, H⟩ [] _ H [.dat e, .dat z, .dat .none, .non, .non] := r0.setD 2 (v := .non) (d := .none) .non
    have r2 : SR ⟨K, T, M, H⟩ [] _ H [.dat e, .dat z, .dat .none, .dat .none, .non] := r1.setD 3 (v := .non) (d := .none) .non
    have good : ∀ {v : V} {H1 : Hp} {x : PD}, Keep T H H1 → Dp K (hid (M ++ []) H1) v x → parsedS e z = x → Q v H1 := fun {v H1 x} k g hx => by
      rw [hd, hx] at q
      rw [List.append_nil] at g
      exact q v H1 g k
    -- behind the try
    have after1 : ∀ (v : V) (H2 : Hp) (x : PD), Keep T H H2 → ∀ {σ : L2.St}, SR ⟨K, T, M, H⟩ [] (σ.set 2 (some v)) H2 [.dat e, .dat z, .dat x, .dat .none, .non] → parsedS e z = x →
        tRet (tIf (tB (tIsN (tVar 3))) (tVar 2) (tCall (spX K T (R_law_error2 Ct Cn)) [] E0 (tCons (tVar 3) tNil))) { nx := fun _ H' => Q .non H', rt := Q } (σ.set 2 (some v)) H2 := fun v H2 x k {σ} r hx => by
      exact sd_ret (c := ⟨K, T, M, H⟩) (D := { nx := fun _ => False, rt := fun y => y = x }) (ed_if (b := true) (et_is (et_B (ed_isN (d := .none) (ed_var (i := 3) rfl))) rfl) (fun _ => ed_var (i := 2) (d := x) rfl) (fun z => by cases z)) rfl _
        ⟨fun _ _ _ _ _ z => z.elim, fun v' H' y kk g ey => by
          subst ey
          exact good kk (by rw [List.append_nil]; exact g) hx, fun _ _ _ _ _ z => z.elim, fun _ _ _ _ _ z => z.elim⟩ [] _ H2 r
    have after2 : ∀ (D a : Addr) (wd : Str) (H2 : Hp), parsedS e z = .str wd → ((D = Ct ∧ wd = "text") ∨ (D = Cn ∧ wd = "number")) → H2 a = none → Keep T H H2 → ∀ {σ : L2.St}, SR ⟨K, T, M, H⟩ [] σ H2 [.dat e, .dat z, .dat .none, .dat .none, .non] →
        tRet (tIf (tB (tIsN (tVar 3))) (tVar 2) (tCall (spX K T (R_law_error2 Ct Cn)) [] E0 (tCons (tVar 3) tNil))) { nx := fun _ H' => Q .non H', rt := Q } ((((σ.set 4 (some (.ref a))).set 3 (some (.ref a)))).set 4 none) (upd H2 a (ExK (.ref D) none a)) := fun D a wd H2 hx hD ha k {σ} r => by
      have kn : Keep T H2 (upd H2 a (ExK (.ref D) none a)) := .new ha
      have rc := r.move kn
      have rd : SR ⟨K, T, M, H⟩ [] ((((σ.set 4 (some (.ref a))).set 3 (some (.ref a)))).set 4 none) (upd H2 a (ExK (.ref D) none a)) [.dat e, .dat z, .dat .none, .raw (.ref a), .non] :=
        ((rc.setX 4 (ov := some (.ref a))).setS 3 (s := .raw (.ref a)) rfl (fun _ z => nomatch z)).setX 4 (ov := none)
      obtain ⟨ov, y1, y2⟩ := rd.rel 3 (.raw (.ref a)) rfl
      cases ov with
      | none => exact False.elim y2
      | some v3 =>
        have y2 : v3 = .ref a := y2
        subst y2
        refine ⟨.ref a, y1, false, rfl, ?_⟩
        refine ⟨.ref a, y1, M ++ [], [.raw (.ref a)], .str wd, rd.nM, rd.tabs, .cons rfl .nil, ?_, fun v H5 g k5 => ?_⟩
        · rcases hD with ⟨rfl, rfl⟩ | ⟨rfl, rfl⟩
          · exact .inl ⟨a, upd_same, rfl, rfl⟩
          · exact .inr ⟨a, upd_same, rfl, rfl⟩
        · exact good ((k.trans kn).trans k5) g hx
    have both : ∀ {Dx : Ends} {σ : L2.St}, SR ⟨K, T, M, H⟩ [] σ H [.dat e, .dat z, .dat .none, .dat .none, .non] →
        (∀ v H2 x, Keep T H H2 → SR ⟨K, T, M, H⟩ [] (σ.set 2 (some v)) H2 [.dat e, .dat z, .dat x, .dat .none, .non] → parsedS e z = x → Dx.nx (σ.set 2 (some v)) H2) →
        (∀ D a wd H2, parsedS e z = .str wd → ((D = Ct ∧ wd = "text") ∨ (D = Cn ∧ wd = "number")) → H2 a = none → Keep T H H2 → SR ⟨K, T, M, H⟩ [] σ H2 [.dat e, .dat z, .dat .none, .dat .none, .non] → Dx.nx ((((σ.set 4 (some (.ref a))).set 3 (some (.ref a)))).set 4 none) (upd H2 a (ExK (.ref D) none a))) →
        tCallS (spE K T (R_parse_scheduler Ct Cn)) (WE (wKeep K (.ref G.aTurnError) 4 (fun _ _ _ => tAsg (tVar 4) (gName 3)) (fun _ _ _ _ => False) Dx)) (tCons (tVar 0) (tCons (tVar 1) tNil)) σ H (fun v H2 => Dx.nx (σ.set 2 (some v)) H2) := fun {Dx σ} r hg hb => by
      refine (ea_d (c := ⟨K, T, M, H⟩) (ρ := [.dat e, .dat z, .dat .none, .dat .none, .non]) (ed_var (i := 0) rfl) (ea_d (ed_var (i := 1) rfl) ea_nil)) [] σ H r _ fun vs H2 k2 g2 => ?_
      have ra := r.move k2
      refine ⟨M ++ [], [.dat e, .dat z], parseS Ct Cn e z, ra.nM, ra.tabs, g2, ⟨e, z, hk, rfl, rfl⟩, fun x hx v H3 g3 k3 => ?_, fun D hx H3 k3 => ?_⟩
      · rcases parse_cases Ct Cn e z with ⟨y, p1, p2⟩ | ⟨p1, _⟩ | ⟨p1, _⟩
        · rw [p1] at hx
          cases hx
          exact hg v H3 x (ra.move k3).keep ((ra.move k3).setD 2 g3) p2
        · rw [p1] at hx; cases hx
        · rw [p1] at hx; cases hx
      · have rb := ra.move k3
        rcases parse_cases Ct Cn e z with ⟨y, p1, p2⟩ | ⟨p1, p2⟩ | ⟨p1, p2⟩
        · rw [p1] at hx; cases hx
        · rw [p1] at hx
          cases hx
          refine ⟨true, Zt.ct, fun z => (by cases z), fun _ a ha => ?_⟩
          exact ⟨.ref a, by rw [List.getElem?_set_self (by have := rb.len; simp at this; omega)], hb _ a _ H3 p2 (.inl ⟨rfl, rfl⟩) ha rb.keep rb⟩
        · rw [p1] at hx
          cases hx
          refine ⟨true, Zn.ct, fun z => (by cases z), fun _ a ha => ?_⟩
          exact ⟨.ref a, by rw [List.getElem?_set_self (by have := rb.len; simp at this; omega)], hb _ a _ H3 p2 (.inr ⟨rfl, rfl⟩) ha rb.keep rb⟩
    exact both r2 (fun v H2 x k r hx => after1 v H2 x k r hx) fun D a wd H2 hx hD ha k r => after2 D a wd H2 hx hD ha k r
end
end PT
namespace PT
open PySem PySem.Spec PyProof.Rows L2 DA DL TR TL
/-! ### texts that are rejected -/
def mkS (l : List Nat) : Str := ⟨l.toArray⟩
theorem split_mk (t : Str) : Txt.split t sp = (spl [32] 0 [] (tl t)).map mkS := by
  have e := split_tl (x := t) (y := sp) sp_ne low_sp
  rw [tl_sp] at e
  rw [← e, List.map_map]
  have : ∀ l : List Str, l.map (mkS ∘ tl) = l := fun l => by
    induction l with
    | nil => rfl
    | cons a r ih =>
      rw [List.map_cons, ih]
      show (⟨(tl a).toArray⟩ : Str) :: r = a :: r
      rw [show (⟨(tl a).toArray⟩ : Str) = a from ext_tl rfl]
  exact (this _).symm
def told2 (l : List Nat) : PD := told 2 ((spl [32] 0 [] l).map mkS)
theorem told2_eq (t : Str) : told 2 (Txt.split t sp) = told2 (tl t) := by rw [split_mk]; rfl
def pS : PD → Bool
  | .str t => K13.schedD (told2 (tl t)) (.int 2)
  | _ => false
theorem parsed_text {d : PD} (h : pS d = false) : parsedS d (.int 2) = .str "text" := by
  unfold parsedS
  rw [if_pos (by decide)]
  split
  · rename_i t
    have h : K13.schedD (told2 (tl t)) (.int 2) = false := h
    show (if K13.schedD (told 2 (Txt.split t sp)) (.int 2) = true then told 2 (Txt.split t sp) else PyData.str "text") = _
    rw [told2_eq, if_neg (by rw [h]; decide)]
  · rfl
theorem okS_of {t : Str} (h : t.length ≤ 890) : okS t := ⟨by omega, by have := split_many (x := t) (y := sp) sp_ne low_sp; omega⟩
def lenOk : PD → Bool
  | .str t => decide (t.length ≤ 890)
  | _ => true
theorem len_ok {d : PD} (h : lenOk d = true) : ∀ t, d = .str t → okS t := fun t e => by
  subst e
  exact okS_of (of_decide_eq_true h)
def odd0 : List PD := ([.none, .int 5, .str "", .str "firsts", .str "first ", .str " first"] : List PD) ++ ([.str "rounds 2", .str "rounds 5 early", .str "rounds 0 late", .str "rounds 2 Late", .str "rounds 02 late", .str "order 0 1 taking"] : List PD) ++ ([.str "order 0 1 taking top", .str "order 0 1 taking top 0", .str "order 0 1 taking top 0 2", .str "order 0 0 taking plain", .str "order 0 1 plain", .str "order 0 1 taking plain 1"] : List PD) ++ ([.str "levels raised 0", .str "levels 1 2 3 4 raised 0", .str "levels 1 raised 9", .str "aging 0 1 step 4", .str "aging 0 1 2 step 1", .str "due 1"] : List PD) ++ ([.str "due 7 1", .str "shares 0 1", .str "shares 1 5", .str "shares", .list [.str "first"], .str "order 0 1 taking lent 0 0"] : List PD)
def odd1 : List PD := ([.str "first\n", .str "\nlast", .str "rounds\t1 late"] : List PD)
def odd2 : List PD := ([.str "levels", .str "levels 1", .str "aging", .str "aging 0", .str "aging 0 1", .str "rounds"] : List PD) ++ ([.str "rounds 1 late 1", .str "order", .str "order 0", .str "due"] : List PD)
theorem odd_ok : ((odd0 ++ odd1 ++ odd2).all fun d => lenOk d && !pS d) = true := by decide +kernel
/-- many signs -/
abbrev one : Str := "1"
theorem tl_one : tl one = [49] := by rw [tl_ofString]; decide
def Long (longT : Str) : Prop := tl longT = List.replicate 4000 49
theorem long_mul : Long (Txt.mul one 4000) := mul_one (n := 4000) tl_one (by decide)
section
variable {longT : Str} (hL : Long longT)
include hL
theorem long_len : longT.length = 4000 := by rw [len_tl, show tl longT = _ from hL, List.length_replicate]
theorem numO_long : numO longT = .none := by
  unfold numO numW
  rw [if_neg]
  · rfl
  rw [show tl longT = _ from hL, List.length_replicate]
  omega
theorem long_free : 32 ∉ tl longT := by
  rw [show tl longT = _ from hL]
  intro z
  exact absurd (List.eq_of_mem_replicate z) (by decide)
theorem long_ok {w : Str} (hw : w.length ≤ 10) {ws : List Str} (e : Txt.split (w ++ longT) sp = ws) (hl : ws.length ≤ 900) : okS (w ++ longT) := ⟨by rw [app_len, long_len hL]; omega, by rw [e]; exact hl⟩
theorem split_app {w : Str} {ws : List Str} (e : tl w = joinL [32] (ws.map tl) ++ [32]) (hn : ws ≠ []) (hf : ∀ p ∈ ws, 32 ∉ tl p) : Txt.split (w ++ longT) sp = ws ++ [longT] := by
  have e2 : w ++ longT = Txt.join sp (ws ++ [longT]) := ext_tl (by
    rw [tl_append, e, jn_mid hn (by simp), jn_one, tl_jn]
    simp only [List.append_assoc])
  rw [e2]
  refine split_join (y := sp) (s := 32) (S := []) tl_sp low_sp (by simp) fun p hp => ?_
  rcases List.mem_append.mp hp with h | h
  · exact hf p h
  · rw [List.mem_singleton.mp h]
    exact long_free hL
theorem long_text {w : Str} {ws : List Str} (e : Txt.split (w ++ longT) sp = ws) (h : K13.schedD (told 2 ws) (.int 2) = false) : parsedS (.str (w ++ longT)) (.int 2) = .str "text" := by
  unfold parsedS
  rw [if_pos (by decide)]
  show (if K13.schedD (told 2 (Txt.split (w ++ longT) sp)) (.int 2) = true then told 2 (Txt.split (w ++ longT) sp) else PyData.str "text") = _
  rw [e, if_neg (by rw [h]; decide)]
theorem two_none {k : Str} (h1 : k = "rounds" ∨ k = "levels") : K13.schedD (told 2 [k, longT]) (.int 2) = false := by
  have e : told 2 [k, longT] = .none := by
    show toldK k 2 [k, longT] = _
    unfold toldK
    have n0 : k ≠ "order" := by rcases h1 with rfl | rfl <;> decide
    have n1 : ¬ (k = "due" ∨ k = "shares") := by rcases h1 with rfl | rfl <;> decide
    rw [if_neg n0, if_neg (fun z => absurd z.2.1 (by show ¬ (2 = 3); decide)), if_neg (fun z => absurd z.2.1 (by show ¬ (3 < 2); decide)), if_neg (fun z => absurd z.2.1 (by show ¬ (3 < 2); decide)), if_neg n1, if_neg (fun z => absurd z.2 (by show ¬ (2 = 1); decide))]
  rw [e]
  rfl
theorem lim_none {k : Str} (h1 : k = "due" ∨ k = "shares") : K13.schedD (told 2 [k, "1", longT]) (.int 2) = false := by
  have e : told 2 [k, "1", longT] = .tuple [.str k, .tuple [numO "1", numO longT]] := by
    show toldK k 2 [k, "1", longT] = _
    unfold toldK
    have n0 : k ≠ "order" := by rcases h1 with rfl | rfl <;> decide
    have n1 : k ≠ "rounds" := by rcases h1 with rfl | rfl <;> decide
    have n2 : k ≠ "levels" := by rcases h1 with rfl | rfl <;> decide
    have n3 : k ≠ "aging" := by rcases h1 with rfl | rfl <;> decide
    rw [if_neg n0, if_neg (fun z => n1 z.1), if_neg (fun z => n2 z.1), if_neg (fun z => n3 z.1), if_pos h1]
    rfl
  rw [e, numO_long hL]
  have row : ∀ lo hi : Int, K13.rowD (.tuple [numO "1", .none]) 2 lo hi = false := fun lo hi => by
    show (decide (((2 : Nat) : Int) = 2) && (K13.numD (numO "1") lo hi && (false && true))) = false
    simp
  rcases h1 with rfl | rfl
  · show (K13.numD (.int 2) 1 4 && K13.rowD (.tuple [numO "1", .none]) 2 1 6) = false
    rw [row, Bool.and_false]
  · show (K13.numD (.int 2) 1 4 && K13.rowD (.tuple [numO "1", .none]) 2 1 4) = false
    rw [row, Bool.and_false]
end
/-! ### texts that are told -/
def goodL : List (Str × PD) := [("order 1 0 taking plain", .tuple [.str "order", .tuple [.int 1, .int 0], .int 1, .tuple [.str "plain"]]), ("order 0 1 keeping lent", .tuple [.str "order", .tuple [.int 0, .int 1], .int 0, .tuple [.str "lent"]]), ("order 0 1 taking top 1 0", .tuple [.str "order", .tuple [.int 0, .int 1], .int 1, .tuple [.str "top", .tuple [.int 1, .int 0]]]), ("rounds 2 late", .tuple [.str "rounds", .int 2, .int 1]), ("rounds 3 early", .tuple [.str "rounds", .int 3, .int 0]), ("last", .tuple [.str "last"]), ("shares 2 3", .tuple [.str "shares", .tuple [.int 2, .int 3]]), ("levels 1 2 raised 3", .tuple [.str "levels", .tuple [.int 1, .int 2], .int 3]), ("aging 1 0 step 2", .tuple [.str "aging", .tuple [.int 1, .int 0], .int 2]), ("due 3 4", .tuple [.str "due", .tuple [.int 3, .int 4]])]
theorem good_all : ∀ p ∈ goodL, told2 (tl p.1) = p.2 ∧ (K13.schedD p.2 (.int 2) && SeqAt.shaped p.2 && decide (p.1.length ≤ 890)) = true := by
  have h : goodL.map (fun p => told2 (tl p.1)) = goodL.map (fun p => p.2) := by kernel_rfl
  have h2 : (goodL.all fun p => K13.schedD p.2 (.int 2) && SeqAt.shaped p.2 && decide (p.1.length ≤ 890)) = true := by decide +kernel
  intro p hp
  refine ⟨?_, List.all_eq_true.mp h2 p hp⟩
  obtain ⟨i, hi⟩ := List.getElem?_of_mem hp
  have := congrArg (fun l => l[i]?) h
  simp only [List.getElem?_map, hi] at this
  exact Option.some.inj this
theorem good_one {p : Str × PD} (hp : p ∈ goodL) : parsedS (.str p.1) (.int 2) = p.2 ∧ SeqAt.shaped p.2 = true ∧ okS p.1 ∧ ∃ s : Sc, p.2 = s.enc ∧ s.ok 2 ∧ fmtS s = p.1 := by
  obtain ⟨h1, h2⟩ := good_all p hp
  obtain ⟨h3, h4⟩ := Bool.and_eq_true_iff.mp h2
  obtain ⟨h5, h6⟩ := Bool.and_eq_true_iff.mp h3
  have e : told 2 (Txt.split p.1 sp) = p.2 := by rw [told2_eq, h1]
  have h7 : K13.schedD (told 2 (Txt.split p.1 sp)) (.int ((2 : Nat) : Int)) = true := by rw [e]; exact h5
  obtain ⟨s, s1, s2, s3⟩ := told_sched h7
  refine ⟨?_, h6, okS_of (of_decide_eq_true h4), s, e.symm.trans s1, s2, ?_⟩
  · unfold parsedS
    rw [if_pos (by decide)]
    show (if K13.schedD (told 2 (Txt.split p.1 sp)) (.int 2) = true then told 2 (Txt.split p.1 sp) else PyData.str "text") = _
    have h8 : K13.schedD (told 2 (Txt.split p.1 sp)) (.int 2) = true := h7
    rw [if_pos h8, e]
  · unfold fmtS
    rw [s3]
    exact join_split sp_ne low_sp
theorem eqv_same {d : PD} (h : SeqAt.shaped d = true) : PyData.eqv d d = true := SeqAt.eqv_refl d (Bool.and_eq_true_iff.mp h).1
theorem sh_words (n : Nat) {w : Str} (h1 : PyData.canLay0 (.str w) = true) : SeqAt.shaped (.list (List.replicate n (.str w))) = true := shaped_listOf (n := 1) (fun d hd => by
  rw [List.eq_of_mem_replicate hd]
  exact ⟨h1, by simp [PyData.depth]⟩) (by decide)
theorem all_word {l : List PD} {w : Str} {f : PD → PD} (h : ∀ d ∈ l, f d = .str w) : (l.filter fun _ => true).map f = List.replicate l.length (.str w) := by
  rw [List.filter_eq_self.mpr fun _ _ => rfl]
  induction l with
  | nil => rfl
  | cons a r ih =>
    rw [List.map_cons, h a List.mem_cons_self, ih fun d hd => h d (List.mem_cons_of_mem _ hd)]
    rfl
theorem both_of {l : List PD} {p : PD → Bool} (h : (l.all fun d => lenOk d && !p d) = true) {d : PD} (hd : d ∈ l) : lenOk d = true ∧ p d = false := by
  obtain ⟨h1, h2⟩ := Bool.and_eq_true_iff.mp (List.all_eq_true.mp h d hd)
  exact ⟨h1, by cases q : p d with | false => rfl | true => rw [q] at h2; cases h2⟩
theorem mul_ed : ∃ longT, Long longT ∧ ∀ (c : DC) (ρ : DEnv), ED c (tOp rMulS (tC (.str one)) (tC (.int 4000))) ρ (.str longT) := ⟨Txt.mul one 4000, long_mul, fun c ρ => ed_mulS (z := one) (n := 4000) ed_str ed_int ⟨by decide, fun _ _ => by decide +kernel, fun _ _ => by decide +kernel⟩⟩
def R_law_rejected : List DS → PD → Prop := fun ss d => ss = [] ∧ d = .bool true
abbrev sRej : Stmt := top 49
abbrev nRej : List Str := ["_law_odd", "_law_bad", "_law_word", "_law_good", "_law_one"]
theorem scRej : FnScope nRej [] (defScope sRej) := ⟨rfl, rfl, rfl, by decide +kernel, rfl, by decide +kernel, by decide +kernel⟩
def good0 : List PD := [.tuple [.str "order 1 0 taking plain", .tuple [.str "order", .tuple [.int 1, .int 0], .int 1, .tuple [.str "plain"]]], .tuple [.str "order 0 1 keeping lent", .tuple [.str "order", .tuple [.int 0, .int 1], .int 0, .tuple [.str "lent"]]]]
def good1 : List PD := [.tuple [.str "order 0 1 taking top 1 0", .tuple [.str "order", .tuple [.int 0, .int 1], .int 1, .tuple [.str "top", .tuple [.int 1, .int 0]]]], .tuple [.str "rounds 2 late", .tuple [.str "rounds", .int 2, .int 1]]]
def good2 : List PD := [.tuple [.str "rounds 3 early", .tuple [.str "rounds", .int 3, .int 0]], .tuple [.str "last", .tuple [.str "last"]], .tuple [.str "shares 2 3", .tuple [.str "shares", .tuple [.int 2, .int 3]]]]
def good3 : List PD := [.tuple [.str "levels 1 2 raised 3", .tuple [.str "levels", .tuple [.int 1, .int 2], .int 3]], .tuple [.str "aging 1 0 step 2", .tuple [.str "aging", .tuple [.int 1, .int 0], .int 2]], .tuple [.str "due 3 4", .tuple [.str "due", .tuple [.int 3, .int 4]]]]
theorem good_eq : good0 ++ good1 ++ good2 ++ good3 = goodL.map fun p => .tuple [.str p.1, p.2] := rfl
section
variable {P : Program} {w : World} {K : PySem.W.Frag} {mg : Str → Option Value} {base : Heap} {f : Addr} {fd : FuncData} {T : List Addr}
theorem ok__law_rejected (F : Fun K "_law_rejected" "_law_rejected" sRej f fd) (G : Glob K mg) {fL : Addr} {dL : FuncData} (c__law_parsed : Cal P w K mg base "_law_parsed" 8 ["_law_text", "_law_size"] (spD K T R_law_parsed) fL dL) {fF : Addr} {dF : FuncData} (c_format_scheduler : Cal P w K mg base "format_scheduler" 8 ["scheduler", "size"] (spD K T R_format_scheduler) fF dF) : FnOk P w K mg base CX0 9 f fd [] (spD K T R_law_rejected) := by
  refine fn_sd F scRej (fun ss d h => ?_) (fun cdv A outer s H E hr => ⟨_, (pss_cons (ps_set (i := 0) scRej.nd rfl (.inl rfl) (pe_lst (pa_cons pe_non (pa_cons pe_int (pa_cons pe_str (pa_cons pe_str (pa_cons pe_str (pa_cons pe_str (pa_cons pe_str (pa_cons pe_str (pa_cons pe_str (pa_cons pe_str (pa_cons pe_str (pa_cons pe_str (pa_cons pe_str (pa_cons pe_str (pa_cons pe_str (pa_cons pe_str (pa_cons pe_str (pa_cons pe_str (pa_cons pe_str (pa_cons pe_str (pa_cons pe_str (pa_cons pe_str (pa_cons pe_str (pa_cons pe_str (pa_cons pe_str (pa_cons pe_str (pa_cons pe_str (pa_cons pe_str (pa_cons (pe_lst (pa_cons pe_str pa_nil)) (pa_cons pe_str pa_nil))))))))))))))))))))))))))))))))
      (pss_cons (ps_set (i := 0) scRej.nd rfl (.inl rfl) (pe_op op_catL (pv 0) (pe_lst (pa_cons pe_str (pa_cons pe_str (pa_cons pe_str pa_nil))))))
      (pss_cons (ps_set (i := 0) scRej.nd rfl (.inl rfl) (pe_op op_catL (pv 0) (pe_lst (pa_cons pe_str (pa_cons pe_str (pa_cons pe_str (pa_cons pe_str (pa_cons pe_str (pa_cons pe_str (pa_cons pe_str (pa_cons pe_str (pa_cons pe_str (pa_cons pe_str pa_nil)))))))))))))
      (pss_cons (ps_if (pt_cmpR (op_neD hr.units) (pe_lc (own := [("_law_bad", 1)]) (g := (gName 1)) (tt := tYes) (te := (tCall (spD K T R_law_parsed) [] E0 (tCons (tVar 1) (tCons (tC (.int 2)) tNil)))) rfl scRej.nd (pi_list (pv 0)) (blkOk_by (N := nRej) (sc := defScope sRej) (by decide +kernel)) (fun _ _ _ _ _ => (pg_name (i := 1) scRej.nd rfl (.inl rfl))) (fun _ _ _ _ _ => pts_nil) (fun _ _ _ _ _ => (pe_call c__law_parsed.ok (hr.mono (by decide)) (by rfl) c__law_parsed.g c__law_parsed.kp c__law_parsed.b .nil pass0 (pa_cons (pv 1) (pa_cons pe_int pa_nil))))) (pe_op op_rep (pe_lst (pa_cons pe_str pa_nil)) pe_int) (nomark _)) (pss_one (ps_ret pe_bl)) pss_nil)
      (pss_cons (ps_if (pt_cmpR (op_neD hr.units) (pe_lc (own := [("_law_word", 2)]) (g := (gName 2)) (tt := tYes) (te := (tCall (spD K T R_law_parsed) [] E0 (tCons (tOp (fun x y H Q => ∃ i j, x = .str i ∧ y = .str j ∧ i.length + j.length ≤ sizeLine ∧ Q (.str (i ++ j)) H) (tVar 2) (tOp rMulS (tC (.str "1")) (tC (.int 4000)))) (tCons (tC (.int 2)) tNil)))) rfl scRej.nd (pi_tup (pe_tup (pa_cons pe_str (pa_cons pe_str (pa_cons pe_str (pa_cons pe_str pa_nil)))))) (blkOk_by (N := nRej) (sc := defScope sRej) (by decide +kernel)) (fun _ _ _ _ _ => (pg_name (i := 2) scRej.nd rfl (.inl rfl))) (fun _ _ _ _ _ => pts_nil) (fun _ _ _ _ _ => (pe_call c__law_parsed.ok (hr.mono (by decide)) (by rfl) c__law_parsed.g c__law_parsed.kp c__law_parsed.b .nil pass0 (pa_cons (pe_op op_add_str (pv 2) (pe_op op_mul_str pe_str pe_int)) (pa_cons pe_int pa_nil))))) (pe_op op_rep (pe_lst (pa_cons pe_str pa_nil)) pe_int) (nomark _)) (pss_one (ps_ret pe_bl)) pss_nil)
      (pss_cons (ps_set (i := 3) scRej.nd rfl (.inl rfl) (pe_lst (pa_cons (pe_tup (pa_cons pe_str (pa_cons (pe_tup (pa_cons pe_str (pa_cons (pe_tup (pa_cons pe_int (pa_cons pe_int pa_nil))) (pa_cons pe_int (pa_cons (pe_tup (pa_cons pe_str pa_nil)) pa_nil))))) pa_nil))) (pa_cons (pe_tup (pa_cons pe_str (pa_cons (pe_tup (pa_cons pe_str (pa_cons (pe_tup (pa_cons pe_int (pa_cons pe_int pa_nil))) (pa_cons pe_int (pa_cons (pe_tup (pa_cons pe_str pa_nil)) pa_nil))))) pa_nil))) pa_nil))))
      (pss_cons (ps_set (i := 3) scRej.nd rfl (.inl rfl) (pe_op op_catL (pv 3) (pe_lst (pa_cons (pe_tup (pa_cons pe_str (pa_cons (pe_tup (pa_cons pe_str (pa_cons (pe_tup (pa_cons pe_int (pa_cons pe_int pa_nil))) (pa_cons pe_int (pa_cons (pe_tup (pa_cons pe_str (pa_cons (pe_tup (pa_cons pe_int (pa_cons pe_int pa_nil))) pa_nil))) pa_nil))))) pa_nil))) (pa_cons (pe_tup (pa_cons pe_str (pa_cons (pe_tup (pa_cons pe_str (pa_cons pe_int (pa_cons pe_int pa_nil)))) pa_nil))) pa_nil)))))
      (pss_cons (ps_set (i := 3) scRej.nd rfl (.inl rfl) (pe_op op_catL (pv 3) (pe_lst (pa_cons (pe_tup (pa_cons pe_str (pa_cons (pe_tup (pa_cons pe_str (pa_cons pe_int (pa_cons pe_int pa_nil)))) pa_nil))) (pa_cons (pe_tup (pa_cons pe_str (pa_cons (pe_tup (pa_cons pe_str pa_nil)) pa_nil))) (pa_cons (pe_tup (pa_cons pe_str (pa_cons (pe_tup (pa_cons pe_str (pa_cons (pe_tup (pa_cons pe_int (pa_cons pe_int pa_nil))) pa_nil))) pa_nil))) pa_nil))))))
      (pss_cons (ps_set (i := 3) scRej.nd rfl (.inl rfl) (pe_op op_catL (pv 3) (pe_lst (pa_cons (pe_tup (pa_cons pe_str (pa_cons (pe_tup (pa_cons pe_str (pa_cons (pe_tup (pa_cons pe_int (pa_cons pe_int pa_nil))) (pa_cons pe_int pa_nil)))) pa_nil))) (pa_cons (pe_tup (pa_cons pe_str (pa_cons (pe_tup (pa_cons pe_str (pa_cons (pe_tup (pa_cons pe_int (pa_cons pe_int pa_nil))) (pa_cons pe_int pa_nil)))) pa_nil))) (pa_cons (pe_tup (pa_cons pe_str (pa_cons (pe_tup (pa_cons pe_str (pa_cons (pe_tup (pa_cons pe_int (pa_cons pe_int pa_nil))) pa_nil))) pa_nil))) pa_nil))))))
      (pss_cons (ps_if (pt_cmpR (op_neD hr.units) (pe_lc (own := [("_law_one", 4)]) (g := (gName 4)) (tt := (tOr (tTest (tOp (rNeD K) (tCall (spD K T R_law_parsed) [] E0 (tCons (tOp (rIxT K) (tVar 4) (tC (.int 0))) (tCons (tC (.int 2)) tNil))) (tOp (rIxT K) (tVar 4) (tC (.int 1))))) (tTest (tOp rNe (tCall (spD K T R_format_scheduler) [] E0 (tCons (tOp (rIxT K) (tVar 4) (tC (.int 1))) (tCons (tC (.int 2)) tNil))) (tOp (rIxT K) (tVar 4) (tC (.int 0))))))) (te := (tVar 4)) rfl scRej.nd (pi_list (pv 3)) (blkOk_by (N := nRej) (sc := defScope sRej) (by decide +kernel)) (fun _ _ _ _ _ => (pg_name (i := 4) scRej.nd rfl (.inl rfl))) (fun _ _ _ _ _ => (pts_one (PW.pt (pw_or (pt_cmpR (op_neD hr.units) (pe_call c__law_parsed.ok (hr.mono (by decide)) (by rfl) c__law_parsed.g c__law_parsed.kp c__law_parsed.b .nil pass0 (pa_cons (pe_ix ix_tup (pv 4) pe_int (fun _ _ => rfl)) (pa_cons pe_int pa_nil))) (pe_ix ix_tup (pv 4) pe_int (fun _ _ => rfl)) (nomark _)) (pw_or1 (pt_cmpR op_ne (pe_call c_format_scheduler.ok (hr.mono (by decide)) (by rfl) c_format_scheduler.g c_format_scheduler.kp c_format_scheduler.b .nil pass0 (pa_cons (pe_ix ix_tup (pv 4) pe_int (fun _ _ => rfl)) (pa_cons pe_int pa_nil))) (pe_ix ix_tup (pv 4) pe_int (fun _ _ => rfl)) (nomark _))))))) (fun _ _ _ _ _ => (pv 4))) (pe_lst pa_nil) (nomark _)) (pss_one (ps_ret pe_bl)) pss_nil)
      (pss_one (ps_ret (pe_and (pe_cmpR (op_eqD hr.units) (pe_lc (own := [("_law_bad", 1)]) (g := (gName 1)) (tt := tYes) (te := (tCall (spD K T R_law_parsed) [] E0 (tCons (tC (.str "first")) (tCons (tVar 1) tNil)))) rfl scRej.nd (pi_tup (pe_tup (pa_cons pe_int (pa_cons pe_int (pa_cons pe_non (pa_cons pe_bl (pa_cons pe_str pa_nil))))))) (blkOk_by (N := nRej) (sc := defScope sRej) (by decide +kernel)) (fun _ _ _ _ _ => (pg_name (i := 1) scRej.nd rfl (.inl rfl))) (fun _ _ _ _ _ => pts_nil) (fun _ _ _ _ _ => (pe_call c__law_parsed.ok (hr.mono (by decide)) (by rfl) c__law_parsed.g c__law_parsed.kp c__law_parsed.b .nil pass0 (pa_cons pe_str (pa_cons (pv 1) pa_nil))))) (pe_op op_rep (pe_lst (pa_cons pe_str pa_nil)) pe_int) (nomark _)) (pe_one (pe_cmpR (op_eqD hr.units) (pe_call c__law_parsed.ok (hr.mono (by decide)) (by rfl) c__law_parsed.g c__law_parsed.kp c__law_parsed.b .nil pass0 (pa_cons pe_non (pa_cons pe_int pa_nil))) pe_str (nomark _)))))))))))))))), fun M H0 ss d h => ?_⟩)
  · obtain ⟨rfl, rfl⟩ := h
    rfl
  · obtain ⟨rfl, rfl⟩ := h
    refine sd_seq (sd_set (d := .list odd0) (ed_en (en_lst (ds := odd0) (ea_d ed_non (ea_d ed_int (ea_d ed_str (ea_d ed_str (ea_d ed_str (ea_d ed_str (ea_d ed_str (ea_d ed_str (ea_d ed_str (ea_d ed_str (ea_d ed_str (ea_d ed_str (ea_d ed_str (ea_d ed_str (ea_d ed_str (ea_d ed_str (ea_d ed_str (ea_d ed_str (ea_d ed_str (ea_d ed_str (ea_d ed_str (ea_d ed_str (ea_d ed_str (ea_d ed_str (ea_d ed_str (ea_d ed_str (ea_d ed_str (ea_d ed_str (ea_d (ed_en (en_lst (ds := [.str "first"]) (ea_d ed_str ea_nil) (by decide))) (ea_d ed_str ea_nil)))))))))))))))))))))))))))))) (by decide))) ?_)
    refine sd_seq (sd_set (d := .list (odd0 ++ odd1)) (ed_en (en_catL (xs := odd0) (ys := odd1) (el_ed (ed_var rfl)) (en_el (en_lst (ds := odd1) (ea_d ed_str (ea_d ed_str (ea_d ed_str ea_nil))) (by decide))) (by decide))) ?_)
    refine sd_seq (sd_set (d := .list (odd0 ++ odd1 ++ odd2)) (ed_en (en_catL (xs := odd0 ++ odd1) (ys := odd2) (el_ed (ed_var rfl)) (en_el (en_lst (ds := odd2) (ea_d ed_str (ea_d ed_str (ea_d ed_str (ea_d ed_str (ea_d ed_str (ea_d ed_str (ea_d ed_str (ea_d ed_str (ea_d ed_str (ea_d ed_str ea_nil)))))))))) (by decide))) (by decide))) ?_)
    have hW : PyData.canLay0 (.str "text") = true := by decide +kernel
    have hN : PyData.canLay0 (.str "number") = true := by decide +kernel
    have rep : ∀ (n : Nat) (w : Str) {ρ : DEnv}, n ≤ 100 → ED ⟨K, T, M, H0⟩ (tOp rRep (tLst (tCons (tC (.str w)) tNil)) (tC (.int (n : Int)))) ρ (.list (List.replicate n (.str w))) := fun n w {ρ} hn =>
      ed_en (en_is (en_rep (xs := [.str w]) (k := n) (en_lst (ds := [.str w]) (ea_d ed_str ea_nil) (by simp)) ed_int (by simp; omega) (by omega)) (rep_one n _))
    have ne : ∀ {ρ : DEnv} {ta tb : TE} {n : Nat}, ED ⟨K, T, M, H0⟩ ta ρ (.list (List.replicate n (.str "text"))) → ED ⟨K, T, M, H0⟩ tb ρ (.list (List.replicate n (.str "text"))) → ET ⟨K, T, M, H0⟩ (tTest (tOp (rNeD K) ta tb)) ρ false := fun {ρ ta tb n} h1 h2 =>
      et_is (et_test (ed_neD h1 h2 (sh_words n hW) (sh_words n hW))) (by rw [eqv_same (sh_words n hW)]; rfl)
    have pr : ∀ {H1 : Hp} {ρ : DEnv} {ta tb : TE} {e z x : PD}, ED ⟨K, T, M, H1⟩ ta ρ e → ED ⟨K, T, M, H1⟩ tb ρ z → (∀ t, e = .str t → okS t) → parsedS e z = x → ED ⟨K, T, M, H1⟩ (tCall (spD K T R_law_parsed) [] E0 (tCons ta (tCons tb tNil))) ρ x := fun {H1 ρ ta tb e z x} h1 h2 h3 h4 =>
      ed_call (R := R_law_parsed) (ea_d h1 (ea_d h2 ea_nil)) ⟨e, z, h3, rfl, h4.symm⟩
    refine sd_seq (sd_when (b := false) (ne (n := 43) (ed_en (en_is (en_lc (js := [1]) (fun _ => true) (fun d => parsedS d (.int 2)) (id_list (ed_var (d := .list (odd0 ++ odd1 ++ odd2)) rfl)) (by decide) (by decide) (fun d hd H1 _ => ?_)) (all_word fun d hd => parsed_text (both_of odd_ok hd).2))) (rep 43 "text" (by decide))) (fun z => by cases z) fun _ => ?_)
    · obtain ⟨h1, h2⟩ := both_of odd_ok hd
      exact ⟨[d], tg_name, et_yes, fun _ => pr (ed_var rfl) ed_int (len_ok h1) rfl⟩
    -- many signs
    refine sd_seq (sd_when (b := false) (ne (n := 4) (ed_en (en_is (en_lc (js := [2]) (fun _ => true) (fun _ => .str "text") (id_tup (ed_tup (ds := [.str "rounds ", .str "due 1 ", .str "levels ", .str "shares 1 "]) (ea_d ed_str (ea_d ed_str (ea_d ed_str (ea_d ed_str ea_nil)))) (by decide))) (by decide) (by decide) (fun d hd H1 _ => ?_)) (all_word fun d hd => rfl))) (rep 4 "text" (by decide))) (fun z => by cases z) fun _ => ?_)
    · obtain ⟨longT, hL, mu⟩ := mul_ed
      have key : ∀ {w : Str} {ws : List Str}, w.length ≤ 10 → Txt.split (w ++ longT) sp = ws → ws.length ≤ 900 → K13.schedD (told 2 ws) (.int 2) = false → d = .str w → ∃ ps, TGd ⟨K, T, M, H1⟩ (gName 2) [2] d ps ∧ ET ⟨K, T, M, H1⟩ tYes (setDs (wipeD [.dat (.list (odd0 ++ odd1 ++ odd2)), .non, .non, .non, .non] [2]) [2] ps) true ∧ (true = true → ED ⟨K, T, M, H1⟩ (tCall (spD K T R_law_parsed) [] E0 (tCons (tOp (fun x y H Q => ∃ i j, x = .str i ∧ y = .str j ∧ i.length + j.length ≤ sizeLine ∧ Q (.str (i ++ j)) H) (tVar 2) (tOp rMulS (tC (.str one)) (tC (.int 4000)))) (tCons (tC (.int 2)) tNil))) (setDs (wipeD [.dat (.list (odd0 ++ odd1 ++ odd2)), .non, .non, .non, .non] [2]) [2] ps) (.str "text")) := fun {w ws} hw e hl hs ed => by
        subst ed
        have l4 := long_len hL
        refine ⟨[.str w], tg_name, et_yes, fun _ => pr (e := .str (w ++ longT)) (ed_addS (x := w) (y := longT) (ed_var rfl) (mu _ _) (big (by omega))) ed_int (fun t et => ?_) (long_text hL e hs)⟩
        cases et
        exact long_ok hL hw e hl
      simp only [List.mem_cons, List.not_mem_nil, or_false] at hd
      rcases hd with rfl | rfl | rfl | rfl
      · exact key (by decide) (split_app hL (w := "rounds ") (ws := [("rounds" : Str)]) (by rw [tl_ofString]; decide +kernel) (by simp) (fun p hp => by rw [List.mem_singleton.mp hp]; decide +kernel)) (by simp) (two_none hL (.inl rfl)) rfl
      · exact key (by decide) (split_app hL (w := "due 1 ") (ws := [("due" : Str), "1"]) (by rw [tl_ofString]; decide +kernel) (by simp) (fun p hp => by
          simp only [List.mem_cons, List.not_mem_nil, or_false] at hp
          rcases hp with rfl | rfl <;> decide +kernel)) (by simp) (lim_none hL (.inl rfl)) rfl
      · exact key (by decide) (split_app hL (w := "levels ") (ws := [("levels" : Str)]) (by rw [tl_ofString]; decide +kernel) (by simp) (fun p hp => by rw [List.mem_singleton.mp hp]; decide +kernel)) (by simp) (two_none hL (.inr rfl)) rfl
      · exact key (by decide) (split_app hL (w := "shares 1 ") (ws := [("shares" : Str), "1"]) (by rw [tl_ofString]; decide +kernel) (by simp) (fun p hp => by
          simp only [List.mem_cons, List.not_mem_nil, or_false] at hp
          rcases hp with rfl | rfl <;> decide +kernel)) (by simp) (lim_none hL (.inr rfl)) rfl
    -- texts told
    refine sd_seq (sd_set (d := .list good0) (ed_en (en_lst (ds := good0) (ea_d (ed_tup (ds := [.str "order 1 0 taking plain", .tuple [.str "order", .tuple [.int 1, .int 0], .int 1, .tuple [.str "plain"]]]) (ea_d ed_str (ea_d (ed_tup (ds := [.str "order", .tuple [.int 1, .int 0], .int 1, .tuple [.str "plain"]]) (ea_d ed_str (ea_d (ed_tup (ds := [.int 1, .int 0]) (ea_d ed_int (ea_d ed_int ea_nil)) (by decide)) (ea_d ed_int (ea_d (ed_tup (ds := [.str "plain"]) (ea_d ed_str ea_nil) (by decide)) ea_nil)))) (by decide)) ea_nil)) (by decide)) (ea_d (ed_tup (ds := [.str "order 0 1 keeping lent", .tuple [.str "order", .tuple [.int 0, .int 1], .int 0, .tuple [.str "lent"]]]) (ea_d ed_str (ea_d (ed_tup (ds := [.str "order", .tuple [.int 0, .int 1], .int 0, .tuple [.str "lent"]]) (ea_d ed_str (ea_d (ed_tup (ds := [.int 0, .int 1]) (ea_d ed_int (ea_d ed_int ea_nil)) (by decide)) (ea_d ed_int (ea_d (ed_tup (ds := [.str "lent"]) (ea_d ed_str ea_nil) (by decide)) ea_nil)))) (by decide)) ea_nil)) (by decide)) ea_nil)) (by decide))) ?_)
    refine sd_seq (sd_set (d := .list (good0 ++ good1)) (ed_en (en_catL (xs := good0) (ys := good1) (el_ed (ed_var rfl)) (en_el (en_lst (ds := good1) (ea_d (ed_tup (ds := [.str "order 0 1 taking top 1 0", .tuple [.str "order", .tuple [.int 0, .int 1], .int 1, .tuple [.str "top", .tuple [.int 1, .int 0]]]]) (ea_d ed_str (ea_d (ed_tup (ds := [.str "order", .tuple [.int 0, .int 1], .int 1, .tuple [.str "top", .tuple [.int 1, .int 0]]]) (ea_d ed_str (ea_d (ed_tup (ds := [.int 0, .int 1]) (ea_d ed_int (ea_d ed_int ea_nil)) (by decide)) (ea_d ed_int (ea_d (ed_tup (ds := [.str "top", .tuple [.int 1, .int 0]]) (ea_d ed_str (ea_d (ed_tup (ds := [.int 1, .int 0]) (ea_d ed_int (ea_d ed_int ea_nil)) (by decide)) ea_nil)) (by decide)) ea_nil)))) (by decide)) ea_nil)) (by decide)) (ea_d (ed_tup (ds := [.str "rounds 2 late", .tuple [.str "rounds", .int 2, .int 1]]) (ea_d ed_str (ea_d (ed_tup (ds := [.str "rounds", .int 2, .int 1]) (ea_d ed_str (ea_d ed_int (ea_d ed_int ea_nil))) (by decide)) ea_nil)) (by decide)) ea_nil)) (by decide))) (by decide))) ?_)
    refine sd_seq (sd_set (d := .list (good0 ++ good1 ++ good2)) (ed_en (en_catL (xs := good0 ++ good1) (ys := good2) (el_ed (ed_var rfl)) (en_el (en_lst (ds := good2) (ea_d (ed_tup (ds := [.str "rounds 3 early", .tuple [.str "rounds", .int 3, .int 0]]) (ea_d ed_str (ea_d (ed_tup (ds := [.str "rounds", .int 3, .int 0]) (ea_d ed_str (ea_d ed_int (ea_d ed_int ea_nil))) (by decide)) ea_nil)) (by decide)) (ea_d (ed_tup (ds := [.str "last", .tuple [.str "last"]]) (ea_d ed_str (ea_d (ed_tup (ds := [.str "last"]) (ea_d ed_str ea_nil) (by decide)) ea_nil)) (by decide)) (ea_d (ed_tup (ds := [.str "shares 2 3", .tuple [.str "shares", .tuple [.int 2, .int 3]]]) (ea_d ed_str (ea_d (ed_tup (ds := [.str "shares", .tuple [.int 2, .int 3]]) (ea_d ed_str (ea_d (ed_tup (ds := [.int 2, .int 3]) (ea_d ed_int (ea_d ed_int ea_nil)) (by decide)) ea_nil)) (by decide)) ea_nil)) (by decide)) ea_nil))) (by decide))) (by decide))) ?_)
    refine sd_seq (sd_set (d := .list (goodL.map fun p => .tuple [.str p.1, p.2])) (ed_en (en_is (en_catL (xs := good0 ++ good1 ++ good2) (ys := good3) (el_ed (ed_var rfl)) (en_el (en_lst (ds := good3) (ea_d (ed_tup (ds := [.str "levels 1 2 raised 3", .tuple [.str "levels", .tuple [.int 1, .int 2], .int 3]]) (ea_d ed_str (ea_d (ed_tup (ds := [.str "levels", .tuple [.int 1, .int 2], .int 3]) (ea_d ed_str (ea_d (ed_tup (ds := [.int 1, .int 2]) (ea_d ed_int (ea_d ed_int ea_nil)) (by decide)) (ea_d ed_int ea_nil))) (by decide)) ea_nil)) (by decide)) (ea_d (ed_tup (ds := [.str "aging 1 0 step 2", .tuple [.str "aging", .tuple [.int 1, .int 0], .int 2]]) (ea_d ed_str (ea_d (ed_tup (ds := [.str "aging", .tuple [.int 1, .int 0], .int 2]) (ea_d ed_str (ea_d (ed_tup (ds := [.int 1, .int 0]) (ea_d ed_int (ea_d ed_int ea_nil)) (by decide)) (ea_d ed_int ea_nil))) (by decide)) ea_nil)) (by decide)) (ea_d (ed_tup (ds := [.str "due 3 4", .tuple [.str "due", .tuple [.int 3, .int 4]]]) (ea_d ed_str (ea_d (ed_tup (ds := [.str "due", .tuple [.int 3, .int 4]]) (ea_d ed_str (ea_d (ed_tup (ds := [.int 3, .int 4]) (ea_d ed_int (ea_d ed_int ea_nil)) (by decide)) ea_nil)) (by decide)) ea_nil)) (by decide)) ea_nil))) (by decide))) (by decide)) rfl)) ?_)
    refine sd_seq (sd_when (b := false) (et_is (et_test (ed_neD (x := .list []) (y := .list []) (ed_en (en_is (en_lc (js := [4]) (fun _ => false) (fun d => d) (id_list (ed_var (d := .list (goodL.map fun p => .tuple [.str p.1, p.2])) rfl)) (by decide) (by decide) (fun d hd H1 _ => ?_)) (by rw [List.filter_eq_nil_iff.mpr fun _ _ => (by decide)]; rfl))) (ed_en (en_lst (ds := []) ea_nil (by decide))) sh_nil sh_nil)) rfl) (fun z => by cases z) fun _ => ?_)
    · obtain ⟨p, hp, rfl⟩ := List.mem_map.mp hd
      obtain ⟨g1, g2, g3, s, g4, g5, g6⟩ := good_one hp
      refine ⟨[.tuple [.str p.1, p.2]], tg_name, et_is (et_or (a := false) (b := false) (et_is (et_test (ed_neD (x := p.2) (y := p.2) (pr (e := .str p.1) (ed_ixT (ds := [.str p.1, p.2]) (i := ((0 : Nat) : Int)) (ed_var rfl) ed_int (atI_nat rfl)) ed_int (fun t et => by cases et; exact g3) g1) (ed_ixT (ds := [.str p.1, p.2]) (i := ((1 : Nat) : Int)) (ed_var rfl) ed_int (atI_nat rfl)) g2 g2)) (by rw [eqv_same g2]; rfl)) fun _ => et_is (et_test (ed_ne (x := .str (fmtS s)) (y := .str p.1) (ed_call (R := R_format_scheduler) (ea_d (ed_ixT (ds := [.str p.1, p.2]) (i := ((1 : Nat) : Int)) (ed_var rfl) ed_int (atI_nat rfl)) (ea_d ed_int ea_nil)) ⟨s, 2, by decide, by decide, g5, by rw [g4]; rfl, rfl⟩) (ed_ixT (ds := [.str p.1, p.2]) (i := ((0 : Nat) : Int)) (ed_var rfl) ed_int (atI_nat rfl)) rfl rfl rfl)) (by rw [g6]; simp)) rfl, fun z => by cases z⟩
    -- numbers
    have eqW : ∀ {ρ : DEnv} {ta tb : TE} {x : PD}, SeqAt.shaped x = true → ED ⟨K, T, M, H0⟩ ta ρ x → ED ⟨K, T, M, H0⟩ tb ρ x → ED ⟨K, T, M, H0⟩ (tOp (rEqD K) ta tb) ρ (.bool true) := fun {ρ ta tb x} h h1 h2 => ed_is (ed_eqD h1 h2 h h) (by rw [eqv_same h])
    refine sd_ret (d := .bool (true && true)) (ed_andV (eqW (x := .list (List.replicate 5 (.str "number"))) (sh_words 5 hN) (ed_en (en_is (en_lc (js := [1]) (fun _ => true) (fun d => parsedS (.str "first") d) (id_tup (ed_tup (ds := [.int 0, .int 5, .none, .bool true, .str "2"]) (ea_d ed_int (ea_d ed_int (ea_d ed_non (ea_d ed_bl (ea_d ed_str ea_nil))))) (by decide))) (by decide) (by decide) (fun d hd H1 _ => ⟨[d], tg_name, et_yes, fun _ => pr ed_str (ed_var rfl) (fun t et => by cases et; exact okS_of (by decide)) rfl⟩)) (all_word (w := "number") fun d hd => ?_))) (rep 5 "number" (by decide))) fun _ => eqW (x := .str "number") (by decide +kernel) (pr (e := .none) (z := .int 5) ed_non ed_int (fun t et => by cases et) (by unfold parsedS; rw [if_neg (by decide)])) ed_str) rfl
    simp only [List.mem_cons, List.not_mem_nil, or_false] at hd
    unfold parsedS
    rcases hd with rfl | rfl | rfl | rfl | rfl <;> rw [if_neg (by decide)]
end
end PT
namespace PT
open PySem PySem.Spec PyProof.Rows L2 DA DL TR TL
/-! ### the law of the names -/
def spLaw (K : PySem.W.Frag) (T : List Addr) : Sp := fun vs H Q _ => ∃ (a : Addr) (ns : List Int), vs = [.ref a] ∧ SqL K H a (ns.map V.int) ∧ ns.length ≤ 63 ∧ Tabs T H ∧ ∀ H', Q (.bl true) H'
theorem lay_tuple {ds : List PD} {n : Nat} (h : ∀ d ∈ ds, PyData.canLay0 d = true ∧ PyData.depth d ≤ n) : PyData.canLay0 (.tuple ds) = true ∧ PyData.depth (.tuple ds) ≤ n + 1 := by
  have h1 := canAll fun d hd => (h d hd).1
  have h2 := depAll fun d hd => (h d hd).2
  refine ⟨?_, ?_⟩
  · simp only [PyData.canLay0]
    exact h1
  · simp only [PyData.depth]
    omega
theorem lay_int (n : Nat) : PyData.canLay0 (intD n) = true ∧ PyData.depth (intD n) ≤ 0 := ⟨by simp [intD, PyData.canLay0], by simp [intD, PyData.depth]⟩
theorem lay_nats (ls : List Nat) : PyData.canLay0 (natsT ls) = true ∧ PyData.depth (natsT ls) ≤ 1 := lay_tuple (n := 0) fun d hd => by
  obtain ⟨x, _, rfl⟩ := List.mem_map.mp hd
  exact lay_int x
theorem lay_rule (r : Rl) : PyData.canLay0 r.enc = true ∧ PyData.depth r.enc ≤ 2 := by
  cases r with
  | plain => exact ⟨by decide +kernel, by decide +kernel⟩
  | lent => exact ⟨by decide +kernel, by decide +kernel⟩
  | top a b =>
    refine lay_tuple (n := 1) fun d hd => ?_
    simp only [List.mem_cons, List.not_mem_nil, or_false] at hd
    rcases hd with rfl | rfl
    · exact ⟨by decide +kernel, by decide +kernel⟩
    · exact lay_nats _
theorem sched_sh {s : Sc} {n : Nat} (h : s.ok n) : SeqAt.shaped s.enc = true := by
  have key : PyData.canLay0 s.enc = true ∧ PyData.depth s.enc ≤ 3 := by
    have st : ∀ {k : Str}, PyData.canLay0 (.str k) = true → PyData.canLay0 (.str k) = true ∧ PyData.depth (.str k) ≤ 2 := fun {k} h => ⟨h, by simp [PyData.depth]⟩
    have up : ∀ {d : PD} {a : Nat}, a ≤ 2 → PyData.canLay0 d = true ∧ PyData.depth d ≤ a → PyData.canLay0 d = true ∧ PyData.depth d ≤ 2 := fun ha h => ⟨h.1, by omega⟩
    cases s with
    | bare k =>
      refine lay_tuple (n := 2) fun d hd => ?_
      rw [List.mem_singleton.mp hd]
      rcases h with rfl | rfl <;> exact st (by decide +kernel)
    | rounds q l =>
      refine lay_tuple (n := 2) fun d hd => ?_
      simp only [List.mem_cons, List.not_mem_nil, or_false] at hd
      rcases hd with rfl | rfl | rfl
      · exact st (by decide +kernel)
      · exact up (by decide) (lay_int _)
      · exact up (by decide) (lay_int _)
    | levels q l =>
      refine lay_tuple (n := 2) fun d hd => ?_
      simp only [List.mem_cons, List.not_mem_nil, or_false] at hd
      rcases hd with rfl | rfl | rfl
      · exact st (by decide +kernel)
      · exact up (by decide) (lay_nats _)
      · exact up (by decide) (lay_int _)
    | aging q l =>
      refine lay_tuple (n := 2) fun d hd => ?_
      simp only [List.mem_cons, List.not_mem_nil, or_false] at hd
      rcases hd with rfl | rfl | rfl
      · exact st (by decide +kernel)
      · exact up (by decide) (lay_nats _)
      · exact up (by decide) (lay_int _)
    | lim k ls =>
      refine lay_tuple (n := 2) fun d hd => ?_
      simp only [List.mem_cons, List.not_mem_nil, or_false] at hd
      rcases hd with rfl | rfl
      · rcases h.2 with ⟨rfl, _⟩ | ⟨rfl, _⟩ <;> exact st (by decide +kernel)
      · exact up (by decide) (lay_nats _)
    | order o t r =>
      refine lay_tuple (n := 2) fun d hd => ?_
      simp only [List.mem_cons, List.not_mem_nil, or_false] at hd
      rcases hd with rfl | rfl | rfl | rfl
      · exact st (by decide +kernel)
      · exact up (by decide) (lay_nats _)
      · exact up (by decide) (lay_int _)
      · exact up (by decide) (lay_rule _)
  show (PyData.canLay0 s.enc && decide (PyData.depth s.enc ≤ 64)) = true
  rw [key.1, decide_eq_true (by omega)]
  rfl
theorem eqv_txt (s : Sc) (t : Str) : PyData.eqv s.enc (.str t) = false := by cases s <;> rfl
/-- the words, from the data -/
def itemsP : PD → List PD
  | .tuple xs => xs
  | _ => []
def wdsD : PD → List Str
  | .tuple [.str k] => [k]
  | .tuple [.str k, x] => k :: (itemsP x).map txt
  | .tuple [.str k, x, y] => if k = "rounds" then [k, txt x, lateW (natOf y)] else k :: ((itemsP x).map txt ++ [(if k = "levels" then "raised" else "step" : Str), txt y])
  | .tuple [.str k, x, y, z] => k :: ((itemsP x).map txt ++ takeW (natOf y) :: (match itemsP z with
    | [u, v] => txt u :: (itemsP v).map txt
    | l => l.map txt))
  | _ => []
theorem wdsD_enc (s : Sc) : wdsD s.enc = s.words := by
  cases s with
  | bare k => rfl
  | rounds q l =>
    show (if ("rounds" : Str) = "rounds" then [("rounds" : Str), strN q, lateW ((l : Int).toNat)] else ("rounds" : Str) :: ((itemsP (intD q)).map txt ++ [(if ("rounds" : Str) = "levels" then "raised" else "step" : Str), strN l])) = _
    rw [if_pos rfl, Int.toNat_natCast]
    rfl
  | levels q l =>
    show (if ("levels" : Str) = "rounds" then [("levels" : Str), txt (natsT q), lateW (natOf (intD l))] else ("levels" : Str) :: ((q.map intD).map txt ++ [(if ("levels" : Str) = "levels" then "raised" else "step" : Str), strN l])) = _
    rw [if_neg (by decide), if_pos rfl, txt_ints]
    rfl
  | aging q l =>
    show (if ("aging" : Str) = "rounds" then [("aging" : Str), txt (natsT q), lateW (natOf (intD l))] else ("aging" : Str) :: ((q.map intD).map txt ++ [(if ("aging" : Str) = "levels" then "raised" else "step" : Str), strN l])) = _
    rw [if_neg (by decide), if_neg (by decide), txt_ints]
    rfl
  | lim k ls =>
    show k :: (ls.map intD).map txt = _
    rw [txt_ints]
    rfl
  | order o t r =>
    have e : takeW (natOf (intD t)) = takeW t := by
      show takeW ((t : Int).toNat) = _
      rw [Int.toNat_natCast]
    show ("order" : Str) :: ((o.map intD).map txt ++ takeW (natOf (intD t)) :: _) = _
    rw [txt_ints, e]
    cases r <;> rfl
theorem told_n {ws : List Str} (h : wn ws 0 ≠ "order") (m n : Nat) : told m ws = told n ws := by
  unfold told toldK
  rw [if_neg h, if_neg h]
theorem tw {A B : List Str} {x : Str} {p : Str → Bool} (hA : ∀ a ∈ A, p a = true) (hx : p x = false) : (A ++ x :: B).takeWhile p = A := by
  induction A with
  | nil => rw [List.nil_append, List.takeWhile_cons, hx]; rfl
  | cons a r ih =>
    rw [List.cons_append, List.takeWhile_cons, hA a List.mem_cons_self, ih fun y hy => hA y (List.mem_cons_of_mem _ hy)]
    rfl
def isNm (w : Str) : Bool := (numW (tl w)).isSome
theorem isNm_take (t : Nat) : isNm (takeW t) = false := by
  rcases takeW_or t with e | e <;> (rw [e]; decide +kernel)
theorem isNm_num {o : List Nat} (h : ∀ x ∈ o, x ≤ 99) : ∀ w ∈ o.map strN, isNm w = true := fun w hw => by
  obtain ⟨x, hx, rfl⟩ := List.mem_map.mp hw
  unfold isNm
  rw [tl_strN, numW_num (h x hx)]
  rfl
/-- what a scheduler's text tells for a size -/
theorem told_other {s : Sc} {n m : Nat} (n1 : 1 ≤ n) (n4 : n ≤ 4) (m1 : 1 ≤ m) (m4 : m ≤ 4) (h : s.ok n) : parsedS (.str (fmtS s)) (intD m) = if K13.schedD s.enc (intD m) = true then s.enc else .str "text" := by
  have e0 : parsedS (.str (fmtS s)) (intD m) = if K13.schedD (told m s.words) (intD m) = true then told m s.words else .str "text" := by
    unfold parsedS
    have hz : K13.numD (intD m) 1 4 = true := numD_ok (lo := 1) (hi := 4) m1 m4
    rw [if_pos hz]
    show (if K13.schedD (told m (Txt.split (fmtS s) sp)) (intD m) = true then told m (Txt.split (fmtS s) sp) else .str "text") = _
    rw [split_fmtS n1 n4 h]
  rw [e0]
  by_cases hs : K13.schedD s.enc (intD m) = true
  · rw [if_pos hs]
    obtain ⟨_, _, s2, e, ok2⟩ := sched_nat (n := m) hs
    have ew : s.words = s2.words := by rw [← wdsD_enc, ← wdsD_enc, e]
    have et : told m s.words = s.enc := by rw [ew, told_words m1 m4 ok2, e]
    rw [et, if_pos hs]
  · rw [if_neg hs]
    have eq_n : told n s.words = s.enc := told_words n1 n4 h
    refine if_neg fun ht => hs ?_
    have done : told m s.words = told n s.words → K13.schedD s.enc (intD m) = true := fun e => by rw [← eq_n, ← e]; exact ht
    by_cases ho : wn s.words 0 = "order"
    · obtain ⟨s2, _, ok2, ew⟩ := told_sched (n := m) ht
      have isO : ∀ {u : Sc} {k : Nat}, u.ok k → wn u.words 0 = "order" → ∃ o t r, u = .order o t r := fun {u k} hu hw => by
        cases u with
        | order o t r => exact ⟨o, t, r, rfl⟩
        | bare k =>
          have hw : k = "order" := hw
          subst hw
          exact absurd hu (by show ¬ (("order" : Str) = "first" ∨ ("order" : Str) = "last"); decide)
        | rounds q l => exact absurd (show ("rounds" : Str) = "order" from hw) (by decide)
        | levels q l => exact absurd (show ("levels" : Str) = "order" from hw) (by decide)
        | aging q l => exact absurd (show ("aging" : Str) = "order" from hw) (by decide)
        | lim k ls =>
          have hw : k = "order" := hw
          subst hw
          rcases hu.2 with ⟨z, _⟩ | ⟨z, _⟩
          · exact absurd z (by decide)
          · exact absurd z (by decide)
      obtain ⟨o, t, r, rfl⟩ := isO h ho
      obtain ⟨o2, t2, r2, rfl⟩ := isO ok2 (by rw [ew]; exact ho)
      have q1 := ord_len n1 h.1
      have q2 := ord_len m1 ok2.1
      have ew : (("order" : Str) :: (o2.map strN ++ takeW t2 :: r2.words) : List Str) = ("order" : Str) :: (o.map strN ++ takeW t :: r.words) := ew
      injection ew with _ ew
      have e1 := congrArg (List.takeWhile isNm) ew
      rw [tw (isNm_num fun x hx => by have := q2.2 x hx; omega) (isNm_take t2), tw (isNm_num fun x hx => by have := q1.2 x hx; omega) (isNm_take t)] at e1
      have e2 := congrArg List.length e1
      rw [List.length_map, List.length_map, q1.1, q2.1] at e2
      subst e2
      exact done rfl
    · exact done (told_n ho m n)
theorem ve_pickJ {k : VC} {ρ : DEnv} {te : TE} {j : Nat} {E : XK} {P : PD → Prop} (h0 : ρ[j]? = some (.raw (.ref k.d))) (h : VE k te ρ fun x => ∃ ds : List PD, x = .list ds ∧ ds ≠ [] ∧ ds.length ≤ 1000 ∧ ∀ y ∈ ds, P y) : VE k (tCall (spW k.K k.T R_pickM) [] E (tCons (tVar j) (tCons te tNil))) ρ P :=
  ve_callW (R := R_pickM) (va_raw (R := fun ss => ∃ ds : List PD, ss = [.dat (.list ds)] ∧ ds ≠ [] ∧ ds.length ≤ 1000 ∧ ∀ y ∈ ds, P y) h0 (va_cons h (va_nil (P := fun ss => ss = []) rfl) fun x ss ⟨ds, e, h1, h2, h3⟩ e2 => ⟨ds, by rw [e, e2], h1, h2, h3⟩) fun ss ⟨ds, e, h1, h2, h3⟩ => ⟨_, rfl, ds, h1, h2, e, h3⟩)
theorem dec_no {p : Prop} [Decidable p] (h : p) : (!decide p) = false := by rw [decide_eq_true h]; rfl
theorem text_sh : SeqAt.shaped (.str "text") = true := by decide +kernel
abbrev marks : List PD := [.str "0", .str "1", .str "2", .str "9", .str " ", .str "e", .str "t", .str "x", .str "", .str "plain"]
theorem marks_all : (marks.all fun d => match d with | .str m => decide (m.length ≤ 8) | _ => false) = true := by decide +kernel
theorem marks_ok : ∀ x ∈ marks, ∃ m : Str, m.length ≤ 8 ∧ x = .str m := fun x hx => by
  have h := List.all_eq_true.mp marks_all x hx
  cases x with
  | str m => exact ⟨m, of_decide_eq_true h, rfl⟩
  | _ => cases h
abbrev sLaw : Stmt := top 50
abbrev nLaw : List Str := ["_law_script", "_law_draws", "_law_size", "_law_scheduler_here", "_law_text", "_law_other", "_law_found", "_law_turn", "_law_at", "_law_mark"]
theorem scLaw : FnScope nLaw ["_law_script"] (defScope sLaw) := ⟨rfl, rfl, rfl, by decide +kernel, rfl, by decide +kernel, by decide +kernel⟩
section
variable {P : Program} {w : World} {K : PySem.W.Frag} {mg : Str → Option Value} {base : Heap} {f : Addr} {fd : FuncData} {T : List Addr}
theorem ok_law (F : Fun K "law" "law" sLaw f fd) (G : Glob K mg) {f1 : Addr} {d1 : FuncData} (c__law_start : Cal P w K mg base "_law_start" 1 ["_law_script"] (LW.spStart K) f1 d1) {f2 : Addr} {d2 : FuncData} (c__law_draw : Cal P w K mg base "_law_draw" 1 ["_law_draws", "_law_limit"] (LW.spDraw T) f2 d2) {f3 : Addr} {d3 : FuncData} (c__law_pick : Cal P w K mg base "_law_pick" 2 ["_law_draws", "_law_choices"] (spW K T R_pickM) f3 d3) {f4 : Addr} {d4 : FuncData} (c__law_scheduler : Cal P w K mg base "_law_scheduler" 4 ["_law_draws", "_law_size"] (spW K T R_lsched) f4 d4) {f5 : Addr} {d5 : FuncData} (c_format_scheduler : Cal P w K mg base "format_scheduler" 8 ["scheduler", "size"] (spD K T R_format_scheduler) f5 d5) {f6 : Addr} {d6 : FuncData} (c__law_words : Cal P w K mg base "_law_words" 1 ["_law_scheduler_here"] (spD K T R_law_words) f6 d6) {f7 : Addr} {d7 : FuncData} (c__law_parsed : Cal P w K mg base "_law_parsed" 8 ["_law_text", "_law_size"] (spD K T R_law_parsed) f7 d7) {f8 : Addr} {d8 : FuncData} (c_is_scheduler : Cal P w K mg base "is_scheduler" 6 ["value", "size"] (spD K T R_is_scheduler) f8 d8) {f9 : Addr} {d9 : FuncData} (c__law_rejected : Cal P w K mg base "_law_rejected" 9 [] (spD K T R_law_rejected) f9 d9) : FnOk P w K mg base CX0 10 f fd ["_law_script"] (spLaw K T) := by
  refine F.ok scLaw (fun vs H Q E h => ?_) (fun cdv A outer s H vs Q E hr h => ?_)
  · obtain ⟨a, ns, rfl, _⟩ := h
    rfl
  · obtain ⟨a, ns, rfl, hS, hl63, ht, q⟩ := h
    refine ⟨_, (pss_cons (ps_set (i := 1) scLaw.nd rfl (.inl rfl) (pe_call c__law_start.ok (hr.mono (by decide)) (by rfl) c__law_start.g c__law_start.kp c__law_start.b .nil pass0 (pa_cons (pv 0) pa_nil)))
      (pss_cons (ps_set (i := 2) scLaw.nd rfl (.inl rfl) (pe_op op_add pe_int (pe_call c__law_draw.ok (hr.mono (by decide)) (by rfl) c__law_draw.g c__law_draw.kp c__law_draw.b .nil pass0 (pa_cons (pv 1) (pa_cons pe_int pa_nil)))))
      (pss_cons (ps_set (i := 3) scLaw.nd rfl (.inl rfl) (pe_call c__law_scheduler.ok (hr.mono (by decide)) (by rfl) c__law_scheduler.g c__law_scheduler.kp c__law_scheduler.b .nil pass0 (pa_cons (pv 1) (pa_cons (pv 2) pa_nil))))
      (pss_cons (ps_set (i := 4) scLaw.nd rfl (.inl rfl) (pe_call c_format_scheduler.ok (hr.mono (by decide)) (by rfl) c_format_scheduler.g c_format_scheduler.kp c_format_scheduler.b .nil pass0 (pa_cons (pv 3) (pa_cons (pv 2) pa_nil))))
      (pss_cons (ps_if (PW.pt (pw_or (pt_cmpR op_ne (pv 4) (pe_call c__law_words.ok (hr.mono (by decide)) (by rfl) c__law_words.g c__law_words.kp c__law_words.b .nil pass0 (pa_cons (pv 3) pa_nil)) (nomark _)) (pw_or1 (pt_cmpR (op_neD hr.units) (pe_call c__law_parsed.ok (hr.mono (by decide)) (by rfl) c__law_parsed.g c__law_parsed.kp c__law_parsed.b .nil pass0 (pa_cons (pv 4) (pa_cons (pv 2) pa_nil))) (pv 3) (nomark _))))) (pss_one (ps_ret pe_bl)) pss_nil)
      (pss_cons (ps_for PassesOwn.never rfl (pi_range2 (by rfl) G.range (pa_cons pe_int (pa_cons pe_int pa_nil))) (pg_name (i := 5) scLaw.nd rfl (.inl rfl)) (pss_cons (ps_set (i := 6) scLaw.nd rfl (.inl rfl) (pe_call c__law_parsed.ok (hr.mono (by decide)) (by rfl) c__law_parsed.g c__law_parsed.kp c__law_parsed.b .nil pass0 (pa_cons (pv 4) (pa_cons (pv 5) pa_nil))))
      (pss_one (ps_if (pt_cmpR (op_neD hr.units) (pv 6) (pe_ifExp (pt_val (pe_call c_is_scheduler.ok (hr.mono (by decide)) (by rfl) c_is_scheduler.g c_is_scheduler.kp c_is_scheduler.b .nil pass0 (pa_cons (pv 3) (pa_cons (pv 5) pa_nil)))) (pv 3) pe_str) (nomark _)) (pss_one (ps_ret pe_bl)) pss_nil))))
      (pss_cons (ps_for PassesOwn.never rfl (pi_range1 (by rfl) G.range (pa_cons pe_int pa_nil)) (pg_name (i := 7) scLaw.nd rfl (.inl rfl)) (pss_cons (ps_set (i := 8) scLaw.nd rfl (.inl rfl) (pe_call c__law_draw.ok (hr.mono (by decide)) (by rfl) c__law_draw.g c__law_draw.kp c__law_draw.b .nil pass0 (pa_cons (pv 1) (pa_cons (pe_op op_add (pe_callB call_len_str (by rfl) G.len PySem.boot_len (pa_cons (pv 4) pa_nil)) pe_int) pa_nil))))
      (pss_cons (ps_set (i := 9) scLaw.nd rfl (.inl rfl) (pe_call c__law_pick.ok (hr.mono (by decide)) (by rfl) c__law_pick.g c__law_pick.kp c__law_pick.b .nil pass0 (pa_cons (pv 1) (pa_cons (pe_lst (pa_cons pe_str (pa_cons pe_str (pa_cons pe_str (pa_cons pe_str (pa_cons pe_str (pa_cons pe_str (pa_cons pe_str (pa_cons pe_str (pa_cons pe_str (pa_cons pe_str pa_nil))))))))))) pa_nil))))
      (pss_cons (ps_set (i := 5) scLaw.nd rfl (.inl rfl) (pe_call c__law_pick.ok (hr.mono (by decide)) (by rfl) c__law_pick.g c__law_pick.kp c__law_pick.b .nil pass0 (pa_cons (pv 1) (pa_cons (pe_lst (pa_cons (pe_op op_add_str (pe_op op_add_str (pe_slice sl_str (pv 4) po_none (po_some (pv 8))) (pv 9)) (pe_slice sl_str (pv 4) (po_some (pe_op op_add (pv 8) pe_int)) po_none)) (pa_cons (pe_op op_add_str (pe_op op_add_str (pe_slice sl_str (pv 4) po_none (po_some (pv 8))) (pv 9)) (pe_slice sl_str (pv 4) (po_some (pv 8)) po_none)) pa_nil))) pa_nil))))
      (pss_cons (ps_set (i := 6) scLaw.nd rfl (.inl rfl) (pe_call c__law_parsed.ok (hr.mono (by decide)) (by rfl) c__law_parsed.g c__law_parsed.kp c__law_parsed.b .nil pass0 (pa_cons (pv 5) (pa_cons (pv 2) pa_nil))))
      (pss_one (ps_if (PW.pt (pw_and (pt_cmpR (op_neD hr.units) (pv 6) pe_str (nomark _)) (pw_and1 (PW.pt (pw_or (pt_cmpR op_ne (pv 5) (pe_call c__law_words.ok (hr.mono (by decide)) (by rfl) c__law_words.g c__law_words.kp c__law_words.b .nil pass0 (pa_cons (pv 6) pa_nil)) (nomark _)) (pw_or1 (pt_cmpR op_notBl (pe_call c_is_scheduler.ok (hr.mono (by decide)) (by rfl) c_is_scheduler.g c_is_scheduler.kp c_is_scheduler.b .nil pass0 (pa_cons (pv 6) (pa_cons (pv 2) pa_nil))) pe_bl (nomark _)))))))) (pss_one (ps_ret pe_bl)) pss_nil)))))))
      (pss_one (ps_ret (pe_call0 c__law_rejected.ok (hr.mono (by decide)) (by rfl) c__law_rejected.g c__law_rejected.kp c__law_rejected.b .nil pass0)))))))))), ?_⟩
    have r0 : SR ⟨K, T, [], H⟩ [] (L2.start nLaw [.ref a]) H (startD nLaw [.dat (.list (ns.map .int))]) := start_sr (fun _ z => nomatch z) ht (by rw [hid_nil]; exact .cons (show ArgOk K H (.ref a) (.dat (.list (ns.map .int))) from .lst hS (dps_ints ns)) .nil)
    refine sw_start (j := 0) (i := 1) r0 rfl hl63 fun dr nu H1 w1 => ?_
    refine (?_ : VS ⟨K, T, [dr, nu], dr, nu, H1⟩ _ ⟨fun _ => False, fun x => x = .bool true, fun _ => False, fun _ => False⟩ _) _ ⟨fun _ _ _ _ _ z => z.elim, fun v H' x _ h6 e => ?_, fun _ _ _ _ _ z => z.elim, fun _ _ _ _ _ z => z.elim⟩ [] _ H1 ⟨H1, w1.sr, .refl w1.dr, w1.hd, w1.hn⟩
    rotate_left
    · have e : x = .bool true := e
      subst e
      rw [dp_bool h6]
      exact q H'
    refine vs_seq (vs_set (P := fun x => ∃ n : Nat, 1 ≤ n ∧ n ≤ 4 ∧ x = intD n) (ve_I0 (g := fun a b => a + b) (P := fun x => x = .int 1) (ve_ed (fun _ => ed_int) rfl) (ve_draw (n := 4) rfl (ve_ed (fun _ => ed_int) rfl) (by decide) (by decide)) ?_) fun x hx => ?_)
    · rintro x y rfl ⟨r, h4, rfl⟩
      exact ⟨1, r, rfl, rfl, r + 1, by omega, by omega, by show PyData.int _ = PyData.int _; congr 1; omega⟩
    obtain ⟨n, n1, n4, rfl⟩ := hx
    refine vs_seq (vs_set (P := fun x => ∃ s : Sc, x = s.enc ∧ s.ok n) (ve_callW (R := R_lsched) (va_raw (R := fun ss => ss = [.dat (intD n)]) rfl (va_cons (P := fun x => x = intD n) (ve_ed (fun H0 => ed_var rfl) rfl) (va_nil (P := fun ss => ss = []) rfl) fun x ss e1 e2 => by rw [e1, e2]) fun ss e => ⟨_, rfl, n, n1, n4, e, rfl⟩)) fun x hx => ?_)
    obtain ⟨sc, rfl, ok⟩ := hx
    obtain ⟨tl72, _⟩ := fmtS_len n1 n4 ok
    have okT := okS_of (t := fmtS sc) (by omega)
    have sh := sched_sh ok
    have so : K13.schedD sc.enc (intD n) = true := sched_ok n1 n4 ok
    have pn : parsedS (.str (fmtS sc)) (intD n) = sc.enc := by rw [told_other n1 n4 n1 n4 ok, if_pos so]
    have pr : ∀ {H1 : Hp} {ρ : DEnv} {ta tb : TE} {e z x : PD}, ED ⟨K, T, [dr, nu], H1⟩ ta ρ e → ED ⟨K, T, [dr, nu], H1⟩ tb ρ z → (∀ t, e = .str t → okS t) → parsedS e z = x → ED ⟨K, T, [dr, nu], H1⟩ (tCall (spD K T R_law_parsed) [] E0 (tCons ta (tCons tb tNil))) ρ x := fun {H1 ρ ta tb e z x} h1 h2 h3 h4 =>
      ed_call (R := R_law_parsed) (ea_d h1 (ea_d h2 ea_nil)) ⟨e, z, h3, rfl, h4.symm⟩
    refine vs_seq (vs_sd fun H0 => sd_set (d := .str (fmtS sc)) (ed_call (R := R_format_scheduler) (ea_d (ed_var rfl) (ea_d (ed_var rfl) ea_nil)) ⟨sc, n, n1, n4, ok, rfl, rfl⟩) ?_)
    refine vs_seq (vs_sd fun H0 => sd_when (b := false || false) (et_or (et_is (et_test (ed_ne (x := .str (fmtS sc)) (y := .str (fmtS sc)) (ed_var rfl) (ed_call (R := R_law_words) (ea_d (ed_var rfl) ea_nil) ⟨sc, n, n1, n4, ok, rfl, rfl⟩) rfl rfl rfl)) (dec_no rfl)) fun _ => et_is (et_test (ed_neD (x := sc.enc) (y := sc.enc) (pr (e := .str (fmtS sc)) (ed_var rfl) (ed_var rfl) (fun t e => by cases e; exact okT) pn) (ed_var rfl) sh sh)) (by rw [eqv_same sh]; rfl)) (fun z => by cases z) fun _ => ?_)
    refine vs_seq (vs_sd fun H0 => sd_for (js := [5]) (id_rng2 (a := 1) (n := 5) (ea_d ed_int (ea_d ed_int ea_nil)) (by decide) (by decide)) (fun _ ρ' => ρ'.length = 10 ∧ ρ'[1]? = some (.raw (.ref dr)) ∧ ρ'[2]? = some (.dat (intD n)) ∧ ρ'[3]? = some (.dat sc.enc) ∧ ρ'[4]? = some (.dat (.str (fmtS sc)))) ⟨rfl, rfl, rfl, rfl, rfl⟩ ?_ ?_)
    · rintro i d ρ' H2 hd ⟨hlen, h1, h2, h3, h4⟩
      obtain ⟨hi, rfl⟩ := rngD_get hd
      have hi : i < 4 := hi
      rw [show (1 : Int) + (i : Int) = ((i + 1 : Nat) : Int) by omega]
      obtain ⟨s0, s1, s2, s3, s4, s5, s6, s7, s8, s9, rfl⟩ : ∃ s0 s1 s2 s3 s4 s5 s6 s7 s8 s9, ρ' = [s0, s1, s2, s3, s4, s5, s6, s7, s8, s9] := by
        match ρ', hlen with
        | [s0, s1, s2, s3, s4, s5, s6, s7, s8, s9], _ => exact ⟨s0, s1, s2, s3, s4, s5, s6, s7, s8, s9, rfl⟩
      have po := told_other (m := i + 1) n1 n4 (by omega) (by omega) ok
      have shw : SeqAt.shaped (if K13.schedD sc.enc (intD (i + 1)) = true then sc.enc else .str "text") = true := by
        split
        · exact sh
        · exact text_sh
      refine ⟨[intD (i + 1)], tg_name, sd_seq (sd_set (d := if K13.schedD sc.enc (intD (i + 1)) = true then sc.enc else .str "text") (pr (e := .str (fmtS sc)) (z := intD (i + 1)) (ed_var h4) (ed_var rfl) (fun t e => by cases e; exact okT) po) (sd_when (b := false) (et_is (et_test (ed_neD (x := if K13.schedD sc.enc (intD (i + 1)) = true then sc.enc else .str "text") (y := if K13.schedD sc.enc (intD (i + 1)) = true then sc.enc else .str "text") (ed_var rfl) (ed_if (b := K13.schedD sc.enc (intD (i + 1))) (et_B (ed_call (R := R_is_scheduler) (ea_d (ed_var h3) (ea_d (ed_var rfl) ea_nil)) ⟨sc.enc, ((i + 1 : Nat) : Int), rfl, rfl⟩)) (fun hb => ed_is (ed_var h3) (by rw [if_pos hb])) fun hb => ed_is ed_str (by rw [if_neg (by rw [hb]; decide)])) shw shw)) (by rw [eqv_same shw]; rfl)) (fun z => by cases z) fun _ => ⟨rfl, h1, h2, h3, h4⟩))⟩
    rintro ρ1 ⟨hlen, h1, h2, h3, h4⟩
    refine vs_seq (vs_forR (j := 7) (Pn := fun n => n = 16) (ve_ed (fun H0 => ed_int) ⟨16, by decide, rfl, rfl⟩) (fun _ _ ρ' => ρ'.length = 10 ∧ ρ'[1]? = some (.raw (.ref dr)) ∧ ρ'[2]? = some (.dat (intD n)) ∧ ρ'[4]? = some (.dat (.str (fmtS sc)))) (fun _ _ => ⟨hlen, h1, h2, h4⟩) ?_ ?_)
    rotate_left
    · rintro _ ρ2 _
      exact vs_ret (ve_ed (fun H0 => ed_call (R := R_law_rejected) ea_nil ⟨rfl, rfl⟩) (P := fun x => x = .bool true) rfl) fun x e => e
    clear h1 h2 h3 h4 hlen ρ1
    rintro k i ρ' hi ⟨hlen, h1, h2, h4⟩
    obtain ⟨s0, s1, s2, s3, s4, s5, s6, s7, s8, s9, rfl⟩ : ∃ s0 s1 s2 s3 s4 s5 s6 s7 s8 s9, ρ' = [s0, s1, s2, s3, s4, s5, s6, s7, s8, s9] := by
      match ρ', hlen with
      | [s0, s1, s2, s3, s4, s5, s6, s7, s8, s9], _ => exact ⟨s0, s1, s2, s3, s4, s5, s6, s7, s8, s9, rfl⟩
    have g1 : s1 = .raw (.ref dr) := Option.some.inj h1
    have g2 : s2 = .dat (intD n) := Option.some.inj h2
    have g4 : s4 = .dat (.str (fmtS sc)) := Option.some.inj h4
    clear h1 h2 h4
    subst g1
    subst g2
    subst g4
    have bg : (fmtS sc).length ≤ sizeLine := big (by omega)
    refine vs_seq (vs_set (P := fun x => ∃ r : Nat, r < (fmtS sc).length + 1 ∧ x = .int (r : Int)) (ve_draw (n := (fmtS sc).length + 1) rfl (ve_ed (fun H0 => ed_is (ed_I0 (g := fun i j => i + j) (ed_lenS (ed_var rfl) bg) ed_int) rfl) rfl) (by omega) (by omega)) fun x hx => ?_)
    obtain ⟨at_, hat, rfl⟩ := hx
    refine vs_seq (vs_set (P := fun x => ∃ m : Str, m.length ≤ 8 ∧ x = .str m) (ve_pickJ (j := 1) rfl (ve_ed (fun H0 => ed_en (en_lst (ds := marks) (ea_d ed_str (ea_d ed_str (ea_d ed_str (ea_d ed_str (ea_d ed_str (ea_d ed_str (ea_d ed_str (ea_d ed_str (ea_d ed_str (ea_d ed_str ea_nil)))))))))) (by decide))) ⟨_, rfl, List.cons_ne_nil _ _, by decide, marks_ok⟩)) fun x hx => ?_)
    obtain ⟨mark, hmark, rfl⟩ := hx
    have c1 := L2.cutS_length (fmtS sc) none (some (at_ : Int))
    have c2 := L2.cutS_length (fmtS sc) (some ((at_ : Int) + 1)) none
    have c3 := L2.cutS_length (fmtS sc) (some (at_ : Int)) none
    have oth : ∀ {lo : Int} {tl' : TE} {ρ2 : DEnv}, ρ2[4]? = some (.dat (.str (fmtS sc))) → ρ2[8]? = some (.dat (.int (at_ : Int))) → ρ2[9]? = some (.dat (.str mark)) → ∀ {c : DC}, ED c tl' ρ2 (.int lo) → ED c (tOp (fun x y H Q => ∃ i j, x = .str i ∧ y = .str j ∧ i.length + j.length ≤ sizeLine ∧ Q (.str (i ++ j)) H) (tOp (fun x y H Q => ∃ i j, x = .str i ∧ y = .str j ∧ i.length + j.length ≤ sizeLine ∧ Q (.str (i ++ j)) H) (tSl L2.rSlS (tVar 4) tNoPart (tPart (tVar 8))) (tVar 9)) (tSl L2.rSlS (tVar 4) (tPart tl') tNoPart)) ρ2 (.str ((L2.cutS (fmtS sc) none (some (at_ : Int)) ++ mark) ++ L2.cutS (fmtS sc) (some lo) none)) := fun {lo tl' ρ2} h5 h9 h10 {c} hlo => by
      have c4 := L2.cutS_length (fmtS sc) (some lo) none
      refine ed_addS (ed_addS (ed_slS (ed_var h5) eo_none (eo_some (ed_var h9)) bg) (ed_var h10) (big (by omega))) (ed_slS (ed_var h5) (eo_some hlo) eo_none bg) (big ?_)
      rw [app_len]
      omega
    refine vs_seq (vs_set (P := fun x => ∃ t : Str, t.length ≤ 890 ∧ x = .str t) (ve_pickJ (j := 1) rfl (ve_ed (fun H0 => ed_en (en_lst (ds := [PyData.str ((L2.cutS (fmtS sc) none (some (at_ : Int)) ++ mark) ++ L2.cutS (fmtS sc) (some ((at_ : Int) + 1)) none), .str ((L2.cutS (fmtS sc) none (some (at_ : Int)) ++ mark) ++ L2.cutS (fmtS sc) (some (at_ : Int)) none)]) (ea_d (oth rfl rfl rfl (ed_I0 (g := fun i j => i + j) (ed_var rfl) ed_int)) (ea_d (oth rfl rfl rfl (ed_var rfl)) ea_nil)) (by simp))) ⟨_, rfl, List.cons_ne_nil _ _, by simp, fun x hx => ?_⟩)) fun x hx => ?_)
    · simp only [List.mem_cons, List.not_mem_nil, or_false] at hx
      rcases hx with e | e
      · exact ⟨_, by rw [app_len, app_len]; omega, e⟩
      · exact ⟨_, by rw [app_len, app_len]; omega, e⟩
    obtain ⟨ot, hot, rfl⟩ := hx
    have e0 : parsedS (.str ot) (intD n) = if K13.schedD (told n (Txt.split ot sp)) (intD n) = true then told n (Txt.split ot sp) else .str "text" := by
      unfold parsedS
      have hz : K13.numD (intD n) 1 4 = true := numD_ok (lo := 1) (hi := 4) n1 n4
      rw [if_pos hz]
      rfl
    by_cases hsd : K13.schedD (told n (Txt.split ot sp)) (intD n) = true
    · rw [if_pos hsd] at e0
      obtain ⟨s2, t1, t2, t3⟩ := told_sched (n := n) hsd
      have ew : fmtS s2 = ot := by
        unfold fmtS
        rw [t3]
        exact join_split sp_ne low_sp
      have sh2 := sched_sh t2
      refine vs_sd fun H0 => sd_seq (sd_set (d := s2.enc) (pr (e := .str ot) (ed_var rfl) (ed_var rfl) (fun t e => by cases e; exact okS_of hot) (e0.trans t1)) (sd_when (b := false) ?_ (fun z => by cases z) fun _ => ⟨rfl, rfl, rfl, rfl⟩))
      exact et_is (et_and (a := true) (b := false) (et_is (et_test (ed_neD (x := s2.enc) (y := .str "text") (ed_var rfl) ed_str sh2 text_sh)) (by rw [eqv_txt]; rfl)) fun _ => et_is (et_or (a := false) (b := false) (et_is (et_test (ed_ne (x := .str ot) (y := .str (fmtS s2)) (ed_var rfl) (ed_call (R := R_law_words) (ea_d (ed_var rfl) ea_nil) ⟨s2, n, n1, n4, t2, rfl, rfl⟩) rfl rfl rfl)) (dec_no (by rw [ew]))) fun _ => et_is (et_test (ed_notB (a := true) (b := true) (ed_call (R := R_is_scheduler) (ea_d (ed_var rfl) (ea_d (ed_var rfl) ea_nil)) ⟨s2.enc, (n : Int), rfl, by rw [sched_ok n1 n4 t2]⟩) ed_bl)) rfl) rfl) rfl
    · rw [if_neg hsd] at e0
      refine vs_sd fun H0 => sd_seq (sd_set (d := .str "text") (pr (e := .str ot) (ed_var rfl) (ed_var rfl) (fun t e => by cases e; exact okS_of hot) e0) (sd_when (b := false) ?_ (fun z => by cases z) fun _ => ⟨rfl, rfl, rfl, rfl⟩))
      exact et_is (et_and (a := !true) (b := false) (et_is (et_test (ed_neD (x := .str "text") (y := .str "text") (ed_var rfl) ed_str text_sh text_sh)) (by rw [eqv_same text_sh])) fun z => by cases z) rfl
end
end PT
namespace PT
open PySem PySem.Spec PyProof.Rows L2 DA DL
open HD (fa2 fn2 ts2 tf2 ex2 hD)
theorem funD_fun {K : PySem.W.Frag} {x q : Str} {st : Stmt} {f : Addr} {fd : FuncData} (F : FunD K x q (defArgs st) (defBody st) (defScope st) [] [] f fd) : Fun K x q st f fd := by
  obtain ⟨oc, od, dV, kV, doc, pm, an, cdv, ct, osl, h1, h2, h3, h4, h5⟩ := F.ex
  rcases h4 with ⟨_, rfl⟩ | ⟨e, _⟩
  · exact ⟨⟨oc, od, kV, doc, pm, an, cdv, ct, osl, h1, h2, h3⟩, F.kp⟩
  · exact absurd rfl e
theorem funD_funC {K : PySem.W.Frag} {x : Str} {st : Stmt} {fd : FuncData} (F : FunD K x x (defArgs st) (defBody st) (defScope st) [] [] (He.fAd K (x, none)) fd) : FunC K x x st (He.fAd K (x, none)) fd (He.codeOf K (x, none)) := by
  obtain ⟨oc, od, dV, kV, doc, pm, an, cdv, ct, osl, h1, h2, h3, h4, h5⟩ := F.ex
  rcases h4 with ⟨_, rfl⟩ | ⟨e, _⟩
  · obtain ⟨c, rfl⟩ := He.codeIn_ref h3
    have ec : He.codeOf K (x, none) = c := He.codeOf_eq h2 (by rw [h1])
    rw [ec]
    exact ⟨⟨oc, od, kV, doc, pm, an, ct, osl, h1, h2, h3⟩, F.kp⟩
  · exact absurd rfl e
theorem triples_nil : TriplesOk (#[] : Array Value).toList := by first | trivial | exact True.intro | (unfold TriplesOk; trivial) | constructor
theorem dict_at {K : PySem.W.Frag} {w : World} {a : Addr} {ks : List Str} (h : He.dicW K a = some (He.keysIn w.params ks)) : ∃ es n, KDict K w a es n ∧ es.toList.map He.keyOf = He.keysIn w.params ks := by
  obtain ⟨es, n, D⟩ := He.dicW_ok h
  refine ⟨es, n, D, ?_⟩
  unfold He.dicW at h
  rw [D.at_] at h
  have e : (decide (("dict" : String) = "dict") && ((#[] : Array (Option Value)).isEmpty && !(a == sysModules))) = true := by
    rw [D.low]; rfl
  have h2 : (match decide (("dict" : String) = "dict") && ((#[] : Array (Option Value)).isEmpty && !(a == sysModules)) with
    | true => some (es.toList.map He.keyOf)
    | false => none) = some (He.keysIn w.params ks) := h
  rw [e] at h2
  exact Option.some.inj h2
theorem law_at {w : World} {K : PySem.W.Frag} {h : Heap} {mg : Str → Option Value} {fl : Addr} (X : K.In h) (Gm : h.Ns mainGlobals mg) (hfa : mg ("law" : Str) = some (.ref fl)) (c : He.SaysX fa2 fn2 ts2 tf2 ex2 w h K) :
    LamX.LawAtS PySem.Challenge.rw_processturns_k33_whole_names w K CX0 10 63 "_law_script" mg fl h := by
  have cd : He.SaysD fa2 fn2 K := c.t.d
  have cx := c.more
  unfold ex2 at cx
  obtain ⟨x0, cx⟩ := He.ba cx
  obtain ⟨x1, cx⟩ := He.ba cx
  obtain ⟨x2, cx⟩ := He.ba cx
  obtain ⟨x3, cx⟩ := He.ba cx
  obtain ⟨x4, cx⟩ := He.ba cx
  obtain ⟨x5, cx⟩ := He.ba cx
  obtain ⟨x6, cx⟩ := He.ba cx
  obtain ⟨x7, cx⟩ := He.ba cx
  obtain ⟨x8, cx⟩ := He.ba cx
  obtain ⟨x9, cx⟩ := He.ba cx
  obtain ⟨x10, cx⟩ := He.ba cx
  obtain ⟨x11, cx⟩ := He.ba cx
  obtain ⟨x12, cx⟩ := He.ba cx
  obtain ⟨x13, cx⟩ := He.ba cx
  obtain ⟨x14, cx⟩ := He.ba cx
  obtain ⟨x15, cx⟩ := He.ba cx
  obtain ⟨x16, cx⟩ := He.ba cx
  obtain ⟨x17, cx⟩ := He.ba cx
  obtain ⟨x18, cx⟩ := He.ba cx
  obtain ⟨x19, cx⟩ := He.ba cx
  obtain ⟨x20, cx⟩ := He.ba cx
  obtain ⟨x21, cx⟩ := He.ba cx
  obtain ⟨x22, cx⟩ := He.ba cx
  obtain ⟨x23, cx⟩ := He.ba cx
  obtain ⟨x24, cx⟩ := He.ba cx
  obtain ⟨x25, cx⟩ := He.ba cx
  obtain ⟨x26, cx⟩ := He.ba cx
  obtain ⟨x27, cx⟩ := He.ba cx
  obtain ⟨x28, cx⟩ := He.ba cx
  obtain ⟨x29, cx⟩ := He.ba cx
  obtain ⟨x30, cx⟩ := He.ba cx
  obtain ⟨x31, cx⟩ := He.ba cx
  obtain ⟨x32, cx⟩ := He.ba cx
  obtain ⟨x33, cx⟩ := He.ba cx
  obtain ⟨x34, cx⟩ := He.ba cx
  obtain ⟨x35, cx⟩ := He.ba cx
  obtain ⟨x36, cx⟩ := He.ba cx
  obtain ⟨x37, cx⟩ := He.ba cx
  obtain ⟨x38, cx⟩ := He.ba cx
  obtain ⟨x39, cx⟩ := He.ba cx
  obtain ⟨x40, cx⟩ := He.ba cx
  obtain ⟨x41, cx⟩ := He.ba cx
  obtain ⟨x42, cx⟩ := He.ba cx
  obtain ⟨x43, cx⟩ := He.ba cx
  obtain ⟨x44, cx⟩ := He.ba cx
  have x45 := cx
  have x12 := of_decide_eq_true x12
  have x13 := of_decide_eq_true x13
  have x14 := of_decide_eq_true x14
  have x15 := of_decide_eq_true x15
  have x16 := of_decide_eq_true x16
  have x17 := of_decide_eq_true x17
  have x18 := of_decide_eq_true x18
  have x19 := of_decide_eq_true x19
  have x20 := of_decide_eq_true x20
  have x21 := of_decide_eq_true x21
  have x22 := of_decide_eq_true x22
  have x23 := of_decide_eq_true x23
  have x24 := of_decide_eq_true x24
  have x25 := of_decide_eq_true x25
  have x26 := of_decide_eq_true x26
  have x27 := of_decide_eq_true x27
  have x28 := of_decide_eq_true x28
  have x29 := of_decide_eq_true x29
  have x30 := of_decide_eq_true x30
  have x31 := of_decide_eq_true x31
  have x32 := of_decide_eq_true x32
  have x33 := of_decide_eq_true x33
  have x34 := of_decide_eq_true x34
  have x35 := of_decide_eq_true x35
  have x36 := of_decide_eq_true x36
  have x37 := of_decide_eq_true x37
  have x38 := of_decide_eq_true x38
  have x39 := of_decide_eq_true x39
  have x40 := of_decide_eq_true x40
  have x41 := of_decide_eq_true x41
  have x42 := of_decide_eq_true x42
  have x43 := of_decide_eq_true x43
  have x44 := of_decide_eq_true x44
  have x45 := of_decide_eq_true x45
  obtain ⟨d_is_number, D_is_number⟩ := cd.def_ 0 (d := hD "is_number" 10) rfl
  have D_is_number : FunD K "is_number" "is_number" (defArgs (top 10)) (defBody (top 10)) (defScope (top 10)) [] [] (He.fAd K ("is_number", none)) d_is_number := D_is_number
  have g_is_number : mg "is_number" = some (.ref (He.fAd K ("is_number", none))) := He.glo_ok X Gm (cd.fact 0 (f := .glo "is_number") rfl)
  have F_is_number := funD_fun (st := top 10) D_is_number
  have b_is_number : Binds K d_is_number ["value", "least", "greatest"] [] := D_is_number.bindsN fun _ _ _ _ _ _ us hl => match us, hl with | [_, _, _], _ => rfl
  obtain ⟨d_is_row, D_is_row⟩ := cd.def_ 1 (d := hD "is_row" 11) rfl
  have D_is_row : FunD K "is_row" "is_row" (defArgs (top 11)) (defBody (top 11)) (defScope (top 11)) [] [] (He.fAd K ("is_row", none)) d_is_row := D_is_row
  have g_is_row : mg "is_row" = some (.ref (He.fAd K ("is_row", none))) := He.glo_ok X Gm (cd.fact 1 (f := .glo "is_row") rfl)
  have F_is_row := funD_funC (st := top 11) D_is_row
  have b_is_row : Binds K d_is_row ["value", "many", "least", "greatest"] [] := D_is_row.bindsN fun _ _ _ _ _ _ us hl => match us, hl with | [_, _, _, _], _ => rfl
  obtain ⟨d_check_number, D_check_number⟩ := cd.def_ 2 (d := hD "check_number" 12) rfl
  have D_check_number : FunD K "check_number" "check_number" (defArgs (top 12)) (defBody (top 12)) (defScope (top 12)) [] [] (He.fAd K ("check_number", none)) d_check_number := D_check_number
  have g_check_number : mg "check_number" = some (.ref (He.fAd K ("check_number", none))) := He.glo_ok X Gm (cd.fact 2 (f := .glo "check_number") rfl)
  have F_check_number := funD_fun (st := top 12) D_check_number
  have b_check_number : Binds K d_check_number ["value", "least", "greatest"] [] := D_check_number.bindsN fun _ _ _ _ _ _ us hl => match us, hl with | [_, _, _], _ => rfl
  obtain ⟨d__first_word, D__first_word⟩ := cd.def_ 3 (d := hD "_first_word" 15) rfl
  have D__first_word : FunD K "_first_word" "_first_word" (defArgs (top 15)) (defBody (top 15)) (defScope (top 15)) [] [] (He.fAd K ("_first_word", none)) d__first_word := D__first_word
  have g__first_word : mg "_first_word" = some (.ref (He.fAd K ("_first_word", none))) := He.glo_ok X Gm (cd.fact 3 (f := .glo "_first_word") rfl)
  have F__first_word := funD_fun (st := top 15) D__first_word
  have b__first_word : Binds K d__first_word ["value"] [] := D__first_word.bindsN fun _ _ _ _ _ _ us hl => match us, hl with | [_], _ => rfl
  obtain ⟨d__is_order, D__is_order⟩ := cd.def_ 4 (d := hD "_is_order" 16) rfl
  have D__is_order : FunD K "_is_order" "_is_order" (defArgs (top 16)) (defBody (top 16)) (defScope (top 16)) [] [] (He.fAd K ("_is_order", none)) d__is_order := D__is_order
  have g__is_order : mg "_is_order" = some (.ref (He.fAd K ("_is_order", none))) := He.glo_ok X Gm (cd.fact 4 (f := .glo "_is_order") rfl)
  have F__is_order := funD_fun (st := top 16) D__is_order
  have b__is_order : Binds K d__is_order ["value", "size"] [] := D__is_order.bindsN fun _ _ _ _ _ _ us hl => match us, hl with | [_, _], _ => rfl
  obtain ⟨d__is_rule, D__is_rule⟩ := cd.def_ 5 (d := hD "_is_rule" 17) rfl
  have D__is_rule : FunD K "_is_rule" "_is_rule" (defArgs (top 17)) (defBody (top 17)) (defScope (top 17)) [] [] (He.fAd K ("_is_rule", none)) d__is_rule := D__is_rule
  have g__is_rule : mg "_is_rule" = some (.ref (He.fAd K ("_is_rule", none))) := He.glo_ok X Gm (cd.fact 5 (f := .glo "_is_rule") rfl)
  have F__is_rule := funD_fun (st := top 17) D__is_rule
  have b__is_rule : Binds K d__is_rule ["value", "size"] [] := D__is_rule.bindsN fun _ _ _ _ _ _ us hl => match us, hl with | [_, _], _ => rfl
  obtain ⟨d__is_bare, D__is_bare⟩ := cd.def_ 6 (d := hD "_is_bare" 18) rfl
  have D__is_bare : FunD K "_is_bare" "_is_bare" (defArgs (top 18)) (defBody (top 18)) (defScope (top 18)) [] [] (He.fAd K ("_is_bare", none)) d__is_bare := D__is_bare
  have g__is_bare : mg "_is_bare" = some (.ref (He.fAd K ("_is_bare", none))) := He.glo_ok X Gm (cd.fact 6 (f := .glo "_is_bare") rfl)
  have F__is_bare := funD_fun (st := top 18) D__is_bare
  have b__is_bare : Binds K d__is_bare ["value", "size"] [] := D__is_bare.bindsN fun _ _ _ _ _ _ us hl => match us, hl with | [_, _], _ => rfl
  obtain ⟨d__is_by_order, D__is_by_order⟩ := cd.def_ 7 (d := hD "_is_by_order" 19) rfl
  have D__is_by_order : FunD K "_is_by_order" "_is_by_order" (defArgs (top 19)) (defBody (top 19)) (defScope (top 19)) [] [] (He.fAd K ("_is_by_order", none)) d__is_by_order := D__is_by_order
  have g__is_by_order : mg "_is_by_order" = some (.ref (He.fAd K ("_is_by_order", none))) := He.glo_ok X Gm (cd.fact 7 (f := .glo "_is_by_order") rfl)
  have F__is_by_order := funD_fun (st := top 19) D__is_by_order
  have b__is_by_order : Binds K d__is_by_order ["value", "size"] [] := D__is_by_order.bindsN fun _ _ _ _ _ _ us hl => match us, hl with | [_, _], _ => rfl
  obtain ⟨d__is_by_rounds, D__is_by_rounds⟩ := cd.def_ 8 (d := hD "_is_by_rounds" 20) rfl
  have D__is_by_rounds : FunD K "_is_by_rounds" "_is_by_rounds" (defArgs (top 20)) (defBody (top 20)) (defScope (top 20)) [] [] (He.fAd K ("_is_by_rounds", none)) d__is_by_rounds := D__is_by_rounds
  have g__is_by_rounds : mg "_is_by_rounds" = some (.ref (He.fAd K ("_is_by_rounds", none))) := He.glo_ok X Gm (cd.fact 8 (f := .glo "_is_by_rounds") rfl)
  have F__is_by_rounds := funD_fun (st := top 20) D__is_by_rounds
  have b__is_by_rounds : Binds K d__is_by_rounds ["value", "size"] [] := D__is_by_rounds.bindsN fun _ _ _ _ _ _ us hl => match us, hl with | [_, _], _ => rfl
  obtain ⟨d__is_by_levels, D__is_by_levels⟩ := cd.def_ 9 (d := hD "_is_by_levels" 21) rfl
  have D__is_by_levels : FunD K "_is_by_levels" "_is_by_levels" (defArgs (top 21)) (defBody (top 21)) (defScope (top 21)) [] [] (He.fAd K ("_is_by_levels", none)) d__is_by_levels := D__is_by_levels
  have g__is_by_levels : mg "_is_by_levels" = some (.ref (He.fAd K ("_is_by_levels", none))) := He.glo_ok X Gm (cd.fact 9 (f := .glo "_is_by_levels") rfl)
  have F__is_by_levels := funD_funC (st := top 21) D__is_by_levels
  have b__is_by_levels : Binds K d__is_by_levels ["value", "size"] [] := D__is_by_levels.bindsN fun _ _ _ _ _ _ us hl => match us, hl with | [_, _], _ => rfl
  obtain ⟨d__is_by_age, D__is_by_age⟩ := cd.def_ 10 (d := hD "_is_by_age" 22) rfl
  have D__is_by_age : FunD K "_is_by_age" "_is_by_age" (defArgs (top 22)) (defBody (top 22)) (defScope (top 22)) [] [] (He.fAd K ("_is_by_age", none)) d__is_by_age := D__is_by_age
  have g__is_by_age : mg "_is_by_age" = some (.ref (He.fAd K ("_is_by_age", none))) := He.glo_ok X Gm (cd.fact 10 (f := .glo "_is_by_age") rfl)
  have F__is_by_age := funD_fun (st := top 22) D__is_by_age
  have b__is_by_age : Binds K d__is_by_age ["value", "size"] [] := D__is_by_age.bindsN fun _ _ _ _ _ _ us hl => match us, hl with | [_, _], _ => rfl
  obtain ⟨d__is_by_limits, D__is_by_limits⟩ := cd.def_ 11 (d := hD "_is_by_limits" 23) rfl
  have D__is_by_limits : FunD K "_is_by_limits" "_is_by_limits" (defArgs (top 23)) (defBody (top 23)) (defScope (top 23)) [] [] (He.fAd K ("_is_by_limits", none)) d__is_by_limits := D__is_by_limits
  have g__is_by_limits : mg "_is_by_limits" = some (.ref (He.fAd K ("_is_by_limits", none))) := He.glo_ok X Gm (cd.fact 11 (f := .glo "_is_by_limits") rfl)
  have F__is_by_limits := funD_fun (st := top 23) D__is_by_limits
  have b__is_by_limits : Binds K d__is_by_limits ["value", "size"] [] := D__is_by_limits.bindsN fun _ _ _ _ _ _ us hl => match us, hl with | [_, _], _ => rfl
  obtain ⟨d__is_by_weights, D__is_by_weights⟩ := cd.def_ 12 (d := hD "_is_by_weights" 24) rfl
  have D__is_by_weights : FunD K "_is_by_weights" "_is_by_weights" (defArgs (top 24)) (defBody (top 24)) (defScope (top 24)) [] [] (He.fAd K ("_is_by_weights", none)) d__is_by_weights := D__is_by_weights
  have g__is_by_weights : mg "_is_by_weights" = some (.ref (He.fAd K ("_is_by_weights", none))) := He.glo_ok X Gm (cd.fact 12 (f := .glo "_is_by_weights") rfl)
  have F__is_by_weights := funD_fun (st := top 24) D__is_by_weights
  have b__is_by_weights : Binds K d__is_by_weights ["value", "size"] [] := D__is_by_weights.bindsN fun _ _ _ _ _ _ us hl => match us, hl with | [_, _], _ => rfl
  obtain ⟨d_is_scheduler, D_is_scheduler⟩ := cd.def_ 13 (d := hD "is_scheduler" 26) rfl
  have D_is_scheduler : FunD K "is_scheduler" "is_scheduler" (defArgs (top 26)) (defBody (top 26)) (defScope (top 26)) [] [] (He.fAd K ("is_scheduler", none)) d_is_scheduler := D_is_scheduler
  have g_is_scheduler : mg "is_scheduler" = some (.ref (He.fAd K ("is_scheduler", none))) := He.glo_ok X Gm (cd.fact 13 (f := .glo "is_scheduler") rfl)
  have F_is_scheduler := funD_fun (st := top 26) D_is_scheduler
  have b_is_scheduler : Binds K d_is_scheduler ["value", "size"] [] := D_is_scheduler.bindsN fun _ _ _ _ _ _ us hl => match us, hl with | [_, _], _ => rfl
  obtain ⟨d_check_scheduler, D_check_scheduler⟩ := cd.def_ 14 (d := hD "check_scheduler" 27) rfl
  have D_check_scheduler : FunD K "check_scheduler" "check_scheduler" (defArgs (top 27)) (defBody (top 27)) (defScope (top 27)) [] [] (He.fAd K ("check_scheduler", none)) d_check_scheduler := D_check_scheduler
  have g_check_scheduler : mg "check_scheduler" = some (.ref (He.fAd K ("check_scheduler", none))) := He.glo_ok X Gm (cd.fact 14 (f := .glo "check_scheduler") rfl)
  have F_check_scheduler := funD_fun (st := top 27) D_check_scheduler
  have b_check_scheduler : Binds K d_check_scheduler ["value", "size"] [] := D_check_scheduler.bindsN fun _ _ _ _ _ _ us hl => match us, hl with | [_, _], _ => rfl
  obtain ⟨d_format_scheduler, D_format_scheduler⟩ := cd.def_ 15 (d := hD "format_scheduler" 31) rfl
  have D_format_scheduler : FunD K "format_scheduler" "format_scheduler" (defArgs (top 31)) (defBody (top 31)) (defScope (top 31)) [] [] (He.fAd K ("format_scheduler", none)) d_format_scheduler := D_format_scheduler
  have g_format_scheduler : mg "format_scheduler" = some (.ref (He.fAd K ("format_scheduler", none))) := He.glo_ok X Gm (cd.fact 15 (f := .glo "format_scheduler") rfl)
  have F_format_scheduler := funD_fun (st := top 31) D_format_scheduler
  have b_format_scheduler : Binds K d_format_scheduler ["scheduler", "size"] [] := D_format_scheduler.bindsN fun _ _ _ _ _ _ us hl => match us, hl with | [_, _], _ => rfl
  obtain ⟨d__words_of, D__words_of⟩ := cd.def_ 16 (d := hD "_words_of" 32) rfl
  have D__words_of : FunD K "_words_of" "_words_of" (defArgs (top 32)) (defBody (top 32)) (defScope (top 32)) [] [] (He.fAd K ("_words_of", none)) d__words_of := D__words_of
  have g__words_of : mg "_words_of" = some (.ref (He.fAd K ("_words_of", none))) := He.glo_ok X Gm (cd.fact 16 (f := .glo "_words_of") rfl)
  have F__words_of := funD_fun (st := top 32) D__words_of
  have b__words_of : Binds K d__words_of ["scheduler"] [] := D__words_of.bindsN fun _ _ _ _ _ _ us hl => match us, hl with | [_], _ => rfl
  obtain ⟨d__words_of_rule, D__words_of_rule⟩ := cd.def_ 17 (d := hD "_words_of_rule" 33) rfl
  have D__words_of_rule : FunD K "_words_of_rule" "_words_of_rule" (defArgs (top 33)) (defBody (top 33)) (defScope (top 33)) [] [] (He.fAd K ("_words_of_rule", none)) d__words_of_rule := D__words_of_rule
  have g__words_of_rule : mg "_words_of_rule" = some (.ref (He.fAd K ("_words_of_rule", none))) := He.glo_ok X Gm (cd.fact 17 (f := .glo "_words_of_rule") rfl)
  have F__words_of_rule := funD_fun (st := top 33) D__words_of_rule
  have b__words_of_rule : Binds K d__words_of_rule ["rule"] [] := D__words_of_rule.bindsN fun _ _ _ _ _ _ us hl => match us, hl with | [_], _ => rfl
  obtain ⟨d__check_text, D__check_text⟩ := cd.def_ 18 (d := hD "_check_text" 34) rfl
  have D__check_text : FunD K "_check_text" "_check_text" (defArgs (top 34)) (defBody (top 34)) (defScope (top 34)) [] [] (He.fAd K ("_check_text", none)) d__check_text := D__check_text
  have g__check_text : mg "_check_text" = some (.ref (He.fAd K ("_check_text", none))) := He.glo_ok X Gm (cd.fact 18 (f := .glo "_check_text") rfl)
  have F__check_text := funD_fun (st := top 34) D__check_text
  have b__check_text : Binds K d__check_text ["value"] [] := D__check_text.bindsN fun _ _ _ _ _ _ us hl => match us, hl with | [_], _ => rfl
  obtain ⟨d__number, D__number⟩ := cd.def_ 19 (d := hD "_number" 35) rfl
  have D__number : FunD K "_number" "_number" (defArgs (top 35)) (defBody (top 35)) (defScope (top 35)) [] [] (He.fAd K ("_number", none)) d__number := D__number
  have g__number : mg "_number" = some (.ref (He.fAd K ("_number", none))) := He.glo_ok X Gm (cd.fact 19 (f := .glo "_number") rfl)
  have F__number := funD_fun (st := top 35) D__number
  have b__number : Binds K d__number ["word"] [] := D__number.bindsN fun _ _ _ _ _ _ us hl => match us, hl with | [_], _ => rfl
  obtain ⟨d__numbers, D__numbers⟩ := cd.def_ 20 (d := hD "_numbers" 36) rfl
  have D__numbers : FunD K "_numbers" "_numbers" (defArgs (top 36)) (defBody (top 36)) (defScope (top 36)) [] [] (He.fAd K ("_numbers", none)) d__numbers := D__numbers
  have g__numbers : mg "_numbers" = some (.ref (He.fAd K ("_numbers", none))) := He.glo_ok X Gm (cd.fact 20 (f := .glo "_numbers") rfl)
  have F__numbers := funD_fun (st := top 36) D__numbers
  have b__numbers : Binds K d__numbers ["words"] [] := D__numbers.bindsN fun _ _ _ _ _ _ us hl => match us, hl with | [_], _ => rfl
  obtain ⟨d_parse_scheduler, D_parse_scheduler⟩ := cd.def_ 21 (d := hD "parse_scheduler" 37) rfl
  have D_parse_scheduler : FunD K "parse_scheduler" "parse_scheduler" (defArgs (top 37)) (defBody (top 37)) (defScope (top 37)) [] [] (He.fAd K ("parse_scheduler", none)) d_parse_scheduler := D_parse_scheduler
  have g_parse_scheduler : mg "parse_scheduler" = some (.ref (He.fAd K ("parse_scheduler", none))) := He.glo_ok X Gm (cd.fact 21 (f := .glo "parse_scheduler") rfl)
  have F_parse_scheduler := funD_fun (st := top 37) D_parse_scheduler
  have b_parse_scheduler : Binds K d_parse_scheduler ["text", "size"] [] := D_parse_scheduler.bindsN fun _ _ _ _ _ _ us hl => match us, hl with | [_, _], _ => rfl
  obtain ⟨d__scheduler_told, D__scheduler_told⟩ := cd.def_ 22 (d := hD "_scheduler_told" 38) rfl
  have D__scheduler_told : FunD K "_scheduler_told" "_scheduler_told" (defArgs (top 38)) (defBody (top 38)) (defScope (top 38)) [] [] (He.fAd K ("_scheduler_told", none)) d__scheduler_told := D__scheduler_told
  have g__scheduler_told : mg "_scheduler_told" = some (.ref (He.fAd K ("_scheduler_told", none))) := He.glo_ok X Gm (cd.fact 22 (f := .glo "_scheduler_told") rfl)
  have F__scheduler_told := funD_fun (st := top 38) D__scheduler_told
  have b__scheduler_told : Binds K d__scheduler_told ["words", "size"] [] := D__scheduler_told.bindsN fun _ _ _ _ _ _ us hl => match us, hl with | [_, _], _ => rfl
  obtain ⟨d__order_told, D__order_told⟩ := cd.def_ 23 (d := hD "_order_told" 39) rfl
  have D__order_told : FunD K "_order_told" "_order_told" (defArgs (top 39)) (defBody (top 39)) (defScope (top 39)) [] [] (He.fAd K ("_order_told", none)) d__order_told := D__order_told
  have g__order_told : mg "_order_told" = some (.ref (He.fAd K ("_order_told", none))) := He.glo_ok X Gm (cd.fact 23 (f := .glo "_order_told") rfl)
  have F__order_told := funD_fun (st := top 39) D__order_told
  have b__order_told : Binds K d__order_told ["words", "size"] [] := D__order_told.bindsN fun _ _ _ _ _ _ us hl => match us, hl with | [_, _], _ => rfl
  obtain ⟨d__law_start, D__law_start⟩ := cd.def_ 24 (d := hD "_law_start" 41) rfl
  have D__law_start : FunD K "_law_start" "_law_start" (defArgs (top 41)) (defBody (top 41)) (defScope (top 41)) [] [] (He.fAd K ("_law_start", none)) d__law_start := D__law_start
  have g__law_start : mg "_law_start" = some (.ref (He.fAd K ("_law_start", none))) := He.glo_ok X Gm (cd.fact 24 (f := .glo "_law_start") rfl)
  have F__law_start := funD_fun (st := top 41) D__law_start
  have b__law_start : Binds K d__law_start ["_law_script"] [] := D__law_start.bindsN fun _ _ _ _ _ _ us hl => match us, hl with | [_], _ => rfl
  obtain ⟨d__law_draw, D__law_draw⟩ := cd.def_ 25 (d := hD "_law_draw" 42) rfl
  have D__law_draw : FunD K "_law_draw" "_law_draw" (defArgs (top 42)) (defBody (top 42)) (defScope (top 42)) [] [] (He.fAd K ("_law_draw", none)) d__law_draw := D__law_draw
  have g__law_draw : mg "_law_draw" = some (.ref (He.fAd K ("_law_draw", none))) := He.glo_ok X Gm (cd.fact 25 (f := .glo "_law_draw") rfl)
  have F__law_draw := funD_fun (st := top 42) D__law_draw
  have b__law_draw : Binds K d__law_draw ["_law_draws", "_law_limit"] [] := D__law_draw.bindsN fun _ _ _ _ _ _ us hl => match us, hl with | [_, _], _ => rfl
  obtain ⟨d__law_pick, D__law_pick⟩ := cd.def_ 26 (d := hD "_law_pick" 43) rfl
  have D__law_pick : FunD K "_law_pick" "_law_pick" (defArgs (top 43)) (defBody (top 43)) (defScope (top 43)) [] [] (He.fAd K ("_law_pick", none)) d__law_pick := D__law_pick
  have g__law_pick : mg "_law_pick" = some (.ref (He.fAd K ("_law_pick", none))) := He.glo_ok X Gm (cd.fact 26 (f := .glo "_law_pick") rfl)
  have F__law_pick := funD_fun (st := top 43) D__law_pick
  have b__law_pick : Binds K d__law_pick ["_law_draws", "_law_choices"] [] := D__law_pick.bindsN fun _ _ _ _ _ _ us hl => match us, hl with | [_, _], _ => rfl
  obtain ⟨d__law_error, D__law_error⟩ := cd.def_ 27 (d := hD "_law_error" 44) rfl
  have D__law_error : FunD K "_law_error" "_law_error" (defArgs (top 44)) (defBody (top 44)) (defScope (top 44)) [] [] (He.fAd K ("_law_error", none)) d__law_error := D__law_error
  have g__law_error : mg "_law_error" = some (.ref (He.fAd K ("_law_error", none))) := He.glo_ok X Gm (cd.fact 27 (f := .glo "_law_error") rfl)
  have F__law_error := funD_fun (st := top 44) D__law_error
  have b__law_error : Binds K d__law_error ["_law_caught"] [] := D__law_error.bindsN fun _ _ _ _ _ _ us hl => match us, hl with | [_], _ => rfl
  obtain ⟨d__law_order, D__law_order⟩ := cd.def_ 28 (d := hD "_law_order" 45) rfl
  have D__law_order : FunD K "_law_order" "_law_order" (defArgs (top 45)) (defBody (top 45)) (defScope (top 45)) [] [] (He.fAd K ("_law_order", none)) d__law_order := D__law_order
  have g__law_order : mg "_law_order" = some (.ref (He.fAd K ("_law_order", none))) := He.glo_ok X Gm (cd.fact 28 (f := .glo "_law_order") rfl)
  have F__law_order := funD_fun (st := top 45) D__law_order
  have b__law_order : Binds K d__law_order ["_law_draws", "_law_size"] [] := D__law_order.bindsN fun _ _ _ _ _ _ us hl => match us, hl with | [_, _], _ => rfl
  obtain ⟨d__law_scheduler, D__law_scheduler⟩ := cd.def_ 29 (d := hD "_law_scheduler" 46) rfl
  have D__law_scheduler : FunD K "_law_scheduler" "_law_scheduler" (defArgs (top 46)) (defBody (top 46)) (defScope (top 46)) [] [] (He.fAd K ("_law_scheduler", none)) d__law_scheduler := D__law_scheduler
  have g__law_scheduler : mg "_law_scheduler" = some (.ref (He.fAd K ("_law_scheduler", none))) := He.glo_ok X Gm (cd.fact 29 (f := .glo "_law_scheduler") rfl)
  have F__law_scheduler := funD_fun (st := top 46) D__law_scheduler
  have b__law_scheduler : Binds K d__law_scheduler ["_law_draws", "_law_size"] [] := D__law_scheduler.bindsN fun _ _ _ _ _ _ us hl => match us, hl with | [_, _], _ => rfl
  obtain ⟨d__law_words, D__law_words⟩ := cd.def_ 30 (d := hD "_law_words" 47) rfl
  have D__law_words : FunD K "_law_words" "_law_words" (defArgs (top 47)) (defBody (top 47)) (defScope (top 47)) [] [] (He.fAd K ("_law_words", none)) d__law_words := D__law_words
  have g__law_words : mg "_law_words" = some (.ref (He.fAd K ("_law_words", none))) := He.glo_ok X Gm (cd.fact 30 (f := .glo "_law_words") rfl)
  have F__law_words := funD_fun (st := top 47) D__law_words
  have b__law_words : Binds K d__law_words ["_law_scheduler_here"] [] := D__law_words.bindsN fun _ _ _ _ _ _ us hl => match us, hl with | [_], _ => rfl
  obtain ⟨d__law_parsed, D__law_parsed⟩ := cd.def_ 31 (d := hD "_law_parsed" 48) rfl
  have D__law_parsed : FunD K "_law_parsed" "_law_parsed" (defArgs (top 48)) (defBody (top 48)) (defScope (top 48)) [] [] (He.fAd K ("_law_parsed", none)) d__law_parsed := D__law_parsed
  have g__law_parsed : mg "_law_parsed" = some (.ref (He.fAd K ("_law_parsed", none))) := He.glo_ok X Gm (cd.fact 31 (f := .glo "_law_parsed") rfl)
  have F__law_parsed := funD_fun (st := top 48) D__law_parsed
  have b__law_parsed : Binds K d__law_parsed ["_law_text", "_law_size"] [] := D__law_parsed.bindsN fun _ _ _ _ _ _ us hl => match us, hl with | [_, _], _ => rfl
  obtain ⟨d__law_rejected, D__law_rejected⟩ := cd.def_ 32 (d := hD "_law_rejected" 49) rfl
  have D__law_rejected : FunD K "_law_rejected" "_law_rejected" (defArgs (top 49)) (defBody (top 49)) (defScope (top 49)) [] [] (He.fAd K ("_law_rejected", none)) d__law_rejected := D__law_rejected
  have g__law_rejected : mg "_law_rejected" = some (.ref (He.fAd K ("_law_rejected", none))) := He.glo_ok X Gm (cd.fact 32 (f := .glo "_law_rejected") rfl)
  have F__law_rejected := funD_fun (st := top 49) D__law_rejected
  have b__law_rejected : Binds K d__law_rejected [] [] := D__law_rejected.bindsN fun _ _ _ _ _ _ us hl => match us, hl with | [], _ => rfl
  obtain ⟨d_law, D_law⟩ := cd.def_ 33 (d := hD "law" 50) rfl
  have D_law : FunD K "law" "law" (defArgs (top 50)) (defBody (top 50)) (defScope (top 50)) [] [] (He.fAd K ("law", none)) d_law := D_law
  have g_law : mg "law" = some (.ref (He.fAd K ("law", none))) := He.glo_ok X Gm (cd.fact 33 (f := .glo "law") rfl)
  have F_law := funD_fun (st := top 50) D_law
  have b_law : Binds K d_law ["_law_script"] [] := D_law.bindsN fun _ _ _ _ _ _ us hl => match us, hl with | [_], _ => rfl
  obtain ⟨t_MOST_PROCESSES, i_MOST_PROCESSES⟩ := He.int_ok X Gm (cd.fact 57 (f := .int "MOST_PROCESSES" 4) rfl)
  have g_TurnError : mg "TurnError" = some (.ref (He.ga K "TurnError")) := He.glo_ok X Gm (cd.fact 34 (f := .glo "TurnError") rfl)
  have g_BadProgram : mg "BadProgram" = some (.ref (He.ga K "BadProgram")) := He.glo_ok X Gm (cd.fact 35 (f := .glo "BadProgram") rfl)
  have g_BadHall : mg "BadHall" = some (.ref (He.ga K "BadHall")) := He.glo_ok X Gm (cd.fact 36 (f := .glo "BadHall") rfl)
  have g_BadScheduler : mg "BadScheduler" = some (.ref (He.ga K "BadScheduler")) := He.glo_ok X Gm (cd.fact 37 (f := .glo "BadScheduler") rfl)
  have g_BadNumber : mg "BadNumber" = some (.ref (He.ga K "BadNumber")) := He.glo_ok X Gm (cd.fact 38 (f := .glo "BadNumber") rfl)
  have g_BadRecord : mg "BadRecord" = some (.ref (He.ga K "BadRecord")) := He.glo_ok X Gm (cd.fact 39 (f := .glo "BadRecord") rfl)
  have g_BadText : mg "BadText" = some (.ref (He.ga K "BadText")) := He.glo_ok X Gm (cd.fact 40 (f := .glo "BadText") rfl)
  have g_NotFound : mg "NotFound" = some (.ref (He.ga K "NotFound")) := He.glo_ok X Gm (cd.fact 41 (f := .glo "NotFound") rfl)
  have g_KINDS : mg "KINDS" = some (.ref (He.ga K "KINDS")) := He.glo_ok X Gm (cd.fact 42 (f := .glo "KINDS") rfl)
  have g_TAKINGS : mg "TAKINGS" = some (.ref (He.ga K "TAKINGS")) := He.glo_ok X Gm (cd.fact 43 (f := .glo "TAKINGS") rfl)
  have g_LATES : mg "LATES" = some (.ref (He.ga K "LATES")) := He.glo_ok X Gm (cd.fact 44 (f := .glo "LATES") rfl)
  have yT : ∀ H, tyV K "tuple" (.ref (He.ga K "TAKINGS")) H := fun H => .inr (.inl ⟨rfl, HD.tyB_ok x2⟩)
  have yL : ∀ H, tyV K "tuple" (.ref (He.ga K "LATES")) H := fun H => .inr (.inl ⟨rfl, HD.tyB_ok x3⟩)
  have dT : ∀ H, Dp K H (.ref (He.ga K "TAKINGS")) (.tuple [.str "keeping", .str "taking"]) := fun H => .tup (He.tupB_ok x0 H) (.cons (.str _) (.cons (.str _) .nil))
  have dL : ∀ H, Dp K H (.ref (He.ga K "LATES")) (.tuple [.str "early", .str "late"]) := fun H => .tup (He.tupB_ok x1 H) (.cons (.str _) (.cons (.str _) .nil))
  have G : Glob K mg := ⟨He.free_ok X Gm (cd.fact 45 (f := .free "isinstance") rfl), He.free_ok X Gm (cd.fact 46 (f := .free "int") rfl), He.free_ok X Gm (cd.fact 47 (f := .free "bool") rfl), He.free_ok X Gm (cd.fact 48 (f := .free "tuple") rfl), He.free_ok X Gm (cd.fact 49 (f := .free "list") rfl), He.free_ok X Gm (cd.fact 50 (f := .free "str") rfl), He.free_ok X Gm (cd.fact 51 (f := .free "len") rfl), He.free_ok X Gm (cd.fact 52 (f := .free "all") rfl), He.free_ok X Gm (cd.fact 53 (f := .free "any") rfl), He.free_ok X Gm (cd.fact 54 (f := .free "range") rfl), He.free_ok X Gm (cd.fact 55 (f := .free "sorted") rfl), He.free_ok X Gm (cd.fact 56 (f := .free "ValueError") rfl), t_MOST_PROCESSES, i_MOST_PROCESSES, He.ga K "TAKINGS", g_TAKINGS, yT, dT, He.ga K "LATES", g_LATES, yL, dL⟩
  have G13 : K13.Glob mg := ⟨He.free_ok X Gm (cd.fact 45 (f := .free "isinstance") rfl), He.free_ok X Gm (cd.fact 46 (f := .free "int") rfl), He.free_ok X Gm (cd.fact 47 (f := .free "bool") rfl), He.free_ok X Gm (cd.fact 48 (f := .free "tuple") rfl), He.free_ok X Gm (cd.fact 49 (f := .free "list") rfl), He.free_ok X Gm (cd.fact 50 (f := .free "str") rfl), He.free_ok X Gm (cd.fact 51 (f := .free "len") rfl), He.free_ok X Gm (cd.fact 52 (f := .free "all") rfl), He.free_ok X Gm (cd.fact 53 (f := .free "any") rfl), He.free_ok X Gm (cd.fact 55 (f := .free "sorted") rfl), He.free_ok X Gm (cd.fact 54 (f := .free "range") rfl)⟩
  obtain ⟨e1t, e2t, e3t, e4t⟩ := He.exc_ok (cd.fact 58 (f := .exc "BadText") rfl)
  have emt := He.exm_ok (cd.fact 59 (f := .exm "BadText" "TurnError" true) rfl)
  obtain ⟨e1n, e2n, e3n, e4n⟩ := He.exc_ok (cd.fact 60 (f := .exc "BadNumber") rfl)
  have emn := He.exm_ok (cd.fact 61 (f := .exm "BadNumber" "TurnError" true) rfl)
  have Zt : ErrC K (⟨He.free_ok X Gm (cd.fact 45 (f := .free "isinstance") rfl), He.free_ok X Gm (cd.fact 56 (f := .free "ValueError") rfl), He.ga K "BadProgram", g_BadProgram, He.ga K "BadHall", g_BadHall, He.ga K "BadScheduler", g_BadScheduler, He.ga K "BadNumber", g_BadNumber, He.ga K "BadRecord", g_BadRecord, He.ga K "BadText", g_BadText, He.ga K "NotFound", g_NotFound, He.ga K "TurnError", g_TurnError⟩ : GlobN K mg) (He.ga K "BadText") false := ⟨⟨x12, x13, x14, x15, x16, x17, x18, x19⟩, x20, x21, x22, x23, x24, x25, x26, x27, x28, emt⟩
  have Zn : ErrC K (⟨He.free_ok X Gm (cd.fact 45 (f := .free "isinstance") rfl), He.free_ok X Gm (cd.fact 56 (f := .free "ValueError") rfl), He.ga K "BadProgram", g_BadProgram, He.ga K "BadHall", g_BadHall, He.ga K "BadScheduler", g_BadScheduler, He.ga K "BadNumber", g_BadNumber, He.ga K "BadRecord", g_BadRecord, He.ga K "BadText", g_BadText, He.ga K "NotFound", g_NotFound, He.ga K "TurnError", g_TurnError⟩ : GlobN K mg) (He.ga K "BadNumber") true := ⟨⟨x29, x30, x31, x32, x33, x34, x35, x36⟩, x37, x38, x39, x40, x41, x42, x43, x44, x45, emn⟩
  have hts : He.dicW K (He.ga K "KINDS") = some (He.keysIn w.params K13.kindNames) := by
    have e : [He.dicW K (He.ga K "KINDS")] = [some (He.keysIn w.params K13.kindNames)] := congrArg (fun z : He.AlT => z.2) c.t
    exact List.head_eq_of_cons_eq e
  have KT : K13.KindsAt K w (He.ga K "KINDS") (He.ga K "_is_bare") (He.ga K "_is_by_order") (He.ga K "_is_by_rounds") (He.ga K "_is_by_levels") (He.ga K "_is_by_age") (He.ga K "_is_by_limits") (He.ga K "_is_by_weights") :=
    ⟨dict_at hts, He.eqO_ok x4, He.eqO_ok x5, He.eqO_ok x6, He.eqO_ok x7, He.eqO_ok x8, He.eqO_ok x9, He.eqO_ok x10, He.eqO_ok x11⟩
  have el := hfa.symm.trans g_law
  cases el
  refine ⟨d_law, tf2.map (He.cT K), spLaw K (tf2.map fun d => He.tabOf K (He.codeOf K d)), fun p hp => ?_, fun p hp => ?_, fun p hp => ?_, fun s u => FunD.bindsA (ps := ["_law_script"]) D_law (fun _ _ _ _ _ _ us hl => match us, hl with | [_], _ => rfl) s [u] rfl, fun H a ns hl _ hT hS => ⟨a, ns, rfl, hS, hl, fun P hP => ?_, fun _ => rfl⟩, fun base hK hN hTB => ?_⟩
  · obtain ⟨d, hd, rfl⟩ := List.mem_map.mp hp
    exact c.empty _ hd
  · obtain ⟨d, hd, rfl⟩ := List.mem_map.mp hp
    exact c.out _ hd
  · obtain ⟨d, hd, rfl⟩ := List.mem_map.mp hp
    exact PySem.W.codeHd_of_K X (c.hd _ hd)
  · obtain ⟨d, hd, rfl⟩ := List.mem_map.mp hP
    exact ⟨#[], hT _ (List.mem_map.mpr ⟨d, hd, rfl⟩), triples_nil⟩
  · have TBs : ∀ d ∈ tf2, GxR.TabB base mg (He.codeOf K d) (He.tabOf K (He.codeOf K d)) := fun d hd => by
      have tb := hTB (He.cT K d) (List.mem_map.mpr ⟨d, hd, rfl⟩)
      exact ⟨tb.code, tb.bm, tb.gP⟩
    have hPs : ∀ d ∈ tf2, He.tabOf K (He.codeOf K d) ∈ tf2.map fun d => He.tabOf K (He.codeOf K d) := fun d hd => List.mem_map.mpr ⟨d, hd, rfl⟩
    generalize hT : (tf2.map fun d => He.tabOf K (He.codeOf K d)) = T at hPs
    have m_is_row : (("is_row", none) : He.Defn) ∈ tf2 := List.mem_cons_self
    have TB_is_row := TBs _ m_is_row
    have P_is_row := hPs _ m_is_row
    have m__is_by_levels : (("_is_by_levels", none) : He.Defn) ∈ tf2 := (List.mem_cons_of_mem _ List.mem_cons_self)
    have TB__is_by_levels := TBs _ m__is_by_levels
    have P__is_by_levels := hPs _ m__is_by_levels
    have q_is_number : K13.Cal PySem.Challenge.pw_processturns_k33_whole_names w K mg base "is_number" 1 ["value", "least", "greatest"] (K13.spNum K) _ _ := ⟨g_is_number, F_is_number.kp, b_is_number, K13.ok_num F_is_number G13⟩
    have q_is_row : K13.Cal PySem.Challenge.pw_processturns_k33_whole_names w K mg base "is_row" 3 ["value", "many", "least", "greatest"] (K13.spRow K T) _ _ := ⟨g_is_row, F_is_row.fun.kp, b_is_row, K13.ok_row F_is_row TB_is_row P_is_row G13 q_is_number⟩
    have q__first_word : K13.Cal PySem.Challenge.pw_processturns_k33_whole_names w K mg base "_first_word" 1 ["value"] (K13.spFirst K) _ _ := ⟨g__first_word, F__first_word.kp, b__first_word, K13.ok_first F__first_word G13⟩
    have q__is_order : K13.Cal PySem.Challenge.pw_processturns_k33_whole_names w K mg base "_is_order" 4 ["value", "size"] (K13.spOrder K T) _ _ := ⟨g__is_order, F__is_order.kp, b__is_order, K13.ok_order F__is_order G13 q_is_row⟩
    have q__is_rule : K13.Cal PySem.Challenge.pw_processturns_k33_whole_names w K mg base "_is_rule" 4 ["value", "size"] (K13.spRule K T) _ _ := ⟨g__is_rule, F__is_rule.kp, b__is_rule, K13.ok_rule F__is_rule G13 q__first_word q_is_row⟩
    have kB : Held PySem.Challenge.pw_processturns_k33_whole_names w K mg base 5 _ (K13.spKind K T K13.bareM) := ⟨_, _, (K13.ok_bare F__is_bare G13).mono (by decide), F__is_bare.kp, b__is_bare⟩
    have kO : Held PySem.Challenge.pw_processturns_k33_whole_names w K mg base 5 _ (K13.spKind K T K13.byOrderM) := ⟨_, _, K13.ok_byOrder F__is_by_order G13 q__is_order q_is_number q__is_rule, F__is_by_order.kp, b__is_by_order⟩
    have kR : Held PySem.Challenge.pw_processturns_k33_whole_names w K mg base 5 _ (K13.spKind K T K13.roundsM) := ⟨_, _, (K13.ok_rounds F__is_by_rounds G13 q_is_number).mono (by decide), F__is_by_rounds.kp, b__is_by_rounds⟩
    have kL : Held PySem.Challenge.pw_processturns_k33_whole_names w K mg base 5 _ (K13.spKind K T K13.levelsM) := ⟨_, _, K13.ok_levels F__is_by_levels TB__is_by_levels P__is_by_levels G13 q_is_number q_is_row, F__is_by_levels.fun.kp, b__is_by_levels⟩
    have kA : Held PySem.Challenge.pw_processturns_k33_whole_names w K mg base 5 _ (K13.spKind K T K13.ageM) := ⟨_, _, K13.ok_age F__is_by_age G13 q__is_order q_is_number, F__is_by_age.kp, b__is_by_age⟩
    have kD : Held PySem.Challenge.pw_processturns_k33_whole_names w K mg base 5 _ (K13.spKind K T K13.limitsM) := ⟨_, _, (K13.ok_limits F__is_by_limits G13 q_is_row).mono (by decide), F__is_by_limits.kp, b__is_by_limits⟩
    have kW : Held PySem.Challenge.pw_processturns_k33_whole_names w K mg base 5 _ (K13.spKind K T K13.weightsM) := ⟨_, _, (K13.ok_weights F__is_by_weights G13 q_is_row).mono (by decide), F__is_by_weights.kp, b__is_by_weights⟩
    have s13 := K13.ok_sched F_is_scheduler q_is_number q__first_word g_KINDS KT kB kO kR kL kA kD kW (K13.Named.of F__is_bare) (K13.Named.of F__is_by_order) (K13.Named.of F__is_by_rounds) (K13.Named.of F__is_by_levels.fun) (K13.Named.of F__is_by_age) (K13.Named.of F__is_by_limits) (K13.Named.of F__is_by_weights)
    have c_is_scheduler : Cal PySem.Challenge.pw_processturns_k33_whole_names w K mg base "is_scheduler" 6 ["value", "size"] (spD K T R_is_scheduler) _ _ := ⟨g_is_scheduler, F_is_scheduler.kp, b_is_scheduler, is_scheduler_D s13⟩
    have c_is_number : Cal PySem.Challenge.pw_processturns_k33_whole_names w K mg base "is_number" 1 ["value", "least", "greatest"] (spD K T R_is_number) _ _ := ⟨g_is_number, F_is_number.kp, b_is_number, is_number_D (K13.ok_num F_is_number G13)⟩
    have c_check_number0 : Cal PySem.Challenge.pw_processturns_k33_whole_names w K mg base "check_number" 2 ["value", "least", "greatest"] (spD K T R_check_number0) _ _ := ⟨g_check_number, F_check_number.kp, b_check_number, ok_check_number0 F_check_number G c_is_number⟩
    have c_check_numberE : CalE PySem.Challenge.pw_processturns_k33_whole_names w K mg base "check_number" 2 ["value", "least", "greatest"] (spE K T (R_check_number (He.ga K "BadNumber"))) _ _ := ⟨g_check_number, F_check_number.kp, b_check_number, ok_check_number F_check_number G (⟨He.ga K "BadText", g_BadText, e1t, e2t, e3t, e4t, He.ga K "BadNumber", g_BadNumber, e1n, e2n, e3n, e4n⟩ : Bad K mg) c_is_number⟩
    have c_check_scheduler : Cal PySem.Challenge.pw_processturns_k33_whole_names w K mg base "check_scheduler" 7 ["value", "size"] (spD K T R_check_scheduler) _ _ := ⟨g_check_scheduler, F_check_scheduler.kp, b_check_scheduler, ok_check_scheduler F_check_scheduler G c_is_scheduler⟩
    have c__words_of_rule : Cal PySem.Challenge.pw_processturns_k33_whole_names w K mg base "_words_of_rule" 1 ["rule"] (spNw K T R__words_of_rule) _ _ := ⟨g__words_of_rule, F__words_of_rule.kp, b__words_of_rule, ok__words_of_rule F__words_of_rule G⟩
    have c__words_of : Cal PySem.Challenge.pw_processturns_k33_whole_names w K mg base "_words_of" 2 ["scheduler"] (spD K T R__words_of) _ _ := ⟨g__words_of, F__words_of.kp, b__words_of, ok__words_of F__words_of G c__words_of_rule⟩
    have c_format_scheduler : Cal PySem.Challenge.pw_processturns_k33_whole_names w K mg base "format_scheduler" 8 ["scheduler", "size"] (spD K T R_format_scheduler) _ _ := ⟨g_format_scheduler, F_format_scheduler.kp, b_format_scheduler, ok_format_scheduler F_format_scheduler G c_check_number0 c_check_scheduler c__words_of⟩
    have c__number : Cal PySem.Challenge.pw_processturns_k33_whole_names w K mg base "_number" 1 ["word"] (spD K T R__number) _ _ := ⟨g__number, F__number.kp, b__number, ok__number F__number G⟩
    have c__numbers : Cal PySem.Challenge.pw_processturns_k33_whole_names w K mg base "_numbers" 2 ["words"] (spD K T R__numbers) _ _ := ⟨g__numbers, F__numbers.kp, b__numbers, ok__numbers F__numbers G c__number⟩
    have c__order_told : Cal PySem.Challenge.pw_processturns_k33_whole_names w K mg base "_order_told" 3 ["words", "size"] (spD K T R__order_told) _ _ := ⟨g__order_told, F__order_told.kp, b__order_told, ok__order_told F__order_told G c__numbers⟩
    have c__scheduler_told : Cal PySem.Challenge.pw_processturns_k33_whole_names w K mg base "_scheduler_told" 4 ["words", "size"] (spD K T R__scheduler_told) _ _ := ⟨g__scheduler_told, F__scheduler_told.kp, b__scheduler_told, ok__scheduler_told F__scheduler_told G c__order_told c__numbers c__number⟩
    have c__check_text : CalE PySem.Challenge.pw_processturns_k33_whole_names w K mg base "_check_text" 1 ["value"] (spE K T (R__check_text (He.ga K "BadText"))) _ _ := ⟨g__check_text, F__check_text.kp, b__check_text, ok__check_text F__check_text G (⟨He.ga K "BadText", g_BadText, e1t, e2t, e3t, e4t, He.ga K "BadNumber", g_BadNumber, e1n, e2n, e3n, e4n⟩ : Bad K mg)⟩
    have c_parse_scheduler : CalE PySem.Challenge.pw_processturns_k33_whole_names w K mg base "parse_scheduler" 7 ["text", "size"] (spE K T (R_parse_scheduler (He.ga K "BadText") (He.ga K "BadNumber"))) _ _ := ⟨g_parse_scheduler, F_parse_scheduler.kp, b_parse_scheduler, ok_parse_scheduler F_parse_scheduler G (⟨He.ga K "BadText", g_BadText, e1t, e2t, e3t, e4t, He.ga K "BadNumber", g_BadNumber, e1n, e2n, e3n, e4n⟩ : Bad K mg) c_check_numberE c__check_text c__scheduler_told c_is_scheduler⟩
    have c__law_start : Cal PySem.Challenge.pw_processturns_k33_whole_names w K mg base "_law_start" 1 ["_law_script"] (LW.spStart K) _ _ := ⟨g__law_start, F__law_start.kp, b__law_start, LW.ok_start F__law_start G⟩
    have c__law_draw : Cal PySem.Challenge.pw_processturns_k33_whole_names w K mg base "_law_draw" 1 ["_law_draws", "_law_limit"] (LW.spDraw T) _ _ := ⟨g__law_draw, F__law_draw.kp, b__law_draw, LW.ok_draw F__law_draw G⟩
    have c__law_pick : Cal PySem.Challenge.pw_processturns_k33_whole_names w K mg base "_law_pick" 2 ["_law_draws", "_law_choices"] (spW K T R_pick) _ _ := ⟨g__law_pick, F__law_pick.kp, b__law_pick, ok__law_pick F__law_pick G c__law_draw⟩
    have c__law_pickM : Cal PySem.Challenge.pw_processturns_k33_whole_names w K mg base "_law_pick" 2 ["_law_draws", "_law_choices"] (spW K T R_pickM) _ _ := ⟨g__law_pick, F__law_pick.kp, b__law_pick, pickM c__law_pick.ok⟩
    have c__law_order : Cal PySem.Challenge.pw_processturns_k33_whole_names w K mg base "_law_order" 3 ["_law_draws", "_law_size"] (spW K T R_order) _ _ := ⟨g__law_order, F__law_order.kp, b__law_order, ok__law_order F__law_order G c__law_pick⟩
    have c__law_scheduler : Cal PySem.Challenge.pw_processturns_k33_whole_names w K mg base "_law_scheduler" 4 ["_law_draws", "_law_size"] (spW K T R_lsched) _ _ := ⟨g__law_scheduler, F__law_scheduler.kp, b__law_scheduler, ok__law_scheduler F__law_scheduler G c__law_draw c__law_pickM c__law_order⟩
    have c__law_words : Cal PySem.Challenge.pw_processturns_k33_whole_names w K mg base "_law_words" 1 ["_law_scheduler_here"] (spD K T R_law_words) _ _ := ⟨g__law_words, F__law_words.kp, b__law_words, ok__law_words F__law_words G⟩
    have c__law_error : Cal PySem.Challenge.pw_processturns_k33_whole_names w K mg base "_law_error" 1 ["_law_caught"] (spX K T (R_law_error2 (He.ga K "BadText") (He.ga K "BadNumber"))) _ _ := ⟨g__law_error, F__law_error.kp, b__law_error, fnok_orX (ok__law_error_t F__law_error (⟨He.free_ok X Gm (cd.fact 45 (f := .free "isinstance") rfl), He.free_ok X Gm (cd.fact 56 (f := .free "ValueError") rfl), He.ga K "BadProgram", g_BadProgram, He.ga K "BadHall", g_BadHall, He.ga K "BadScheduler", g_BadScheduler, He.ga K "BadNumber", g_BadNumber, He.ga K "BadRecord", g_BadRecord, He.ga K "BadText", g_BadText, He.ga K "NotFound", g_NotFound, He.ga K "TurnError", g_TurnError⟩ : GlobN K mg) Zt) (ok__law_error_n F__law_error (⟨He.free_ok X Gm (cd.fact 45 (f := .free "isinstance") rfl), He.free_ok X Gm (cd.fact 56 (f := .free "ValueError") rfl), He.ga K "BadProgram", g_BadProgram, He.ga K "BadHall", g_BadHall, He.ga K "BadScheduler", g_BadScheduler, He.ga K "BadNumber", g_BadNumber, He.ga K "BadRecord", g_BadRecord, He.ga K "BadText", g_BadText, He.ga K "NotFound", g_NotFound, He.ga K "TurnError", g_TurnError⟩ : GlobN K mg) Zn)⟩
    have c__law_parsed : Cal PySem.Challenge.pw_processturns_k33_whole_names w K mg base "_law_parsed" 8 ["_law_text", "_law_size"] (spD K T R_law_parsed) _ _ := ⟨g__law_parsed, F__law_parsed.kp, b__law_parsed, ok__law_parsed F__law_parsed (⟨He.free_ok X Gm (cd.fact 45 (f := .free "isinstance") rfl), He.free_ok X Gm (cd.fact 56 (f := .free "ValueError") rfl), He.ga K "BadProgram", g_BadProgram, He.ga K "BadHall", g_BadHall, He.ga K "BadScheduler", g_BadScheduler, He.ga K "BadNumber", g_BadNumber, He.ga K "BadRecord", g_BadRecord, He.ga K "BadText", g_BadText, He.ga K "NotFound", g_NotFound, He.ga K "TurnError", g_TurnError⟩ : GlobN K mg) Zt Zn c_parse_scheduler c__law_error⟩
    have c__law_rejected : Cal PySem.Challenge.pw_processturns_k33_whole_names w K mg base "_law_rejected" 9 [] (spD K T R_law_rejected) _ _ := ⟨g__law_rejected, F__law_rejected.kp, b__law_rejected, ok__law_rejected F__law_rejected G c__law_parsed c_format_scheduler⟩
    exact ok_law F_law G c__law_start c__law_draw c__law_pickM c__law_scheduler c_format_scheduler c__law_words c__law_parsed c_is_scheduler c__law_rejected
end PT
open PySem PySem.W PySem.Calls PyProof.Rows
theorem PySem.Challenge.cw_processturns_k33_whole_names_holds : PySem.Challenge.rw_processturns_k33_whole_names.Holds := by
  w_on; o_law
  refine HandSHeadRun.head_any (r := HD.R2w) (q := view HD.R2w.prog [50]) (H := HD.hk2) (ob := HD.ob2) (M := 8000) (loose := HD.loose2) (d := HandSHeadRun.topDef HD.R2w.prog 50) (kwd := []) HD.ob2_eq
    (by kernel_rfl) (fun s => by kernel_rfl) HD.run2 (by kernel_rfl) (by kernel_rfl) (by kernel_rfl) (by rfl) (by first | assumption | decide +kernel) (by decide +kernel) ⟨rfl, rfl, rfl, rfl, rfl, by decide +kernel⟩ ?hw ?hc
  case hw => w_witness2
  case hc =>
    refine LamX.walk_ofTsE (l := PySem.Challenge.rw_processturns_k33_whole_names) (n := 63) (k := 10) (x := "_law_script") (CX := fun _ => L2.CX0) rfl (by decide) (by kernel_rfl) ⟨rfl, by decide, by decide⟩ ?F (fun _ _ _ _ _ z => z)
    intro w mg fa h Y G hmg0
    obtain ⟨K, KX, c⟩ := Y
    have hmg : mg ("law" : PySem.Str) = some (.ref fa) := by
      have e : (HandSHeadRun.topDef HD.R2w.prog 50).name = ("law" : PySem.Str) := by kernel_rfl
      rw [← e]
      exact hmg0
    exact ⟨K, KX, PT.law_at KX G hmg c⟩
