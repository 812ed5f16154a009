import PyProof.Rows.All
import Wide.All
import OpenK.AllK
import Wide.FinOn
import PySem.Challenge.RW_processturns_k02_whole_queues
import HandS.Codes
import HandS.Words
import HandS.Head0
import HandS.Head1
import HandS.Head2
import HandS.HeadEnd
import HandS.HeadHook1
import HandS.HeadHook2
import HandS.HeadHook3
import HandS.HeadHook4
import HandS.HeadWalk
import HandS.Defaults
import HandS.ForMost
import HandS.TupAny
import HandS.Flow
import HandS.Style
import HandS.IsInst
import HandS.Deep
import HandS.Conv
import HandS.AnyAll
import HandS.Walk
import KE.GoesEnum
import HandS.List
import HandS.TupMul
import HandS.EndTab
import HandS.GenList
import HandS.SetFor
import HandS.More
import HandS.CallLocal
import HandS.SortInts
import HandS.SortRule
set_option Elab.async false
set_option linter.all false
set_option maxRecDepth 100000
set_option maxHeartbeats 0
namespace HD
open PySem PySem.Spec PyProof.Rows L2
def top (i : Nat) : Stmt := PySem.Challenge.pw_processturns_k02_whole_queues.main.body.getD i (.Pass ⟨0, 0, 0, 0⟩)
abbrev kNames : List Str := ["first", "last", "order", "rounds", "levels", "aging", "due", "shares"]
def hD (x : Str) (i : Nat) : He.DefD := ⟨(x, none), x, x, defArgs (top i), defBody (top i), defScope (top i), [], []⟩
def hM (C m q : Str) (i j : Nat) : He.DefD := ⟨(C, some m), m, q, defArgs (inClass (top i) j), defBody (inClass (top i) j), defScope (inClass (top i) j), [], []⟩
def fn2 : List He.DefD := [hD "is_number" 9, hD "is_row" 10, hD "check_number" 11, hD "is_ready" 19, hD "ready_slots" 20, hD "with_item" 21, hD "with_comers" 22, hD "after_deed" 23, hD "_after_asking" 24, hD "_after_giving" 25, hD "chooser_for" 38, hD "first_state" 40, hD "begun" 41, hD "done" 42, hD "machine_for" 45, hD "is_deed" 49, hD "is_program" 50, hD "_locks_fit" 51, hD "check_program" 52, hD "length" 53, hD "_units" 54, hD "is_hall" 58, hD "_is_process" 59, hD "check_hall" 60, hD "whole_work" 61, hD "_first_word" 63, hD "_is_order" 64, hD "_is_rule" 65, hD "_is_bare" 66, hD "_is_by_order" 67, hD "_is_by_rounds" 68, hD "_is_by_levels" 69, hD "_is_by_age" 70, hD "_is_by_limits" 71, hD "_is_by_weights" 72, hD "is_scheduler" 74, hD "check_scheduler" 75, hD "check_units" 78, hD "check_run" 79, hD "rows_told" 80, hD "rows_of" 81, hD "run_of" 82, hD "run" 83, hD "log" 84, hD "ends" 85, hD "_check_all" 87, hD "served" 88, hD "finish" 89, hD "switches" 90, hD "idle_units" 91, hD "asked_in_vain" 92, hD "_law_start" 94, hD "_law_draw" 95, hD "law" 96, hM "QueueChooser" "__init__" "QueueChooser.__init__" 34 0, hM "QueueChooser" "fresh" "QueueChooser.fresh" 34 1, hM "QueueChooser" "joined" "QueueChooser.joined" 34 2, hM "QueueChooser" "pick" "QueueChooser.pick" 34 3, hM "QueueChooser" "settled" "QueueChooser.settled" 34 4, hM "Machine" "__init__" "Machine.__init__" 44 0, hM "Machine" "load" "Machine.load" 44 1, hM "Machine" "words" "Machine.words" 44 5, hM "Machine" "goes_on" "Machine.goes_on" 44 6, hM "Machine" "tick" "Machine.tick" 44 7, hM "Machine" "_next_deed" "Machine._next_deed" 44 8, hM "Machine" "_advance" "Machine._advance" 44 9]
def fa2 : List He.Fa := [.glo "is_number", .glo "is_row", .glo "check_number", .glo "is_ready", .glo "ready_slots", .glo "with_item", .glo "with_comers", .glo "after_deed", .glo "_after_asking", .glo "_after_giving", .glo "chooser_for", .glo "first_state", .glo "begun", .glo "done", .glo "machine_for", .glo "is_deed", .glo "is_program", .glo "_locks_fit", .glo "check_program", .glo "length", .glo "_units", .glo "is_hall", .glo "_is_process", .glo "check_hall", .glo "whole_work", .glo "_first_word", .glo "_is_order", .glo "_is_rule", .glo "_is_bare", .glo "_is_by_order", .glo "_is_by_rounds", .glo "_is_by_levels", .glo "_is_by_age", .glo "_is_by_limits", .glo "_is_by_weights", .glo "is_scheduler", .glo "check_scheduler", .glo "check_units", .glo "check_run", .glo "rows_told", .glo "rows_of", .glo "run_of", .glo "run", .glo "log", .glo "ends", .glo "_check_all", .glo "served", .glo "finish", .glo "switches", .glo "idle_units", .glo "asked_in_vain", .glo "_law_start", .glo "_law_draw", .glo "law", .glo "QueueChooser", .glo "Machine", .glo "KINDS", .glo "WORDS", .glo "GONE", .glo "WAITS", .glo "AGAIN", .free "isinstance", .free "int", .free "bool", .free "tuple", .free "list", .free "str", .free "len", .free "all", .free "any", .free "sorted", .free "range", .free "enumerate", .free "sum", .free "max", .free "min", .free "set", .int "AWAY" 0, .int "READY" 1, .int "MOST_PROCESSES" 4, .int "LAST_TIME" 99, .int "MOST_UNITS_running" 200, .int "MOST_DEEDS" 40, .int "MOST_UNITS_programs" 99, .cls "QueueChooser", .cls "Machine", .mkr "QueueChooser", .mkr "Machine", .noat "QueueChooser" "place", .noat "Machine" "chooser", .noat "Machine" "state", .noat "Machine" "clock", .noat "Machine" "programs", .noat "Machine" "reached", .noat "Machine" "worked", .noat "Machine" "comings", .noat "Machine" "finishes", .meth "QueueChooser" "fresh", .meth "QueueChooser" "joined", .meth "QueueChooser" "pick", .meth "QueueChooser" "settled", .meth "Machine" "load", .meth "Machine" "words", .meth "Machine" "goes_on", .meth "Machine" "tick", .meth "Machine" "_next_deed", .meth "Machine" "_advance"]
def tf2 : List He.Defn := [("is_row", none), ("_is_by_levels", none), ("is_program", none), ("length", none), ("is_hall", none), ("whole_work", none)]
def ts2 : List He.Tab := [(fun K => He.ga K "KINDS", kNames)]
def ex2 (K : PySem.W.Frag) : Bool := (He.tupB K "WORDS" [.str "away", .str "ready", .str "waits", .str "waits", .str "ready", .str "ready"] && (He.tupB K "GONE" [.str "ask", .str "leave"] && (He.tupB K "WAITS" [.int 2, .int 3] && (He.tupB K "AGAIN" [.int 4, .int 5] && (He.eqO (PySem.W.nsIn K (He.ga K "KINDS") "first") (some (some (.ref (He.ga K "_is_bare")))) && (He.eqO (PySem.W.nsIn K (He.ga K "KINDS") "last") (some (some (.ref (He.ga K "_is_bare")))) && (He.eqO (PySem.W.nsIn K (He.ga K "KINDS") "order") (some (some (.ref (He.ga K "_is_by_order")))) && (He.eqO (PySem.W.nsIn K (He.ga K "KINDS") "rounds") (some (some (.ref (He.ga K "_is_by_rounds")))) && (He.eqO (PySem.W.nsIn K (He.ga K "KINDS") "levels") (some (some (.ref (He.ga K "_is_by_levels")))) && (He.eqO (PySem.W.nsIn K (He.ga K "KINDS") "aging") (some (some (.ref (He.ga K "_is_by_age")))) && (He.eqO (PySem.W.nsIn K (He.ga K "KINDS") "due") (some (some (.ref (He.ga K "_is_by_limits")))) && He.eqO (PySem.W.nsIn K (He.ga K "KINDS") "shares") (some (some (.ref (He.ga K "_is_by_weights")))))))))))))))
def loose2 : List Str := (["_wall", "TurnError", "BadProgram", "BadHall", "BadScheduler", "BadNumber", "NotFound", "is_number", "is_row", "check_number", "AWAY", "READY", "WAITS", "AGAIN", "WORDS", "GONE", "is_ready", "ready_slots", "with_item", "with_comers", "after_deed"] : List Str) ++ (["_after_asking", "_after_giving", "WHOLE", "places_of", "OrderChooser", "AgingChooser", "DueChooser", "SharesChooser", "QueueChooser", "RoundsChooser", "LevelsChooser", "chooser_for", "first_state", "begun", "done", "Machine", "machine_for", "MOST_DEEDS", "MOST_UNITS_programs", "is_deed"] : List Str) ++ (["is_program", "_locks_fit", "check_program", "length", "_units", "MOST_PROCESSES", "LAST_TIME", "is_hall", "_is_process", "check_hall", "whole_work", "_first_word", "_is_order", "_is_rule", "_is_bare", "_is_by_order", "_is_by_rounds", "_is_by_levels", "_is_by_age", "_is_by_limits"] : List Str) ++ (["_is_by_weights", "KINDS", "is_scheduler", "check_scheduler", "MOST_UNITS_running", "check_units", "check_run", "rows_told", "rows_of", "run_of", "run", "log", "ends", "_check_all", "served", "finish", "switches", "idle_units", "asked_in_vain", "_law_start"] : List Str) ++ (["_law_draw"] : List Str)
abbrev R2w : PySem.W.OpenRow := PySem.W.OpenLaw.row PySem.Challenge.rw_processturns_k02_whole_queues
abbrev hk2 : PySem.W.Hook := He.hookX 4 fa2 fn2 ts2 tf2 ex2
def ob2 (s : PySem.W.SharedT) : He.AlX := He.obsX 4 fa2 fn2 ts2 tf2 ex2 (HandSHeadRun.getT s)
theorem ob2_eq (s : PySem.W.SharedT) : ob2 s = hk2.obs s.abs := He.obsX_eq (HandSHeadRun.getT_eq s)
end HD
/-! The head's one run in four looks, so that none of them takes more memory than there is. -/
noncomputable section
namespace HR
open PySem PySem.W PySem.Calls PyProof.Rows HandSHeadRun
/-- the state behind the top -/
def endR (r : OpenRow) (M : Nat) (w : World) (os : OsState) : Option SharedT := endF (stepQ (denQ tabQ) r.prog w) M r.prog w os
def KX (n : Nat) (g : Addr → Option Obj) : PySem.W.Frag := He.frT g (He.asD g n)
def lookA (r : OpenRow) (w : World) (s : SharedT) : Bool := looksF r.prog (boot_heap w.params) s.abs
def lookB (r : OpenRow) (q : Program) (loose : List Str) (s : SharedT) := seenQ q loose (importedModules r.prog.main.body) (fun s => xlAt q [] s && recOk r.toRowW.records s) s.abs
def obA (fa : List He.Fa) (ts : List He.Tab) (tf : List He.Defn) (ex : PySem.W.Frag → Bool) (g : Addr → Option Obj) (K : PySem.W.Frag) : (Bool × Bool) × List (Option (List (Option (Str × Int)))) := ((fa.all fun f => f.ok K, ex K && He.tabsB g tf K), ts.map fun t => He.dicW K (t.1 K))
def obB (fn : List He.DefD) (K : PySem.W.Frag) : He.AlD := (fn.all fun d => d.ok K, fn.map fun d => He.fnW K d.at_)
def lookC (n : Nat) (fa : List He.Fa) (ts : List He.Tab) (tf : List He.Defn) (ex : PySem.W.Frag → Bool) (s : SharedT) := obA fa ts tf ex (getT s) (KX n (getT s))
def lookD (n : Nat) (fn : List He.DefD) (s : SharedT) := obB fn (KX n (getT s))
theorem two {α β γ : Type} {o : Option α} {f : α → β} {g : α → γ} {b : β} {c : γ} (h : o.map f = some b) (k : o.map g = some c) : o.map (fun s => (f s, g s)) = some (b, c) := by
  cases o with
  | none => cases h
  | some s =>
    have h2 := Option.some.inj h
    have k2 := Option.some.inj k
    show some (f s, g s) = some (b, c)
    rw [h2, k2]
theorem runEq {r : OpenRow} {q : Program} {n : Nat} {fa : List He.Fa} {fn fn1 fn2 : List He.DefD} {ts : List He.Tab} {tf : List He.Defn} {ex : PySem.W.Frag → Bool} {M : Nat} {loose : List Str} {w : World}
    (e : fn = fn1 ++ fn2)
    (a : ∀ os, (endR r M w os).map (lookA r w) = some true)
    (b : ∀ os, (endR r M w os).map (lookB r q loose) = some (openGood q loose))
    (c : ∀ os, (endR r M w os).map (lookC n fa ts tf ex) = some ((true, true), ts.map fun t => some (He.keysIn w.params t.2)))
    (d1 : ∀ os, (endR r M w os).map (lookD n fn1) = some (true, fn1.map He.DefD.val))
    (d2 : ∀ os, (endR r M w os).map (lookD n fn2) = some (true, fn2.map He.DefD.val)) :
    RunEq r q (He.hookX n fa fn ts tf ex) (fun s => He.obsX n fa fn ts tf ex (getT s)) M loose w := by
  intro os
  have A := a os
  have B := b os
  have C := c os
  have D1 := d1 os
  have D2 := d2 os
  show (endR r M w os).map _ = _
  cases z : endR r M w os with
  | none =>
    rw [z] at A
    cases A
  | some s =>
    rw [z] at A B C D1 D2
    have A2 : looksF r.prog (boot_heap w.params) s.abs = true := Option.some.inj A
    have B2 : seenQ q loose (importedModules r.prog.main.body) (fun s => xlAt q [] s && recOk r.toRowW.records s) s.abs = openGood q loose := Option.some.inj B
    have C2 : obA fa ts tf ex (getT s) (KX n (getT s)) = ((true, true), ts.map fun t => some (He.keysIn w.params t.2)) := Option.some.inj C
    have D3 : obB fn1 (KX n (getT s)) = (true, fn1.map He.DefD.val) := Option.some.inj D1
    have D4 : obB fn2 (KX n (getT s)) = (true, fn2.map He.DefD.val) := Option.some.inj D2
    have c1 : (fa.all fun f => f.ok (KX n (getT s))) = true := congrArg (fun z => z.1.1) C2
    have c2 : (ex (KX n (getT s)) && He.tabsB (getT s) tf (KX n (getT s))) = true := congrArg (fun z => z.1.2) C2
    have c3 : (ts.map fun t => He.dicW (KX n (getT s)) (t.1 (KX n (getT s)))) = ts.map fun t => some (He.keysIn w.params t.2) := congrArg (fun z => z.2) C2
    have e1 : (fn1.all fun d => d.ok (KX n (getT s))) = true := congrArg (fun z : He.AlD => z.1) D3
    have e2 : (fn1.map fun d => He.fnW (KX n (getT s)) d.at_) = fn1.map He.DefD.val := congrArg (fun z : He.AlD => z.2) D3
    have e3 : (fn2.all fun d => d.ok (KX n (getT s))) = true := congrArg (fun z : He.AlD => z.1) D4
    have e4 : (fn2.map fun d => He.fnW (KX n (getT s)) d.at_) = fn2.map He.DefD.val := congrArg (fun z : He.AlD => z.2) D4
    have f1 : (fn.all fun d => d.ok (KX n (getT s))) = true := by rw [e, List.all_append, e1, e3]; rfl
    have f2 : (fn.map fun d => He.fnW (KX n (getT s)) d.at_) = fn.map He.DefD.val := by rw [e, List.map_append, e2, e4, List.map_append]
    show some (looksF r.prog (boot_heap w.params) s.abs, seenQ q loose (importedModules r.prog.main.body) (fun s => xlAt q [] s && recOk r.toRowW.records s) s.abs, He.obsX n fa fn ts tf ex (getT s)) = some (true, openGood q loose, He.valX fn ts w)
    have o : He.obsX n fa fn ts tf ex (getT s) = He.valX fn ts w := by
      show ((((fa.all fun f => f.ok (KX n (getT s))) && fn.all fun d => d.ok (KX n (getT s)), fn.map fun d => He.fnW (KX n (getT s)) d.at_), ts.map fun t => He.dicW (KX n (getT s)) (t.1 (KX n (getT s)))), (ex (KX n (getT s)) && He.tabsB (getT s) tf (KX n (getT s)))) = (((true, fn.map He.DefD.val), ts.map fun t => some (He.keysIn w.params t.2)), true)
      rw [c1, c2, c3, f1, f2]
      rfl
    rw [A2, B2, o]
end HR
namespace HD
open PySem PySem.W PySem.Calls PyProof.Rows
def fnA : List He.DefD := fn2.take 33
def fnB : List He.DefD := fn2.drop 33
abbrev wA (w : World) (b : Bool) : World := w.withFollow "special-get-raises" b
theorem ra_f (w : World) (os : OsState) : (HR.endR R2w 8000 (wA w false) os).map (HR.lookA R2w (wA w false)) = some true := by kernel_rfl
theorem ra_t (w : World) (os : OsState) : (HR.endR R2w 8000 (wA w true) os).map (HR.lookA R2w (wA w true)) = some true := by kernel_rfl
theorem rb_f (w : World) (os : OsState) : (HR.endR R2w 8000 (wA w false) os).map (HR.lookB R2w (PySem.W.view R2w.prog [96]) loose2) = some (openGood (PySem.W.view R2w.prog [96]) loose2) := by kernel_rfl
theorem rb_t (w : World) (os : OsState) : (HR.endR R2w 8000 (wA w true) os).map (HR.lookB R2w (PySem.W.view R2w.prog [96]) loose2) = some (openGood (PySem.W.view R2w.prog [96]) loose2) := by kernel_rfl
theorem rc_f (w : World) (os : OsState) : (HR.endR R2w 8000 (wA w false) os).map (HR.lookC 4 fa2 ts2 tf2 ex2) = some ((true, true), ts2.map fun t => some (He.keysIn (wA w false).params t.2)) := by kernel_rfl
theorem rc_t (w : World) (os : OsState) : (HR.endR R2w 8000 (wA w true) os).map (HR.lookC 4 fa2 ts2 tf2 ex2) = some ((true, true), ts2.map fun t => some (He.keysIn (wA w true).params t.2)) := by kernel_rfl
theorem rd_f (w : World) (os : OsState) : (HR.endR R2w 8000 (wA w false) os).map (HR.lookD 4 fnA) = some (true, fnA.map He.DefD.val) := by kernel_rfl
theorem rd_t (w : World) (os : OsState) : (HR.endR R2w 8000 (wA w true) os).map (HR.lookD 4 fnA) = some (true, fnA.map He.DefD.val) := by kernel_rfl
theorem re_f (w : World) (os : OsState) : (HR.endR R2w 8000 (wA w false) os).map (HR.lookD 4 fnB) = some (true, fnB.map He.DefD.val) := by kernel_rfl
theorem re_t (w : World) (os : OsState) : (HR.endR R2w 8000 (wA w true) os).map (HR.lookD 4 fnB) = some (true, fnB.map He.DefD.val) := by kernel_rfl
theorem run2 (w : World) : HandSHeadRun.RunEq R2w (PySem.W.view R2w.prog [96]) hk2 ob2 8000 loose2 w :=
  byRow2 "special-get-raises" (P := fun w => HandSHeadRun.RunEq R2w (PySem.W.view R2w.prog [96]) hk2 ob2 8000 loose2 w)
    (fun w => HR.runEq (fn1 := fnA) (fn2 := fnB) rfl (ra_f w) (rb_f w) (rc_f w) (rd_f w) (re_f w))
    (fun w => HR.runEq (fn1 := fnA) (fn2 := fnB) rfl (ra_t w) (rb_t w) (rc_t w) (rd_t w) (re_t w)) w
end HD
/-! data in the heap: what keeps it, what a pure def promises -/
namespace DA
open PySem PySem.Spec PyProof.Rows L2
abbrev PD := PyData

/-! ### heaps that keep all but tables -/
def Tabs (T : List Addr) (H : Hp) : Prop := ∀ P ∈ T, GxR.TabG H P
structure Keep (T : List Addr) (H H' : Hp) : Prop where
  at_ : ∀ b o, H b = some o → b ∉ T → H' b = some o
  tab : ∀ P ∈ T, GxR.TabG H P → GxR.TabG H' P
theorem Keep.refl {T : List Addr} {H : Hp} : Keep T H H := ⟨fun _ _ e _ => e, fun _ _ e => e⟩
theorem Keep.trans {T : List Addr} {H H1 H2 : Hp} (a : Keep T H H1) (b : Keep T H1 H2) : Keep T H H2 := ⟨fun c o e n => b.at_ c o (a.at_ c o e n) n, fun P hP t => b.tab P hP (a.tab P hP t)⟩
theorem Keep.tabs {T : List Addr} {H H1 : Hp} (a : Keep T H H1) (t : Tabs T H) : Tabs T H1 := fun P hP => a.tab P hP (t P hP)
theorem Keep.same {T : List Addr} {H H1 : Hp} (s : Same H H1) : Keep T H H1 := ⟨fun b o e _ => s b o e, fun P _ ⟨ps, e, ok⟩ => ⟨ps, s _ _ e, ok⟩⟩
theorem same_new {H : Hp} {p : Addr} {o : HO} (h : H p = none) : Same H (upd H p o) := fun b x e => by
  rw [upd_ne (ne_of_none e h)]
  exact e
theorem Keep.new {T : List Addr} {H : Hp} {p : Addr} {o : HO} (h : H p = none) : Keep T H (upd H p o) := .same (same_new h)
/-- an object that is none of the first heap's is written -/
theorem Keep.own {T : List Addr} {H H1 : Hp} {p : Addr} {o : HO} (k : Keep T H H1) (t : Tabs T H) (h : H p = none) : Keep T H (upd H1 p o) := by
  have nT : p ∉ T := fun m => by
    obtain ⟨ps, e, _⟩ := t p m
    rw [h] at e; cases e
  refine ⟨fun b x e n => ?_, fun P hP tb => ?_⟩
  · rw [upd_ne (ne_of_none e h)]
    exact k.at_ b x e n
  · obtain ⟨ps, e, ok⟩ := k.tab P hP tb
    refine ⟨ps, ?_, ok⟩
    rw [upd_ne (fun z => nT (by rw [← z]; exact hP))]
    exact e
theorem Keep.tabbed {T : List Addr} {P : Addr} {H H1 : Hp} (hP : P ∈ T) (t : GxR.Tabbed P H H1) : Keep T H H1 := by
  refine ⟨fun b o e n => ?_, fun R hR tb => ?_⟩
  · rw [t.2 b (fun z => n (by rw [z]; exact hP))]
    exact e
  · by_cases z : R = P
    · rw [z]; exact t.1
    · obtain ⟨ps, e, ok⟩ := tb
      exact ⟨ps, by rw [t.2 R z]; exact e, ok⟩
theorem nT_of {T : List Addr} {H : Hp} {a : Addr} {o : HO} (t : Tabs T H) (e : H a = some o) (hn : ∀ ps, o ≠ .tbl ps) : a ∉ T := fun m => by
  obtain ⟨ps, e', _⟩ := t a m
  rw [e] at e'
  exact hn ps (Option.some.inj e')
theorem Keep.free {T : List Addr} {H H1 : Hp} (k : Keep T H H1) (t : Tabs T H) {p : Addr} (h : H1 p = none) : H p = none := by
  cases e : H p with
  | none => rfl
  | some o =>
    by_cases m : p ∈ T
    · obtain ⟨ps, e', _⟩ := k.tabs t p m
      rw [h] at e'; cases e'
    · have := k.at_ p o e m
      rw [h] at this; cases this
section
variable {K : PySem.W.Frag} {T : List Addr} {H H1 : Hp}
theorem Keep.sqL {a : Addr} {xs : List V} (k : Keep T H H1) (t : Tabs T H) (h : SqL K H a xs) : SqL K H1 a xs := by
  rcases h with (h | ⟨o, h⟩) | h
  · exact .inl (.inl (k.at_ _ _ h (nT_of t h fun ps z => by cases z)))
  · exact .inl (.inr ⟨o, k.at_ _ _ h (nT_of t h fun ps z => by cases z)⟩)
  · exact .inr h
theorem Keep.sqT {a : Addr} {xs : List V} (k : Keep T H H1) (t : Tabs T H) (h : SqT K H a xs) : SqT K H1 a xs := by
  rcases h with (h | ⟨o, h⟩) | h
  · exact .inl (.inl (k.at_ _ _ h (nT_of t h fun ps z => by cases z)))
  · exact .inl (.inr ⟨o, k.at_ _ _ h (nT_of t h fun ps z => by cases z)⟩)
  · exact .inr h
theorem Keep.lst {a : Addr} {xs : List V} (k : Keep T H H1) (t : Tabs T H) (h : H a = some (.lst xs)) : H1 a = some (.lst xs) := k.at_ _ _ h (nT_of t h fun ps z => by cases z)
mutual
theorem dp_keep (k : Keep T H H1) (t : Tabs T H) : ∀ {d : PD} {v : V}, Dp K H v d → Dp K H1 v d
  | _, _, .non => .non
  | _, _, .bl b => .bl b
  | _, _, .int i => .int i
  | _, _, .str x => .str x
  | _, _, .lst h a => .lst (k.sqL t h) (dps_keep k t a)
  | _, _, .tup h a => .tup (k.sqT t h) (dps_keep k t a)
theorem dps_keep (k : Keep T H H1) (t : Tabs T H) : ∀ {ds : List PD} {vs : List V}, DpAll K H vs ds → DpAll K H1 vs ds
  | _, _, .nil => .nil
  | _, _, .cons a r => .cons (dp_keep k t a) (dps_keep k t r)
end
theorem dp_bool {v : V} {b : Bool} (h : Dp K H v (.bool b)) : v = .bl b := by cases h; rfl
theorem dp_int {v : V} {b : Int} (h : Dp K H v (.int b)) : v = .int b := by cases h; rfl
theorem dp_str {v : V} {b : Str} (h : Dp K H v (.str b)) : v = .str b := by cases h; rfl
theorem dp_none {v : V} (h : Dp K H v .none) : v = .non := by cases h; rfl
theorem dp_list {v : V} {ds : List PD} (h : Dp K H v (.list ds)) : ∃ a xs, v = .ref a ∧ SqL K H a xs ∧ DpAll K H xs ds := by
  cases h with
  | lst h a => exact ⟨_, _, rfl, h, a⟩
theorem dp_tup {v : V} {ds : List PD} (h : Dp K H v (.tuple ds)) : ∃ a xs, v = .ref a ∧ SqT K H a xs ∧ DpAll K H xs ds := by
  cases h with
  | tup h a => exact ⟨_, _, rfl, h, a⟩
theorem dps_len : ∀ {xs : List V} {ds : List PD}, DpAll K H xs ds → xs.length = ds.length
  | _, _, .nil => rfl
  | _, _, .cons _ r => by rw [List.length_cons, List.length_cons, dps_len r]
theorem dps_get : ∀ {xs : List V} {ds : List PD} {i : Nat} {d : PD}, DpAll K H xs ds → ds[i]? = some d → ∃ x, xs[i]? = some x ∧ Dp K H x d
  | _, _, _, _, .nil, e => by simp at e
  | _, _, 0, _, .cons a _, e => by simp at e; subst e; exact ⟨_, rfl, a⟩
  | _, _, i + 1, d, .cons _ r, e => by
    obtain ⟨x, h1, h2⟩ := dps_get (i := i) (d := d) r (by simpa using e)
    exact ⟨x, by simpa using h1, h2⟩
theorem dps_at : ∀ {xs : List V} {ds : List PD} {i : Nat} {x : V}, DpAll K H xs ds → xs[i]? = some x → ∃ d, ds[i]? = some d ∧ Dp K H x d
  | _, _, _, _, .nil, e => by simp at e
  | _, _, 0, _, .cons a _, e => by simp at e; subst e; exact ⟨_, rfl, a⟩
  | _, _, i + 1, d, .cons _ r, e => by
    obtain ⟨x, h1, h2⟩ := dps_at (i := i) (x := d) r (by simpa using e)
    exact ⟨x, by simpa using h1, h2⟩
theorem dps_append : ∀ {xs ys : List V} {ds es : List PD}, DpAll K H xs ds → DpAll K H ys es → DpAll K H (xs ++ ys) (ds ++ es)
  | _, _, _, _, .nil, b => b
  | _, _, _, _, .cons a r, b => .cons a (dps_append r b)
theorem dps_set : ∀ {xs : List V} {ds : List PD} (i : Nat) {x : V} {d : PD}, DpAll K H xs ds → Dp K H x d → DpAll K H (xs.set i x) (ds.set i d)
  | _, _, _, _, _, .nil, _ => .nil
  | _, _, 0, _, _, .cons _ r, a => .cons a r
  | _, _, i + 1, _, _, .cons a r, b => .cons a (dps_set i r b)
theorem dps_take : ∀ {xs : List V} {ds : List PD} (n : Nat), DpAll K H xs ds → DpAll K H (xs.take n) (ds.take n)
  | _, _, 0, _ => .nil
  | _, _, _ + 1, .nil => .nil
  | _, _, n + 1, .cons a r => .cons a (dps_take n r)
theorem dps_drop : ∀ {xs : List V} {ds : List PD} (n : Nat), DpAll K H xs ds → DpAll K H (xs.drop n) (ds.drop n)
  | _, _, 0, r => r
  | _, _, _ + 1, .nil => .nil
  | _, _, n + 1, .cons _ r => dps_drop n r
theorem dps_ints : ∀ (ns : List Int), DpAll K H (ns.map V.int) (ns.map PyData.int)
  | [] => .nil
  | n :: ns => .cons (.int n) (dps_ints ns)
theorem dps_ints_inv : ∀ {ns : List Int} {xs : List V}, DpAll K H xs (ns.map PyData.int) → xs = ns.map V.int
  | [], _, .nil => rfl
  | n :: ns, _, .cons a r => by rw [dp_int a, dps_ints_inv r]; rfl
theorem dps_of {f : PD → V} : ∀ {ds : List PD}, (∀ d ∈ ds, Dp K H (f d) d) → DpAll K H (ds.map f) ds
  | [], _ => .nil
  | d :: ds, h => .cons (h d List.mem_cons_self) (dps_of fun e he => h e (List.mem_cons_of_mem _ he))
end

/-! ### a pure def over data -/
def spF (K : PySem.W.Frag) (T : List Addr) (ok : List PD → Prop) (F : List PD → PD) : Sp := fun vs H Q _ => ∃ ds, DpAll K H vs ds ∧ ok ds ∧ Tabs T H ∧ ∀ v H', Dp K H' v (F ds) → Keep T H H' → Q v H'

/-! ### isinstance -/
def clsD : PD → String
  | .none => "NoneType" | .bool _ => "bool" | .int _ => "int" | .str _ => "str" | .list _ => "list" | .tuple _ => "tuple" | .dict _ => "dict"
theorem dp_ty {K : PySem.W.Frag} {H : Hp} {v : V} {d : PD} (h : Dp K H v d) : TyX K H v (.type (clsD d)) := by
  cases h with
  | non => exact .base .non
  | bl b => exact .base (.bl b)
  | int i => exact .base (.int i)
  | str x => exact .base (.str x)
  | lst h a =>
    rcases h with (h | ⟨o, h⟩) | ⟨o, its, n, e, c, _⟩
    · exact .base (.lst h)
    · exact .base (.frz h)
    · exact .kList e c
  | tup h a =>
    rcases h with (h | ⟨o, h⟩) | ⟨o, its, n, e, c, _⟩
    · exact .base (.tup h)
    · exact .fTuple h
    · exact .kTuple e c
def isInt : PD → Bool | .int _ => true | .bool _ => true | _ => false
def isBool : PD → Bool | .bool _ => true | _ => false
def isTup : PD → Bool | .tuple _ => true | _ => false
def isList : PD → Bool | .list _ => true | _ => false
def isStr : PD → Bool | .str _ => true | _ => false
theorem kit_int {K : PySem.W.Frag} {H : Hp} {v : V} {d : PD} (h : Dp K H v d) : PySem.W.kitOne K (.type (clsD d)) (.type "int") = some (isInt d) := by
  cases h <;> (simp only [clsD, isInt]; exact kit_ty (by decide +kernel))
theorem kit_bool {K : PySem.W.Frag} {H : Hp} {v : V} {d : PD} (h : Dp K H v d) : PySem.W.kitOne K (.type (clsD d)) (.type "bool") = some (isBool d) := by
  cases h <;> (simp only [clsD, isBool]; exact kit_ty (by decide +kernel))
theorem kit_tup {K : PySem.W.Frag} {H : Hp} {v : V} {d : PD} (h : Dp K H v d) : PySem.W.kitOne K (.type (clsD d)) (.type "tuple") = some (isTup d) := by
  cases h <;> (simp only [clsD, isTup]; exact kit_ty (by decide +kernel))
theorem kit_list {K : PySem.W.Frag} {H : Hp} {v : V} {d : PD} (h : Dp K H v d) : PySem.W.kitOne K (.type (clsD d)) (.type "list") = some (isList d) := by
  cases h <;> (simp only [clsD, isList]; exact kit_ty (by decide +kernel))
theorem kit_str {K : PySem.W.Frag} {H : Hp} {v : V} {d : PD} (h : Dp K H v d) : PySem.W.kitOne K (.type (clsD d)) (.type "str") = some (isStr d) := by
  cases h <;> (simp only [clsD, isStr]; exact kit_ty (by decide +kernel))

/-! ### a def whose code object is known -/
structure FunC (K : PySem.W.Frag) (x qual : Str) (st : Stmt) (f : Addr) (fd : FuncData) (c : Addr) : Prop where
  ex : ∃ (oc : Value) (od : Option Addr) (kV doc pm : Value) (an : Option Addr) (ct : Value) (osl : Array (Option Value)),
    fd = PySem.W.fnOf x qual (defArgs st) (defBody st) (defScope st) .none kV doc pm an (.ref c) ct ∧ K.lookup f = some ⟨oc, od, .func fd, osl⟩ ∧ PySem.W.codeIn K (.ref c) qual = true
  kp : PySem.W.keepIn K (.ref f) = true
theorem FunC.fun {K : PySem.W.Frag} {x qual : Str} {st : Stmt} {f : Addr} {fd : FuncData} {c : Addr} (F : FunC K x qual st f fd c) : Fun K x qual st f fd := by
  obtain ⟨oc, od, kV, doc, pm, an, ct, osl, h⟩ := F.ex
  exact ⟨⟨oc, od, kV, doc, pm, an, .ref c, ct, osl, h⟩, F.kp⟩
theorem FunC.ok {P : Program} {w : World} {K : PySem.W.Frag} {mg : Str → Option Value} {base : Heap} {x qual : Str} {st : Stmt} {f : Addr} {fd : FuncData} {c : Addr} {N ps : List Str} {k : Nat} {sp : Sp} (F : FunC K x qual st f fd c) (S : FnScope N ps (defScope st)) (len : ∀ vs H Q E, sp vs H Q E → vs.length = ps.length)
    (hbody : ∀ (A : Around) (outer : List Env) (s : Shared) (H : Hp) (vs : List V) (Q : VK) (E : XK), Room k (A.deeper (envOfC qual (defScope st) s.heap.objs.size f (.ref c))) → sp vs H Q E →
      ∃ t, PSs (cxOf CX0 P w K mg base N qual (defScope st) f (.ref c) A outer s H E).nox (defBody st) t ∧ t { nx := fun _ H' => Q .non H', rt := Q } (start N vs) H) : FnOk P w K mg base CX0 (k + 1) f fd ps sp := by
  obtain ⟨oc, od, kV, doc, pm, an, ct, osl, rfl, lk, hcd⟩ := F.ex
  refine fn_of lk hcd S len fun A outer s H vs Q E hr hsp => ?_
  obtain ⟨t, h, q⟩ := hbody A outer s H vs Q E hr hsp
  exact ⟨t, h.nox, q⟩
end DA
/-! data in slots: what expressions and statements do to plain data, own lists, and objects that stand still -/
namespace DL
open PySem PySem.Spec PyProof.Rows L2 DA

/-! ### a heap without some addresses -/
def hid (M : List Addr) (H : Hp) : Hp := fun b => if b ∈ M then none else H b
theorem hid_of {M : List Addr} {H : Hp} {b : Addr} {o : HO} (n : b ∉ M) (h : H b = some o) : hid M H b = some o := by
  unfold hid
  rw [if_neg n]
  exact h
theorem hid_inv {M : List Addr} {H : Hp} {b : Addr} {o : HO} (h : hid M H b = some o) : b ∉ M ∧ H b = some o := by
  unfold hid at h
  split at h
  · cases h
  · next n => exact ⟨n, h⟩
theorem hid_same {M : List Addr} {H : Hp} : Same (hid M H) H := fun b o h => (hid_inv h).2
theorem hid_sub {M N : List Addr} {H : Hp} (s : ∀ a ∈ M, a ∈ N) : Same (hid N H) (hid M H) := fun b o h => by
  obtain ⟨n, e⟩ := hid_inv h
  exact hid_of (fun m => n (s b m)) e
theorem hid_nil {H : Hp} : hid [] H = H := by
  funext b
  unfold hid
  rw [if_neg (by simp)]
theorem hid_keep {T M : List Addr} {H H' : Hp} (k : Keep T H H') : Keep T (hid M H) (hid M H') := by
  refine ⟨fun b o e n => ?_, fun P hP tb => ?_⟩
  · obtain ⟨m, e⟩ := hid_inv e
    exact hid_of m (k.at_ b o e n)
  · obtain ⟨ps, e, ok⟩ := tb
    obtain ⟨m, e⟩ := hid_inv e
    obtain ⟨ps', e', ok'⟩ := k.tab P hP ⟨ps, e, ok⟩
    exact ⟨ps', hid_of m e', ok'⟩
theorem hid_in {M : List Addr} {H : Hp} {a : Addr} {o : HO} (h : a ∈ M) : hid M (upd H a o) = hid M H := by
  funext b
  unfold hid
  split
  · rfl
  · next n => rw [upd_ne (fun z => n (by rw [z]; exact h))]
theorem hid_new {M : List Addr} {H : Hp} {p : Addr} {o : HO} (h : H p = none) : hid (p :: M) (upd H p o) = hid M H := by
  funext b
  unfold hid
  by_cases z : b = p
  · subst z
    rw [if_pos List.mem_cons_self, h]
    split <;> rfl
  · by_cases m : b ∈ M
    · rw [if_pos (List.mem_cons_of_mem _ m), if_pos m]
    · rw [if_neg (fun q => (List.mem_cons.mp q).elim z m), if_neg m, upd_ne z]
theorem dp_same {K : PySem.W.Frag} {H H1 : Hp} {v : V} {d : PD} (s : Same H H1) (h : Dp K H v d) : Dp K H1 v d := dp_keep (T := []) (.same s) (fun _ z => nomatch z) h
theorem dps_same {K : PySem.W.Frag} {H H1 : Hp} {vs : List V} {ds : List PD} (s : Same H H1) (h : DpAll K H vs ds) : DpAll K H1 vs ds := dps_keep (T := []) (.same s) (fun _ z => nomatch z) h

/-! ### what stands in a slot -/
inductive DS where
  | non | dat (d : PD) | own (ds : List PD) | ob (C : Addr) (fs : List (Str × PD)) | raw (w : V)
abbrev DEnv := List DS
inductive FsD (K : PySem.W.Frag) (H : Hp) : List (Str × V) → List (Str × PD) → Prop where
  | nil : FsD K H [] []
  | cons {f : Str} {v : V} {d : PD} {vs ds} : Dp K H v d → FsD K H vs ds → FsD K H ((f, v) :: vs) ((f, d) :: ds)
def ObD (K : PySem.W.Frag) (H : Hp) (v : V) (C : Addr) (fs : List (Str × PD)) : Prop := ∃ p dx xs, v = .ref p ∧ H p = some (.ins C dx xs) ∧ FsD K H xs fs
theorem FsD.look {K : PySem.W.Frag} {H : Hp} : ∀ {xs : List (Str × V)} {fs : List (Str × PD)} {f : Str} {d : PD}, FsD K H xs fs → fs.lookup f = some d → ∃ v, xs.lookup f = some v ∧ Dp K H v d
  | _, _, f, d, .nil, h => by cases h
  | _, _, f, d, .cons (f := g) (v := w) (vs := ws) a r, h => by
    rw [List.lookup_cons] at h ⊢
    cases e : f == g with
    | true => rw [e] at h; cases h; exact ⟨_, rfl, a⟩
    | false => rw [e] at h; exact r.look h
theorem FsD.none {K : PySem.W.Frag} {H : Hp} : ∀ {xs : List (Str × V)} {fs : List (Str × PD)} {f : Str}, FsD K H xs fs → fs.lookup f = none → xs.lookup f = none
  | _, _, f, .nil, h => rfl
  | _, _, f, .cons (f := g) a r, h => by
    rw [List.lookup_cons] at h ⊢
    cases e : f == g with
    | true => rw [e] at h; cases h
    | false => rw [e] at h; exact r.none h
theorem FsD.keep {K : PySem.W.Frag} {T : List Addr} {H H1 : Hp} (k : Keep T H H1) (t : Tabs T H) : ∀ {xs : List (Str × V)} {fs : List (Str × PD)}, FsD K H xs fs → FsD K H1 xs fs
  | _, _, .nil => .nil
  | _, _, .cons a r => .cons (dp_keep k t a) (r.keep k t)
theorem ObD.keep {K : PySem.W.Frag} {T : List Addr} {H H1 : Hp} {v : V} {C : Addr} {fs : List (Str × PD)} (k : Keep T H H1) (t : Tabs T H) (h : ObD K H v C fs) : ObD K H1 v C fs := by
  obtain ⟨p, dx, xs, h1, h2, h3⟩ := h
  exact ⟨p, dx, xs, h1, k.at_ _ _ h2 (nT_of t h2 fun ps z => by cases z), h3.keep k t⟩
theorem ObD.same {K : PySem.W.Frag} {H H1 : Hp} {v : V} {C : Addr} {fs : List (Str × PD)} (s : Same H H1) (h : ObD K H v C fs) : ObD K H1 v C fs := h.keep (T := []) (.same s) (fun _ z => nomatch z)
/-- the slot's value, over the heap without the own lists (Hm) and the whole one -/
def SlotOk (K : PySem.W.Frag) (Hm H : Hp) (A : List Addr) : Option V → DS → Prop
  | _, .non => True
  | some v, .dat d => Dp K Hm v d
  | some v, .own ds => ∃ a xs, v = .ref a ∧ a ∈ A ∧ H a = some (.lst xs) ∧ DpAll K Hm xs ds
  | some v, .ob C fs => ObD K Hm v C fs
  | some v, .raw w => v = w
  | none, _ => False
/-- an argument of a call: data, or an object that stands still -/
def ArgOk (K : PySem.W.Frag) (Hm : Hp) (v : V) : DS → Prop
  | .dat d => Dp K Hm v d
  | .ob C fs => ObD K Hm v C fs
  | .raw w => v = w
  | _ => False
inductive ArgsOk (K : PySem.W.Frag) (Hm : Hp) : List V → List DS → Prop where
  | nil : ArgsOk K Hm [] []
  | cons {v : V} {s : DS} {vs ss} : ArgOk K Hm v s → ArgsOk K Hm vs ss → ArgsOk K Hm (v :: vs) (s :: ss)
theorem ArgOk.keep {K : PySem.W.Frag} {T : List Addr} {H H1 : Hp} (k : Keep T H H1) (t : Tabs T H) {v : V} {s : DS} (h : ArgOk K H v s) : ArgOk K H1 v s := by
  cases s with
  | dat d => exact dp_keep k t h
  | ob C fs => exact ObD.keep k t h
  | non => exact h
  | own ds => exact h
  | raw w => exact h
theorem ArgsOk.keep {K : PySem.W.Frag} {T : List Addr} {H H1 : Hp} (k : Keep T H H1) (t : Tabs T H) : ∀ {vs : List V} {ss : List DS}, ArgsOk K H vs ss → ArgsOk K H1 vs ss
  | _, _, .nil => .nil
  | _, _, .cons a r => .cons (a.keep k t) (r.keep k t)
theorem ArgsOk.len {K : PySem.W.Frag} {H : Hp} : ∀ {vs : List V} {ss : List DS}, ArgsOk K H vs ss → vs.length = ss.length
  | _, _, .nil => rfl
  | _, _, .cons _ r => by rw [List.length_cons, List.length_cons, r.len]

/-! ### where one stands -/
structure DC where
  K : PySem.W.Frag
  T : List Addr
  M : List Addr
  H0 : Hp
structure SR (c : DC) (A : List Addr) (σ : L2.St) (H : Hp) (ρ : DEnv) : Prop where
  tab : Tabs c.T c.H0
  keep : Keep c.T c.H0 H
  msk : ∀ a ∈ c.M, a ∉ c.T ∧ c.H0 a ≠ none
  new : ∀ a ∈ A, c.H0 a = none ∧ ∃ xs, H a = some (.lst xs)
  len : σ.length = ρ.length
  rel : ∀ (i : Nat) (s : DS), ρ[i]? = some s → ∃ ov, σ[i]? = some ov ∧ SlotOk c.K (hid (c.M ++ A) H) H A ov s
  inj : ∀ (i j : Nat) (ds es : List PD) (a : Addr), i ≠ j → ρ[i]? = some (.own ds) → ρ[j]? = some (.own es) → σ[i]? = some (some (.ref a)) → σ[j]? = some (some (.ref a)) → False
section
variable {c : DC} {A : List Addr} {σ : L2.St} {H H' : Hp} {ρ : DEnv}
theorem SR.tabs (r : SR c A σ H ρ) : Tabs c.T H := r.keep.tabs r.tab
theorem SR.nA (r : SR c A σ H ρ) {a : Addr} (h : a ∈ A) : a ∉ c.T := fun m => by
  obtain ⟨ps, e, _⟩ := r.tab a m
  rw [(r.new a h).1] at e
  cases e
theorem SR.nM (r : SR c A σ H ρ) : ∀ a ∈ c.M ++ A, a ∉ c.T ∧ H a ≠ none := fun a h => by
  rcases List.mem_append.mp h with h | h
  · obtain ⟨h1, h2⟩ := r.msk a h
    refine ⟨h1, fun z => h2 ?_⟩
    cases e : c.H0 a with
    | none => rfl
    | some o =>
      have := r.keep.at_ a o e h1
      rw [z] at this
      cases this
  · obtain ⟨_, xs, e⟩ := r.new a h
    exact ⟨r.nA h, by rw [e]; intro z; cases z⟩
theorem tabs_hid {T M : List Addr} (t : Tabs T H) (h : ∀ a ∈ M, a ∉ T) : Tabs T (hid M H) := fun P hP => by
  obtain ⟨ps, e, ok⟩ := t P hP
  exact ⟨ps, hid_of (fun m => h P m hP) e, ok⟩
theorem SR.tabm (r : SR c A σ H ρ) : Tabs c.T (hid (c.M ++ A) H) := tabs_hid r.tabs fun a h => (r.nM a h).1
theorem SR.move (r : SR c A σ H ρ) (k : Keep c.T H H') : SR c A σ H' ρ := by
  refine ⟨r.tab, r.keep.trans k, r.msk, fun a h => ?_, r.len, fun i s e => ?_, r.inj⟩
  · obtain ⟨h1, xs, e⟩ := r.new a h
    exact ⟨h1, xs, k.at_ _ _ e (r.nA h)⟩
  · obtain ⟨ov, h1, h2⟩ := r.rel i s e
    refine ⟨ov, h1, ?_⟩
    have km : Keep c.T (hid (c.M ++ A) H) (hid (c.M ++ A) H') := hid_keep k
    cases s with
    | non => cases ov <;> trivial
    | dat d =>
      cases ov with
      | none => exact h2
      | some v => exact dp_keep km r.tabm h2
    | own ds =>
      cases ov with
      | none => exact h2
      | some v =>
        obtain ⟨a, xs, q1, q2, q3, q4⟩ := h2
        exact ⟨a, xs, q1, q2, k.at_ _ _ q3 (r.nA q2), dps_keep km r.tabm q4⟩
    | ob C fs =>
      cases ov with
      | none => exact h2
      | some v => exact ObD.keep km r.tabm h2
    | raw w =>
      cases ov with
      | none => exact h2
      | some v => exact h2
end

/-! ### what evaluates to what -/
def ED (c : DC) (te : TE) (ρ : DEnv) (d : PD) : Prop := ∀ A σ H, SR c A σ H ρ → ∀ Q : VK, (∀ v H', Keep c.T H H' → Dp c.K (hid (c.M ++ A) H') v d → Q v H') → te σ H Q
/-- a list to be read: plain data, or an own one -/
def EL (c : DC) (te : TE) (ρ : DEnv) (ds : List PD) : Prop := ∀ A σ H, SR c A σ H ρ → ∀ Q : VK, (∀ a xs H', Keep c.T H H' → SqL c.K H' a xs → DpAll c.K (hid (c.M ++ A) H') xs ds → Q (.ref a) H') → te σ H Q
/-- a new list -/
def EN (c : DC) (te : TE) (ρ : DEnv) (ds : List PD) : Prop := ∀ A σ H, SR c A σ H ρ → ∀ Q : VK, (∀ p xs H', Keep c.T H H' → H p = none → H' p = some (.lst xs) → DpAll c.K (hid (p :: (c.M ++ A)) H') xs ds → Q (.ref p) H') → te σ H Q
def ET (c : DC) (tt : TT) (ρ : DEnv) (b : Bool) : Prop := ∀ A σ H, SR c A σ H ρ → ∀ Q : Bool → Hp → Prop, (∀ H', Keep c.T H H' → Q b H') → tt σ H Q
def EA (c : DC) (ta : TA) (ρ : DEnv) (ss : List DS) : Prop := ∀ A σ H, SR c A σ H ρ → ∀ Q : List V → Hp → Prop, (∀ vs H', Keep c.T H H' → ArgsOk c.K (hid (c.M ++ A) H') vs ss → Q vs H') → ta σ H Q
/-- an argument -/
def EG (c : DC) (te : TE) (ρ : DEnv) (s : DS) : Prop := ∀ A σ H, SR c A σ H ρ → ∀ Q : VK, (∀ v H', Keep c.T H H' → ArgOk c.K (hid (c.M ++ A) H') v s → Q v H') → te σ H Q
section
variable {c : DC} {ρ : DEnv} {ta tb te : TE} {d e : PD}
theorem ed_var {i : Nat} (h : ρ[i]? = some (.dat d)) : ED c (tVar i) ρ d := fun A σ H r Q q => by
  obtain ⟨ov, h1, h2⟩ := r.rel i _ h
  cases ov with
  | none => exact False.elim h2
  | some v => exact ⟨v, h1, q v H .refl h2⟩
theorem ed_int {i : Int} : ED c (tC (.int i)) ρ (.int i) := fun A σ H r Q q => q _ H .refl (.int i)
theorem ed_bl {b : Bool} : ED c (tC (.bl b)) ρ (.bool b) := fun A σ H r Q q => q _ H .refl (.bl b)
theorem ed_non : ED c (tC .non) ρ .none := fun A σ H r Q q => q _ H .refl .non
theorem ed_str {z : Str} : ED c (tC (.str z)) ρ (.str z) := fun A σ H r Q q => q _ H .refl (.str z)
theorem ed_is (h : ED c te ρ d) (he : d = e) : ED c te ρ e := he ▸ h
theorem el_is {ds es : List PD} (h : EL c te ρ ds) (he : ds = es) : EL c te ρ es := he ▸ h
theorem en_is {ds es : List PD} (h : EN c te ρ ds) (he : ds = es) : EN c te ρ es := he ▸ h
theorem et_is {tt : TT} {a b : Bool} (h : ET c tt ρ a) (he : a = b) : ET c tt ρ b := he ▸ h
/-- a rule of two values -/
theorem ed_op {r : R2} {x : PD} {y : PD} (ha : ED c ta ρ x) (hb : ED c tb ρ y) (hr : ∀ A σ H v w, SR c A σ H ρ → Dp c.K (hid (c.M ++ A) H) v x → Dp c.K (hid (c.M ++ A) H) w y → ∀ Q : VK, (∀ z H', Keep c.T H H' → Dp c.K (hid (c.M ++ A) H') z d → Q z H') → r v w H Q) : ED c (tOp r ta tb) ρ d := fun A σ H s Q q =>
  ha A σ H s _ fun v H1 k1 h1 => hb A σ H1 (s.move k1) _ fun w H2 k2 h2 => hr A σ H2 v w ((s.move k1).move k2) (dp_keep (hid_keep k2) (s.move k1).tabm h1) h2 Q fun z H3 k3 h3 => q z H3 ((k1.trans k2).trans k3) h3
theorem ed_I0 {g : Int → Int → Int} {i j : Int} (ha : ED c ta ρ (.int i)) (hb : ED c tb ρ (.int j)) : ED c (tOp (rI0 fun a b => .int (g a b)) ta tb) ρ (.int (g i j)) :=
  ed_op ha hb fun A σ H v w s h1 h2 Q q => ⟨i, j, dp_int h1, dp_int h2, q _ H .refl (.int _)⟩
theorem ed_I {C : Int → Int → Prop} {g : Int → Int → Int} {i j : Int} (ha : ED c ta ρ (.int i)) (hb : ED c tb ρ (.int j)) (hc : C i j) : ED c (tOp (rI C fun a b => .int (g a b)) ta tb) ρ (.int (g i j)) :=
  ed_op ha hb fun A σ H v w s h1 h2 Q q => ⟨i, j, dp_int h1, dp_int h2, hc, q _ H .refl (.int _)⟩
theorem ed_IB {g : Int → Int → Bool} {i j : Int} (ha : ED c ta ρ (.int i)) (hb : ED c tb ρ (.int j)) : ED c (tOp (rI0 fun a b => .bl (g a b)) ta tb) ρ (.bool (g i j)) :=
  ed_op ha hb fun A σ H v w s h1 h2 Q q => ⟨i, j, dp_int h1, dp_int h2, q _ H .refl (.bl _)⟩
/-- == of flat things -/
def flatD : PD → Bool
  | .none => true | .bool _ => true | .int _ => true | .str _ => true | _ => false
def vOf : PD → V
  | .none => .non | .bool b => .bl b | .int i => .int i | .str z => .str z | _ => .non
theorem dp_flat {K : PySem.W.Frag} {H : Hp} {v : V} {d : PD} (h : Dp K H v d) (f : flatD d = true) : v = vOf d := by
  cases h <;> first | rfl | exact absurd f Bool.false_ne_true
theorem flat_dp {K : PySem.W.Frag} {H : Hp} {d : PD} (f : flatD d = true) : Dp K H (vOf d) d := by
  cases d <;> first | exact absurd f Bool.false_ne_true | constructor
theorem flat_V {d : PD} (f : flatD d = true) : flatV (vOf d) = true := by
  cases d <;> first | exact absurd f Bool.false_ne_true | rfl
theorem ed_eq {x y : PD} (ha : ED c ta ρ x) (hb : ED c tb ρ y) (hx : flatD x = true) (hy : flatD y = true) (hs : scal (vOf x) (vOf y) = true) : ED c (tOp rEq ta tb) ρ (.bool (decide (vOf x = vOf y))) :=
  ed_op ha hb fun A σ H v w s h1 h2 Q q => by
    rw [dp_flat h1 hx, dp_flat h2 hy]
    exact ⟨hs, q _ H .refl (.bl _)⟩
theorem ed_ne {x y : PD} (ha : ED c ta ρ x) (hb : ED c tb ρ y) (hx : flatD x = true) (hy : flatD y = true) (hs : scal (vOf x) (vOf y) = true) : ED c (tOp rNe ta tb) ρ (.bool (!decide (vOf x = vOf y))) :=
  ed_op ha hb fun A σ H v w s h1 h2 Q q => by
    rw [dp_flat h1 hx, dp_flat h2 hy]
    exact ⟨hs, q _ H .refl (.bl _)⟩
theorem ed_eqD {x y : PD} (ha : ED c ta ρ x) (hb : ED c tb ρ y) (hx : SeqAt.shaped x = true) (hy : SeqAt.shaped y = true) : ED c (tOp (rEqD c.K) ta tb) ρ (.bool (PyData.eqv x y)) :=
  ed_op ha hb fun A σ H v w s h1 h2 Q q => ⟨x, y, dp_same hid_same h1, dp_same hid_same h2, hx, hy, q _ H .refl (.bl _)⟩
theorem ed_neD {x y : PD} (ha : ED c ta ρ x) (hb : ED c tb ρ y) (hx : SeqAt.shaped x = true) (hy : SeqAt.shaped y = true) : ED c (tOp (rNeD c.K) ta tb) ρ (.bool (!PyData.eqv x y)) :=
  ed_op ha hb fun A σ H v w s h1 h2 Q q => ⟨x, y, dp_same hid_same h1, dp_same hid_same h2, hx, hy, q _ H .refl (.bl _)⟩
def isNone : PD → Bool | .none => true | _ => false
theorem dp_isN {K : PySem.W.Frag} {H : Hp} {v : V} {d : PD} (h : Dp K H v d) : decide (v = .non) = isNone d := by
  cases h <;> rfl
theorem ed_isN (ha : ED c ta ρ d) : ED c (tIsN ta) ρ (.bool (isNone d)) := fun A σ H s Q q => ha A σ H s _ fun v H1 k1 h1 => by
  rw [dp_isN h1]
  exact q _ H1 k1 (.bl _)
theorem ed_notN (ha : ED c ta ρ d) : ED c (tNotN ta) ρ (.bool (!isNone d)) := fun A σ H s Q q => ha A σ H s _ fun v H1 k1 h1 => by
  rw [dp_isN h1]
  exact q _ H1 k1 (.bl _)
/-! tests -/
theorem et_test {b : Bool} (h : ED c te ρ (.bool b)) : ET c (tTest te) ρ b := fun A σ H s Q q => h A σ H s _ fun v H1 k1 h1 => ⟨b, dp_bool h1, q H1 k1⟩
theorem et_B {b : Bool} (h : ED c te ρ (.bool b)) : ET c (tB te) ρ b := fun A σ H s Q q => h A σ H s _ fun v H1 k1 h1 => ⟨b, dp_bool h1, q H1 k1⟩
theorem et_not {t : TT} {b : Bool} (h : ET c t ρ b) : ET c (tNot t) ρ (!b) := fun A σ H s Q q => h A σ H s _ fun H1 k1 => q H1 k1
theorem et_and {t u : TT} {a b : Bool} (h1 : ET c t ρ a) (h2 : a = true → ET c u ρ b) : ET c (tAnd t u) ρ (a && b) := fun A σ H s Q q => h1 A σ H s _ fun H1 k1 => by
  cases a with
  | true =>
    show u σ H1 Q
    exact h2 rfl A σ H1 (s.move k1) Q fun H2 k2 => q H2 (k1.trans k2)
  | false =>
    show Q false H1
    exact q H1 k1
theorem et_or {t u : TT} {a b : Bool} (h1 : ET c t ρ a) (h2 : a = false → ET c u ρ b) : ET c (tOr t u) ρ (a || b) := fun A σ H s Q q => h1 A σ H s _ fun H1 k1 => by
  cases a with
  | true =>
    show Q true H1
    exact q H1 k1
  | false =>
    show u σ H1 Q
    exact h2 rfl A σ H1 (s.move k1) Q fun H2 k2 => q H2 (k1.trans k2)
theorem et_yes : ET c tYes ρ true := fun A σ H s Q q => q H .refl
/-- truth of data -/
def truD : PD → Bool
  | .none => false | .bool b => b | .int i => i != 0 | .str z => (z.length : Int) != 0 | .list xs => !xs.isEmpty | .tuple xs => !xs.isEmpty | .dict _ => false
theorem isE {K : PySem.W.Frag} {H : Hp} : ∀ {xs : List V} {ds : List PD}, DpAll K H xs ds → xs.isEmpty = ds.isEmpty
  | _, _, .nil => rfl
  | _, _, .cons _ _ => rfl
theorem sqt_same {K : PySem.W.Frag} {H H' : Hp} {a : Addr} {xs : List V} (s : Same H H') (h : SqT K H a xs) : SqT K H' a xs := by
  rcases h with (h | ⟨o, h⟩) | h
  · exact .inl (.inl (s _ _ h))
  · exact .inl (.inr ⟨o, s _ _ h⟩)
  · exact .inr h
theorem tru_dp {K : PySem.W.Frag} {H H' : Hp} {v : V} {d : PD} (s : Same H H') (h : Dp K H v d) (hz : ∀ z, d = .str z → z.length ≤ sizeLine) : TruV K v H' (truD d) := by
  cases h with
  | non => exact rfl
  | bl b => exact rfl
  | int i => exact rfl
  | str x => exact ⟨hz x rfl, rfl⟩
  | lst h a => exact .inl ⟨_, s.seq h, by show (!_) = _; rw [isE a]⟩
  | tup h a => exact .inr (.inl ⟨_, (sqt_same s h), by show (!_) = _; rw [isE a]⟩)
theorem et_truth (h : ED c te ρ d) (hz : ∀ z, d = .str z → z.length ≤ sizeLine := by intro z e; cases e) : ET c (fun σ H Q => te σ H fun x H' => ∃ k, TruV c.K x H' k ∧ Q k H') ρ (truD d) := fun A σ H s Q q => h A σ H s _ fun v H1 k1 h1 => ⟨_, tru_dp hid_same h1 hz, q H1 k1⟩
theorem et_truthL {ds : List PD} (h : EL c te ρ ds) : ET c (fun σ H Q => te σ H fun x H' => ∃ k, TruV c.K x H' k ∧ Q k H') ρ (!ds.isEmpty) := fun A σ H s Q q => h A σ H s _ fun a xs H1 k1 h1 h2 => ⟨_, .inl ⟨xs, h1, rfl⟩, by
  rw [isE h2]
  exact q H1 k1⟩
theorem ed_if {t : TT} {b : Bool} (h : ET c t ρ b) (h1 : b = true → ED c ta ρ d) (h2 : b = false → ED c tb ρ d) : ED c (tIf t ta tb) ρ d := fun A σ H s Q q => h A σ H s _ fun H1 k1 => by
  cases b with
  | true =>
    show ta σ H1 Q
    exact h1 rfl A σ H1 (s.move k1) Q fun v H2 k2 h => q v H2 (k1.trans k2) h
  | false =>
    show tb σ H1 Q
    exact h2 rfl A σ H1 (s.move k1) Q fun v H2 k2 h => q v H2 (k1.trans k2) h
theorem ed_andV {a b : Bool} (h1 : ED c ta ρ (.bool a)) (h2 : a = true → ED c tb ρ (.bool b)) : ED c (tAndV ta tb) ρ (.bool (a && b)) := fun A σ H s Q q => h1 A σ H s _ fun v H1 k1 hv => ⟨a, dp_bool hv, by
  cases a with
  | true =>
    show tb σ H1 Q
    exact h2 rfl A σ H1 (s.move k1) Q fun v H2 k2 h => q v H2 (k1.trans k2) h
  | false =>
    show Q (.bl false) H1
    exact q _ H1 k1 (.bl _)⟩
/-! lists and tuples -/
theorem el_ed {ds : List PD} (h : ED c te ρ (.list ds)) : EL c te ρ ds := fun A σ H s Q q => h A σ H s _ fun v H1 k1 h1 => by
  obtain ⟨a, xs, rfl, h2, h3⟩ := dp_list h1
  exact q a xs H1 k1 (hid_same.seq h2) h3
theorem el_own {i : Nat} {ds : List PD} (h : ρ[i]? = some (.own ds)) : EL c (tVar i) ρ ds := fun A σ H r Q q => by
  obtain ⟨ov, h1, h2⟩ := r.rel i _ h
  cases ov with
  | none => exact False.elim h2
  | some v =>
    obtain ⟨a, xs, rfl, q2, q3, q4⟩ := h2
    exact ⟨_, h1, q a xs H .refl (SqL.of q3) q4⟩
theorem en_el {ds : List PD} (h : EN c te ρ ds) : EL c te ρ ds := fun A σ H s Q q => h A σ H s _ fun p xs H1 k1 hp h1 h2 => q p xs H1 k1 (SqL.of h1) (dps_same (hid_sub fun a m => List.mem_cons_of_mem _ m) h2)
theorem nfresh {A : List Addr} {σ : L2.St} {H : Hp} (r : SR c A σ H ρ) {p : Addr} (hp : H p = none) : p ∉ c.M ++ A := fun m => (r.nM p m).2 hp
theorem ed_en {ds : List PD} (h : EN c te ρ ds) : ED c te ρ (.list ds) := fun A σ H s Q q => h A σ H s _ fun p xs H1 k1 hp h1 h2 => q _ H1 k1 (.lst (SqL.of (hid_of (nfresh s hp) h1)) (dps_same (hid_sub fun a m => List.mem_cons_of_mem _ m) h2))
theorem eg_dat (h : ED c te ρ d) : EG c te ρ (.dat d) := h
theorem eg_ob {i : Nat} {C : Addr} {fs : List (Str × PD)} (h : ρ[i]? = some (.ob C fs)) : EG c (tVar i) ρ (.ob C fs) := fun A σ H r Q q => by
  obtain ⟨ov, h1, h2⟩ := r.rel i _ h
  cases ov with
  | none => exact False.elim h2
  | some v => exact ⟨v, h1, q v H .refl h2⟩
theorem eg_raw {i : Nat} {w : V} (h : ρ[i]? = some (.raw w)) : EG c (tVar i) ρ (.raw w) := fun A σ H r Q q => by
  obtain ⟨ov, h1, h2⟩ := r.rel i _ h
  cases ov with
  | none => exact False.elim h2
  | some v => exact ⟨v, h1, q v H .refl h2⟩
/-- a field of a changing object, as it stands at the entry -/
theorem fld_at {A : List Addr} {σ : L2.St} {H : Hp} (r : SR c A σ H ρ) {p C dx : Addr} {fs : List (Str × V)} (h0 : c.H0 p = some (.ins C dx fs)) : H p = some (.ins C dx fs) := r.keep.at_ _ _ h0 (nT_of r.tab h0 fun ps z => by cases z)
theorem base_dp {A : List Addr} {σ : L2.St} {H : Hp} (r : SR c A σ H ρ) : Keep c.T (hid c.M c.H0) (hid (c.M ++ A) H) := by
  refine ⟨fun b o e n => ?_, fun P hP tb => ?_⟩
  · obtain ⟨m, e⟩ := hid_inv e
    refine hid_of (fun q => ?_) (r.keep.at_ b o e n)
    rcases List.mem_append.mp q with q | q
    · exact m q
    · rw [(r.new b q).1] at e
      cases e
  · obtain ⟨ps, e, ok⟩ := tb
    obtain ⟨m, e⟩ := hid_inv e
    obtain ⟨ps', e', ok'⟩ := r.keep.tab P hP ⟨ps, e, ok⟩
    exact ⟨ps', hid_of (fun q => (r.nM P q).1 hP) e', ok'⟩
theorem base_tab {A : List Addr} {σ : L2.St} {H : Hp} (r : SR c A σ H ρ) : Tabs c.T (hid c.M c.H0) := tabs_hid r.tab fun a h => (r.msk a h).1
theorem ed_mfld {i : Nat} {p C dx : Addr} {fs : List (Str × V)} {f : Str} {v : V} (h : ρ[i]? = some (.raw (.ref p))) (h0 : c.H0 p = some (.ins C dx fs)) (cl : Cls c.K C) (na : NoAttr c.K C f) (hl : fs.lookup f = some v) (hd : Dp c.K (hid c.M c.H0) v d) : ED c (tFld c.K (tVar i) f) ρ d := fun A σ H r Q q => by
  obtain ⟨ov, h1, h2⟩ := r.rel i _ h
  cases ov with
  | none => exact False.elim h2
  | some w =>
    have e : w = .ref p := h2
    subst e
    exact ⟨_, h1, p, C, dx, fs, v, rfl, fld_at r h0, cl, na, hl, q v H .refl (dp_keep (base_dp r) (base_tab r) hd)⟩
theorem el_mfld {i : Nat} {p C dx a : Addr} {fs : List (Str × V)} {f : Str} {xs : List V} {ds : List PD} (h : ρ[i]? = some (.raw (.ref p))) (h0 : c.H0 p = some (.ins C dx fs)) (cl : Cls c.K C) (na : NoAttr c.K C f) (hl : fs.lookup f = some (.ref a)) (ha : c.H0 a = some (.lst xs)) (hd : DpAll c.K (hid c.M c.H0) xs ds) : EL c (tFld c.K (tVar i) f) ρ ds := fun A σ H r Q q => by
  obtain ⟨ov, h1, h2⟩ := r.rel i _ h
  cases ov with
  | none => exact False.elim h2
  | some w =>
    have e : w = .ref p := h2
    subst e
    exact ⟨_, h1, p, C, dx, fs, _, rfl, fld_at r h0, cl, na, hl, q a xs H .refl (SqL.of (r.keep.at_ _ _ ha (nT_of r.tab ha fun ps z => by cases z))) (dps_keep (base_dp r) (base_tab r) hd)⟩
theorem ea_nil : EA c tNil ρ [] := fun A σ H r Q q => q [] H .refl .nil
theorem ea_cons {tr : TA} {s : DS} {ss : List DS} (h : EG c te ρ s) (hr : EA c tr ρ ss) : EA c (tCons te tr) ρ (s :: ss) := fun A σ H r Q q =>
  h A σ H r _ fun v H1 k1 h1 => hr A σ H1 (r.move k1) _ fun vs H2 k2 h2 => q _ H2 (k1.trans k2) (.cons (h1.keep (hid_keep k2) (r.move k1).tabm) h2)
theorem ea_d {tr : TA} {ss : List DS} (h : ED c te ρ d) (hr : EA c tr ρ ss) : EA c (tCons te tr) ρ (.dat d :: ss) := ea_cons (eg_dat h) hr
theorem args_dps {K : PySem.W.Frag} {H : Hp} : ∀ {vs : List V} {ds : List PD}, ArgsOk K H vs (ds.map .dat) → DpAll K H vs ds
  | _, [], .nil => .nil
  | _, d :: ds, .cons a r => .cons a (args_dps r)
theorem ed_tup {ta : TA} {ds : List PD} (h : EA c ta ρ (ds.map .dat)) (hz : ds.length ≤ 1000) : ED c (tTup ta) ρ (.tuple ds) := fun A σ H s Q q => h A σ H s _ fun vs H1 k1 h1 => by
  have h2 := args_dps h1
  refine ⟨by rw [dps_len h2]; exact Nat.le_of_lt (small1000 hz), fun p hp => q _ _ (k1.trans (.new hp)) ?_⟩
  have n := nfresh (s.move k1) hp
  have sm : Same (hid (c.M ++ A) H1) (hid (c.M ++ A) (upd H1 p (.tup vs))) := fun b o e => by
    obtain ⟨m, e⟩ := hid_inv e
    exact hid_of m (by rw [upd_ne (ne_of_none e hp)]; exact e)
  exact .tup (SqT.of (hid_of n upd_same)) (dps_same sm h2)
theorem en_lst {ta : TA} {ds : List PD} (h : EA c ta ρ (ds.map .dat)) (hz : ds.length ≤ 1000) : EN c (tLst ta) ρ ds := fun A σ H s Q q => h A σ H s _ fun vs H1 k1 h1 => by
  have h2 := args_dps h1
  refine ⟨by rw [dps_len h2]; exact Nat.le_of_lt (small1000 hz), fun p hp => q p vs _ (k1.trans (.new hp)) (k1.free s.tabs hp) upd_same ?_⟩
  rw [hid_new hp]
  exact h2
/-! items -/
theorem atI_map {K : PySem.W.Frag} {H : Hp} {xs : List V} {ds : List PD} {i : Int} (h : DpAll K H xs ds) (e : atI ds i = some d) : ∃ v, atI xs i = some v ∧ Dp K H v d := by
  unfold atI at e ⊢
  rw [dps_len h]
  cases q : ixN ds.length i with
  | none => rw [q] at e; cases e
  | some j =>
    rw [q] at e
    exact dps_get h e
theorem ed_ixL {ds : List PD} {i : Int} (ha : EL c ta ρ ds) (hb : ED c tb ρ (.int i)) (e : atI ds i = some d) : ED c (tOp (rIxL c.K) ta tb) ρ d := fun A σ H s Q q =>
  ha A σ H s _ fun a xs H1 k1 h1 h2 => hb A σ H1 (s.move k1) _ fun w H2 k2 h3 => by
    have s2 := (s.move k1).move k2
    obtain ⟨v, e1, e2⟩ := atI_map (dps_keep (hid_keep k2) (s.move k1).tabm h2) e
    exact ⟨a, xs, i, v, rfl, dp_int h3, k2.sqL (s.move k1).tabs h1, e1, q v H2 (k1.trans k2) e2⟩
theorem ed_ixT {ds : List PD} {i : Int} (ha : ED c ta ρ (.tuple ds)) (hb : ED c tb ρ (.int i)) (e : atI ds i = some d) : ED c (tOp (rIxT c.K) ta tb) ρ d :=
  ed_op ha hb fun A σ H v w s h1 h2 Q q => by
    obtain ⟨a, xs, rfl, h3, h4⟩ := dp_tup h1
    obtain ⟨z, e1, e2⟩ := atI_map h4 e
    exact ⟨a, xs, i, z, rfl, dp_int h2, sqt_same hid_same h3, e1, q z H .refl e2⟩
theorem ed_ixLx {ds : List PD} {i : Int} (ha : EL c ta ρ ds) (hb : ED c tb ρ (.int i)) (e : atI ds i = some d) : ED c (tOp (rIx c.K) ta tb) ρ d := fun A σ H s Q q =>
  ha A σ H s _ fun a xs H1 k1 h1 h2 => hb A σ H1 (s.move k1) _ fun w H2 k2 h3 => by
    obtain ⟨v, e1, e2⟩ := atI_map (dps_keep (hid_keep k2) (s.move k1).tabm h2) e
    exact .inl ⟨a, xs, i, v, rfl, dp_int h3, k2.sqL (s.move k1).tabs h1, e1, q v H2 (k1.trans k2) e2⟩
/-! len -/
def lenR (K : PySem.W.Frag) : List V → Hp → VK → Prop := fun xs H Q => ∃ p ys, xs = [.ref p] ∧ (SqL K H p ys ∨ SqT K H p ys) ∧ Q (.int ys.length) H
theorem ed_lenL {ds : List PD} (ha : EL c ta ρ ds) : ED c (tCB (lenR c.K) (tCons ta tNil)) ρ (.int (ds.length : Int)) := fun A σ H s Q q => ha A σ H s _ fun a xs H1 k1 h1 h2 => ⟨a, xs, rfl, .inl h1, by
  rw [dps_len h2]
  exact q _ H1 k1 (.int _)⟩
theorem ed_lenT {ds : List PD} (ha : ED c ta ρ (.tuple ds)) : ED c (tCB (lenR c.K) (tCons ta tNil)) ρ (.int (ds.length : Int)) := fun A σ H s Q q => ha A σ H s _ fun v H1 k1 h1 => by
  obtain ⟨a, xs, rfl, h3, h4⟩ := dp_tup h1
  refine ⟨a, xs, rfl, .inr (sqt_same hid_same h3), ?_⟩
  rw [dps_len h4]
  exact q _ H1 k1 (.int _)
/-! tuples joined, cut -/
theorem ed_catT {xs ys : List PD} (ha : ED c ta ρ (.tuple xs)) (hb : ED c tb ρ (.tuple ys)) (hz : xs.length + ys.length ≤ 1000) : ED c (tOp (rCatA c.K) ta tb) ρ (.tuple (xs ++ ys)) :=
  ed_op ha hb fun A σ H v w s h1 h2 Q q => by
    obtain ⟨a, us, rfl, h3, h4⟩ := dp_tup h1
    obtain ⟨b, ws, rfl, h5, h6⟩ := dp_tup h2
    refine ⟨a, b, us, ws, rfl, rfl, sqt_same hid_same h3, sqt_same hid_same h5, by rw [dps_len h4, dps_len h6]; exact Nat.le_of_lt (small1000 hz), fun e => ?_, fun _ e => ?_, fun _ _ p hp => ?_⟩
    · subst e
      cases h4
      exact q _ H .refl h2
    · subst e
      cases h6
      rw [List.append_nil] at q
      exact q _ H .refl h1
    · have sm : Same (hid (c.M ++ A) H) (hid (c.M ++ A) (upd H p (.tup (us ++ ws)))) := fun b o e => by
        obtain ⟨m, e⟩ := hid_inv e
        exact hid_of m (by rw [upd_ne (ne_of_none e hp)]; exact e)
      exact q _ _ (.new hp) (.tup (SqT.of (hid_of (nfresh s hp) upd_same)) (dps_same sm (dps_append h4 h6)))
def EO (c : DC) (to : TO) (ρ : DEnv) (o : Option Int) : Prop := ∀ A σ H, SR c A σ H ρ → ∀ Q : Option Int → Hp → Prop, (∀ H', Keep c.T H H' → Q o H') → to σ H Q
theorem eo_none : EO c tNoPart ρ none := fun A σ H s Q q => q H .refl
theorem eo_some {i : Int} (h : ED c te ρ (.int i)) : EO c (tPart te) ρ (some i) := fun A σ H s Q q => h A σ H s _ fun v H1 k1 h1 => ⟨i, dp_int h1, q H1 k1⟩
def cutPD (xs : List PD) (lo hi : Option Int) : List PD := (xs.drop (HT.sIx xs.length 0 lo)).take (HT.sIx xs.length xs.length hi - HT.sIx xs.length 0 lo)
theorem dps_cut {K : PySem.W.Frag} {H : Hp} {xs : List V} {ds : List PD} (lo hi : Option Int) (h : DpAll K H xs ds) : DpAll K H (cutV xs lo hi) (cutPD ds lo hi) := by
  unfold cutV cutPD
  rw [dps_len h]
  exact dps_take _ (dps_drop _ h)
theorem cut_whole {xs : List PD} {lo hi : Option Int} (h : HT.sIx xs.length 0 lo = 0 ∧ HT.sIx xs.length xs.length hi = xs.length) : cutPD xs lo hi = xs := by
  unfold cutPD
  rw [h.1, h.2]
  simp
theorem ed_slT {xs : List PD} {tl th : TO} {lo hi : Option Int} (h : ED c te ρ (.tuple xs)) (h1 : EO c tl ρ lo) (h2 : EO c th ρ hi) : ED c (tSl (rSlA c.K) te tl th) ρ (.tuple (cutPD xs lo hi)) := fun A σ H s Q q =>
  h A σ H s _ fun v H1 k1 g1 => h1 A σ H1 (s.move k1) _ fun H2 k2 => h2 A σ H2 ((s.move k1).move k2) _ fun H3 k3 => by
    have s3 := ((s.move k1).move k2).move k3
    have g2 := dp_keep (hid_keep (k2.trans k3)) (s.move k1).tabm g1
    obtain ⟨a, us, rfl, h3, h4⟩ := dp_tup g2
    refine ⟨a, us, rfl, sqt_same hid_same h3, fun e => ?_, fun _ p hp => ?_⟩
    · rw [dps_len h4] at e
      rw [cut_whole e] at q
      exact q _ H3 ((k1.trans k2).trans k3) g2
    · have sm : Same (hid (c.M ++ A) H3) (hid (c.M ++ A) (upd H3 p (.tup (cutV us lo hi)))) := fun b o e => by
        obtain ⟨m, e⟩ := hid_inv e
        exact hid_of m (by rw [upd_ne (ne_of_none e hp)]; exact e)
      exact q _ _ (((k1.trans k2).trans k3).trans (.new hp)) (.tup (SqT.of (hid_of (nfresh s3 hp) upd_same)) (dps_same sm (dps_cut lo hi h4)))
theorem en_slL {xs : List PD} {tl th : TO} {lo hi : Option Int} (h : EL c te ρ xs) (h1 : EO c tl ρ lo) (h2 : EO c th ρ hi) : EN c (tSl (rSlL c.K) te tl th) ρ (cutPD xs lo hi) := fun A σ H s Q q =>
  h A σ H s _ fun a us H1 k1 g1 g2 => h1 A σ H1 (s.move k1) _ fun H2 k2 => h2 A σ H2 ((s.move k1).move k2) _ fun H3 k3 => by
    have s3 := ((s.move k1).move k2).move k3
    refine ⟨a, us, rfl, (k2.trans k3).sqL (s.move k1).tabs g1, fun p hp => ?_⟩
    refine q p _ _ (((k1.trans k2).trans k3).trans (.new hp)) (((k1.trans k2).trans k3).free s.tabs hp) upd_same ?_
    rw [hid_new hp]
    exact dps_cut lo hi (dps_keep (hid_keep (k2.trans k3)) (s.move k1).tabm g2)
/-! in -/
theorem dps_flat {K : PySem.W.Frag} {H : Hp} : ∀ {xs : List V} {ds : List PD}, DpAll K H xs ds → ds.all flatD = true → xs = ds.map vOf
  | _, _, .nil, _ => rfl
  | _, _, .cons a r, h => by
    rw [List.all_cons, Bool.and_eq_true] at h
    rw [List.map_cons, dp_flat a h.1, dps_flat r h.2]
theorem flats_V {ds : List PD} (h : ds.all flatD = true) : (ds.map vOf).all flatV = true := by
  rw [List.all_map, List.all_eq_true]
  intro d hd
  exact flat_V (List.all_eq_true.mp h d hd)
theorem ed_inT {neg : Bool} {x : PD} {ys : List PD} (ha : ED c ta ρ x) (hb : ED c tb ρ (.tuple ys)) (hx : flatD x = true) (hy : ys.all flatD = true) : ED c (tOp (rIn c.K neg) ta tb) ρ (.bool (if neg then !inV (vOf x) (ys.map vOf) else inV (vOf x) (ys.map vOf))) :=
  ed_op ha hb fun A σ H v w s h1 h2 Q q => by
    obtain ⟨a, us, rfl, h3, h4⟩ := dp_tup h2
    have e := dps_flat h4 hy
    subst e
    rw [dp_flat h1 hx]
    exact ⟨a, _, rfl, .inr (sqt_same hid_same h3), flat_V hx, flats_V hy, q _ H .refl (.bl _)⟩
theorem ed_inL {neg : Bool} {x : PD} {ys : List PD} (ha : ED c ta ρ x) (hb : EL c tb ρ ys) (hx : flatD x = true) (hy : ys.all flatD = true) : ED c (tOp (rIn c.K neg) ta tb) ρ (.bool (if neg then !inV (vOf x) (ys.map vOf) else inV (vOf x) (ys.map vOf))) := fun A σ H s Q q =>
  ha A σ H s _ fun v H1 k1 h1 => hb A σ H1 (s.move k1) _ fun a us H2 k2 h3 h4 => by
    have e := dps_flat h4 hy
    subst e
    rw [dp_flat h1 hx]
    exact ⟨a, _, rfl, .inl h3, flat_V hx, flats_V hy, q _ H2 (k1.trans k2) (.bl _)⟩
/-! fields of an object that stands still -/
theorem ed_fld {C : Addr} {fs : List (Str × PD)} {f : Str} (h : EG c te ρ (.ob C fs)) (cl : Cls c.K C) (na : NoAttr c.K C f) (e : fs.lookup f = some d) : ED c (tFld c.K te f) ρ d := fun A σ H s Q q => h A σ H s _ fun v H1 k1 h1 => by
  obtain ⟨p, dx, xs, rfl, h2, h3⟩ := h1
  obtain ⟨w, e1, e2⟩ := h3.look e
  exact ⟨p, C, dx, xs, w, rfl, (hid_inv h2).2, cl, na, e1, q w H1 k1 e2⟩
/-! calls -/
def spD (K : PySem.W.Frag) (T : List Addr) (R : List DS → PD → Prop) : Sp := fun vs H Q _ => ∃ M ss d, (∀ a ∈ M, a ∉ T ∧ H a ≠ none) ∧ Tabs T H ∧ ArgsOk K (hid M H) vs ss ∧ R ss d ∧ ∀ v H', Dp K (hid M H') v d → Keep T H H' → Q v H'
theorem ed_call {R : List DS → PD → Prop} {E : XK} {ta : TA} {ss : List DS} (h : EA c ta ρ ss) (hR : R ss d) : ED c (tCall (spD c.K c.T R) [] E ta) ρ d := fun A σ H s Q q => h A σ H s _ fun vs H1 k1 h1 =>
  ⟨c.M ++ A, ss, d, (s.move k1).nM, (s.move k1).tabs, by rw [List.append_nil]; exact h1, hR, fun v H2 h2 k2 => q v H2 (k1.trans k2) h2⟩
theorem ed_meth {R : List DS → PD → Prop} {E : XK} {ta : TA} {ss : List DS} {C : Addr} {m : Str} {fs : List (Str × PD)} (ho : EG c te ρ (.ob C fs)) (hm : fs.lookup m = none) (h : EA c ta ρ ss) (hR : R (.ob C fs :: ss) d) : ED c (tMeth C m (spD c.K c.T R) [] E te ta) ρ d := fun A σ H s Q q =>
  ho A σ H s _ fun v H1 k1 h1 => by
    obtain ⟨p, dx, xs, rfl, h2, h3⟩ := id h1
    refine ⟨p, dx, xs, rfl, (hid_inv h2).2, h3.none hm, h A σ H1 (s.move k1) _ fun vs H2 k2 h4 => ?_⟩
    exact ⟨c.M ++ A, .ob C fs :: ss, d, ((s.move k1).move k2).nM, ((s.move k1).move k2).tabs, by rw [List.append_nil]; exact .cons (ObD.keep (hid_keep k2) (s.move k1).tabm h1) h4, hR, fun v H3 h5 k3 => q v H3 ((k1.trans k2).trans k3) h5⟩
end
end DL
/-! statements over data -/
namespace DL
open PySem PySem.Spec PyProof.Rows L2 DA

structure DEnds where
  nx : DEnv → Prop
  rt : PD → Prop
  bk : DEnv → Prop := fun _ => False
  ct : DEnv → Prop := fun _ => False
structure Le (c : DC) (D : DEnds) (E : Ends) : Prop where
  nx : ∀ A σ H ρ, SR c A σ H ρ → D.nx ρ → E.nx σ H
  rt : ∀ v H d, Keep c.T c.H0 H → Dp c.K (hid c.M H) v d → D.rt d → E.rt v H
  bk : ∀ A σ H ρ, SR c A σ H ρ → D.bk ρ → E.bk σ H
  ct : ∀ A σ H ρ, SR c A σ H ρ → D.ct ρ → E.ct σ H
def SD (c : DC) (t : TS) (D : DEnds) (ρ : DEnv) : Prop := ∀ E, Le c D E → ∀ A σ H, SR c A σ H ρ → t E σ H

/-! ### the slots change -/
section
variable {c : DC} {A : List Addr} {σ : L2.St} {H H' : Hp} {ρ : DEnv}
theorem hid_cong {M N : List Addr} {H : Hp} (h : ∀ a, a ∈ M ↔ a ∈ N) : hid M H = hid N H := by
  funext b
  unfold hid
  by_cases m : b ∈ M
  · rw [if_pos m, if_pos ((h b).mp m)]
  · rw [if_neg m, if_neg (fun q => m ((h b).mpr q))]
theorem get_set {α : Type} {l : List α} {i j : Nat} {x y : α} (h : (l.set i x)[j]? = some y) : (i = j ∧ y = x) ∨ (i ≠ j ∧ l[j]? = some y) := by
  rw [List.getElem?_set] at h
  split at h
  · next e =>
    split at h
    · exact .inl ⟨e, (Option.some.inj h).symm⟩
    · cases h
  · next e => exact .inr ⟨e, h⟩
theorem SR.lt (r : SR c A σ H ρ) {i : Nat} {s : DS} (h : ρ[i]? = some s) : i < σ.length := by
  rw [r.len]
  exact (List.getElem?_eq_some_iff.mp h).1
theorem SR.setS (r : SR c A σ H ρ) (i : Nat) {v : V} {s : DS} (h : SlotOk c.K (hid (c.M ++ A) H) H A (some v) s) (hs : ∀ ds, s ≠ .own ds) : SR c A (σ.set i (some v)) H (ρ.set i s) := by
  refine ⟨r.tab, r.keep, r.msk, r.new, by rw [List.length_set, List.length_set, r.len], fun j t e => ?_, fun j k ds es a hjk h1 h2 h3 h4 => ?_⟩
  · rcases get_set e with ⟨rfl, rfl⟩ | ⟨hne, e⟩
    · have hl : i < σ.length := by
        rw [r.len]
        have := (List.getElem?_eq_some_iff.mp e).1
        rwa [List.length_set] at this
      exact ⟨some v, by rw [List.getElem?_set, if_pos rfl, if_pos hl], h⟩
    · obtain ⟨ov, h1, h2⟩ := r.rel j t e
      exact ⟨ov, by rw [List.getElem?_set_ne hne]; exact h1, h2⟩
  · rcases get_set h1 with ⟨_, e⟩ | ⟨n1, e1⟩
    · exact hs _ e.symm
    · rcases get_set h2 with ⟨_, e⟩ | ⟨n2, e2⟩
      · exact hs _ e.symm
      · rw [List.getElem?_set_ne n1] at h3
        rw [List.getElem?_set_ne n2] at h4
        exact r.inj j k ds es a hjk e1 e2 h3 h4
theorem SR.setD (r : SR c A σ H ρ) (i : Nat) {v : V} {d : PD} (h : Dp c.K (hid (c.M ++ A) H) v d) : SR c A (σ.set i (some v)) H (ρ.set i (.dat d)) := r.setS i h (fun _ z => nomatch z)
theorem SR.setX (r : SR c A σ H ρ) (i : Nat) {ov : Option V} : SR c A (σ.set i ov) H (ρ.set i .non) := by
  refine ⟨r.tab, r.keep, r.msk, r.new, by rw [List.length_set, List.length_set, r.len], fun j t e => ?_, fun j k ds es a hjk h1 h2 h3 h4 => ?_⟩
  · rcases get_set e with ⟨rfl, rfl⟩ | ⟨hne, e⟩
    · have hl : i < σ.length := by
        rw [r.len]
        have := (List.getElem?_eq_some_iff.mp e).1
        rwa [List.length_set] at this
      exact ⟨ov, by rw [List.getElem?_set, if_pos rfl, if_pos hl], by cases ov <;> trivial⟩
    · obtain ⟨ow, h1, h2⟩ := r.rel j t e
      exact ⟨ow, by rw [List.getElem?_set_ne hne]; exact h1, h2⟩
  · rcases get_set h1 with ⟨_, e⟩ | ⟨n1, e1⟩
    · cases e
    · rcases get_set h2 with ⟨_, e⟩ | ⟨n2, e2⟩
      · cases e
      · rw [List.getElem?_set_ne n1] at h3
        rw [List.getElem?_set_ne n2] at h4
        exact r.inj j k ds es a hjk e1 e2 h3 h4
/-- a new address is hidden -/
theorem SR.grow (r : SR c A σ H ρ) (k : Keep c.T H H') {p : Addr} {xs : List V} (hp : H p = none) (h1 : H' p = some (.lst xs)) : SR c (p :: A) σ H' ρ := by
  have km : Keep c.T (hid (c.M ++ A) H) (hid (c.M ++ p :: A) H') := by
    refine ⟨fun b o e n => ?_, fun P hP tb => ?_⟩
    · obtain ⟨m, e⟩ := hid_inv e
      refine hid_of (fun q => ?_) (k.at_ b o e n)
      rcases List.mem_append.mp q with q | q
      · exact m (List.mem_append_left _ q)
      · rcases List.mem_cons.mp q with q | q
        · subst q
          rw [hp] at e
          cases e
        · exact m (List.mem_append_right _ q)
    · obtain ⟨ps, e, ok⟩ := tb
      obtain ⟨m, e⟩ := hid_inv e
      obtain ⟨ps', e', ok'⟩ := k.tab P hP ⟨ps, e, ok⟩
      refine ⟨ps', hid_of (fun q => ?_) e', ok'⟩
      rcases List.mem_append.mp q with q | q
      · exact m (List.mem_append_left _ q)
      · rcases List.mem_cons.mp q with q | q
        · subst q
          rw [hp] at e
          cases e
        · exact m (List.mem_append_right _ q)
  have r1 := r.move k
  refine ⟨r.tab, r1.keep, r.msk, fun a h => ?_, r.len, fun i s e => ?_, r.inj⟩
  · rcases List.mem_cons.mp h with h | h
    · subst h
      refine ⟨?_, xs, h1⟩
      exact r.keep.free r.tab hp
    · exact r1.new a h
  · obtain ⟨ov, g1, g2⟩ := r.rel i s e
    refine ⟨ov, g1, ?_⟩
    cases s with
    | non => cases ov <;> trivial
    | dat d =>
      cases ov with
      | none => exact g2
      | some v => exact dp_keep km r.tabm g2
    | own ds =>
      cases ov with
      | none => exact g2
      | some v =>
        obtain ⟨a, ys, q1, q2, q3, q4⟩ := g2
        exact ⟨a, ys, q1, List.mem_cons_of_mem _ q2, k.at_ _ _ q3 (r.nA q2), dps_keep km r.tabm q4⟩
    | ob C fs =>
      cases ov with
      | none => exact g2
      | some v => exact ObD.keep km r.tabm g2
    | raw w =>
      cases ov with
      | none => exact g2
      | some v => exact g2
theorem SR.setN (r : SR c A σ H ρ) (i : Nat) (k : Keep c.T H H') {p : Addr} {xs : List V} {ds : List PD} (hp : H p = none) (h1 : H' p = some (.lst xs)) (h2 : DpAll c.K (hid (p :: (c.M ++ A)) H') xs ds) : SR c (p :: A) (σ.set i (some (.ref p))) H' (ρ.set i (.own ds)) := by
  have g := r.grow k hp h1
  have h3 : DpAll c.K (hid (c.M ++ p :: A) H') xs ds := by
    rw [hid_cong (N := p :: (c.M ++ A)) (fun a => by simp [or_left_comm])]
    exact h2
  refine ⟨g.tab, g.keep, g.msk, g.new, by rw [List.length_set, List.length_set, g.len], fun j t e => ?_, fun j l es fs a hjl e1 e2 e3 e4 => ?_⟩
  · rcases get_set e with ⟨rfl, rfl⟩ | ⟨hne, e⟩
    · have hl : i < σ.length := by
        rw [r.len]
        have := (List.getElem?_eq_some_iff.mp e).1
        rwa [List.length_set] at this
      exact ⟨some (.ref p), by rw [List.getElem?_set, if_pos rfl, if_pos hl], (show ∃ a ys, V.ref p = .ref a ∧ a ∈ p :: A ∧ H' a = some (.lst ys) ∧ DpAll c.K (hid (c.M ++ p :: A) H') ys ds from ⟨p, xs, rfl, List.mem_cons_self, h1, h3⟩)⟩
    · obtain ⟨ov, g1, g2⟩ := g.rel j t e
      exact ⟨ov, by rw [List.getElem?_set_ne hne]; exact g1, g2⟩
  · -- an elder own list stands elsewhere
    have key : ∀ m gs, i ≠ m → ρ[m]? = some (.own gs) → σ[m]? = some (some (.ref p)) → False := fun m gs _ q1 q2 => by
      obtain ⟨ov, z1, z2⟩ := r.rel m _ q1
      rw [q2] at z1
      cases z1
      obtain ⟨b, ys, z3, z4, z5, _⟩ := z2
      cases z3
      rw [hp] at z5
      cases z5
    rcases get_set e1 with ⟨rfl, _⟩ | ⟨n1, e1⟩
    · rcases get_set e2 with ⟨z, _⟩ | ⟨n2, e2⟩
      · exact hjl z
      · have hl : i < σ.length := by
          by_cases q : i < σ.length
          · exact q
          · rw [List.getElem?_eq_none (by rw [List.length_set]; omega)] at e3
            cases e3
        rw [List.getElem?_set, if_pos rfl, if_pos hl] at e3
        cases e3
        rw [List.getElem?_set_ne n2] at e4
        exact key l fs n2 e2 e4
    · rcases get_set e2 with ⟨rfl, _⟩ | ⟨n2, e2⟩
      · have hl : i < σ.length := by
          by_cases q : i < σ.length
          · exact q
          · rw [List.getElem?_eq_none (by rw [List.length_set]; omega)] at e4
            cases e4
        rw [List.getElem?_set, if_pos rfl, if_pos hl] at e4
        cases e4
        rw [List.getElem?_set_ne n1] at e3
        exact key j es n1 e1 e3
      · rw [List.getElem?_set_ne n1] at e3
        rw [List.getElem?_set_ne n2] at e4
        exact g.inj j l es fs a hjl e1 e2 e3 e4
/-- an own list changes -/
theorem SR.mut (r : SR c A σ H ρ) {i : Nat} {a : Addr} {ds es : List PD} {ys : List V} (h0 : ρ[i]? = some (.own ds)) (h1 : σ[i]? = some (some (.ref a))) (ha : a ∈ A) (h2 : DpAll c.K (hid (c.M ++ A) H) ys es) : SR c A σ (upd H a (.lst ys)) (ρ.set i (.own es)) := by
  have n0 : c.H0 a = none := (r.new a ha).1
  have eh : hid (c.M ++ A) (upd H a (.lst ys)) = hid (c.M ++ A) H := hid_in (List.mem_append_right _ ha)
  refine ⟨r.tab, r.keep.own r.tab n0, r.msk, fun b hb => ?_, by rw [List.length_set, r.len], fun j t e => ?_, fun j l fs gs b hjl e1 e2 e3 e4 => ?_⟩
  · obtain ⟨h, xs, e⟩ := r.new b hb
    by_cases z : b = a
    · subst z
      exact ⟨h, ys, upd_same⟩
    · exact ⟨h, xs, by rw [upd_ne z]; exact e⟩
  · rcases get_set e with ⟨rfl, rfl⟩ | ⟨hne, e⟩
    · refine ⟨_, h1, a, ys, rfl, ha, upd_same, ?_⟩
      rw [eh]
      exact h2
    · obtain ⟨ov, g1, g2⟩ := r.rel j t e
      refine ⟨ov, g1, ?_⟩
      cases t with
      | non => cases ov <;> trivial
      | dat d =>
        cases ov with
        | none => exact g2
        | some v =>
          show Dp c.K (hid (c.M ++ A) (upd H a (.lst ys))) v d
          rw [eh]
          exact g2
      | own fs =>
        cases ov with
        | none => exact g2
        | some v =>
          obtain ⟨b, xs, q1, q2, q3, q4⟩ := g2
          refine ⟨b, xs, q1, q2, ?_, by rw [eh]; exact q4⟩
          rw [upd_ne (fun z => ?_)]
          · exact q3
          · subst z q1
            exact r.inj i j ds fs b hne h0 e h1 g1
      | ob C fs =>
        cases ov with
        | none => exact g2
        | some v =>
          show ObD c.K (hid (c.M ++ A) (upd H a (.lst ys))) v C fs
          rw [eh]
          exact g2
      | raw w =>
        cases ov with
        | none => exact g2
        | some v => exact g2
  · rcases get_set e1 with ⟨rfl, _⟩ | ⟨n1, e1⟩
    · rcases get_set e2 with ⟨z, _⟩ | ⟨n2, e2⟩
      · exact hjl z
      · exact r.inj i l ds gs b hjl h0 e2 e3 e4
    · rcases get_set e2 with ⟨rfl, _⟩ | ⟨n2, e2⟩
      · exact r.inj j i fs ds b hjl e1 h0 e3 e4
      · exact r.inj j l fs gs b hjl e1 e2 e3 e4
/-- an own list is plain data from now on -/
theorem SR.freeze (r : SR c A σ H ρ) {i : Nat} {ds : List PD} (h0 : ρ[i]? = some (.own ds)) : ∃ A', SR c A' σ H (ρ.set i (.dat (.list ds))) := by
  obtain ⟨ov, h1, h2⟩ := r.rel i _ h0
  cases ov with
  | none => exact h2.elim
  | some v =>
    obtain ⟨a, xs, rfl, ha, h3, h4⟩ := h2
    have sub : ∀ b ∈ c.M ++ A.filter (fun b => decide (b ≠ a)), b ∈ c.M ++ A := fun b hb => by
      rcases List.mem_append.mp hb with q | q
      · exact List.mem_append_left _ q
      · exact List.mem_append_right _ (List.mem_filter.mp q).1
    have sm : Same (hid (c.M ++ A) H) (hid (c.M ++ A.filter (fun b => decide (b ≠ a))) H) := hid_sub sub
    refine ⟨A.filter (fun b => decide (b ≠ a)), r.tab, r.keep, r.msk, fun b hb => r.new b (List.mem_filter.mp hb).1, by rw [List.length_set, r.len], fun j t e => ?_, fun j l fs gs b hjl e1 e2 e3 e4 => ?_⟩
    · rcases get_set e with ⟨rfl, rfl⟩ | ⟨hne, e⟩
      · refine ⟨_, h1, ?_⟩
        refine .lst (SqL.of (hid_of (fun q => ?_) h3)) (dps_same sm h4)
        rcases List.mem_append.mp q with q | q
        · exact (r.msk a q).2 (r.new a ha).1
        · exact absurd rfl (of_decide_eq_true (List.mem_filter.mp q).2)
      · obtain ⟨ov, g1, g2⟩ := r.rel j t e
        refine ⟨ov, g1, ?_⟩
        cases t with
        | non => cases ov <;> trivial
        | dat d =>
          cases ov with
          | none => exact g2
          | some v => exact dp_same sm g2
        | own fs =>
          cases ov with
          | none => exact g2
          | some v =>
            obtain ⟨b, ys, q1, q2, q3, q4⟩ := g2
            refine ⟨b, ys, q1, List.mem_filter.mpr ⟨q2, decide_eq_true fun z => ?_⟩, q3, dps_same sm q4⟩
            subst z q1
            exact r.inj i j ds fs b hne h0 e h1 g1
        | ob C fs =>
          cases ov with
          | none => exact g2
          | some v => exact ObD.same sm g2
        | raw w =>
          cases ov with
          | none => exact g2
          | some v => exact g2
    · rcases get_set e1 with ⟨_, z⟩ | ⟨n1, e1⟩
      · cases z
      · rcases get_set e2 with ⟨_, z⟩ | ⟨n2, e2⟩
        · cases z
        · exact r.inj j l fs gs b hjl e1 e2 e3 e4
/-! ### the ground moved up: what stands now stands -/
abbrev DC.up (c : DC) (A : List Addr) (H : Hp) : DC := ⟨c.K, c.T, c.M, hid A H⟩
theorem SR.ground (r : SR c A σ H ρ) : Keep c.T c.H0 (hid A H) := by
  refine ⟨fun b o e n => hid_of (fun m => ?_) (r.keep.at_ b o e n), fun P hP tb => ?_⟩
  · rw [(r.new b m).1] at e
    cases e
  · obtain ⟨ps, e, ok⟩ := r.keep.tab P hP tb
    exact ⟨ps, hid_of (fun m => r.nA m hP) e, ok⟩
theorem SR.up (r : SR c A σ H ρ) : SR (c.up A H) A σ H ρ := by
  refine ⟨tabs_hid r.tabs fun a h => r.nA h, .same hid_same, fun a h => ⟨(r.msk a h).1, fun z => ?_⟩, fun a h => ⟨?_, (r.new a h).2⟩, r.len, r.rel, r.inj⟩
  · cases e : H a with
    | none => exact (r.nM a (List.mem_append_left _ h)).2 e
    | some o =>
      have : hid A H a = some o := hid_of (fun m => (r.msk a h).2 (r.new a m).1) e
      rw [show (c.up A H).H0 = hid A H from rfl] at z
      rw [this] at z
      cases z
  · show hid A H a = none
    unfold hid
    rw [if_pos h]
theorem SR.down {A' : List Addr} {σ' : L2.St} {ρ' : DEnv} (r : SR c A σ H ρ) (r' : SR (c.up A H) A' σ' H' ρ') : SR c A' σ' H' ρ' :=
  ⟨r.tab, r.ground.trans r'.keep, r.msk, fun a h => ⟨r.ground.free r.tab (r'.new a h).1, (r'.new a h).2⟩, r'.len, r'.rel, r'.inj⟩
theorem Le.up {D : DEnds} {E : Ends} (L : Le c D E) (r : SR c A σ H ρ) : Le (c.up A H) D E :=
  ⟨fun A' σ' H' ρ' r' q => L.nx A' σ' H' ρ' (r.down r') q, fun v H' d k h q => L.rt v H' d (r.ground.trans k) h q, fun A' σ' H' ρ' r' q => L.bk A' σ' H' ρ' (r.down r') q, fun A' σ' H' ρ' r' q => L.ct A' σ' H' ρ' (r.down r') q⟩
end

/-! ### statements -/
section
variable {c : DC} {ρ : DEnv} {D : DEnds} {t u : TS} {te tk : TE} {d e : PD}
theorem sd_next (h : D.nx ρ) : SD c tNext D ρ := fun E L A σ H r => L.nx A σ H ρ r h
theorem sd_seq (h : SD c t { D with nx := fun ρ' => SD c u D ρ' } ρ) : SD c (tSeq t u) D ρ := fun E L A σ H r => h { E with nx := u E } ⟨fun A' σ' H' ρ' r' q => q E L A' σ' H' r', L.rt, L.bk, L.ct⟩ A σ H r
theorem sd_break (h : D.bk ρ) : SD c tBreak D ρ := fun E L A σ H r => L.bk A σ H ρ r h
theorem sd_cont (h : D.ct ρ) : SD c tCont D ρ := fun E L A σ H r => L.ct A σ H ρ r h
theorem sd_set {i : Nat} (h : ED c te ρ d) (k : D.nx (ρ.set i (.dat d))) : SD c (tAsg te (gName i)) D ρ := fun E L A σ H r => h A σ H r _ fun v H1 k1 h1 => L.nx _ _ _ _ ((r.move k1).setD i h1) k
theorem sd_setN {i : Nat} {ds : List PD} (h : EN c te ρ ds) (k : D.nx (ρ.set i (.own ds))) : SD c (tAsg te (gName i)) D ρ := fun E L A σ H r => h A σ H r _ fun p xs H1 k1 hp h1 h2 => L.nx _ _ _ _ (r.setN i k1 hp h1 h2) k
theorem sd_drop (h : ED c te ρ d) (k : D.nx ρ) : SD c (tDrop te) D ρ := fun E L A σ H r => h A σ H r _ fun v H1 k1 h1 => L.nx _ _ _ _ (r.move k1) k
theorem sd_ret (h : ED c te ρ d) (k : D.rt d) : SD c (tRet te) D ρ := fun E L A σ H r => h A σ H r _ fun v H1 k1 h1 => L.rt v H1 d (r.keep.trans k1) (dp_same (hid_sub fun a m => List.mem_append_left _ m) h1) k
theorem sd_retN (k : D.rt .none) : SD c tRetN D ρ := fun E L A σ H r => L.rt .non H .none r.keep .non k
theorem sd_if {tt : TT} {b : Bool} (h : ET c tt ρ b) (h1 : b = true → SD c t D ρ) (h2 : b = false → SD c u D ρ) : SD c (tIfS tt t u) D ρ := fun E L A σ H r => h A σ H r _ fun H1 k1 => by
  cases b with
  | true =>
    show t E σ H1
    exact h1 rfl E L A σ H1 (r.move k1)
  | false =>
    show u E σ H1
    exact h2 rfl E L A σ H1 (r.move k1)
theorem sd_freeze (i : Nat) {ds : List PD} (h : ρ[i]? = some (.own ds)) (k : SD c t D (ρ.set i (.dat (.list ds)))) : SD c t D ρ := fun E L A σ H r => by
  obtain ⟨A', r'⟩ := r.freeze h
  exact k E L A' σ H r'
theorem own_at {A : List Addr} {σ : L2.St} {H : Hp} (r : SR c A σ H ρ) {i : Nat} {ds : List PD} (h : ρ[i]? = some (.own ds)) : ∃ a xs, σ[i]? = some (some (.ref a)) ∧ a ∈ A ∧ H a = some (.lst xs) ∧ DpAll c.K (hid (c.M ++ A) H) xs ds := by
  obtain ⟨ov, h1, h2⟩ := r.rel i _ h
  cases ov with
  | none => exact h2.elim
  | some v =>
    obtain ⟨a, xs, rfl, q⟩ := h2
    exact ⟨a, xs, h1, q⟩
/-- xs.append(e) -/
theorem sd_app {i : Nat} {ds : List PD} (h0 : ρ[i]? = some (.own ds)) (h : ED c te ρ d) (hz : ds.length ≤ 1000) (k : D.nx (ρ.set i (.own (ds ++ [d])))) : SD c (tDrop (tBM c.K "list" rAppend (tVar i) (tCons te tNil))) D ρ := fun E L A σ H r => by
  obtain ⟨a, xs, h1, ha, h2, h3⟩ := own_at r h0
  refine ⟨_, h1, .inl ⟨rfl, _, SqL.of h2⟩, h A σ H r _ fun v H1 k1 g1 => ?_⟩
  have r1 := r.move k1
  have h4 := dps_keep (hid_keep k1) r.tabm h3
  exact ⟨a, xs, v, rfl, rfl, k1.at_ _ _ h2 (r.nA ha), by rw [dps_len h3]; exact small1000 hz, L.nx _ _ _ _ (r1.mut h0 h1 ha (dps_append h4 (.cons g1 .nil))) k⟩
/-- xs[i] = e -/
theorem sd_setL {i : Nat} {ds : List PD} {n : Int} {j : Nat} (h0 : ρ[i]? = some (.own ds)) (h : ED c te ρ d) (hk : ED c tk ρ (.int n)) (hj : ixN ds.length n = some j) (k : D.nx (ρ.set i (.own (ds.set j d)))) : SD c (tAsg te (gSub (tVar i) tk rSetL)) D ρ := fun E L A σ H r => h A σ H r _ fun v H1 k1 g1 => by
  obtain ⟨a, xs, h1, ha, h2, h3⟩ := own_at (r.move k1) h0
  refine ⟨_, h1, hk A σ H1 (r.move k1) _ fun w H2 k2 g2 => ?_⟩
  have r2 := (r.move k1).move k2
  have h4 := dps_keep (hid_keep k2) (r.move k1).tabm h3
  exact ⟨a, xs, n, j, rfl, dp_int g2, k2.at_ _ _ h2 (r.nA ha), by rw [dps_len h3]; exact hj, L.nx _ _ _ _ (r2.mut h0 h1 ha (dps_set j h4 (dp_keep (hid_keep k2) (r.move k1).tabm g1))) k⟩
/-- x op= e of ints -/
theorem sd_aug {i : Nat} {f : Int → Int → Int} {m n : Int} (h0 : ρ[i]? = some (.dat (.int m))) (h : ED c te ρ (.int n)) (k : D.nx (ρ.set i (.dat (.int (f m n))))) : SD c (tAug i te (ipI f)) D ρ := fun E L A σ H r => by
  obtain ⟨ov, h1, h2⟩ := r.rel i _ h0
  cases ov with
  | none => exact h2.elim
  | some v =>
    have e := dp_int h2
    subst e
    exact ⟨_, h1, h A σ H r _ fun w H1 k1 g1 => ⟨m, n, rfl, dp_int g1, L.nx _ _ _ _ ((r.move k1).setD i (.int _)) k⟩⟩
/-- a, b = e1, e2 -/
theorem sd_par {i j : Nat} {ta : TA} (h : EA c ta ρ [.dat d, .dat e]) (k : D.nx ((ρ.set i (.dat d)).set j (.dat e))) : SD c (tPar i j ta) D ρ := fun E L A σ H r => h A σ H r _ fun vs H1 k1 g1 => by
  cases g1 with
  | cons a1 g1 =>
    cases g1 with
    | cons a2 g1 =>
      cases g1
      exact ⟨_, _, rfl, L.nx _ _ _ _ (((r.move k1).setD i a1).setD j a2) k⟩
/-! targets: a name; a tuple of names -/
def setVs (σ : L2.St) : List Nat → List V → L2.St
  | j :: js, x :: xs => setVs (σ.set j (some x)) js xs
  | _, _ => σ
def setDs (ρ : DEnv) : List Nat → List PD → DEnv
  | j :: js, d :: ds => setDs (ρ.set j (.dat d)) js ds
  | _, _ => ρ
def gNs : List Nat → TGs
  | [] => gNil
  | j :: js => gCons (gName j) (gNs js)
theorem SR.setVs {A : List Addr} {H : Hp} : ∀ {js : List Nat} {xs : List V} {ds : List PD} {σ : L2.St} {ρ : DEnv}, SR c A σ H ρ → DpAll c.K (hid (c.M ++ A) H) xs ds → SR c A (setVs σ js xs) H (setDs ρ js ds)
  | [], _, _, _, _, r, _ => by
    unfold DL.setVs DL.setDs
    exact r
  | j :: js, _, _, _, _, r, .nil => r
  | j :: js, _, _, _, _, r, .cons a h => SR.setVs (js := js) (r.setD j a) h
theorem gNs_run : ∀ (js : List Nat) (xs : List V) (σ : L2.St) (H : Hp) (Q : L2.St → Hp → Prop), js.length = xs.length → Q (setVs σ js xs) H → gNs js xs σ H Q
  | [], [], σ, H, Q, _, q => ⟨rfl, q⟩
  | j :: js, x :: xs, σ, H, Q, hl, q => ⟨x, xs, rfl, gNs_run js xs (σ.set j (some x)) H Q (by simpa using hl) q⟩
/-- what a target does with an item: the slots js get its parts -/
structure TGd (c : DC) (g : TG) (js : List Nat) (d : PD) (ds : List PD) : Prop where
  run : ∀ A σ H ρ v, SR c A σ H ρ → Dp c.K (hid (c.M ++ A) H) v d → ∀ Q : L2.St → Hp → Prop, (∀ xs, DpAll c.K (hid (c.M ++ A) H) xs ds → js.length = xs.length → Q (setVs σ js xs) H) → g v σ H Q
theorem tg_name {j : Nat} : TGd c (gName j) [j] d [d] := ⟨fun A σ H ρ v r h Q q => q [v] (.cons h .nil) rfl⟩
theorem tg_tup {js : List Nat} {n : Nat} {ds : List PD} (hn : n = ds.length) (hl : js.length = ds.length) : TGd c (gTup c.K n (gNs js)) js (.tuple ds) ds := ⟨fun A σ H ρ v r h Q q => by
  obtain ⟨a, xs, rfl, h1, h2⟩ := dp_tup h
  have hx := dps_len h2
  exact ⟨a, xs, rfl, sqt_same hid_same h1, by omega, gNs_run js xs σ H Q (by omega) (q xs h2 (by omega))⟩⟩
/-- a, b = e -/
theorem sd_unp {js : List Nat} {n : Nat} {ds : List PD} (h : ED c te ρ (.tuple ds)) (hn : n = ds.length) (hl : js.length = ds.length) (k : D.nx (setDs ρ js ds)) : SD c (tAsg te (gTup c.K n (gNs js))) D ρ := fun E L A σ H r => h A σ H r _ fun v H1 k1 h1 =>
  (tg_tup (c := c) hn hl).run A σ H1 ρ v (r.move k1) h1 _ fun xs h2 _ => L.nx _ _ _ _ ((r.move k1).setVs h2) k
/-! ### walks -/
structure Wk (c : DC) (J : It) (ds : List PD) : Prop where
  go : ∀ i A σ H ρ, SR c A σ H ρ → i < ds.length → J.go i H
  yld : ∀ i A σ H ρ x H', SR c A σ H ρ → J.yld i H x H' → ∀ d, ds[i]? = some d → Keep c.T H H' ∧ Dp c.K (hid (c.M ++ A) H') x d
  stop : ∀ i A σ H ρ, SR c A σ H ρ → ds.length ≤ i → J.stop i H
def ID (c : DC) (wi : TI) (ρ : DEnv) (ds : List PD) : Prop := ∀ A σ H, SR c A σ H ρ → ∀ R : It → Hp → Prop, (∀ J H1, Keep c.T H H1 → Wk (c.up A H1) J ds → R J H1) → wi σ H R
theorem id_is {wi : TI} {ds es : List PD} (h : ID c wi ρ ds) (he : ds = es) : ID c wi ρ es := he ▸ h
/-- the loop: a word of the turn and the slots -/
theorem sd_for {wi : TI} {g : TG} {js : List Nat} {ds : List PD} {tb : TS} (hi : ID c wi ρ ds) (Inv : Nat → DEnv → Prop) (h0 : Inv 0 ρ)
    (hs : ∀ i d ρ' H0, ds[i]? = some d → Inv i ρ' → ∃ ps, TGd ⟨c.K, c.T, c.M, H0⟩ g js d ps ∧ SD ⟨c.K, c.T, c.M, H0⟩ tb { D with nx := Inv (i + 1), ct := Inv (i + 1), bk := D.nx } (setDs ρ' js ps))
    (hd : ∀ ρ', Inv ds.length ρ' → D.nx ρ') : SD c (tFor wi g tb) D ρ := fun E L A σ H r => hi A σ H r _ fun J H1 k1 W => by
  have r1 := r.move k1
  have L1 := L.up r1
  refine ⟨fun i m σ' H' => m = ds.length - i ∧ i ≤ ds.length ∧ ∃ A' ρ', SR (c.up A H1) A' σ' H' ρ' ∧ Inv i ρ', ⟨_, rfl, Nat.zero_le _, A, ρ, r1.up, h0⟩, ?_⟩
  rintro i m σ' H' ⟨rfl, hle, A', ρ', r', hv⟩
  by_cases hlt : i < ds.length
  · refine .inr ⟨W.go i A' σ' H' ρ' r' hlt, fun σ2 H2 => ∃ A2 ρ2, SR (c.up A H1) A2 σ2 H2 ρ2 ∧ Inv (i + 1) ρ2, fun σ2 H2 ⟨A2, ρ2, r2, q⟩ => ⟨_, by omega, rfl, hlt, A2, ρ2, r2, q⟩, fun x H2 y => ?_⟩
    have hdi : ds[i]? = some ds[i] := List.getElem?_eq_getElem hlt
    obtain ⟨ps, hg, hb⟩ := hs i ds[i] ρ' (hid A H1) hdi hv
    obtain ⟨k2, hx⟩ := W.yld i A' σ' H' ρ' x H2 r' y ds[i] hdi
    have r2 := r'.move k2
    refine hg.run A' σ' H2 ρ' x r2 hx _ fun xs h2 _ => ?_
    refine hb { E with nx := fun σ2 H2 => ∃ A2 ρ2, SR (c.up A H1) A2 σ2 H2 ρ2 ∧ Inv (i + 1) ρ2, ct := fun σ2 H2 => ∃ A2 ρ2, SR (c.up A H1) A2 σ2 H2 ρ2 ∧ Inv (i + 1) ρ2, bk := E.nx } ⟨fun A3 σ3 H3 ρ3 r3 q => ⟨A3, ρ3, r3, q⟩, L1.rt, fun A3 σ3 H3 ρ3 r3 q => L1.nx A3 σ3 H3 ρ3 r3 q, fun A3 σ3 H3 ρ3 r3 q => ⟨A3, ρ3, r3, q⟩⟩ A' _ H2 (r2.setVs h2)
  · have e : i = ds.length := by omega
    subst e
    exact .inl ⟨W.stop _ A' σ' H' ρ' r' (Nat.le_refl _), L1.nx A' σ' H' ρ' r' (hd ρ' hv)⟩
/-- while: a word and a measure -/
theorem sd_while {tt : TT} {tb : TS} (Inv : DEnv → Prop) (μ : DEnv → Nat) (h0 : Inv ρ)
    (hs : ∀ ρ' H0, Inv ρ' → ∃ b, ET ⟨c.K, c.T, c.M, H0⟩ tt ρ' b ∧ (b = true → SD ⟨c.K, c.T, c.M, H0⟩ tb { D with nx := fun ρ2 => Inv ρ2 ∧ μ ρ2 < μ ρ', ct := fun ρ2 => Inv ρ2 ∧ μ ρ2 < μ ρ', bk := D.nx } ρ') ∧ (b = false → D.nx ρ')) : SD c (tWhile tt tb) D ρ := fun E L A σ H r => by
  refine ⟨fun m σ' H' => ∃ A' ρ', SR c A' σ' H' ρ' ∧ Inv ρ' ∧ m = μ ρ', ⟨_, A, ρ, r, h0, rfl⟩, ?_⟩
  rintro m σ' H' ⟨A', ρ', r', hv, rfl⟩
  obtain ⟨b, hb, h1, h2⟩ := hs ρ' c.H0 hv
  refine hb A' σ' H' r' _ fun H1 k1 => ?_
  cases b with
  | true =>
    refine ⟨fun σ2 H2 => ∃ A2 ρ2, SR c A2 σ2 H2 ρ2 ∧ Inv ρ2 ∧ μ ρ2 < μ ρ', fun σ2 H2 ⟨A2, ρ2, r2, q1, q2⟩ => ⟨_, q2, A2, ρ2, r2, q1, rfl⟩, ?_⟩
    exact h1 rfl { E with nx := fun σ2 H2 => ∃ A2 ρ2, SR c A2 σ2 H2 ρ2 ∧ Inv ρ2 ∧ μ ρ2 < μ ρ', ct := fun σ2 H2 => ∃ A2 ρ2, SR c A2 σ2 H2 ρ2 ∧ Inv ρ2 ∧ μ ρ2 < μ ρ', bk := E.nx } ⟨fun A3 σ3 H3 ρ3 r3 q => ⟨A3, ρ3, r3, q⟩, L.rt, fun A3 σ3 H3 ρ3 r3 q => L.nx A3 σ3 H3 ρ3 r3 q, fun A3 σ3 H3 ρ3 r3 q => ⟨A3, ρ3, r3, q⟩⟩ A' σ' H1 (r'.move k1)
  | false => exact L.nx A' σ' H1 ρ' (r'.move k1) (h2 rfl)
/-! walks of data -/
theorem upk {c : DC} {A A' : List Addr} {σ σ' : L2.St} {H1 H' : Hp} {ρ ρ' : DEnv} (r : SR c A σ H1 ρ) (r' : SR (c.up A H1) A' σ' H' ρ') : Keep c.T (hid (c.M ++ A) H1) (hid (c.M ++ A') H') := by
  have ks : Keep c.T (hid A H1) H' := r'.keep
  refine ⟨fun b o e n => ?_, fun P hP tb => ?_⟩
  · obtain ⟨m, e⟩ := hid_inv e
    have e1 : hid A H1 b = some o := hid_of (fun q => m (List.mem_append_right _ q)) e
    refine hid_of (fun q => ?_) (ks.at_ b o e1 n)
    rcases List.mem_append.mp q with q | q
    · exact m (List.mem_append_left _ q)
    · have := (r'.new b q).1
      rw [show (c.up A H1).H0 = hid A H1 from rfl, e1] at this
      cases this
  · obtain ⟨ps, e, ok⟩ := tb
    obtain ⟨m, e⟩ := hid_inv e
    have e1 : hid A H1 P = some (.tbl ps) := hid_of (fun q => m (List.mem_append_right _ q)) e
    obtain ⟨ps', e', ok'⟩ := ks.tab P hP ⟨ps, e1, ok⟩
    exact ⟨ps', hid_of (fun q => (r'.nM P q).1 hP) e', ok'⟩
theorem id_list {tl : TE} {ds : List PD} (h : ED c tl ρ (.list ds)) : ID c (iList c.K tl) ρ ds := fun A σ H r R q => h A σ H r _ fun v H1 k1 h1 => by
  obtain ⟨a, xs, rfl, h2, h3⟩ := dp_list h1
  have r1 := r.move k1
  have base : ∀ A' σ' H' ρ', SR (c.up A H1) A' σ' H' ρ' → SqL c.K H' a xs ∧ DpAll c.K (hid (c.M ++ A') H') xs ds := fun A' σ' H' ρ' r' => by
    have km : Keep c.T (hid (c.M ++ A) H1) (hid (c.M ++ A') H') := upk r1 r'
    exact ⟨hid_same.seq (km.sqL r1.tabm h2), dps_keep km r1.tabm h3⟩
  refine ⟨a, rfl, ⟨xs, hid_same.seq h2⟩, q _ H1 k1 ⟨fun i A' σ' H' ρ' r' hi => ?_, fun i A' σ' H' ρ' x H2 r' y d hd => ?_, fun i A' σ' H' ρ' r' hi => ?_⟩⟩
  · obtain ⟨s1, s2⟩ := base A' σ' H' ρ' r'
    have hx : i < xs.length := by rw [dps_len s2]; exact hi
    exact ⟨xs, xs[i], s1, List.getElem?_eq_getElem hx⟩
  · obtain ⟨s1, s2⟩ := base A' σ' H' ρ' r'
    obtain ⟨rfl, y⟩ := y
    obtain ⟨w, e1, e2⟩ := dps_get s2 hd
    rw [y xs s1] at e1
    cases e1
    exact ⟨.refl, e2⟩
  · obtain ⟨s1, s2⟩ := base A' σ' H' ρ' r'
    exact ⟨xs, s1, by rw [dps_len s2]; exact hi⟩
theorem id_tup {tl : TE} {ds : List PD} (h : ED c tl ρ (.tuple ds)) : ID c (iTup c.K tl) ρ ds := fun A σ H r R q => h A σ H r _ fun v H1 k1 h1 => by
  obtain ⟨a, xs, rfl, h2, h3⟩ := dp_tup h1
  have r1 := r.move k1
  have base : ∀ A' σ' H' ρ', SR (c.up A H1) A' σ' H' ρ' → SqT c.K H' a xs ∧ DpAll c.K (hid (c.M ++ A') H') xs ds := fun A' σ' H' ρ' r' => by
    have km : Keep c.T (hid (c.M ++ A) H1) (hid (c.M ++ A') H') := upk r1 r'
    exact ⟨sqt_same hid_same (km.sqT r1.tabm h2), dps_keep km r1.tabm h3⟩
  refine ⟨a, rfl, ⟨xs, sqt_same hid_same h2⟩, q _ H1 k1 ⟨fun i A' σ' H' ρ' r' hi => ?_, fun i A' σ' H' ρ' x H2 r' y d hd => ?_, fun i A' σ' H' ρ' r' hi => ?_⟩⟩
  · obtain ⟨s1, s2⟩ := base A' σ' H' ρ' r'
    have hx : i < xs.length := by rw [dps_len s2]; exact hi
    exact ⟨xs, xs[i], s1, List.getElem?_eq_getElem hx⟩
  · obtain ⟨s1, s2⟩ := base A' σ' H' ρ' r'
    obtain ⟨rfl, y⟩ := y
    obtain ⟨w, e1, e2⟩ := dps_get s2 hd
    rw [y xs s1] at e1
    cases e1
    exact ⟨.refl, e2⟩
  · obtain ⟨s1, s2⟩ := base A' σ' H' ρ' r'
    exact ⟨xs, s1, by rw [dps_len s2]; exact hi⟩
end
end DL
/-! comprehensions, walks, conversions, defs over data -/
namespace DL
open PySem PySem.Spec PyProof.Rows L2 DA

/-! ### slots wiped -/
def wipeD (ρ : DEnv) : List Nat → DEnv
  | [] => ρ
  | v :: vs => (wipeD ρ vs).set v .non
theorem SR.wipe {c : DC} {A : List Addr} {σ : L2.St} {H : Hp} {ρ : DEnv} (r : SR c A σ H ρ) : ∀ vs : List Nat, SR c A (L2.wipe σ vs) H (wipeD ρ vs)
  | [] => r
  | v :: vs => SR.setX (SR.wipe r vs) v
theorem wipe_key {σ : L2.St} {j : Nat} {ov : Option V} : ∀ vs : List Nat, (L2.wipe (σ.set j ov) vs).set j none = (L2.wipe σ vs).set j none
  | [] => by show (σ.set j ov).set j none = σ.set j none; rw [List.set_set]
  | v :: vs => by
    show ((L2.wipe (σ.set j ov) vs).set v none).set j none = ((L2.wipe σ vs).set v none).set j none
    by_cases e : v = j
    · subst e
      rw [List.set_set, List.set_set]
      exact wipe_key vs
    · rw [List.set_comm _ _ e, List.set_comm _ _ e, wipe_key vs]
theorem wipe_set_in {σ : L2.St} {j : Nat} {ov : Option V} : ∀ {vs : List Nat}, j ∈ vs → L2.wipe (σ.set j ov) vs = L2.wipe σ vs
  | v :: vs, h => by
    show (L2.wipe (σ.set j ov) vs).set v none = (L2.wipe σ vs).set v none
    by_cases m : j ∈ vs
    · rw [wipe_set_in m]
    · have e : j = v := (List.mem_cons.mp h).resolve_right m
      subst e
      exact wipe_key vs
theorem wipe_wipe {σ : L2.St} : ∀ {us vs : List Nat}, (∀ u ∈ us, u ∈ vs) → L2.wipe (L2.wipe σ us) vs = L2.wipe σ vs
  | [], _, _ => rfl
  | u :: us, vs, h => by
    show L2.wipe ((L2.wipe σ us).set u none) vs = L2.wipe σ vs
    rw [wipe_set_in (h u List.mem_cons_self), wipe_wipe fun x hx => h x (List.mem_cons_of_mem _ hx)]
theorem wipe_setVs {vs : List Nat} : ∀ {js : List Nat} {xs : List V} {σ : L2.St}, (∀ j ∈ js, j ∈ vs) → L2.wipe (setVs σ js xs) vs = L2.wipe σ vs
  | [], _, _, _ => by unfold setVs; rfl
  | j :: js, [], _, _ => rfl
  | j :: js, x :: xs, σ, h => by
    show L2.wipe (setVs (σ.set j (some x)) js xs) vs = L2.wipe σ vs
    rw [wipe_setVs fun i hi => h i (List.mem_cons_of_mem _ hi), wipe_set_in (h j List.mem_cons_self)]
section
variable {c : DC} {A : List Addr} {σ : L2.St} {H H' : Hp} {ρ : DEnv}
/-- a hidden address that no slot knows changes -/
theorem SR.poke (r : SR c A σ H ρ) {a : Addr} {ys : List V} (ha : a ∈ A) (hn : ∀ (i : Nat) (ds : List PD), ρ[i]? = some (DS.own ds) → σ[i]? = some (some (V.ref a)) → False) : SR c A σ (upd H a (.lst ys)) ρ := by
  have n0 : c.H0 a = none := (r.new a ha).1
  have eh : hid (c.M ++ A) (upd H a (.lst ys)) = hid (c.M ++ A) H := hid_in (List.mem_append_right _ ha)
  refine ⟨r.tab, r.keep.own r.tab n0, r.msk, fun b hb => ?_, r.len, fun j t e => ?_, r.inj⟩
  · obtain ⟨h, xs, e⟩ := r.new b hb
    by_cases z : b = a
    · subst z
      exact ⟨h, ys, upd_same⟩
    · exact ⟨h, xs, by rw [upd_ne z]; exact e⟩
  · obtain ⟨ov, g1, g2⟩ := r.rel j t e
    refine ⟨ov, g1, ?_⟩
    cases t with
    | non => cases ov <;> trivial
    | dat d =>
      cases ov with
      | none => exact g2
      | some v =>
        show Dp c.K (hid (c.M ++ A) (upd H a (.lst ys))) v d
        rw [eh]
        exact g2
    | own fs =>
      cases ov with
      | none => exact g2
      | some v =>
        obtain ⟨b, xs, q1, q2, q3, q4⟩ := g2
        refine ⟨b, xs, q1, q2, ?_, by rw [eh]; exact q4⟩
        rw [upd_ne (fun z => ?_)]
        · exact q3
        · subst z q1
          exact hn j fs e g1
    | ob C fs =>
      cases ov with
      | none => exact g2
      | some v =>
        show ObD c.K (hid (c.M ++ A) (upd H a (.lst ys))) v C fs
        rw [eh]
        exact g2
    | raw w =>
      cases ov with
      | none => exact g2
      | some v => exact g2
end
section
variable {c : DC} {ρ : DEnv} {te : TE}
/-- [e for x in it if t] -/
theorem en_lc {wi : TI} {g : TG} {tt : TT} {vs js : List Nat} {ds : List PD} (b : PD → Bool) (f : PD → PD) (hi : ID c wi ρ ds) (hz : ds.length ≤ 1000) (hj : ∀ j ∈ js, j ∈ vs)
    (hs : ∀ d ∈ ds, ∀ H0, Keep c.T c.H0 H0 → ∃ ps, TGd ⟨c.K, c.T, c.M, H0⟩ g js d ps ∧ ET ⟨c.K, c.T, c.M, H0⟩ tt (setDs (wipeD ρ vs) js ps) (b d) ∧ (b d = true → ED ⟨c.K, c.T, c.M, H0⟩ te (setDs (wipeD ρ vs) js ps) (f d))) :
    EN c (tLc wi g tt te vs) ρ ((ds.filter b).map f) := fun A σ H r Q q => hi A σ H r _ fun J H1 k1 W Dl hD => by
  have r1 := r.move k1
  have nw : ∀ (i : Nat) (es : List PD), ρ[i]? = some (DS.own es) → σ[i]? = some (some (V.ref Dl)) → False := fun i es e1 e2 => by
    obtain ⟨ov, z1, z2⟩ := r1.rel i _ e1
    rw [e2] at z1
    cases z1
    obtain ⟨a, ys, z3, z4, z5, _⟩ := z2
    cases z3
    rw [hD] at z5
    cases z5
  refine ⟨fun i m H' => m = ds.length - i ∧ i ≤ ds.length ∧ Keep c.T H1 H' ∧ SR (c.up A H1) (Dl :: A) σ H' ρ ∧ ∃ xs, H' Dl = some (.lst xs) ∧ DpAll c.K (hid (c.M ++ Dl :: A) H') xs (((ds.take i).filter b).map f), ⟨_, rfl, Nat.zero_le _, .new hD, r1.up.grow (.new hD) hD upd_same, [], upd_same, .nil⟩, ?_⟩
  rintro i m H' ⟨rfl, hle, kk, r', xs, e1, e2⟩
  by_cases hlt : i < ds.length
  · have hdi : ds[i]? = some ds[i] := List.getElem?_eq_getElem hlt
    refine .inr ⟨W.go i _ σ H' ρ r' hlt, fun H2 => Keep c.T H1 H2 ∧ SR (c.up A H1) (Dl :: A) σ H2 ρ ∧ ∃ xs, H2 Dl = some (.lst xs) ∧ DpAll c.K (hid (c.M ++ Dl :: A) H2) xs (((ds.take (i + 1)).filter b).map f), fun H2 ⟨q1, q2, q3⟩ => ⟨_, by omega, rfl, hlt, q1, q2, q3⟩, fun x H2 y => ?_⟩
    obtain ⟨k2, hx⟩ := W.yld i _ σ H' ρ x H2 r' y ds[i] hdi
    obtain ⟨ps, hg, ht, he⟩ := hs ds[i] (List.getElem_mem hlt) (hid A H1) r1.ground
    have r2 := r'.move k2
    have rw2 := r2.wipe vs
    have etk : ds.take (i + 1) = ds.take i ++ [ds[i]] := by
      rw [List.take_succ, hdi]
      rfl
    refine hg.run _ _ H2 _ x rw2 hx _ fun zs h2 _ => ⟨by rw [wipe_setVs hj, wipe_wipe (fun _ h => h)], ?_⟩
    have r3 := rw2.setVs (js := js) h2
    refine ht _ _ H2 r3 _ fun H3 k3 => ?_
    have k13 := (kk.trans k2).trans k3
    have r4 := r2.move k3
    have nD : Dl ∉ c.T := r'.nA List.mem_cons_self
    have e3 : H3 Dl = some (.lst xs) := k3.at_ _ _ (k2.at_ _ _ e1 nD) nD
    have e4 : DpAll c.K (hid (c.M ++ Dl :: A) H3) xs (((ds.take i).filter b).map f) := dps_keep (hid_keep (k2.trans k3)) r'.tabm e2
    cases hb : b ds[i] with
    | false =>
      show Keep c.T H1 H3 ∧ SR (c.up A H1) (Dl :: A) σ H3 ρ ∧ ∃ xs, H3 Dl = some (.lst xs) ∧ DpAll c.K (hid (c.M ++ Dl :: A) H3) xs (((ds.take (i + 1)).filter b).map f)
      refine ⟨k13, r4, xs, e3, ?_⟩
      rw [etk, List.filter_append, List.filter_cons, if_neg (by rw [hb]; decide), List.filter_nil, List.append_nil]
      exact e4
    | true =>
      refine he hb _ _ H3 (r3.move k3) _ fun y H4 k4 h4 => ?_
      have r5 := r4.move k4
      have e5 : H4 Dl = some (.lst xs) := k4.at_ _ _ e3 nD
      have e6 : DpAll c.K (hid (c.M ++ Dl :: A) H4) xs (((ds.take i).filter b).map f) := dps_keep (hid_keep k4) r4.tabm e4
      have e7 : DpAll c.K (hid (c.M ++ Dl :: A) H4) (xs ++ [y]) (((ds.take (i + 1)).filter b).map f) := by
        rw [etk, List.filter_append, List.filter_cons, if_pos hb, List.filter_nil, List.map_append]
        exact dps_append e6 (.cons h4 .nil)
      have eh : hid (c.M ++ Dl :: A) (upd H4 Dl (.lst (xs ++ [y]))) = hid (c.M ++ Dl :: A) H4 := hid_in (List.mem_append_right _ List.mem_cons_self)
      refine ⟨xs, e5, ?_, (k13.trans k4).own r1.tabs hD, r5.poke List.mem_cons_self nw, _, upd_same, ?_⟩
      · have hl := dps_len e6
        have h1 : (((ds.take i).filter b).map f).length ≤ ds.length := by
          rw [List.length_map]
          exact Nat.le_trans (List.length_filter_le _ _) (by rw [List.length_take]; exact Nat.min_le_right _ _)
        exact small1000 (by omega)
      · rw [eh]
        exact e7
  · have e : i = ds.length := by omega
    subst e
    refine .inl ⟨W.stop _ _ σ H' ρ r' (Nat.le_refl _), q Dl xs H' (k1.trans kk) (k1.free r.tabs hD) e1 ?_⟩
    rw [List.take_length] at e2
    rw [hid_cong (N := c.M ++ Dl :: A) (fun a => by simp [or_left_comm])]
    exact e2
/-! ### ranges -/
def rngD (lo : Int) (n : Nat) : List PD := (List.range n).map fun (i : Nat) => PyData.int (lo + (i : Int))
theorem rngD_len (lo : Int) (n : Nat) : (rngD lo n).length = n := by unfold rngD; simp
theorem rngD_get {lo : Int} {n i : Nat} {d : PD} (h : (rngD lo n)[i]? = some d) : i < n ∧ d = .int (lo + (i : Int)) := by
  unfold rngD at h
  rw [List.getElem?_map] at h
  cases e : (List.range n)[i]? with
  | none => rw [e] at h; cases h
  | some j =>
    rw [e] at h
    obtain ⟨h1, h2⟩ := List.getElem?_eq_some_iff.mp e
    rw [List.length_range] at h1
    rw [List.getElem_range] at h2
    subst h2
    exact ⟨h1, (Option.some.inj h).symm⟩
theorem wk_rng {c : DC} {lo : Int} {n : Nat} : Wk c (Itr lo n) (rngD lo n) :=
  ⟨fun i A σ H ρ r h => by rw [rngD_len] at h; exact h, fun i A σ H ρ x H' r y d hd => by
    obtain ⟨rfl, rfl⟩ := y
    obtain ⟨_, rfl⟩ := rngD_get hd
    exact ⟨.refl, .int _⟩, fun i A σ H ρ r h => by rw [rngD_len] at h; exact h⟩
theorem args1 {K : PySem.W.Frag} {H : Hp} {vs : List V} {d : PD} (h : ArgsOk K H vs [.dat d]) : ∃ v, vs = [v] ∧ Dp K H v d := by
  cases h with
  | cons a r => cases r; exact ⟨_, rfl, a⟩
theorem args2 {K : PySem.W.Frag} {H : Hp} {vs : List V} {d e : PD} (h : ArgsOk K H vs [.dat d, .dat e]) : ∃ v w, vs = [v, w] ∧ Dp K H v d ∧ Dp K H w e := by
  cases h with
  | cons a r =>
    cases r with
    | cons b r => cases r; exact ⟨_, _, rfl, a, b⟩
theorem id_rng1 {ta : TA} {n : Int} (h : EA c ta ρ [.dat (.int n)]) (hl : -(2 ^ 62) ≤ n := by omega) (hz : n ≤ 100000 := by omega) : ID c (iRng1 ta) ρ (rngD 0 n.toNat) := fun A σ H r R q => h A σ H r _ fun vs H1 k1 h1 => by
  obtain ⟨v, rfl, h2⟩ := args1 h1
  exact ⟨n, by rw [dp_int h2], hl, by omega, q _ H1 k1 wk_rng⟩
theorem id_rng2 {ta : TA} {a n : Int} (h : EA c ta ρ [.dat (.int a), .dat (.int n)]) (ha : -100000 ≤ a ∧ a ≤ 100000) (hz : -100000 ≤ n ∧ n ≤ 100000) : ID c (iRng2 ta) ρ (rngD a (n - a).toNat) := fun A σ H r R q => h A σ H r _ fun vs H1 k1 h1 => by
  obtain ⟨v, w, rfl, h2, h3⟩ := args2 h1
  exact ⟨a, n, by rw [dp_int h2, dp_int h3], ⟨by omega, by omega, by omega, by omega⟩, q _ H1 k1 wk_rng⟩
/-! ### tuple(xs), list(xs), list(t) -/
theorem ed_tupleL {K : PySem.W.Frag} {ds : List PD} (hK : K = c.K) (h : EL c te ρ ds) : ED c (tCB (fun xs H Q => ∃ p ys, xs = [.ref p] ∧ ((SqL K H p ys ∧ ∀ l, H l = none → Q (.ref l) (upd H l (.tup ys))) ∨ (SqT K H p ys ∧ Q (.ref p) H))) (tCons te tNil)) ρ (.tuple ds) := fun A σ H r Q q => h A σ H r _ fun a xs H1 k1 h1 h2 => by
  subst hK
  refine ⟨a, xs, rfl, .inl ⟨h1, fun p hp => ?_⟩⟩
  have s := r.move k1
  have sm : Same (hid (c.M ++ A) H1) (hid (c.M ++ A) (upd H1 p (.tup xs))) := fun b o e => by
    obtain ⟨m, e⟩ := hid_inv e
    exact hid_of m (by rw [upd_ne (ne_of_none e hp)]; exact e)
  exact q _ _ (k1.trans (.new hp)) (.tup (SqT.of (hid_of (nfresh s hp) upd_same)) (dps_same sm h2))
def listR (K : PySem.W.Frag) : List V → Hp → VK → Prop := fun xs H Q => ∃ p ys, xs = [.ref p] ∧ (SqL K H p ys ∨ SqT K H p ys) ∧ ∀ l, H l = none → Q (.ref l) (upd H l (.lst ys))
theorem en_listL {ds : List PD} (h : EL c te ρ ds) : EN c (tCB (listR c.K) (tCons te tNil)) ρ ds := fun A σ H r Q q => h A σ H r _ fun a xs H1 k1 h1 h2 => ⟨a, xs, rfl, .inl h1, fun p hp => q p xs _ (k1.trans (.new hp)) (k1.free r.tabs hp) upd_same (by
  rw [hid_new hp]
  exact h2)⟩
theorem en_listT {ds : List PD} (h : ED c te ρ (.tuple ds)) : EN c (tCB (listR c.K) (tCons te tNil)) ρ ds := fun A σ H r Q q => h A σ H r _ fun v H1 k1 h1 => by
  obtain ⟨a, xs, rfl, h2, h3⟩ := dp_tup h1
  exact ⟨a, xs, rfl, .inr (sqt_same hid_same h2), fun p hp => q p xs _ (k1.trans (.new hp)) (k1.free r.tabs hp) upd_same (by
    rw [hid_new hp]
    exact h3)⟩
/-! ### max, min, abs of two -/
theorem ed_CB2 {r : List V → Hp → VK → Prop} {ta : TA} {x y d : PD} (h : EA c ta ρ [.dat x, .dat y]) (hr : ∀ H v w, ∀ K' H', Dp K' H' v x → Dp K' H' w y → ∀ Q : VK, (∀ z, (∀ K2 H2, Dp K2 H2 z d) → Q z H) → r [v, w] H Q) : ED c (tCB r ta) ρ d := fun A σ H s Q q => h A σ H s _ fun vs H1 k1 h1 => by
  obtain ⟨v, w, rfl, h2, h3⟩ := args2 h1
  exact hr H1 v w _ _ h2 h3 Q fun z hz => q z H1 k1 (hz _ _)
/-! ### a def over data -/
abbrev DR (d : PD) : DEnds := { nx := fun _ => d = .none, rt := fun e => e = d }
def startD (N : List Str) (ss : List DS) : DEnv := ss ++ List.replicate (N.length - ss.length) .non
theorem start_sr {K : PySem.W.Frag} {T M : List Addr} {H : Hp} {N : List Str} {vs : List V} {ss : List DS} (hm : ∀ a ∈ M, a ∉ T ∧ H a ≠ none) (ht : Tabs T H) (h : ArgsOk K (hid M H) vs ss) : SR ⟨K, T, M, H⟩ [] (L2.start N vs) H (startD N ss) := by
  have hl := h.len
  have rep : ∀ (n i : Nat) (s : DS), (List.replicate n DS.non)[i]? = some s → s = .non := fun n i s e => by
    rw [List.getElem?_replicate] at e
    split at e
    · exact (Option.some.inj e).symm
    · cases e
  have get : ∀ {vs : List V} {ss : List DS}, ArgsOk K (hid M H) vs ss → ∀ {i : Nat} {s : DS}, ss[i]? = some s → ∃ v, vs[i]? = some v ∧ ArgOk K (hid M H) v s := by
    intro vs ss h
    induction h with
    | nil => intro i s e; simp at e
    | cons a r ih =>
      intro i s e
      cases i with
      | zero => simp at e; subst e; exact ⟨_, rfl, a⟩
      | succ i =>
        obtain ⟨v, h1, h2⟩ := ih (i := i) (s := s) (by simpa using e)
        exact ⟨v, by simpa using h1, h2⟩
  have nown : ∀ (i : Nat) (es : List PD), (startD N ss)[i]? = some (DS.own es) → False := fun i es e => by
    unfold startD at e
    rw [List.getElem?_append] at e
    split at e
    · obtain ⟨v, _, h2⟩ := get h e
      exact h2
    · cases rep _ _ _ e
  refine ⟨ht, .refl, hm, fun a h => (by cases h), ?_, fun i s e => ?_, fun i j ds es a _ e1 => (nown i ds e1).elim⟩
  · unfold L2.start startD
    simp [hl]
  · unfold startD at e
    rw [List.getElem?_append] at e
    unfold L2.start
    split at e
    · next hi =>
      obtain ⟨v, h1, h2⟩ := get h e
      refine ⟨some v, ?_, ?_⟩
      · rw [List.getElem?_append, if_pos (by simp; omega), List.getElem?_map, h1]
        rfl
      · show SlotOk K (hid (M ++ []) H) H [] (some v) s
        rw [List.append_nil]
        cases s with
        | non => trivial
        | dat d => exact h2
        | ob C fs => exact h2
        | own es => exact h2.elim
        | raw w => exact h2
    · next hi =>
      have := rep _ _ _ e
      subst this
      have hlt : i - ss.length < N.length - ss.length := by
        have := (List.getElem?_eq_some_iff.mp e).1
        simpa using this
      refine ⟨none, ?_, trivial⟩
      rw [List.getElem?_append, if_neg (by simp; omega), List.getElem?_replicate, if_pos (by simp; omega)]
section
variable {P : Program} {w : World} {K : PySem.W.Frag} {mg : Str → Option Value} {base : Heap}
theorem fn_sd {T : List Addr} {x qual : Str} {st : Stmt} {f : Addr} {fd : FuncData} {N ps : List Str} {k : Nat} {R : List DS → PD → Prop} (F : Fun K x qual st f fd) (S : FnScope N ps (defScope st)) (hl : ∀ ss d, R ss d → ss.length = ps.length)
    (hb : ∀ (cdv : Value) (A : Around) (outer : List Env) (s : Shared) (H : Hp) (E : XK), Room k (A.deeper (envOfC qual (defScope st) s.heap.objs.size f cdv)) →
      ∃ t, PSs (cxOf CX0 P w K mg base N qual (defScope st) f cdv A outer s H E).nox (defBody st) t ∧ ∀ M H0 ss d, R ss d → SD ⟨K, T, M, H0⟩ t (DR d) (startD N ss)) : FnOk P w K mg base CX0 (k + 1) f fd ps (spD K T R) := by
  refine F.ok S (fun vs H Q E h => ?_) (fun cdv A outer s H vs Q E hr h => ?_)
  · obtain ⟨M, ss, d, _, _, h3, h4, _⟩ := h
    rw [h3.len]
    exact hl ss d h4
  · obtain ⟨M, ss, d, h1, h2, h3, h4, q⟩ := h
    obtain ⟨t, ht, hq⟩ := hb cdv A outer s H E hr
    refine ⟨t, ht, hq M H ss d h4 _ ⟨fun A' σ' H' ρ' r' e => ?_, fun v H' e k' h5 h6 => ?_, fun _ _ _ _ _ z => z.elim, fun _ _ _ _ _ z => z.elim⟩ [] _ H (start_sr h1 h2 h3)⟩
    · have e : d = .none := e
      subst e
      exact q .non H' .non r'.keep
    · have h6 : e = d := h6
      subst h6
      exact q v H' h5 k'
end
end
end DL
/-! enumerate over a tuple -/
namespace PySem
open Sem (wp)
theorem meets_enumerate_newB1 {v : Value} {o : Obj} {H : Heap → Prop} (B : Begins v o H) :
    Meets (Builtin.«enumerate.__new__» ⟨[.type "enumerate", v], []⟩) (fun _ R s => H s.heap ∧
      R (.ok (.ret (.ref (s.heap.push o).objs.size)))
        { s with heap := (s.heap.push o).push { cls := .type "enumerate", data := .fields #[.none, .bool false, .ref s.heap.objs.size, rawInt 0, .none, .none] } }) :=
  .of_wp fun prog w A R s h => by
    obtain ⟨hp, g, d, tk, os⟩ := s; obtain ⟨h1, h⟩ := h
    have hsub := sub_enumerate
    have q1 : ∀ {A' : Around} {E : Value → Shared → Prop} {Q : Value → Shared → Prop}, Q (.ref hp.objs.size) ⟨hp.push o, g, d, tk, os⟩ → wpAny (model prog w) A' (pyIter v) Q E ⟨hp, g, d, tk, os⟩ :=
      fun q => B.iter prog w _ _ ⟨hp, g, d, tk, os⟩ _ h1 q
    wp_walk using q1
    refine wpAny_stack_any fun st => wpAny_pure ?_
    split
    · rename_i c _ _ _ _ _
      cases (c == Value.type "enumerate")
      · wp_walk using q1
        exact ⟨_, rfl, h⟩
      · wp_walk using q1
        exact ⟨_, rfl, h⟩
    · wp_walk using q1
      exact ⟨_, rfl, h⟩
section
variable {prog : Program} {w : World} {A : Around} {E : Value → Shared → Prop} {s : Shared}
theorem enum_begins1 {v : Value} {o : Obj} {H : Heap → Prop} {Q : Value → Shared → Prop} (B : Begins v o H) (h1 : H s.heap)
    (h : ∀ h', IsEnum h' (s.heap.objs.size + 1) s.heap.objs.size 0 .none → h'.get? s.heap.objs.size = some o → h'.objs.size = s.heap.objs.size + 2 →
      (∀ b o, s.heap.get? b = some o → h'.get? b = some o) → Q (.ref (s.heap.objs.size + 1)) { s with heap := h' }) :
    wpAny (model prog w) A (call (.type "enumerate") [v]) Q E s := by
  refine callType_new F.called_enumerate (by decide) (F.typeCall_enumerate_1 _) (F.newCall_enumerate_1 _) (fun obj => F.args_object_init_2 obj _) F.entry_enumerate_new
    (meets_enumerate_newB1 B) ⟨h1, ?_⟩
  have hz : (s.heap.push o).objs.size = s.heap.objs.size + 1 := Heap.size_push ..
  show _ ∧ _
  rw [hz]
  have he : IsEnum ((s.heap.push o).push { cls := .type "enumerate", data := .fields #[.none, .bool false, .ref s.heap.objs.size, rawInt 0, .none, .none] }) (s.heap.objs.size + 1) s.heap.objs.size 0 .none := by
    have := Heap.get?_push_size (s.heap.push o) (o := { cls := .type "enumerate", data := .fields #[.none, .bool false, .ref s.heap.objs.size, rawInt 0, .none, .none] }) rfl
    rw [hz] at this; exact this
  refine ⟨⟨_, he, rfl⟩, h _ he (Heap.get?_push_of_some _ (Heap.get?_push_size _ B.free)) (by rw [Heap.size_push, hz]) fun b o x => Heap.get?_push_of_some _ (Heap.get?_push_of_some _ x)⟩
end
end PySem
namespace DL
open PySem PySem.Spec PyProof.Rows L2 DA
theorem enumT_end {prog : Program} {w : World} {A : Around} {E : Value → Shared → Prop} {s : Shared} {e it l : Addr} {i : Nat} {items : Array Value} {old : Value} {c : Int} {Q : Option Value → Shared → Prop} (hh : A.handled = none)
    (he : IsEnum s.heap e it c old) (hit : s.heap.IsTupleIter it l i) (hl : s.heap.IsTuple l items) (hx : items[i]? = none)
    (hQ : ∀ h', Heap.ExtBut it s.heap h' → Q none { s with heap := h' }) : wpAny (model prog w) A (pyNext (.ref e)) Q E s := by
  have hT : s.TypeIs (.ref e) "enumerate" := ⟨_, he, rfl⟩
  unfold pyNext
  refine wpAny_bind (wpAny_attempt (wpAny_callSpecial?_slot (name := Str.ofString "__next__") hT F.slot_enumerate_next
    (wpAny_call_entry F.slot_enumerate_next hT F.entry_enumerate_next ?_ (F.args_enumerate_next_1 _))))
  show wpAny _ _ (field (.ref e) 2 >>= _) _ _ _
  refine wpAny_bind (wpAny_field he rfl (x := .ref it) rfl ?_)
  refine wpAny_bind (wpAny_nextOf_tuple_end hh hit hl hx fun h' x he' hx' => ?_)
  obtain ⟨o, ho, hc⟩ := hx'
  refine wpAny_bind (wpAny_isInstance (T := "StopIteration") (b := true) ⟨o, ho, hc⟩ isSubtype_stop ?_)
  exact wpAny_pure (hQ _ he')
def IteT (K : PySem.W.Frag) (a : Addr) : It :=
  ⟨fun i H => ∃ (xs : List V) (x : V), SqT K H a xs ∧ xs[i]? = some x, fun i H v H' => ∃ T x, v = .ref T ∧ H T = none ∧ H' = upd H T (.tup [.int (i : Nat), x]) ∧ ∀ xs, SqT K H a xs → xs[i]? = some x, fun i H => ∃ xs : List V, SqT K H a xs ∧ xs.length ≤ i⟩
theorem turn_enumT {P : Program} {w : World} {K : PySem.W.Frag} {elts : List Expr} {kk : Nat} {tpos : Pos} (a e it : Addr) (its : List Value) (hit : it ≠ a) (hea : e ≠ a) :
    Turn P w K (.Tuple elts kk tpos) (IteT K a) [e, it] e (fun i h => (∃ old, IsEnum h e it ((i : Nat) : Int) old) ∧ h.IsTupleIter it a i ∧ e ≠ it) where
  mem := by simp
  obj := fun i h st b hb => by
    obtain ⟨⟨old, he⟩, ⟨o, ho, hc, hd⟩, _⟩ := st
    have e' : b = e ∨ b = it := by simpa using hb
    rcases e' with z | z
    · rw [z]; exact ⟨_, he, fun v q => nomatch q⟩
    · rw [z]; exact ⟨o, ho, fun v q => by rw [hd] at q; cases q⟩
  keep := fun i h h' st k => let ⟨⟨old, he⟩, hi, hne⟩ := st; ⟨⟨old, k e (by simp) _ he⟩, hi.at fun o q => k it (by simp) o q, hne⟩
  item := by
    intro X hP hw hK hc i pins s σ H E I hf st hg
    subst hP hw hK
    obtain ⟨⟨old, he⟩, hti, hne⟩ := st
    obtain ⟨xs, x, hq, hx⟩ := hg
    obtain ⟨us, rv, p, hz⟩ := I.tuple hq
    obtain ⟨u, hu, ru⟩ := rv.get hx
    have hel : e < s.heap.objs.size := Heap.lt_size he
    have hil : it < s.heap.objs.size := by obtain ⟨_, q, _⟩ := hti; exact Heap.lt_size q
    have hlt : i < us.toArray.size := by
      have := (List.getElem?_eq_some_iff.mp hu).1
      simpa using this
    refine wpAny_pyNext_enum_itemD (Draws.tuple (show X.A.in1.handled = none from I.ok.hd hc) it a (Ne.symm hit) us.toArray) he ⟨hti, show s.heap.IsTuple a us.toArray from p⟩ hlt hne (by simp [hne, hea]) fun y h' tk hy ho hst' hT hsz hk => ?_
    have ey : y = u := by
      have : us[i]? = some y := by simpa using hy
      rw [hu] at this
      exact (Option.some.inj this).symm
    subst ey
    refine ⟨_, rfl, wpAny_letOwnedTupleGo_enum (s := { s with heap := h', toks := tk + 1 }) ho fun h'' he' sb => ?_⟩
    have hT2 : h''.get? s.heap.objs.size = some { cls := .type "tuple", data := .seq #[.int i tk, y] } := (sb.2 _ (Nat.ne_of_gt hel)).trans hT
    have new : ObjOk X.prog X.w (upd H s.heap.objs.size (.tup [.int (i : Nat), x])) h'' s.heap.objs.size (.tup [.int (i : Nat), x]) :=
      ⟨by show 2 ≤ sizeLine; decide, [.int i tk, y], .cons ⟨_, rfl⟩ (.cons ru .nil), ⟨_, hT2, rfl, _, rfl⟩⟩
    have I1 : Inv X pins σ (upd H s.heap.objs.size (.tup [.int (i : Nat), x])) { s with heap := h'', toks := tk + 1 } :=
      I.turnedNew (ch := [e, it]) (fun b ob hb q => (sb.2 b (fun z => hb (by simp [z]))).trans (hk b ob (fun z => hb (by simp [z])) (fun z => hb (by simp [z])) q)) hf (Nat.le_refl _) new
    refine ⟨.ref s.heap.objs.size, _, I1, rfl, ⟨_, x, rfl, I.hok.fresh (Nat.le_refl _), rfl, fun ys hy => by rw [I.tuple_inj hy hq]; exact hx⟩, ⟨⟨y, ?_⟩, hst'.1.at fun o q => (sb.2 it (Ne.symm hne)).trans q, hne⟩, fun b hb => ?_⟩
    · have e1 : ((i + 1 : Nat) : Int) = (i : Int) + 1 := by omega
      rw [e1]; exact he'
    · have hb' : b < s.heap.objs.size := by
        have e' : b = e ∨ b = it := by simpa using hb
        rcases e' with z | z
        · rw [z]; exact hel
        · rw [z]; exact hil
      rw [upd_ne (Nat.ne_of_lt hb')]
      exact (hf b hb).1
  done := by
    intro X hP hw hK hc i pins s σ H E I hf st hg
    subst hP hw hK
    obtain ⟨⟨old, he⟩, hti, hne⟩ := st
    obtain ⟨xs, hq, hx⟩ := hg
    obtain ⟨us, rv, p, hz⟩ := I.tuple hq
    obtain ⟨f0, f1, f2, f3, f4, f5⟩ := hf it (by simp)
    have hl := rv.length
    -- the index has come to the end just at the length
    have hn : us.toArray[i]? = none := by simp; omega
    exact enumT_end (I.ok.hd hc) he hti (show s.heap.IsTuple a us.toArray from p) hn fun h' eb => ⟨rfl, I.turned (t' := s.toks) (fun b o hb q => eb b o hb q) f0 f1 f3 f4 f5⟩
  self := fun A i s Q E st h => let ⟨⟨_, he⟩, _⟩ := st; wpAny_pyIter_enum he h
def iEnumT (K : PySem.W.Frag) (ta : TA) : TI := fun σ H R => ta σ H fun vs H1 => ∃ a xs, vs = [.ref a] ∧ SqT K H1 a xs ∧ R (IteT K a) H1
theorem pi_enumT {X : Cx} {e : Expr} {ta : TA} {p pos tpos : Pos} {elts : List Expr} {kk : Nat} (hg : Gl X "enumerate") (hm : X.mg "enumerate" = none) (ha : PA X [e] ta) (hs : starEach [e] X.env = [(false, eval e X.env)] := by rfl) :
    PI X (.Tuple elts kk tpos) (.Call (.Name "enumerate" p) [e] [] pos) (iEnumT X.K ta) := by
  refine ⟨fun pins s σ H R I h => ?_⟩
  refine Call_ (ld_blt I hg hm boot_enumerate (PyProof.Rows.callWith_type1 (thn (ha.run pos pins s σ H _ I h) fun us s1 ⟨vs, H1, I1, r1, q1⟩ => ?_) hs rfl))
  obtain ⟨a, xs, ex, hq, q⟩ := q1
  subst ex
  cases r1 with
  | cons r rr =>
    cases rr
    cases r
    obtain ⟨its, rv, p', hz⟩ := I1.tuple hq
    have hta : s1.heap.IsTuple a its.toArray := p'
    have hal : a < s1.heap.objs.size := by obtain ⟨o, ho, _⟩ := hta; exact Heap.lt_size ho
    refine enum_begins1 (begins_tuple a its.toArray) hta fun h' he hit hsz hk => wpAny_pyIter_enum he ?_
    have I2 : Inv X pins σ H1 { s1 with heap := h' } := I1.kept (t' := s1.toks) hk
    refine ⟨s1.heap.objs.size + 1, [s1.heap.objs.size + 1, s1.heap.objs.size], _, _, H1, rfl, I2, turn_enumT a (s1.heap.objs.size + 1) s1.heap.objs.size its (Nat.ne_of_gt hal) (Nat.ne_of_gt (Nat.lt_succ_of_lt hal)), ⟨⟨.none, he⟩, ⟨_, hit, rfl, rfl⟩, Nat.succ_ne_self _⟩, fun b hb => ?_, q⟩
    have e' : b = s1.heap.objs.size + 1 ∨ b = s1.heap.objs.size := by simpa using hb
    have hle : s1.heap.objs.size ≤ b := by
      rcases e' with z | z
      · rw [z]; exact Nat.le_add_right _ _
      · rw [z]; exact Nat.le_refl _
    exact I1.fpOk hle (I1.hok.fresh hle)
/-! the data that they give -/
def enumD (ds : List PD) : List PD := ds.mapIdx fun i d => .tuple [.int (i : Int), d]
theorem enumD_len (ds : List PD) : (enumD ds).length = ds.length := by unfold enumD; simp
theorem enumD_get {ds : List PD} {i : Nat} {e : PD} (h : (enumD ds)[i]? = some e) : ∃ d, ds[i]? = some d ∧ e = .tuple [.int (i : Int), d] := by
  unfold enumD at h
  rw [List.getElem?_mapIdx] at h
  cases q : ds[i]? with
  | none => rw [q] at h; cases h
  | some d => rw [q] at h; exact ⟨d, rfl, (Option.some.inj h).symm⟩
section
variable {c : DC} {ρ : DEnv}
theorem new_item {A : List Addr} {σ : L2.St} {H : Hp} (r : SR c A σ H ρ) {T : Addr} {i : Nat} {x : V} {d : PD} (hT : H T = none) (h : Dp c.K (hid (c.M ++ A) H) x d) : Keep c.T H (upd H T (.tup [.int (i : Int), x])) ∧ Dp c.K (hid (c.M ++ A) (upd H T (.tup [.int (i : Int), x]))) (.ref T) (.tuple [.int (i : Int), d]) := by
  have sm : Same (hid (c.M ++ A) H) (hid (c.M ++ A) (upd H T (.tup [.int (i : Int), x]))) := fun b o e => by
    obtain ⟨m, e⟩ := hid_inv e
    exact hid_of m (by rw [upd_ne (ne_of_none e hT)]; exact e)
  exact ⟨.new hT, .tup (SqT.of (hid_of (nfresh r hT) upd_same)) (.cons (.int _) (.cons (dp_same sm h) .nil))⟩
theorem id_enumT {ta : TA} {ds : List PD} (h : EA c ta ρ [.dat (.tuple ds)]) : ID c (iEnumT c.K ta) ρ (enumD ds) := fun A σ H r R q => h A σ H r _ fun vs H1 k1 h1 => by
  obtain ⟨v, rfl, g1⟩ := args1 h1
  obtain ⟨a, xs, rfl, h2, h3⟩ := dp_tup g1
  have r1 := r.move k1
  have base : ∀ A' σ' H' ρ', SR (c.up A H1) A' σ' H' ρ' → SqT c.K H' a xs ∧ DpAll c.K (hid (c.M ++ A') H') xs ds := fun A' σ' H' ρ' r' => by
    have km : Keep c.T (hid (c.M ++ A) H1) (hid (c.M ++ A') H') := upk r1 r'
    exact ⟨sqt_same hid_same (km.sqT r1.tabm h2), dps_keep km r1.tabm h3⟩
  refine ⟨a, xs, rfl, sqt_same hid_same h2, q _ H1 k1 ⟨fun i A' σ' H' ρ' r' hi => ?_, fun i A' σ' H' ρ' x H2 r' y d hd => ?_, fun i A' σ' H' ρ' r' hi => ?_⟩⟩
  · obtain ⟨s1, s2⟩ := base A' σ' H' ρ' r'
    rw [enumD_len] at hi
    have hx : i < xs.length := by rw [dps_len s2]; exact hi
    exact ⟨xs, xs[i], s1, List.getElem?_eq_getElem hx⟩
  · obtain ⟨s1, s2⟩ := base A' σ' H' ρ' r'
    obtain ⟨T, y0, rfl, hT, rfl, y⟩ := y
    obtain ⟨d0, hd0, rfl⟩ := enumD_get hd
    obtain ⟨w, e1, e2⟩ := dps_get s2 hd0
    rw [y xs s1] at e1
    cases e1
    exact new_item (c := c.up A H1) r' hT e2
  · obtain ⟨s1, s2⟩ := base A' σ' H' ρ' r'
    rw [enumD_len] at hi
    exact ⟨xs, s1, by rw [dps_len s2]; exact hi⟩
theorem id_enumL {ta : TA} {ds : List PD} (h : EA c ta ρ [.dat (.list ds)]) : ID c (iEnum c.K ta) ρ (enumD ds) := fun A σ H r R q => h A σ H r _ fun vs H1 k1 h1 => by
  obtain ⟨v, rfl, g1⟩ := args1 h1
  obtain ⟨a, xs, rfl, h2, h3⟩ := dp_list g1
  have r1 := r.move k1
  have base : ∀ A' σ' H' ρ', SR (c.up A H1) A' σ' H' ρ' → SqL c.K H' a xs ∧ DpAll c.K (hid (c.M ++ A') H') xs ds := fun A' σ' H' ρ' r' => by
    have km : Keep c.T (hid (c.M ++ A) H1) (hid (c.M ++ A') H') := upk r1 r'
    exact ⟨hid_same.seq (km.sqL r1.tabm h2), dps_keep km r1.tabm h3⟩
  refine ⟨a, xs, rfl, hid_same.seq h2, q _ H1 k1 ⟨fun i A' σ' H' ρ' r' hi => ?_, fun i A' σ' H' ρ' x H2 r' y d hd => ?_, fun i A' σ' H' ρ' r' hi => ?_⟩⟩
  · obtain ⟨s1, s2⟩ := base A' σ' H' ρ' r'
    rw [enumD_len] at hi
    have hx : i < xs.length := by rw [dps_len s2]; exact hi
    exact ⟨xs, xs[i], s1, List.getElem?_eq_getElem hx⟩
  · obtain ⟨s1, s2⟩ := base A' σ' H' ρ' r'
    obtain ⟨T, y0, rfl, hT, rfl, y⟩ := y
    obtain ⟨d0, hd0, rfl⟩ := enumD_get hd
    obtain ⟨w, e1, e2⟩ := dps_get s2 hd0
    rw [y xs s1] at e1
    cases e1
    exact new_item (c := c.up A H1) r' hT e2
  · obtain ⟨s1, s2⟩ := base A' σ' H' ρ' r'
    rw [enumD_len] at hi
    exact ⟨xs, s1, by rw [dps_len s2]; exact hi⟩
end
theorem tg_tup2 {c : DC} {i j : Nat} {a b : PD} : TGd c (gTup c.K 2 (gCons (gName i) (gCons (gName j) gNil))) [i, j] (.tuple [a, b]) [a, b] := tg_tup (js := [i, j]) (n := 2) (ds := [a, b]) rfl rfl
theorem sd_unp2 {c : DC} {ρ : DEnv} {D : DEnds} {te : TE} {i j : Nat} {a b : PD} (h : ED c te ρ (.tuple [a, b])) (k : D.nx ((ρ.set i (.dat a)).set j (.dat b))) : SD c (tAsg te (gTup c.K 2 (gCons (gName i) (gCons (gName j) gNil)))) D ρ := sd_unp (js := [i, j]) (n := 2) (ds := [a, b]) h rfl rfl k
theorem sd_unp3 {c : DC} {ρ : DEnv} {D : DEnds} {te : TE} {i j l : Nat} {a b e : PD} (h : ED c te ρ (.tuple [a, b, e])) (k : D.nx (((ρ.set i (.dat a)).set j (.dat b)).set l (.dat e))) : SD c (tAsg te (gTup c.K 3 (gCons (gName i) (gCons (gName j) (gCons (gName l) gNil))))) D ρ := sd_unp (js := [i, j, l]) (n := 3) (ds := [a, b, e]) h rfl rfl k
theorem sd_unp4 {c : DC} {ρ : DEnv} {D : DEnds} {te : TE} {i j l m : Nat} {a b e f : PD} (h : ED c te ρ (.tuple [a, b, e, f])) (k : D.nx ((((ρ.set i (.dat a)).set j (.dat b)).set l (.dat e)).set m (.dat f))) : SD c (tAsg te (gTup c.K 4 (gCons (gName i) (gCons (gName j) (gCons (gName l) (gCons (gName m) gNil)))))) D ρ := sd_unp (js := [i, j, l, m]) (n := 4) (ds := [a, b, e, f]) h rfl rfl k
end DL
/-! t[::-1] and t * 1, t a tuple -/
namespace TR
open PySem PySem.Spec PyProof.Rows L2 HT DA
theorem adj_back (n : Nat) : Builtin.Slice.sliceAdjust none none (-1) (n : Int) = ((n : Int) - 1, -1) := rfl
theorem places_back (n : Nat) : Builtin.Slice.slicePlaces ((n : Int) - 1) (-1) (-1) = n := by
  unfold Builtin.Slice.slicePlaces
  rw [if_neg (by decide)]
  by_cases h : n = 0
  · subst h; rfl
  · rw [if_pos (by omega)]
    have : ((n : Int) - 1 - (-1) - 1) / (-(-1)) + 1 = n := by
      rw [Int.neg_neg, Int.ediv_one]; omega
    rw [this, Int.toNat_natCast]
theorem fm_some {α β : Type} {f : α → Option β} {g : α → β} : ∀ (l : List α), (∀ m ∈ l, f m = some (g m)) → l.filterMap f = l.map g
  | [], _ => rfl
  | a :: l, h => by
    rw [List.filterMap_cons_some (h a List.mem_cons_self), fm_some l fun m hm => h m (List.mem_cons_of_mem _ hm), List.map_cons]
theorem pick_back (xs : Array Value) : ((List.range xs.size).filterMap fun (m : Nat) => xs[(((xs.size : Nat) : Int) - 1 + (m : Int) * -1).toNat]?).toArray = xs.toList.reverse.toArray := by
  congr 1
  have e : (List.range xs.size).filterMap (fun (m : Nat) => xs[(((xs.size : Nat) : Int) - 1 + (m : Int) * -1).toNat]?) = (List.range xs.size).map fun m => xs.toList.reverse.getD m .none := by
    refine fm_some _ fun m hm => ?_
    have hm := List.mem_range.mp hm
    have e1 : (((xs.size : Nat) : Int) - 1 + (m : Int) * -1).toNat = xs.size - 1 - m := by omega
    have hl : m < xs.toList.reverse.length := by rw [List.length_reverse, Array.length_toList]; exact hm
    show xs[(((xs.size : Nat) : Int) - 1 + (m : Int) * -1).toNat]? = some (xs.toList.reverse.getD m .none)
    rw [e1, List.getD_eq_getElem?_getD, List.getElem?_eq_getElem hl, List.getElem_reverse]
    show _ = some _
    rw [Array.getElem?_eq_getElem (by omega)]
    simp
  rw [e]
  refine List.ext_getElem (by simp) fun i h1 h2 => ?_
  rw [List.getElem_map, List.getElem_range, List.getD_eq_getElem?_getD, List.getElem?_eq_getElem h2]
  rfl
section
variable {prog : Program} {w : World} {A : Around} {E : Value → Shared → Prop} {s : Shared}
theorem applied_back {sl : Addr} {v : Tok} {n : Nat} {Q : Int × Int × Nat → Shared → Prop} (hs : s.heap.IsSliceOf sl .none .none (.int (-1) v)) (h : Q ((n : Int) - 1, -1, n) s) :
    wpAny (model prog w) A (Builtin.Slice.sliceApplied (.ref sl) (pure (n : Int))) Q E s := by
  obtain ⟨os, hos, hcs, hds⟩ := id hs
  unfold Builtin.Slice.sliceApplied Builtin.Slice.sliceFields
  refine wpAny_bind (wpAny_bind (wpAny_field hos hds (x := .none) rfl
    (wpAny_bind (wpAny_field hos hds (x := .none) rfl (wpAny_bind (wpAny_field hos hds (x := .int (-1) v) rfl (wpAny_pure ?_)))))))
  refine wpAny_bind (slicePart_int ?_)
  show wpAny _ _ (if ((-1 : Int) == 0) = true then _ else _) _ _ s
  rw [if_neg (by decide)]
  refine wpAny_bind (slicePart_none (wpAny_bind (slicePart_none (wpAny_bind (wpAny_pure ?_)))))
  show wpAny _ _ (pure ((Builtin.Slice.sliceAdjust none none (-1) (n : Int)).1, (-1 : Int), Builtin.Slice.slicePlaces (Builtin.Slice.sliceAdjust none none (-1) (n : Int)).1 (Builtin.Slice.sliceAdjust none none (-1) (n : Int)).2 (-1))) _ _ s
  rw [adj_back]
  show wpAny _ _ (pure ((n : Int) - 1, (-1 : Int), Builtin.Slice.slicePlaces ((n : Int) - 1) (-1) (-1))) _ _ s
  rw [places_back]
  exact wpAny_pure h
theorem item_back {t sl : Addr} {items : Array Value} {v : Tok} {Q : Value → Shared → Prop} (ht : IsTup s.heap t items) (hs : s.heap.IsSliceOf sl .none .none (.int (-1) v))
    (h : Q (.ref s.heap.objs.size) { s with heap := s.heap.push { cls := .type "tuple", data := .seq items.toList.reverse.toArray } }) (hz : items.size ≤ sizeLine) : wpAny (model prog w) A (getItem (.ref t) (.ref sl)) Q E s := by
  have hk : sizeOk (.seq items.toList.reverse.toArray) := by
    show items.toList.reverse.toArray.size ≤ sizeLine
    simpa using hz
  obtain ⟨os, hos, hcs, hds⟩ := id hs
  have hTs : s.TypeIs (.ref sl) "slice" := ⟨os, hos, hcs⟩
  unfold getItem
  try with_reducible refine wpAny_holding ?_
  first | refine wpAny_bind (wpAny_pure ?_) | skip
  refine wpAny_bind (wpAny_sequenceKey ht.typeIs (by decide) ?_)
  refine wpAny_bind (wpAny_callSpecial?_slot (name := Str.ofString "__getitem__") ht.typeIs slot_tuple_getitem
    (wpAny_call_entry slot_tuple_getitem ht.typeIs entry_tuple_getitem ?_ (args_tuple_getitem _ _)))
  show wpAny _ _ (Builtin.Tuple.tupleItemsOf (.ref t) >>= _) _ _ s
  refine wpAny_bind (tupleItemsOf_ ht (wpAny_bind (wpAny_typeOf hTs ?_)))
  rw [if_pos (by decide)]
  refine wpAny_bind (applied_back hs ?_)
  show wpAny _ _ (if (((items.size : Nat) : Int) - 1 == 0 && (-1 : Int) == 1 && items.size == items.size) = true then _ else _) _ _ s
  rw [if_neg (by simp), pick_back]
  first
    | exact wpAny_bind (m := Builtin.Tuple.tupleExact _) (wpAny_newObj_type (wpAny_pure ⟨_, rfl, wpAny_pure h⟩) hk)
    | exact wpAny_bind (m := Builtin.Tuple.tupleExact _) (wpAny_newObj_type (wpAny_bind (wpAny_pure (wpAny_pure ⟨_, rfl, wpAny_pure h⟩))) hk)
    | exact wpAny_bind (wpAny_bind (m := Builtin.Tuple.tupleExact _) (wpAny_newObj_type (wpAny_pure (wpAny_pure ⟨_, rfl, wpAny_pure h⟩)) hk))
    | exact wpAny_bind (wpAny_bind (m := Builtin.Tuple.tupleExact _) (wpAny_newObj_type (wpAny_pure ⟨_, rfl, wpAny_pure h⟩) hk))
end
section
variable {X : Cx}
def tBack (K : PySem.W.Frag) (te : TE) (ts : TE) : TE := fun σ H Q => te σ H fun x H1 => ts σ H1 fun y H2 => y = .int (-1) ∧ ∃ a xs, x = .ref a ∧ SqT K H2 a xs ∧ ∀ p, H2 p = none → Q (.ref p) (upd H2 p (.tup xs.reverse))
theorem vals_rev : ∀ {xs : List V} {us : List Value}, Vals xs us → Vals xs.reverse us.reverse
  | _, _, .nil => .nil
  | _, _, .cons a r => by
    rw [List.reverse_cons, List.reverse_cons]
    exact (vals_rev r).append (.cons a .nil)
theorem pe_back {e st : Expr} {te ts : TE} {p2 pos : Pos} (he : PE X e te) (hs : PE X st ts) : PE X (.Subscript e (.Slice none none (some st) p2) pos) (tBack X.K te ts) := by
  refine ⟨fun pins s σ H Q I h => ?_⟩
  refine Subscript_ (thn (he.run pins s σ H _ I h) fun v s1 ⟨x, H1, I1, r1, q1⟩ => ?_)
  refine wpAny_Slice ?_
  rw [evalPart_none]
  refine wpAny_pure ?_
  refine wpAny_pure ?_
  show wpAny _ _ (eval st X.env) _ _ s1
  refine thn (hs.run pins s1 σ H1 _ I1 q1) fun u s2 ⟨y, H2, I2, r2, hy, a, xs, hx, hT, q⟩ => ?_
  subst hy
  subst hx
  obtain ⟨t, rfl⟩ := r2
  cases r1
  have I4 : Inv X pins σ H2 { s2 with heap := s2.heap.push { cls := .type "slice", data := .fields #[.none, .none, .int (-1) t] } } := I2.kept (t' := s2.toks) fun b ob q => Heap.get?_push_of_some _ q
  obtain ⟨its, r, ht, hz⟩ := I4.tuple hT
  show wpAny (model X.prog X.w) X.A (subscriptTail e (.Slice none none (some st) p2) (.ref a) (.ref s2.heap.objs.size)) (EP X pins σ Q) X.xe { s2 with heap := s2.heap.push { cls := .type "slice", data := .fields #[.none, .none, .int (-1) t] } }
  refine tail_any (ops := [.ref a, .ref s2.heap.objs.size]) ht.typeIs slot_tuple_getitem.lookup (item_back ht (Heap.IsSliceOf.new ..) ?_ (by rw [List.size_toArray, ← r.length]; exact hz)) (by with_unfolding_all rfl)
  refine ⟨.ref _, _, I4.laid (t' := s2.toks) (o := .tup xs.reverse) (fun b ob q => Heap.get?_push_of_some _ q) (Nat.le_refl _) ?_, rfl, q _ (I4.hok.fresh (Nat.le_refl _))⟩
  refine ⟨by rw [List.length_reverse]; exact hz, its.reverse, vals_rev r, ?_⟩
  have g := IsTup.new (({ s2 with heap := s2.heap.push { cls := .type "slice", data := .fields #[.none, .none, .int (-1) t] } } : Shared)).heap its.reverse.toArray
  simpa using g
end
theorem mul_one (l : Addr) (items : Array Value) (n : Nat) (dd : Option Addr) (sl : Array (Option Value)) (u : Tok) :
    Meets (Builtin.«tuple.__mul__» ⟨[.ref l, .int 1 u], []⟩) (fun _ R s => s.heap.get? l = some { cls := .type "tuple", dict := dd, data := .seq items n, slots := sl } ∧ R (.ok (.ret (Value.ref l))) s) :=
  .of_wp fun prog w A R s h => by
    obtain ⟨hp, g, d, tk, os⟩ := s
    obtain ⟨hl, h⟩ := h
    have f1 := AutoSeq1.idx_int
    have c0 : (decide ((1 : Int) < -(2 ^ 63)) || decide ((1 : Int) ≥ 2 ^ 63)) = false := by decide
    have c1 : (items.isEmpty || (1 : Int) == 1) = true := by rw [Bool.or_comm]; rfl
    wp_walk using wpAny_loadPart' hl
    repeat (first
      | (refine wpAny_ite_false (decide_eq_false (by rw [c0]; exact Bool.false_ne_true)) ?_; wp_walk using wpAny_loadPart' hl)
      | (refine wpAny_ite_true (decide_eq_true c1) ?_; wp_walk using wpAny_loadPart' hl))
    all_goals first | exact ⟨_, rfl, h⟩ | exact h | skip
section
variable {X : Cx}
def rRepA (K : PySem.W.Frag) : R2 := fun x y H Q => ∃ l k xs, x = .ref l ∧ y = .int k ∧ SqT K H l xs ∧ xs ≠ [] ∧ 1 ≤ k ∧ k ≤ 1000 ∧ xs.length ≤ 1000 ∧ (k = 1 → Q (.ref l) H) ∧ (2 ≤ k → ∀ p, H p = none → Q (.ref p) (upd H p (.tup (List.replicate k.toNat xs).flatten)))
theorem op_repA : OpR X (binaryOp .Mult) (rRepA X.K) := by
  intro pins s σ H x y v u Q I rx ry h
  obtain ⟨l, k, xs, rfl, rfl, hT, hne, h1, h2, hz, q1, q2⟩ := h
  by_cases hk : k = 1
  · subst hk
    cases rx
    obtain ⟨t, rfl⟩ := ry
    obtain ⟨its, r, ⟨⟨cls, dd, data, sl⟩, ho, hc, n, hd⟩, hs⟩ := I.tuple hT
    simp only at hc hd
    subst hc hd
    refine wpAny_binaryOp_repeat_ref (T := "tuple") (U := "int") (by decide) ⟨_, ho, rfl⟩ (fun s' => typeIs_int s' 1 t) noFill_tuple_mul
      F.fills_int_mul F.slot_int_rmul repeat_tuple F.slot_int_index.lookup
      (call_meets F.slot_int_rmul (typeIs_int s 1 t) F.entry_int_rmul (F.args_int_rmul_2 _ _) (int_rmul_tuple 1 t l its.toArray n dd sl) ⟨ho, rfl, ⟨_, ho, rfl⟩, ?_⟩)
    exact call_meets F.slot_tuple_mul ⟨_, ho, rfl⟩ F.entry_tuple_mul (F.args_tuple_mul_2 _ _) (mul_one l its.toArray n dd sl t) ⟨ho, ⟨.ref l, H, I, rfl, q1 rfl⟩⟩
  · exact op_repT pins s σ H _ _ v u Q I rx ry ⟨l, k, xs, rfl, rfl, hT, hne, by omega, h2, hz, q2 (by omega)⟩
end
section
variable {X : Cx}
theorem op_imp {f : Value → Value → Sem Value} {r r' : R2} (h : OpR X f r) (i : ∀ x y H Q, r' x y H Q → r x y H Q) : OpR X f r' := fun pins s σ H x y v u Q I rx ry q => h pins s σ H x y v u Q I rx ry (i x y H Q q)
theorem same_n {H : Hp} {p : Addr} {o : HO} (h : H p = none) : Same H (upd H p o) := fun b x e => by
  rw [upd_ne (ne_of_none e h)]; exact e
/-- t * k: the answer, wherever it stands -/
def rRepU (K : PySem.W.Frag) : R2 := fun x y H Q => ∃ l k xs, x = .ref l ∧ y = .int k ∧ SqT K H l xs ∧ xs ≠ [] ∧ 1 ≤ k ∧ k ≤ 1000 ∧ xs.length ≤ 1000 ∧ ∀ p H', SqT K H' p (List.replicate k.toNat xs).flatten → Same H H' → Q (.ref p) H'
theorem op_repU : OpR X (binaryOp .Mult) (rRepU X.K) := op_imp op_repA fun x y H Q ⟨l, k, xs, h1, h2, h3, h4, h5, h6, h7, q⟩ =>
  ⟨l, k, xs, h1, h2, h3, h4, h5, h6, h7, fun e => q l H (by rw [e]; simpa using h3) (Same.refl H), fun _ p np => q p _ (.of upd_same) (same_n np)⟩
/-- t + u, likewise -/
def rCatU (K : PySem.W.Frag) : R2 := fun x y H Q => ∃ a b xs ys, x = .ref a ∧ y = .ref b ∧ SqT K H a xs ∧ SqT K H b ys ∧ xs.length + ys.length ≤ sizeLine ∧ ∀ p H', SqT K H' p (xs ++ ys) → Same H H' → Q (.ref p) H'
theorem op_catU : OpR X (binaryOp .Add) (rCatU X.K) := op_imp op_catA fun x y H Q ⟨a, b, xs, ys, h1, h2, h3, h4, h5, q⟩ =>
  ⟨a, b, xs, ys, h1, h2, h3, h4, h5, fun e => q b H (by rw [e]; exact h4) (Same.refl H), fun _ e => q a H (by rw [e, List.append_nil]; exact h3) (Same.refl H), fun _ _ p np => q p _ (.of upd_same) (same_n np)⟩
end
end TR
namespace PT
open PySem PySem.Spec PyProof.Rows L2 DA DL TR
def top (i : Nat) : Stmt := PySem.Challenge.pw_processturns_k02_whole_queues.main.body.getD i (.Pass ⟨0, 0, 0, 0⟩)
/-- a def of the module, as it is called -/
structure Cal (P : Program) (w : World) (K : PySem.W.Frag) (mg : Str → Option Value) (base : Heap) (x : Str) (k : Nat) (ps : List Str) (sp : Sp) (f : Addr) (fd : FuncData) : Prop where
  g : mg x = some (.ref f)
  kp : PySem.W.keepIn K (.ref f) = true
  b : Binds K fd ps []
  ok : FnOk P w K mg base CX0 k f fd ps sp
/-- a method, as it is called -/
structure Met (P : Program) (w : World) (K : PySem.W.Frag) (mg : Str → Option Value) (base : Heap) (C : Addr) (x : Str) (k : Nat) (ps : List Str) (sp : Sp) (f : Addr) (fd : FuncData) : Prop where
  cl : Cls K C
  m : Meth K C x f
  b : Binds K fd ps []
  ok : FnOk P w K mg base CX0 k f fd ps sp
/-! ### posts -/
def intD (n : Nat) : PD := .int (n : Int)
def encN (ps : List Nat) : PD := .tuple (ps.map intD)
def encO : Option Nat → PD | none => .none | some n => .int (n : Int)
abbrev WORDS : PD := .tuple [.str "away", .str "ready", .str "waits", .str "waits", .str "ready", .str "ready"]
abbrev GONE : PD := .tuple [.str "ask", .str "leave"]
abbrev WAITS : PD := .tuple [.int 2, .int 3]
abbrev AGAIN : PD := .tuple [.int 4, .int 5]
/-- the module's names: built-ins that stand, constants -/
structure Glob (K : PySem.W.Frag) (mg : Str → Option Value) where
  isinstance : mg "isinstance" = none
  int : mg "int" = none
  bool : mg "bool" = none
  tuple : mg "tuple" = none
  list : mg "list" = none
  str : mg "str" = none
  len : mg "len" = none
  all : mg "all" = none
  any : mg "any" = none
  sorted : mg "sorted" = none
  range : mg "range" = none
  enumerate : mg "enumerate" = none
  sum : mg "sum" = none
  max : mg "max" = none
  min : mg "min" = none
  tAWAY : Tok
  AWAY : mg "AWAY" = some (.int 0 tAWAY)
  tREADY : Tok
  READY : mg "READY" = some (.int 1 tREADY)
  aWORDS : Addr
  WORDS : mg "WORDS" = some (.ref aWORDS)
  dWORDS : ∀ H, Dp K H (.ref aWORDS) PT.WORDS
  aGONE : Addr
  GONE : mg "GONE" = some (.ref aGONE)
  dGONE : ∀ H, Dp K H (.ref aGONE) PT.GONE
  aWAITS : Addr
  WAITS : mg "WAITS" = some (.ref aWAITS)
  dWAITS : ∀ H, Dp K H (.ref aWAITS) PT.WAITS
  aAGAIN : Addr
  AGAIN : mg "AGAIN" = some (.ref aAGAIN)
  dAGAIN : ∀ H, Dp K H (.ref aAGAIN) PT.AGAIN
theorem ed_glob {c : DC} {ρ : DEnv} {v : V} {d : PD} (h : ∀ H, Dp c.K H v d) : ED c (tC v) ρ d := fun A σ H r Q q => q v H .refl (h _)
abbrev tupR (K : PySem.W.Frag) : List V → Hp → VK → Prop := fun xs H Q => ∃ p ys, xs = [.ref p] ∧ ((SqL K H p ys ∧ ∀ l, H l = none → Q (.ref l) (upd H l (.tup ys))) ∨ (SqT K H p ys ∧ Q (.ref p) H))
def rdy (n : Nat) : Bool := n == 1 || n == 4 || n == 5
def R_is_ready : List DS → PD → Prop := fun ss d => ∃ n : Nat, n < 6 ∧ ss = [.dat (intD n)] ∧ d = .bool (rdy n)
def slotsOf (ps : List Nat) : List Nat := (List.range ps.length).filter fun i => rdy (ps.getD i 0)
def R_ready_slots : List DS → PD → Prop := fun ss d => ∃ ps : List Nat, (∀ n ∈ ps, n < 6) ∧ ps.length ≤ 100 ∧ ss = [.dat (encN ps)] ∧ d = .list ((slotsOf ps).map intD)
def R_with_item : List DS → PD → Prop := fun ss d => ∃ (xs : List PD) (i : Nat) (e : PD), i < xs.length ∧ xs.length ≤ 100 ∧ ss = [.dat (.tuple xs), .dat (intD i), .dat e] ∧ d = .tuple (xs.set i e)
def come (ps cs : List Nat) : List Nat := cs.foldl (fun p c => p.set c 1) ps
def R_with_comers : List DS → PD → Prop := fun ss d => ∃ ps cs : List Nat, (∀ c ∈ cs, c < ps.length) ∧ ps.length ≤ 100 ∧ ss = [.dat (encN ps), .dat (encN cs)] ∧ d = encN (come ps cs)
section
variable {P : Program} {w : World} {K : PySem.W.Frag} {mg : Str → Option Value} {base : Heap} {f : Addr} {fd : FuncData} {T : List Addr}
end
abbrev sReady : Stmt := top 19
abbrev nReady : List Str := ["post"]
theorem scReady : FnScope nReady ["post"] (defScope sReady) := ⟨rfl, rfl, rfl, by decide +kernel, rfl, by decide +kernel, by decide +kernel⟩
section
variable {P : Program} {w : World} {K : PySem.W.Frag} {mg : Str → Option Value} {base : Heap} {f : Addr} {fd : FuncData} {T : List Addr}
theorem ok_is_ready (F : Fun K "is_ready" "is_ready" sReady f fd) (G : Glob K mg)  : FnOk P w K mg base CX0 1 f fd ["post"] (spD K T R_is_ready) := by
  refine fn_sd F scReady (fun ss d h => ?_) (fun cdv A outer s H E hr => ⟨_, (pss_one (ps_ret (pe_cmpR op_eq (pe_ix ix_tup (pe_glob (v := .ref G.aWORDS) (by rfl) G.WORDS rfl) (pv 0) (fun _ _ => rfl)) pe_str (nomark _)))), fun M H0 ss d h => ?_⟩)
  · obtain ⟨n, hn, rfl, rfl⟩ := h
    rfl
  · obtain ⟨n, hn, rfl, rfl⟩ := h
    have key : ∃ x, atI [PyData.str "away", .str "ready", .str "waits", .str "waits", .str "ready", .str "ready"] ((n : Nat) : Int) = some (.str x) ∧ decide (V.str x = V.str "ready") = rdy n := by
      match n, hn with
      | 0, _ => exact ⟨"away", rfl, by decide +kernel⟩
      | 1, _ => exact ⟨"ready", rfl, by decide +kernel⟩
      | 2, _ => exact ⟨"waits", rfl, by decide +kernel⟩
      | 3, _ => exact ⟨"waits", rfl, by decide +kernel⟩
      | 4, _ => exact ⟨"ready", rfl, by decide +kernel⟩
      | 5, _ => exact ⟨"ready", rfl, by decide +kernel⟩
    obtain ⟨x, h1, h2⟩ := key
    exact sd_ret (ed_is (ed_eq (x := .str x) (ed_ixT (ed_glob G.dWORDS) (ed_var rfl) h1) ed_str rfl rfl rfl) (congrArg PyData.bool h2)) rfl
end
abbrev sRSlots : Stmt := top 20
abbrev nRSlots : List Str := ["posts", "slot", "post"]
theorem scRSlots : FnScope nRSlots ["posts"] (defScope sRSlots) := ⟨rfl, rfl, rfl, by decide +kernel, rfl, by decide +kernel, by decide +kernel⟩
section
variable {P : Program} {w : World} {K : PySem.W.Frag} {mg : Str → Option Value} {base : Heap} {f : Addr} {fd : FuncData} {T : List Addr}
theorem slots_eq (ps : List Nat) : ((enumD (ps.map intD)).filter fun d => match d with | .tuple [_, .int p] => rdy p.toNat | _ => false).map (fun d => match d with | .tuple [i, _] => i | _ => .none) = (slotsOf ps).map intD := by
  have e : enumD (ps.map intD) = (List.range ps.length).map fun i => PyData.tuple [intD i, intD (ps.getD i 0)] := by
    apply List.ext_getElem?
    intro i
    unfold enumD
    rw [List.getElem?_mapIdx, List.getElem?_map, List.getElem?_map]
    by_cases h : i < ps.length
    · rw [List.getElem?_eq_getElem h, List.getElem?_range h]
      show some (PyData.tuple [intD i, intD ps[i]]) = some (PyData.tuple [intD i, intD (ps.getD i 0)])
      rw [List.getD_eq_getElem?_getD, List.getElem?_eq_getElem h]
      rfl
    · rw [List.getElem?_eq_none (Nat.le_of_not_lt h), List.getElem?_eq_none (by rw [List.length_range]; omega)]
      rfl
  rw [e]
  unfold slotsOf
  rw [List.filter_map, List.map_map, List.map_congr_left]
  · rfl
  · intro i _
    rfl
theorem ok_ready_slots (F : Fun K "ready_slots" "ready_slots" sRSlots f fd) (G : Glob K mg) {fR : Addr} {dR : FuncData} (c_is_ready : Cal P w K mg base "is_ready" 1 ["post"] (spD K T R_is_ready) fR dR) : FnOk P w K mg base CX0 2 f fd ["posts"] (spD K T R_ready_slots) := by
  refine fn_sd F scRSlots (fun ss d h => ?_) (fun cdv A outer s H E hr => ⟨_, (pss_one (ps_ret (pe_lc (own := [("slot", 1), ("post", 2)]) (g := (gTup K 2 (gCons (gName 1) (gCons (gName 2) gNil)))) (tt := (tB (tCall (spD K T R_is_ready) [] E0 (tCons (tVar 2) tNil)))) (te := (tVar 1)) rfl scRSlots.nd (pi_enumT (by rfl) G.enumerate (pa_cons (pv 0) pa_nil)) (blkOk_by (N := nRSlots) (sc := defScope sRSlots) (by decide +kernel)) (fun _ _ _ _ _ => (pg_tup (by rfl) (pgs_cons (pg_name (i := 1) scRSlots.nd rfl (.inl rfl)) (pgs_cons (pg_name (i := 2) scRSlots.nd rfl (.inl rfl)) pgs_nil)))) (fun _ _ _ _ _ => (pts_one (pt_val (pe_call c_is_ready.ok (hr.mono (by decide)) (by rfl) c_is_ready.g c_is_ready.kp c_is_ready.b .nil pass0 (pa_cons (pv 2) pa_nil))))) (fun _ _ _ _ _ => (pv 1))))), fun M H0 ss d h => ?_⟩)
  · obtain ⟨ps, h1, h2, rfl, rfl⟩ := h
    rfl
  · obtain ⟨ps, h1, h2, rfl, rfl⟩ := h
    refine sd_ret (ed_en (en_is (en_lc (js := [1, 2]) (fun d => match d with | .tuple [_, .int p] => rdy p.toNat | _ => false) (fun d => match d with | .tuple [i, _] => i | _ => .none) (id_enumT (ea_d (ed_var rfl) ea_nil)) (by rw [enumD_len, List.length_map]; omega) (by decide) (fun d hd H0 _ => ?_)) ?_)) rfl
    · obtain ⟨i, hi⟩ := List.getElem?_of_mem hd
      obtain ⟨e, he, rfl⟩ := enumD_get hi
      rw [List.getElem?_map] at he
      cases hp : ps[i]? with
      | none => rw [hp] at he; cases he
      | some n =>
        rw [hp] at he
        cases he
        have hn := h1 n (List.mem_of_getElem? hp)
        exact ⟨[intD i, intD n], tg_tup2, et_B (ed_call (ea_d (ed_var rfl) ea_nil) ⟨n, hn, rfl, rfl⟩), fun _ => ed_var rfl⟩
    · exact slots_eq ps
end
abbrev sWItem : Stmt := top 21
abbrev nWItem : List Str := ["row", "place", "item"]
theorem scWItem : FnScope nWItem ["row", "place", "item"] (defScope sWItem) := ⟨rfl, rfl, rfl, by decide +kernel, rfl, by decide +kernel, by decide +kernel⟩
section
variable {P : Program} {w : World} {K : PySem.W.Frag} {mg : Str → Option Value} {base : Heap} {f : Addr} {fd : FuncData} {T : List Addr}
theorem cut_set {xs : List PD} {i : Nat} {e : PD} (h : i < xs.length) : cutPD xs none (some (i : Int)) ++ [e] ++ cutPD xs (some ((i : Int) + 1)) none = xs.set i e := by
  have e1 : HT.sIx xs.length xs.length (some (i : Int)) = i := (HT.sIx_nat _ _ _).trans (Nat.min_eq_left (by omega))
  have e2 : HT.sIx xs.length 0 (some ((i : Int) + 1)) = i + 1 := by
    have := (HT.sIx_nat xs.length 0 (i + 1)).trans (Nat.min_eq_left (by omega))
    rwa [show ((i + 1 : Nat) : Int) = (i : Int) + 1 from by omega] at this
  unfold cutPD
  rw [e1, e2, show HT.sIx xs.length 0 none = 0 from rfl, show HT.sIx xs.length xs.length none = xs.length from rfl]
  rw [List.set_eq_take_append_cons_drop, if_pos h, List.drop_zero, Nat.sub_zero, List.append_assoc]
  congr 1
  rw [List.singleton_append, List.take_of_length_le (by rw [List.length_drop]; exact Nat.le_refl _)]
theorem ok_with_item (F : Fun K "with_item" "with_item" sWItem f fd) (G : Glob K mg)  : FnOk P w K mg base CX0 1 f fd ["row", "place", "item"] (spD K T R_with_item) := by
  refine fn_sd F scWItem (fun ss d h => ?_) (fun cdv A outer s H E hr => ⟨_, (pss_one (ps_ret (pe_op op_catA (pe_op op_catA (pe_slice sl_tupA (pv 0) po_none (po_some (pv 1))) (pe_tup (pa_cons (pv 2) pa_nil))) (pe_slice sl_tupA (pv 0) (po_some (pe_op op_add (pv 1) pe_int)) po_none)))), fun M H0 ss d h => ?_⟩)
  · obtain ⟨xs, i, e, h1, h2, rfl, rfl⟩ := h
    rfl
  · obtain ⟨xs, i, e, h1, h2, rfl, rfl⟩ := h
    have l1 : (cutPD xs none (some (i : Int))).length ≤ xs.length := by
      unfold cutPD
      rw [List.length_take, List.length_drop]
      omega
    have l2 : (cutPD xs (some ((i : Int) + 1)) none).length ≤ xs.length := by
      unfold cutPD
      rw [List.length_take, List.length_drop]
      omega
    refine sd_ret (ed_is (ed_catT (ed_catT (ed_slT (ed_var rfl) eo_none (eo_some (ed_var rfl))) (ed_tup (ds := [e]) (ea_d (ed_var rfl) ea_nil) (by simp)) (by simp; omega)) (ed_slT (ed_var rfl) (eo_some (ed_I0 (g := fun a b => a + b) (ed_var rfl) ed_int)) eo_none) (by simp; omega)) ?_) rfl
    exact congrArg PyData.tuple (cut_set h1)
end
abbrev sWCom : Stmt := top 22
abbrev nWCom : List Str := ["posts", "comers", "slot"]
theorem scWCom : FnScope nWCom ["posts", "comers"] (defScope sWCom) := ⟨rfl, rfl, rfl, by decide +kernel, rfl, by decide +kernel, by decide +kernel⟩
section
variable {P : Program} {w : World} {K : PySem.W.Frag} {mg : Str → Option Value} {base : Heap} {f : Addr} {fd : FuncData} {T : List Addr}
theorem come_len : ∀ (cs : List Nat) (ps : List Nat), (come ps cs).length = ps.length
  | [], ps => rfl
  | c :: cs, ps => by
    show (come (ps.set c 1) cs).length = ps.length
    rw [come_len cs, List.length_set]
theorem ok_with_comers (F : Fun K "with_comers" "with_comers" sWCom f fd) (G : Glob K mg) {fW : Addr} {dW : FuncData} (c_with_item : Cal P w K mg base "with_item" 1 ["row", "place", "item"] (spD K T R_with_item) fW dW) : FnOk P w K mg base CX0 2 f fd ["posts", "comers"] (spD K T R_with_comers) := by
  refine fn_sd F scWCom (fun ss d h => ?_) (fun cdv A outer s H E hr => ⟨_, (pss_cons (ps_for PassesOwn.never rfl (pi_tup (pv 1)) (pg_name (i := 2) scWCom.nd rfl (.inl rfl)) (pss_one (ps_set (i := 0) scWCom.nd rfl (.inl rfl) (pe_call c_with_item.ok (hr.mono (by decide)) (by rfl) c_with_item.g c_with_item.kp c_with_item.b .nil pass0 (pa_cons (pv 0) (pa_cons (pv 2) (pa_cons (pe_glob (v := .int 1) (by rfl) G.READY ⟨_, rfl⟩) pa_nil)))))))
      (pss_one (ps_ret (pv 0)))), fun M H0 ss d h => ?_⟩)
  · obtain ⟨ps, cs, h1, h2, rfl, rfl⟩ := h
    rfl
  · obtain ⟨ps, cs, h1, h2, rfl, rfl⟩ := h
    refine sd_seq (sd_for (js := [2]) (id_tup (ed_var rfl)) (fun i ρ => i ≤ cs.length ∧ ∃ s, ρ = [.dat (encN (come ps (cs.take i))), .dat (encN cs), s]) ⟨Nat.zero_le _, .non, rfl⟩ (fun i d ρ' H1 hd hv => ?_) (fun ρ' hv => ?_))
    · obtain ⟨hi, s, rfl⟩ := hv
      rw [List.getElem?_map] at hd
      cases hc : cs[i]? with
      | none => rw [hc] at hd; cases hd
      | some n =>
        rw [hc] at hd
        cases hd
        have hl := (List.getElem?_eq_some_iff.mp hc).1
        have hn := h1 n (List.mem_of_getElem? hc)
        have hle : ∀ (cs : List Nat) (ps : List Nat), (come ps cs).length = ps.length := come_len
        refine ⟨_, tg_name, sd_set (ed_call (ea_d (ed_var rfl) (ea_d (ed_var rfl) (ea_d ed_int ea_nil))) ⟨(come ps (cs.take i)).map intD, n, intD 1, by rw [List.length_map, come_len]; exact hn, by rw [List.length_map, come_len]; exact h2, rfl, rfl⟩) ⟨hl, .dat (intD n), ?_⟩⟩
        show [DS.dat (.tuple (((come ps (cs.take i)).map intD).set n (intD 1))), .dat (encN cs), .dat (intD n)] = _
        rw [List.take_succ, hc]
        show _ = [DS.dat (encN (come ps (cs.take i ++ [n]))), _, _]
        unfold come
        rw [List.foldl_append]
        show _ = [DS.dat (.tuple (List.map intD ((come ps (cs.take i)).set n 1))), _, _]
        rw [List.map_set]
        rfl
    · obtain ⟨_, s, rfl⟩ := hv
      rw [List.length_map, List.take_length]
      exact sd_ret (ed_var rfl) rfl
end
end PT
namespace PT
open PySem PySem.Spec PyProof.Rows L2 DA DL TR

def encHs (hs : List (Option Nat)) : PD := .tuple (hs.map encO)
structure Res4 where
  ps : List Nat
  hs : List (Option Nat)
  word : Str
  woken : List Nat
def enc4 (r : Res4) : PD := .tuple [encN r.ps, encHs r.hs, .str r.word, encN r.woken]
def askM (ps : List Nat) (hs : List (Option Nat)) (who l : Nat) : Res4 := if hs.getD l none = none then ⟨ps.set who 1, hs.set l (some who), "take", []⟩ else ⟨ps.set who (2 + l), hs, "ask", []⟩
def wokenM (ps : List Nat) (l : Nat) : List Nat := (List.range ps.length).filter fun i => decide (ps.getD i 0 = 2 + l)
def setAll (ps cs : List Nat) (x : Nat) : List Nat := cs.foldl (fun p c => p.set c x) ps
def giveM (ps : List Nat) (hs : List (Option Nat)) (l : Nat) : Res4 := ⟨setAll ps (wokenM ps l) (4 + l), hs.set l none, "give", wokenM ps l⟩
def deedM (ps : List Nat) (hs : List (Option Nat)) (who : Nat) (kind : Str) (num : Nat) : Res4 :=
  if kind = "take" then askM ps hs who num else if kind = "give" then giveM ps hs num else if kind = "sleep" ∨ kind = "end" then ⟨ps.set who 0, hs, "leave", []⟩ else ⟨ps, hs, "work", []⟩
def R__after_asking : List DS → PD → Prop := fun ss d => ∃ (ps : List Nat) (hs : List (Option Nat)) (who l : Nat), ps.length ≤ 100 ∧ hs.length = 2 ∧ who < ps.length ∧ l < 2 ∧ ss = [.dat (encN ps), .dat (encHs hs), .dat (intD who), .dat (intD l)] ∧ d = enc4 (askM ps hs who l)
def R__after_giving : List DS → PD → Prop := fun ss d => ∃ (ps : List Nat) (hs : List (Option Nat)) (l : Nat), ps.length ≤ 100 ∧ hs.length = 2 ∧ l < 2 ∧ ss = [.dat (encN ps), .dat (encHs hs), .dat (intD l)] ∧ d = enc4 (giveM ps hs l)
def R_after_deed : List DS → PD → Prop := fun ss d => ∃ (ps : List Nat) (hs : List (Option Nat)) (who : Nat) (kind : Str) (num : Nat), ps.length ≤ 100 ∧ hs.length = 2 ∧ who < ps.length ∧ (kind = "take" ∨ kind = "give" → num < 2) ∧ ss = [.dat (encN ps), .dat (encHs hs), .dat (intD who), .dat (.tuple [.str kind, intD num])] ∧ d = enc4 (deedM ps hs who kind num)
theorem isNone_enc (o : Option Nat) : isNone (encO o) = decide (o = none) := by cases o <;> rfl
theorem set_encN (ps : List Nat) (i x : Nat) : (PyData.tuple ((ps.map intD).set i (intD x))) = encN (ps.set i x) := by
  unfold encN
  rw [List.map_set]
theorem set_encH (hs : List (Option Nat)) (i : Nat) (x : Option Nat) : (PyData.tuple ((hs.map encO).set i (encO x))) = encHs (hs.set i x) := by
  unfold encHs
  rw [List.map_set]
theorem atI_at {xs : List PD} {i : Nat} {d : PD} (h : xs[i]? = some d) : atI xs ((i : Nat) : Int) = some d := by
  unfold atI
  rw [show ixN xs.length ((i : Nat) : Int) = some i from by
    unfold ixN
    have := (List.getElem?_eq_some_iff.mp h).1
    rw [if_pos (by omega), if_pos (by omega)]
    simp]
  exact h
theorem atI_H {hs : List (Option Nat)} {l : Nat} (h : l < hs.length) : atI (hs.map encO) ((l : Nat) : Int) = some (encO (hs.getD l none)) := atI_at (by
  rw [List.getElem?_map, List.getElem?_eq_getElem h, List.getD_eq_getElem?_getD, List.getElem?_eq_getElem h]
  rfl)
theorem woken_eq (ps : List Nat) (l : Nat) : ((enumD (ps.map intD)).filter fun d => match d with | .tuple [_, .int p] => decide (p = 2 + (l : Int)) | _ => false).map (fun d => match d with | .tuple [i, _] => i | _ => .none) = (wokenM ps l).map intD := by
  have e : enumD (ps.map intD) = (List.range ps.length).map fun i => PyData.tuple [intD i, intD (ps.getD i 0)] := by
    apply List.ext_getElem?
    intro i
    unfold enumD
    rw [List.getElem?_mapIdx, List.getElem?_map, List.getElem?_map]
    by_cases h : i < ps.length
    · rw [List.getElem?_eq_getElem h, List.getElem?_range h]
      show some (PyData.tuple [intD i, intD ps[i]]) = some (PyData.tuple [intD i, intD (ps.getD i 0)])
      rw [List.getD_eq_getElem?_getD, List.getElem?_eq_getElem h]
      rfl
    · rw [List.getElem?_eq_none (Nat.le_of_not_lt h), List.getElem?_eq_none (by rw [List.length_range]; omega)]
      rfl
  rw [e]
  unfold wokenM
  rw [List.filter_map, List.map_map, List.map_congr_left (g := intD)]
  · congr 1
    apply List.filter_congr
    intro i _
    show decide (((ps.getD i 0 : Nat) : Int) = 2 + (l : Int)) = decide (ps.getD i 0 = 2 + l)
    exact decide_eq_decide.mpr (by omega)
  · intro i _
    rfl
theorem setAll_len (x : Nat) : ∀ (cs : List Nat) (ps : List Nat), (setAll ps cs x).length = ps.length
  | [], ps => rfl
  | c :: cs, ps => by
    show (setAll (ps.set c x) cs x).length = ps.length
    rw [setAll_len x cs, List.length_set]
theorem eqStr (a b : Str) : decide (V.str a = V.str b) = decide (a = b) := decide_eq_decide.mpr ⟨fun h => by cases h; rfl, fun h => by rw [h]⟩
theorem inStr2 (x a b : Str) : inV (.str x) [.str a, .str b] = decide (x = a ∨ x = b) := by
  simp only [inV, List.any_cons, List.any_nil, Bool.or_false, eqV]
  rw [Bool.eq_iff_iff, Bool.or_eq_true, beq_iff_eq, beq_iff_eq, decide_eq_true_iff]
  exact ⟨fun h => h.imp Eq.symm Eq.symm, fun h => h.imp Eq.symm Eq.symm⟩
theorem sd_when {c : DC} {ρ : DEnv} {D : DEnds} {tt : TT} {t : TS} {b : Bool} (h : ET c tt ρ b) (h1 : b = true → SD c t D ρ) (h2 : b = false → D.nx ρ) : SD c (tIfS tt t tNext) D ρ := sd_if h h1 fun e => sd_next (h2 e)
section
variable {P : Program} {w : World} {K : PySem.W.Frag} {mg : Str → Option Value} {base : Heap} {f : Addr} {fd : FuncData} {T : List Addr}
end
abbrev sAAsk : Stmt := top 24
abbrev nAAsk : List Str := ["posts", "holders", "who", "lock"]
theorem scAAsk : FnScope nAAsk ["posts", "holders", "who", "lock"] (defScope sAAsk) := ⟨rfl, rfl, rfl, by decide +kernel, rfl, by decide +kernel, by decide +kernel⟩
section
variable {P : Program} {w : World} {K : PySem.W.Frag} {mg : Str → Option Value} {base : Heap} {f : Addr} {fd : FuncData} {T : List Addr}
theorem ok__after_asking (F : Fun K "_after_asking" "_after_asking" sAAsk f fd) (G : Glob K mg) {fW : Addr} {dW : FuncData} (c_with_item : Cal P w K mg base "with_item" 1 ["row", "place", "item"] (spD K T R_with_item) fW dW) : FnOk P w K mg base CX0 2 f fd ["posts", "holders", "who", "lock"] (spD K T R__after_asking) := by
  refine fn_sd F scAAsk (fun ss d h => ?_) (fun cdv A outer s H E hr => ⟨_, (pss_cons (ps_if (pt_cmp (pc_isN (pe_ix ix_tup (pv 1) (pv 3) (fun _ _ => rfl)))) (pss_one (ps_ret (pe_tup (pa_cons (pe_call c_with_item.ok (hr.mono (by decide)) (by rfl) c_with_item.g c_with_item.kp c_with_item.b .nil pass0 (pa_cons (pv 0) (pa_cons (pv 2) (pa_cons (pe_glob (v := .int 1) (by rfl) G.READY ⟨_, rfl⟩) pa_nil)))) (pa_cons (pe_call c_with_item.ok (hr.mono (by decide)) (by rfl) c_with_item.g c_with_item.kp c_with_item.b .nil pass0 (pa_cons (pv 1) (pa_cons (pv 3) (pa_cons (pv 2) pa_nil)))) (pa_cons pe_str (pa_cons (pe_tup pa_nil) pa_nil))))))) pss_nil)
      (pss_one (ps_ret (pe_tup (pa_cons (pe_call c_with_item.ok (hr.mono (by decide)) (by rfl) c_with_item.g c_with_item.kp c_with_item.b .nil pass0 (pa_cons (pv 0) (pa_cons (pv 2) (pa_cons (pe_ix ix_tup (pe_glob (v := .ref G.aWAITS) (by rfl) G.WAITS rfl) (pv 3) (fun _ _ => rfl)) pa_nil)))) (pa_cons (pv 1) (pa_cons pe_str (pa_cons (pe_tup pa_nil) pa_nil)))))))), fun M H0 ss d h => ?_⟩)
  · obtain ⟨ps, hs, who, l, h1, h2, h3, h4, rfl, rfl⟩ := h
    rfl
  · obtain ⟨ps, hs, who, l, h1, h2, h3, h4, rfl, rfl⟩ := h
    have wi : ∀ (xs : List PD) (i : Nat) (e d : PD), i < xs.length → xs.length ≤ 100 → d = .tuple (xs.set i e) → R_with_item [.dat (.tuple xs), .dat (intD i), .dat e] d := fun xs i e d a b q => ⟨xs, i, e, a, b, rfl, q⟩
    refine sd_seq (sd_when (et_B (ed_isN (ed_ixT (ed_var rfl) (ed_var rfl) (atI_H (by rw [h2]; exact h4))))) (fun hb => ?_) (fun hb => ?_))
    · rw [isNone_enc] at hb
      have hb := of_decide_eq_true hb
      refine sd_ret (ed_tup (ds := [_, _, _, _]) (ea_d (ed_call (ea_d (ed_var rfl) (ea_d (ed_var rfl) (ea_d ed_int ea_nil))) (wi _ _ (intD 1) _ (by rw [List.length_map]; exact h3) (by rw [List.length_map]; exact h1) rfl)) (ea_d (ed_call (ea_d (ed_var rfl) (ea_d (ed_var rfl) (ea_d (ed_var rfl) ea_nil))) (wi _ _ (encO (some who)) _ (by rw [List.length_map, h2]; exact h4) (by rw [List.length_map, h2]; omega) rfl)) (ea_d ed_str (ea_d (ed_tup (ds := []) ea_nil (by decide)) ea_nil)))) (by simp)) ?_
      show PyData.tuple _ = enc4 (askM ps hs who l)
      unfold askM
      rw [if_pos hb, set_encN, set_encH]
      rfl
    · rw [isNone_enc] at hb
      have hb := of_decide_eq_false hb
      refine sd_ret (ed_tup (ds := [_, _, _, _]) (ea_d (ed_call (ea_d (ed_var rfl) (ea_d (ed_var rfl) (ea_d (ed_ixT (d := intD (2 + l)) (ed_glob G.dWAITS) (ed_var rfl) (atI_at ?_)) ea_nil))) (wi _ _ _ _ (by rw [List.length_map]; exact h3) (by rw [List.length_map]; exact h1) rfl)) (ea_d (ed_var rfl) (ea_d ed_str (ea_d (ed_tup (ds := []) ea_nil (by decide)) ea_nil)))) (by simp)) ?_
      · match l, h4 with
        | 0, _ => rfl
        | 1, _ => rfl
      · show PyData.tuple _ = enc4 (askM ps hs who l)
        unfold askM
        rw [if_neg hb, set_encN]
        rfl
end
abbrev sAGive : Stmt := top 25
abbrev nAGive : List Str := ["posts", "holders", "lock", "woken", "slot", "post"]
theorem scAGive : FnScope nAGive ["posts", "holders", "lock"] (defScope sAGive) := ⟨rfl, rfl, rfl, by decide +kernel, rfl, by decide +kernel, by decide +kernel⟩
section
variable {P : Program} {w : World} {K : PySem.W.Frag} {mg : Str → Option Value} {base : Heap} {f : Addr} {fd : FuncData} {T : List Addr}
theorem ok__after_giving (F : Fun K "_after_giving" "_after_giving" sAGive f fd) (G : Glob K mg) {fW : Addr} {dW : FuncData} (c_with_item : Cal P w K mg base "with_item" 1 ["row", "place", "item"] (spD K T R_with_item) fW dW) : FnOk P w K mg base CX0 2 f fd ["posts", "holders", "lock"] (spD K T R__after_giving) := by
  refine fn_sd F scAGive (fun ss d h => ?_) (fun cdv A outer s H E hr => ⟨_, (pss_cons (ps_set (i := 3) scAGive.nd rfl (.inl rfl) (pe_callTy call_tuple_of (by rfl) G.tuple (by decide +kernel) (pa_cons (pe_lc (own := [("slot", 4), ("post", 5)]) (g := (gTup K 2 (gCons (gName 4) (gCons (gName 5) gNil)))) (tt := (tTest (tOp rEq (tVar 5) (tOp (rIxT K) (tC (.ref G.aWAITS)) (tVar 2))))) (te := (tVar 4)) rfl scAGive.nd (pi_enumT (by rfl) G.enumerate (pa_cons (pv 0) pa_nil)) (blkOk_by (N := nAGive) (sc := defScope sAGive) (by decide +kernel)) (fun _ _ _ _ _ => (pg_tup (by rfl) (pgs_cons (pg_name (i := 4) scAGive.nd rfl (.inl rfl)) (pgs_cons (pg_name (i := 5) scAGive.nd rfl (.inl rfl)) pgs_nil)))) (fun _ _ _ _ _ => (pts_one (pt_cmpR op_eq (pv 5) (pe_ix ix_tup (pe_glob (v := .ref G.aWAITS) (by rfl) G.WAITS rfl) (pv 2) (fun _ _ => rfl)) (nomark _)))) (fun _ _ _ _ _ => (pv 4))) pa_nil)))
      (pss_cons (ps_for PassesOwn.never rfl (pi_tup (pv 3)) (pg_name (i := 4) scAGive.nd rfl (.inl rfl)) (pss_one (ps_set (i := 0) scAGive.nd rfl (.inl rfl) (pe_call c_with_item.ok (hr.mono (by decide)) (by rfl) c_with_item.g c_with_item.kp c_with_item.b .nil pass0 (pa_cons (pv 0) (pa_cons (pv 4) (pa_cons (pe_ix ix_tup (pe_glob (v := .ref G.aAGAIN) (by rfl) G.AGAIN rfl) (pv 2) (fun _ _ => rfl)) pa_nil)))))))
      (pss_one (ps_ret (pe_tup (pa_cons (pv 0) (pa_cons (pe_call c_with_item.ok (hr.mono (by decide)) (by rfl) c_with_item.g c_with_item.kp c_with_item.b .nil pass0 (pa_cons (pv 1) (pa_cons (pv 2) (pa_cons pe_non pa_nil)))) (pa_cons pe_str (pa_cons (pv 3) pa_nil))))))))), fun M H0 ss d h => ?_⟩)
  · obtain ⟨ps, hs, l, h1, h2, h4, rfl, rfl⟩ := h
    rfl
  · obtain ⟨ps, hs, l, h1, h2, h4, rfl, rfl⟩ := h
    have wi : ∀ (xs : List PD) (i : Nat) (e d : PD), i < xs.length → xs.length ≤ 100 → d = .tuple (xs.set i e) → R_with_item [.dat (.tuple xs), .dat (intD i), .dat e] d := fun xs i e d a b q => ⟨xs, i, e, a, b, rfl, q⟩
    have wat : ∀ H, Dp K H (.ref G.aWAITS) WAITS := G.dWAITS
    have w1 : ([PyData.int 2, .int 3] : List PD)[l]? = some (.int (2 + (l : Int))) := by
      match l, h4 with
      | 0, _ => rfl
      | 1, _ => rfl
    have w2 : ([PyData.int 4, .int 5] : List PD)[l]? = some (intD (4 + l)) := by
      match l, h4 with
      | 0, _ => rfl
      | 1, _ => rfl
    refine sd_seq (sd_set (d := encN (wokenM ps l)) (ed_tupleL rfl (el_is (en_el (en_lc (js := [4, 5]) (fun d => match d with | .tuple [_, .int p] => decide (p = 2 + (l : Int)) | _ => false) (fun d => match d with | .tuple [i, _] => i | _ => .none) (id_enumT (ea_d (ed_var rfl) ea_nil)) (by rw [enumD_len, List.length_map]; omega) (by decide) (fun d hd H0 _ => ?_))) (woken_eq ps l))) ?_)
    · obtain ⟨i, hi⟩ := List.getElem?_of_mem hd
      obtain ⟨e, he, rfl⟩ := enumD_get hi
      rw [List.getElem?_map] at he
      cases hp : ps[i]? with
      | none => rw [hp] at he; cases he
      | some n =>
        rw [hp] at he
        cases he
        refine ⟨[intD i, intD n], tg_tup2, et_is (et_test (ed_eq (x := intD n) (y := .int (2 + (l : Int))) (ed_var rfl) (ed_ixT (ed_glob wat) (ed_var rfl) (atI_at w1)) rfl rfl rfl)) ?_, fun _ => ed_var rfl⟩
        show decide (V.int (n : Int) = V.int (2 + (l : Int))) = decide ((n : Int) = 2 + (l : Int))
        exact decide_eq_decide.mpr ⟨fun h => by cases h; rfl, fun h => by rw [h]⟩
    · have wl : ∀ n ∈ wokenM ps l, n < ps.length := fun n hn => List.mem_range.mp (List.mem_filter.mp hn).1
      refine sd_seq (sd_for (js := [4]) (id_tup (ds := (wokenM ps l).map intD) (ed_var rfl)) (fun i ρ => i ≤ (wokenM ps l).length ∧ ∃ s4 s5, ρ = [.dat (encN (setAll ps ((wokenM ps l).take i) (4 + l))), .dat (encHs hs), .dat (intD l), .dat (encN (wokenM ps l)), s4, s5]) ⟨Nat.zero_le _, _, _, rfl⟩ (fun i d ρ' H1 hd hv => ?_) (fun ρ' hv => ?_))
      · obtain ⟨hi, s4, s5, rfl⟩ := hv
        rw [List.getElem?_map] at hd
        cases hc : (wokenM ps l)[i]? with
        | none => rw [hc] at hd; cases hd
        | some n =>
          rw [hc] at hd
          cases hd
          have hl := (List.getElem?_eq_some_iff.mp hc).1
          have hn := wl n (List.mem_of_getElem? hc)
          refine ⟨_, tg_name, sd_set (ed_call (ea_d (ed_var rfl) (ea_d (ed_var rfl) (ea_d (ed_ixT (d := intD (4 + l)) (ed_glob G.dAGAIN) (ed_var rfl) (atI_at w2)) ea_nil))) (wi _ _ _ _ (by rw [List.length_map, setAll_len]; exact hn) (by rw [List.length_map, setAll_len]; exact h1) rfl)) ⟨hl, .dat (intD n), s5, ?_⟩⟩
          show [DS.dat (.tuple (((setAll ps ((wokenM ps l).take i) (4 + l)).map intD).set n (intD (4 + l)))), _, _, _, _, _] = _
          rw [List.take_succ, hc, set_encN]
          unfold setAll
          rw [List.foldl_append]
          rfl
      · obtain ⟨_, s4, s5, rfl⟩ := hv
        rw [List.length_map, List.take_length]
        refine sd_ret (ed_tup (ds := [_, _, _, _]) (ea_d (ed_var rfl) (ea_d (ed_call (ea_d (ed_var rfl) (ea_d (ed_var rfl) (ea_d ed_non ea_nil))) (wi _ _ (encO none) _ (by rw [List.length_map, h2]; exact h4) (by rw [List.length_map, h2]; omega) rfl)) (ea_d ed_str (ea_d (ed_var rfl) ea_nil)))) (by simp)) ?_
        show PyData.tuple _ = enc4 (giveM ps hs l)
        rw [set_encH]
        rfl
end
abbrev sADeed : Stmt := top 23
abbrev nADeed : List Str := ["posts", "holders", "who", "deed", "kind", "number"]
theorem scADeed : FnScope nADeed ["posts", "holders", "who", "deed"] (defScope sADeed) := ⟨rfl, rfl, rfl, by decide +kernel, rfl, by decide +kernel, by decide +kernel⟩
section
variable {P : Program} {w : World} {K : PySem.W.Frag} {mg : Str → Option Value} {base : Heap} {f : Addr} {fd : FuncData} {T : List Addr}
theorem ok_after_deed (F : Fun K "after_deed" "after_deed" sADeed f fd) (G : Glob K mg) {fW : Addr} {dW : FuncData} (c_with_item : Cal P w K mg base "with_item" 1 ["row", "place", "item"] (spD K T R_with_item) fW dW) {fA fG : Addr} {dA dG : FuncData} (c__after_asking : Cal P w K mg base "_after_asking" 2 ["posts", "holders", "who", "lock"] (spD K T R__after_asking) fA dA) (c__after_giving : Cal P w K mg base "_after_giving" 2 ["posts", "holders", "lock"] (spD K T R__after_giving) fG dG) : FnOk P w K mg base CX0 3 f fd ["posts", "holders", "who", "deed"] (spD K T R_after_deed) := by
  refine fn_sd F scADeed (fun ss d h => ?_) (fun cdv A outer s H E hr => ⟨_, (pss_cons (ps_asg (pv 3) (pg_tup (by rfl) (pgs_cons (pg_name (i := 4) scADeed.nd rfl (.inl rfl)) (pgs_cons (pg_name (i := 5) scADeed.nd rfl (.inl rfl)) pgs_nil))))
      (pss_cons (ps_if (pt_cmpR op_eq (pv 4) pe_str (nomark _)) (pss_one (ps_ret (pe_call c__after_asking.ok (hr.mono (by decide)) (by rfl) c__after_asking.g c__after_asking.kp c__after_asking.b .nil pass0 (pa_cons (pv 0) (pa_cons (pv 1) (pa_cons (pv 2) (pa_cons (pv 5) pa_nil))))))) pss_nil)
      (pss_cons (ps_if (pt_cmpR op_eq (pv 4) pe_str (nomark _)) (pss_one (ps_ret (pe_call c__after_giving.ok (hr.mono (by decide)) (by rfl) c__after_giving.g c__after_giving.kp c__after_giving.b .nil pass0 (pa_cons (pv 0) (pa_cons (pv 1) (pa_cons (pv 5) pa_nil)))))) pss_nil)
      (pss_cons (ps_if (pt_cmpR op_in_seq (pv 4) (pe_tup (pa_cons pe_str (pa_cons pe_str pa_nil))) (by rfl)) (pss_one (ps_ret (pe_tup (pa_cons (pe_call c_with_item.ok (hr.mono (by decide)) (by rfl) c_with_item.g c_with_item.kp c_with_item.b .nil pass0 (pa_cons (pv 0) (pa_cons (pv 2) (pa_cons (pe_glob (v := .int 0) (by rfl) G.AWAY ⟨_, rfl⟩) pa_nil)))) (pa_cons (pv 1) (pa_cons pe_str (pa_cons (pe_tup pa_nil) pa_nil))))))) pss_nil)
      (pss_one (ps_ret (pe_tup (pa_cons (pv 0) (pa_cons (pv 1) (pa_cons pe_str (pa_cons (pe_tup pa_nil) pa_nil))))))))))), fun M H0 ss d h => ?_⟩)
  · obtain ⟨ps, hs, who, kind, num, h1, h2, h3, h4, rfl, rfl⟩ := h
    rfl
  · obtain ⟨ps, hs, who, kind, num, h1, h2, h3, h4, rfl, rfl⟩ := h
    have k1 : ∀ x : Str, ET ⟨K, T, M, H0⟩ (tTest (tOp rEq (tVar 4) (tC (.str x)))) [.dat (encN ps), .dat (encHs hs), .dat (intD who), .dat (.tuple [.str kind, intD num]), .dat (.str kind), .dat (intD num)] (decide (kind = x)) := fun x => et_is (et_test (ed_eq (x := .str kind) (y := .str x) (ed_var rfl) ed_str rfl rfl rfl)) (eqStr kind x)
    refine sd_seq (sd_unp2 (ed_var rfl) ?_)
    refine sd_seq (sd_when (k1 "take") (fun hb => ?_) (fun hb => ?_))
    · have hb := of_decide_eq_true hb
      refine sd_ret (ed_call (ea_d (ed_var rfl) (ea_d (ed_var rfl) (ea_d (ed_var rfl) (ea_d (ed_var rfl) ea_nil)))) ⟨ps, hs, who, num, h1, h2, h3, h4 (.inl hb), rfl, rfl⟩) ?_
      show _ = _
      unfold deedM
      rw [if_pos hb]
    have n1 := of_decide_eq_false hb
    refine sd_seq (sd_when (k1 "give") (fun hb => ?_) (fun hb => ?_))
    · have hb := of_decide_eq_true hb
      refine sd_ret (ed_call (ea_d (ed_var rfl) (ea_d (ed_var rfl) (ea_d (ed_var rfl) ea_nil))) ⟨ps, hs, num, h1, h2, h4 (.inr hb), rfl, rfl⟩) ?_
      show _ = _
      unfold deedM
      rw [if_neg n1, if_pos hb]
    have n2 := of_decide_eq_false hb
    refine sd_seq (sd_when (et_is (et_test (ed_inT (neg := false) (x := .str kind) (ys := [.str "sleep", .str "end"]) (ed_var rfl) (ed_tup (ds := [.str "sleep", .str "end"]) (ea_d ed_str (ea_d ed_str ea_nil)) (by decide)) rfl rfl)) (inStr2 kind "sleep" "end")) (fun hb => ?_) (fun hb => ?_))
    · have hb := of_decide_eq_true hb
      refine sd_ret (ed_tup (ds := [_, _, _, _]) (ea_d (ed_call (ea_d (ed_var rfl) (ea_d (ed_var rfl) (ea_d ed_int ea_nil))) ⟨ps.map intD, who, intD 0, by rw [List.length_map]; exact h3, by rw [List.length_map]; exact h1, rfl, rfl⟩) (ea_d (ed_var rfl) (ea_d ed_str (ea_d (ed_tup (ds := []) ea_nil (by decide)) ea_nil)))) (by simp)) ?_
      show PyData.tuple _ = _
      unfold deedM
      rw [if_neg n1, if_neg n2, if_pos hb, set_encN]
      rfl
    · have n3 := of_decide_eq_false hb
      refine sd_ret (ed_tup (ds := [_, _, _, _]) (ea_d (ed_var rfl) (ea_d (ed_var rfl) (ea_d ed_str (ea_d (ed_tup (ds := []) ea_nil (by decide)) ea_nil)))) (by simp)) ?_
      show PyData.tuple _ = _
      unfold deedM
      rw [if_neg n1, if_neg n2, if_neg n3]
      rfl
end
end PT
namespace PT
open PySem PySem.Spec PyProof.Rows L2 DA DL TR

/-- how a chooser chooses -/
structure Chs (μ : Type) where
  enc : μ → PD
  fresh : μ
  joined : μ → List Nat → μ
  pick : μ → List Nat → List (Option Nat) → Option Nat
  settled : μ → Option Nat → Str → List Nat → μ
  okJ : μ → List Nat → Prop
  okP : μ → List Nat → List (Option Nat) → Prop
  okS : μ → Option Nat → Str → List Nat → Prop
section
variable {μ : Type} (S : Chs μ) (C : Addr) (fs : List (Str × PD))
def RF : List DS → PD → Prop := fun ss d => ss = [.ob C fs] ∧ d = S.enc S.fresh
def RJ : List DS → PD → Prop := fun ss d => ∃ m cs, S.okJ m cs ∧ ss = [.ob C fs, .dat (S.enc m), .dat (encN cs)] ∧ d = S.enc (S.joined m cs)
def RP : List DS → PD → Prop := fun ss d => ∃ m ps hs, S.okP m ps hs ∧ ss = [.ob C fs, .dat (S.enc m), .dat (encN ps), .dat (encHs hs)] ∧ d = encO (S.pick m ps hs)
def RS : List DS → PD → Prop := fun ss d => ∃ m who word woken, S.okS m who word woken ∧ ss = [.ob C fs, .dat (S.enc m), .dat (encO who), .dat (.str word), .dat (encN woken)] ∧ d = S.enc (S.settled m who word woken)
end
def goneB (x : Str) : Bool := decide (x = "ask" ∨ x = "leave")
def qSem (z : Int) : Chs (List Nat) where
  enc := encN
  fresh := []
  joined := fun m cs => m ++ cs
  pick := fun m _ _ => if z = 0 then m.head? else m.getLast?
  settled := fun m who word woken => (if goneB word = true then m.filter (fun s => decide (some s ≠ who)) else m) ++ woken
  okJ := fun m cs => m.length ≤ 100 ∧ cs.length ≤ 100
  okP := fun m _ _ => m.length ≤ 100 ∧ (z = 0 ∨ z = -1)
  okS := fun m who word woken => m.length ≤ 100 ∧ woken.length ≤ 100 ∧ (goneB word = true → who ≠ none)
abbrev qFs (z : Int) : List (Str × PD) := [("place", .int z)]
theorem catN (a b : List Nat) : PyData.tuple (a.map intD ++ b.map intD) = encN (a ++ b) := by
  unfold encN
  rw [List.map_append]
theorem flt_eq (m : List Nat) (w : Nat) : (((m.map intD).filter fun d => !decide (vOf d = V.int (w : Int))).map fun d => d) = (m.filter fun s => decide (some s ≠ some w)).map intD := by
  rw [List.map_id', List.filter_map]
  congr 1
  apply List.filter_congr
  intro s _
  show (!decide (V.int (s : Int) = V.int (w : Int))) = decide (some s ≠ some w)
  by_cases h : s = w
  · subst h
    simp
  · have h1 : ¬ (V.int (s : Int) = V.int (w : Int)) := fun e => h (by cases e; rfl)
    have h2 : some s ≠ some w := fun e => h (Option.some.inj e)
    rw [decide_eq_false h1, decide_eq_true h2]
    rfl
theorem ed_obj {c : DC} {ρ : DEnv} {d : PD} {i : Nat} {C : Addr} {fs : List (Str × PD)} {f : Str} (h : ρ[i]? = some (.ob C fs)) (cl : Cls c.K C) (na : NoAttr c.K C f) (e : fs.lookup f = some d) : ED c (tFld c.K (tVar i) f) ρ d := ed_fld (eg_ob h) cl na e
section
variable {P : Program} {w : World} {K : PySem.W.Frag} {mg : Str → Option Value} {base : Heap} {f : Addr} {fd : FuncData} {T : List Addr}
end
abbrev sQFresh : Stmt := inClass (top 34) 1
abbrev nQFresh : List Str := ["self"]
theorem scQFresh : FnScope nQFresh ["self"] (defScope sQFresh) := ⟨rfl, rfl, rfl, by decide +kernel, rfl, by decide +kernel, by decide +kernel⟩
section
variable {P : Program} {w : World} {K : PySem.W.Frag} {mg : Str → Option Value} {base : Heap} {f : Addr} {fd : FuncData} {T : List Addr}
theorem ok_QueueChooser_fresh (F : Fun K "fresh" "QueueChooser.fresh" sQFresh f fd) (G : Glob K mg) {C : Addr} {z : Int} : FnOk P w K mg base CX0 1 f fd ["self"] (spD K T (RF (qSem z) C (qFs z))) := by
  refine fn_sd F scQFresh (fun ss d h => ?_) (fun cdv A outer s H E hr => ⟨_, (pss_one (ps_ret (pe_tup pa_nil))), fun M H0 ss d h => ?_⟩)
  · obtain ⟨rfl, rfl⟩ := h
    rfl
  · obtain ⟨rfl, rfl⟩ := h
    exact sd_ret (ed_tup (ds := []) ea_nil (by decide)) rfl
end
abbrev sQJoin : Stmt := inClass (top 34) 2
abbrev nQJoin : List Str := ["self", "memory", "comers"]
theorem scQJoin : FnScope nQJoin ["self", "memory", "comers"] (defScope sQJoin) := ⟨rfl, rfl, rfl, by decide +kernel, rfl, by decide +kernel, by decide +kernel⟩
section
variable {P : Program} {w : World} {K : PySem.W.Frag} {mg : Str → Option Value} {base : Heap} {f : Addr} {fd : FuncData} {T : List Addr}
theorem ok_QueueChooser_joined (F : Fun K "joined" "QueueChooser.joined" sQJoin f fd) (G : Glob K mg) {C : Addr} {z : Int} : FnOk P w K mg base CX0 1 f fd ["self", "memory", "comers"] (spD K T (RJ (qSem z) C (qFs z))) := by
  refine fn_sd F scQJoin (fun ss d h => ?_) (fun cdv A outer s H E hr => ⟨_, (pss_one (ps_ret (pe_op op_catA (pv 1) (pv 2)))), fun M H0 ss d h => ?_⟩)
  · obtain ⟨m, cs, h1, rfl, rfl⟩ := h
    rfl
  · obtain ⟨m, cs, ⟨h1, h2⟩, rfl, rfl⟩ := h
    exact sd_ret (ed_is (ed_catT (xs := m.map intD) (ys := cs.map intD) (ed_var rfl) (ed_var rfl) (by rw [List.length_map, List.length_map]; omega)) (catN m cs)) rfl
end
abbrev sQPick : Stmt := inClass (top 34) 3
abbrev nQPick : List Str := ["self", "memory", "posts", "holders"]
theorem scQPick : FnScope nQPick ["self", "memory", "posts", "holders"] (defScope sQPick) := ⟨rfl, rfl, rfl, by decide +kernel, rfl, by decide +kernel, by decide +kernel⟩
section
variable {P : Program} {w : World} {K : PySem.W.Frag} {mg : Str → Option Value} {base : Heap} {f : Addr} {fd : FuncData} {T : List Addr}
theorem ok_QueueChooser_pick (F : Fun K "pick" "QueueChooser.pick" sQPick f fd) (G : Glob K mg) {C : Addr} {z : Int} (cl : Cls K C) (nP : NoAttr K C "place") : FnOk P w K mg base CX0 1 f fd ["self", "memory", "posts", "holders"] (spD K T (RP (qSem z) C (qFs z))) := by
  refine fn_sd F scQPick (fun ss d h => ?_) (fun cdv A outer s H E hr => ⟨_, (pss_one (ps_ret (pe_ifExp (pt_truth (pv 1) (by intro _; rfl)) (pe_ix ix_tup (pv 1) (pe_fld (pv 0) rfl) (fun _ _ => rfl)) pe_non))), fun M H0 ss d h => ?_⟩)
  · obtain ⟨m, ps, hs, h1, rfl, rfl⟩ := h
    rfl
  · obtain ⟨m, ps, hs, ⟨h1, h2⟩, rfl, rfl⟩ := h
    refine sd_ret (d := encO ((qSem z).pick m ps hs)) (ed_if (et_truth (d := encN m) (ed_var rfl)) (fun hb => ?_) (fun hb => ?_)) rfl
    · have hm : m ≠ [] := fun e => by rw [e] at hb; cases hb
      have hl : 0 < m.length := List.length_pos_iff.mpr hm
      refine ed_ixT (ds := m.map intD) (i := z) (ed_var rfl) (ed_obj (d := .int z) rfl cl nP (List.lookup_cons_self)) ?_
      rcases h2 with rfl | rfl
      · show atI (m.map intD) ((0 : Nat) : Int) = some (encO (if (0 : Int) = 0 then m.head? else m.getLast?))
        rw [if_pos rfl]
        refine atI_at ?_
        cases m with
        | nil => exact absurd rfl hm
        | cons a r => rfl
      · show atI (m.map intD) (-1) = some (encO (if (-1 : Int) = 0 then m.head? else m.getLast?))
        rw [if_neg (by decide)]
        unfold atI
        rw [List.length_map, show ixN m.length (-1) = some (m.length - 1) from by
          unfold ixN
          first
            | (rw [if_neg (by omega), if_pos (by omega)]; simp; omega)
            | (rw [if_neg (by omega)]; simp; omega)
            | (simp; omega)]
        show (m.map intD)[m.length - 1]? = _
        rw [List.getElem?_map, List.getLast?_eq_getElem?, List.getElem?_eq_getElem (by omega)]
        rfl
    · have hm : m = [] := by
        cases m with
        | nil => rfl
        | cons a r => cases hb
      subst hm
      have e : (qSem z).pick [] ps hs = none := by
        show (if z = 0 then ([] : List Nat).head? else ([] : List Nat).getLast?) = none
        split <;> rfl
      rw [e]
      exact ed_non
end
abbrev sQSet : Stmt := inClass (top 34) 4
abbrev nQSet : List Str := ["self", "memory", "who", "word", "woken", "slot"]
theorem scQSet : FnScope nQSet ["self", "memory", "who", "word", "woken"] (defScope sQSet) := ⟨rfl, rfl, rfl, by decide +kernel, rfl, by decide +kernel, by decide +kernel⟩
section
variable {P : Program} {w : World} {K : PySem.W.Frag} {mg : Str → Option Value} {base : Heap} {f : Addr} {fd : FuncData} {T : List Addr}
theorem ok_QueueChooser_settled (F : Fun K "settled" "QueueChooser.settled" sQSet f fd) (G : Glob K mg) {C : Addr} {z : Int} : FnOk P w K mg base CX0 1 f fd ["self", "memory", "who", "word", "woken"] (spD K T (RS (qSem z) C (qFs z))) := by
  refine fn_sd F scQSet (fun ss d h => ?_) (fun cdv A outer s H E hr => ⟨_, (pss_cons (ps_if (pt_cmpR op_in_seq (pv 3) (pe_glob (v := .ref G.aGONE) (by rfl) G.GONE rfl) (by rfl)) (pss_one (ps_set (i := 1) scQSet.nd rfl (.inl rfl) (pe_callTy call_tuple_of (by rfl) G.tuple (by decide +kernel) (pa_cons (pe_lc (own := [("slot", 5)]) (g := (gName 5)) (tt := (tTest (tOp rNe (tVar 5) (tVar 2)))) (te := (tVar 5)) rfl scQSet.nd (pi_tup (pv 1)) (blkOk_by (N := nQSet) (sc := defScope sQSet) (by decide +kernel)) (fun _ _ _ _ _ => (pg_name (i := 5) scQSet.nd rfl (.inl rfl))) (fun _ _ _ _ _ => (pts_one (pt_cmpR op_ne (pv 5) (pv 2) (nomark _)))) (fun _ _ _ _ _ => (pv 5))) pa_nil)))) pss_nil)
      (pss_one (ps_ret (pe_op op_catA (pv 1) (pv 4))))), fun M H0 ss d h => ?_⟩)
  · obtain ⟨m, who, word, woken, h1, rfl, rfl⟩ := h
    rfl
  · obtain ⟨m, who, word, woken, ⟨h1, h2, h3⟩, rfl, rfl⟩ := h
    have fl : ∀ m' : List Nat, m'.length ≤ m.length → SD ⟨K, T, M, H0⟩ (tRet (tOp (rCatA K) (tVar 1) (tVar 4))) (DR (encN (m' ++ woken))) [.ob C (qFs z), .dat (encN m'), .dat (encO who), .dat (.str word), .dat (encN woken), .non] := fun m' hm =>
      sd_ret (ed_is (ed_catT (xs := m'.map intD) (ys := woken.map intD) (ed_var rfl) (ed_var rfl) (by rw [List.length_map, List.length_map]; omega)) (catN m' woken)) rfl
    refine sd_seq (sd_when (et_is (et_test (ed_inT (neg := false) (x := .str word) (ys := [.str "ask", .str "leave"]) (ed_var rfl) (ed_glob G.dGONE) rfl rfl)) (inStr2 word "ask" "leave")) (fun hb => ?_) (fun hb => ?_))
    · obtain ⟨w0, rfl⟩ : ∃ w0, who = some w0 := by
        cases who with
        | none => exact absurd rfl (h3 hb)
        | some w0 => exact ⟨w0, rfl⟩
      refine sd_set (d := encN (m.filter fun s => decide (some s ≠ some w0))) (ed_tupleL rfl (el_is (en_el (en_lc (js := [5]) (fun d => !decide (vOf d = V.int (w0 : Int))) (fun d => d) (id_tup (ds := m.map intD) (ed_var rfl)) (by rw [List.length_map]; omega) (by decide) (fun d hd H1 _ => ?_))) (flt_eq m w0))) ?_
      · obtain ⟨s, hs, rfl⟩ := List.mem_map.mp hd
        exact ⟨[intD s], tg_name, et_test (ed_ne (x := intD s) (y := intD w0) (ed_var rfl) (ed_var rfl) rfl rfl rfl), fun _ => ed_var rfl⟩
      · have e : (qSem z).settled m (some w0) word woken = (m.filter fun s => decide (some s ≠ some w0)) ++ woken := by
          show (if goneB word = true then _ else m) ++ woken = _
          rw [if_pos (show goneB word = true from hb)]
        rw [show (qSem z).enc ((qSem z).settled m (some w0) word woken) = encN ((m.filter fun s => decide (some s ≠ some w0)) ++ woken) from congrArg encN e]
        exact fl _ (List.length_filter_le _ _)
    · have e : (qSem z).settled m who word woken = m ++ woken := by
        show (if goneB word = true then _ else m) ++ woken = _
        rw [if_neg (by rw [show goneB word = false from hb]; decide)]
      rw [show (qSem z).enc ((qSem z).settled m who word woken) = encN (m ++ woken) from congrArg encN e]
      exact fl m (Nat.le_refl _)
end
end PT
namespace PT
open PySem PySem.Spec PyProof.Rows L2 DA DL TR

section
variable {μ : Type}
def encS (S : Chs μ) (ps : List Nat) (hs : List (Option Nat)) (m : μ) : PD := .tuple [encN ps, encHs hs, S.enc m]
def R_first_state (S : Chs μ) (C : Addr) (fs : List (Str × PD)) : List DS → PD → Prop := fun ss d => ∃ n : Nat, 1 ≤ n ∧ n ≤ 100 ∧ ss = [.ob C fs, .dat (intD n)] ∧ d = encS S (List.replicate n 0) [none, none] S.fresh
def R_begun (S : Chs μ) (C : Addr) (fs : List (Str × PD)) : List DS → PD → Prop := fun ss d => ∃ ps hs m cs, (∀ c ∈ cs, c < ps.length) ∧ ps.length ≤ 100 ∧ S.okJ m cs ∧ S.okP (S.joined m cs) (come ps cs) hs ∧
  ss = [.ob C fs, .dat (encS S ps hs m), .dat (encN cs)] ∧ d = .tuple [encS S (come ps cs) hs (S.joined m cs), encO (S.pick (S.joined m cs) (come ps cs) hs)]
/-- what comes of a unit -/
def afterD (ps : List Nat) (hs : List (Option Nat)) : Option (Nat × Str × Nat) → Res4
  | some (w, k, n) => deedM ps hs w k n
  | none => ⟨ps, hs, "none", []⟩
def whoOf : Option (Nat × Str × Nat) → Option Nat
  | some (w, _, _) => some w
  | none => none
def encDeed : Option (Nat × Str × Nat) → PD
  | some (_, k, n) => .tuple [.str k, intD n]
  | none => .none
def deedOk (ps : List Nat) (hs : List (Option Nat)) : Option (Nat × Str × Nat) → Prop
  | some (w, k, n) => w < ps.length ∧ (k = "take" ∨ k = "give" → n < 2)
  | none => True
def R_done (S : Chs μ) (C : Addr) (fs : List (Str × PD)) : List DS → PD → Prop := fun ss d => ∃ ps hs m x, ps.length ≤ 100 ∧ hs.length = 2 ∧ deedOk ps hs x ∧ S.okS m (whoOf x) (afterD ps hs x).word (afterD ps hs x).woken ∧
  ss = [.ob C fs, .dat (encS S ps hs m), .dat (encO (whoOf x)), .dat (encDeed x)] ∧ d = .tuple [encS S (afterD ps hs x).ps (afterD ps hs x).hs (S.settled m (whoOf x) (afterD ps hs x).word (afterD ps hs x).woken), .str (afterD ps hs x).word]
end
theorem ed_repT {c : DC} {ρ : DEnv} {ta tb : TE} {xs : List PD} {k : Nat} (ha : ED c ta ρ (.tuple xs)) (hb : ED c tb ρ (intD k)) (hx : xs ≠ []) (h1 : 1 ≤ k) (h2 : k ≤ 1000) (h3 : xs.length ≤ 1000) : ED c (tOp (rRepA c.K) ta tb) ρ (.tuple (List.replicate k xs).flatten) :=
  ed_op ha hb fun A σ H v w s g1 g2 Q q => by
    obtain ⟨a, us, rfl, g3, g4⟩ := dp_tup g1
    have hl := dps_len g4
    have dps_rep : ∀ (n : Nat) {H' : Hp}, DpAll c.K H' us xs → DpAll c.K H' (List.replicate n us).flatten (List.replicate n xs).flatten := fun n H' g => by
      induction n with
      | zero => exact .nil
      | succ n ih =>
        rw [List.replicate_succ, List.replicate_succ, List.flatten_cons, List.flatten_cons]
        exact dps_append g ih
    refine ⟨a, (k : Int), us, rfl, dp_int g2, sqt_same hid_same g3, fun e => ?_, by omega, by omega, by omega, fun e => ?_, fun _ p hp => ?_⟩
    · subst e
      cases xs with
      | nil => exact hx rfl
      | cons _ _ => cases hl
    · have e1 : k = 1 := by omega
      subst e1
      rw [show (List.replicate 1 xs).flatten = xs from by simp] at q
      exact q _ H .refl g1
    · have sm : Same (hid (c.M ++ A) H) (hid (c.M ++ A) (upd H p (.tup (List.replicate (k : Int).toNat us).flatten))) := fun b o e => by
        obtain ⟨m, e⟩ := hid_inv e
        exact hid_of m (by rw [upd_ne (ne_of_none e hp)]; exact e)
      refine q _ _ (.new hp) (.tup (SqT.of (hid_of (nfresh s hp) upd_same)) ?_)
      rw [Int.toNat_natCast]
      rw [Int.toNat_natCast] at sm
      exact dps_same sm (dps_rep k g4)
theorem rep_flat (n : Nat) (d : PD) : (List.replicate n [d]).flatten = List.replicate n d := by
  induction n with
  | zero => rfl
  | succ n ih => rw [List.replicate_succ, List.flatten_cons, ih, List.replicate_succ]; rfl
section
variable {P : Program} {w : World} {K : PySem.W.Frag} {mg : Str → Option Value} {base : Heap} {f : Addr} {fd : FuncData} {T : List Addr}
end
abbrev sFState : Stmt := top 40
abbrev nFState : List Str := ["chooser", "size"]
theorem scFState : FnScope nFState ["chooser", "size"] (defScope sFState) := ⟨rfl, rfl, rfl, by decide +kernel, rfl, by decide +kernel, by decide +kernel⟩
section
variable {P : Program} {w : World} {K : PySem.W.Frag} {mg : Str → Option Value} {base : Heap} {f : Addr} {fd : FuncData} {T : List Addr}
theorem ok_first_state (F : Fun K "first_state" "first_state" sFState f fd) (G : Glob K mg) {μ : Type} {S : Chs μ} {C : Addr} {fs : List (Str × PD)} (hno : ∀ m ∈ (["fresh", "joined", "pick", "settled"] : List Str), fs.lookup m = none) {fF : Addr} {dF : FuncData} (m_fresh : Met P w K mg base C "fresh" 8 ["self"] (spD K T (RF S C fs)) fF dF) : FnOk P w K mg base CX0 9 f fd ["chooser", "size"] (spD K T (R_first_state S C fs)) := by
  refine fn_sd F scFState (fun ss d h => ?_) (fun cdv A outer s H E hr => ⟨_, (pss_one (ps_ret (pe_tup (pa_cons (pe_op op_repA (pe_tup (pa_cons (pe_glob (v := .int 0) (by rfl) G.AWAY ⟨_, rfl⟩) pa_nil)) (pv 1)) (pa_cons (pe_tup (pa_cons pe_non (pa_cons pe_non pa_nil))) (pa_cons (pe_meth0 (pv 0) m_fresh.cl m_fresh.m m_fresh.ok (hr.mono (by decide)) m_fresh.b .nil pass0) pa_nil)))))), fun M H0 ss d h => ?_⟩)
  · obtain ⟨n, h1, h2, rfl, rfl⟩ := h
    rfl
  · obtain ⟨n, h1, h2, rfl, rfl⟩ := h
    refine sd_ret (ed_is (ed_tup (ds := [_, _, _]) (ea_d (ed_repT (xs := [.int 0]) (ed_tup (ds := [.int 0]) (ea_d ed_int ea_nil) (by simp)) (ed_var rfl) (by simp) h1 (by omega) (by simp)) (ea_d (ed_tup (ds := [.none, .none]) (ea_d ed_non (ea_d ed_non ea_nil)) (by simp)) (ea_d (ed_meth (eg_ob rfl) (hno _ (by decide +kernel)) ea_nil ⟨rfl, rfl⟩) ea_nil))) (by simp)) ?_) rfl
    rw [rep_flat]
    show PyData.tuple [.tuple (List.replicate n (intD 0)), encHs [none, none], S.enc S.fresh] = encS S (List.replicate n 0) [none, none] S.fresh
    unfold encS encN
    rw [List.map_replicate]
end
abbrev sBegun : Stmt := top 41
abbrev nBegun : List Str := ["chooser", "state", "comers", "posts", "holders", "memory"]
theorem scBegun : FnScope nBegun ["chooser", "state", "comers"] (defScope sBegun) := ⟨rfl, rfl, rfl, by decide +kernel, rfl, by decide +kernel, by decide +kernel⟩
section
variable {P : Program} {w : World} {K : PySem.W.Frag} {mg : Str → Option Value} {base : Heap} {f : Addr} {fd : FuncData} {T : List Addr}
theorem ok_begun (F : Fun K "begun" "begun" sBegun f fd) (G : Glob K mg) {μ : Type} {S : Chs μ} {C : Addr} {fs : List (Str × PD)} (hno : ∀ m ∈ (["fresh", "joined", "pick", "settled"] : List Str), fs.lookup m = none) {fC fJ fP : Addr} {dC dJ dP : FuncData} (c_with_comers : Cal P w K mg base "with_comers" 2 ["posts", "comers"] (spD K T R_with_comers) fC dC) (m_joined : Met P w K mg base C "joined" 8 ["self", "memory", "comers"] (spD K T (RJ S C fs)) fJ dJ) (m_pick : Met P w K mg base C "pick" 8 ["self", "memory", "posts", "holders"] (spD K T (RP S C fs)) fP dP) : FnOk P w K mg base CX0 9 f fd ["chooser", "state", "comers"] (spD K T (R_begun S C fs)) := by
  refine fn_sd F scBegun (fun ss d h => ?_) (fun cdv A outer s H E hr => ⟨_, (pss_cons (ps_asg (pv 1) (pg_tup (by rfl) (pgs_cons (pg_name (i := 3) scBegun.nd rfl (.inl rfl)) (pgs_cons (pg_name (i := 4) scBegun.nd rfl (.inl rfl)) (pgs_cons (pg_name (i := 5) scBegun.nd rfl (.inl rfl)) pgs_nil)))))
      (pss_cons (ps_set (i := 3) scBegun.nd rfl (.inl rfl) (pe_call c_with_comers.ok (hr.mono (by decide)) (by rfl) c_with_comers.g c_with_comers.kp c_with_comers.b .nil pass0 (pa_cons (pv 3) (pa_cons (pv 2) pa_nil))))
      (pss_cons (ps_set (i := 5) scBegun.nd rfl (.inl rfl) (pe_meth (pv 0) m_joined.cl m_joined.m m_joined.ok (hr.mono (by decide)) m_joined.b .nil pass0 (pa_cons (pv 5) (pa_cons (pv 2) pa_nil))))
      (pss_one (ps_ret (pe_tup (pa_cons (pe_tup (pa_cons (pv 3) (pa_cons (pv 4) (pa_cons (pv 5) pa_nil)))) (pa_cons (pe_meth (pv 0) m_pick.cl m_pick.m m_pick.ok (hr.mono (by decide)) m_pick.b .nil pass0 (pa_cons (pv 5) (pa_cons (pv 3) (pa_cons (pv 4) pa_nil)))) pa_nil)))))))), fun M H0 ss d h => ?_⟩)
  · obtain ⟨ps, hs, m, cs, h1, h2, h3, h4, rfl, rfl⟩ := h
    rfl
  · obtain ⟨ps, hs, m, cs, h1, h2, h3, h4, rfl, rfl⟩ := h
    refine sd_seq (sd_unp3 (ed_var rfl) ?_)
    refine sd_seq (sd_set (d := encN (come ps cs)) (ed_call (ea_d (ed_var rfl) (ea_d (ed_var rfl) ea_nil)) ⟨ps, cs, h1, h2, rfl, rfl⟩) ?_)
    refine sd_seq (sd_set (d := S.enc (S.joined m cs)) (ed_meth (eg_ob rfl) (hno _ (by decide +kernel)) (ea_d (ed_var rfl) (ea_d (ed_var rfl) ea_nil)) ⟨m, cs, h3, rfl, rfl⟩) ?_)
    exact sd_ret (ed_tup (ds := [_, _]) (ea_d (ed_tup (ds := [_, _, _]) (ea_d (ed_var rfl) (ea_d (ed_var rfl) (ea_d (ed_var rfl) ea_nil))) (by simp)) (ea_d (ed_meth (eg_ob rfl) (hno _ (by decide +kernel)) (ea_d (ed_var rfl) (ea_d (ed_var rfl) (ea_d (ed_var rfl) ea_nil))) ⟨S.joined m cs, come ps cs, hs, h4, rfl, rfl⟩) ea_nil)) (by simp)) rfl
end
abbrev sDone : Stmt := top 42
abbrev nDone : List Str := ["chooser", "state", "who", "deed", "posts", "holders", "memory", "word", "woken"]
theorem scDone : FnScope nDone ["chooser", "state", "who", "deed"] (defScope sDone) := ⟨rfl, rfl, rfl, by decide +kernel, rfl, by decide +kernel, by decide +kernel⟩
section
variable {P : Program} {w : World} {K : PySem.W.Frag} {mg : Str → Option Value} {base : Heap} {f : Addr} {fd : FuncData} {T : List Addr}
theorem ok_done (F : Fun K "done" "done" sDone f fd) (G : Glob K mg) {μ : Type} {S : Chs μ} {C : Addr} {fs : List (Str × PD)} (hno : ∀ m ∈ (["fresh", "joined", "pick", "settled"] : List Str), fs.lookup m = none) {fA fS : Addr} {dA dS : FuncData} (c_after_deed : Cal P w K mg base "after_deed" 3 ["posts", "holders", "who", "deed"] (spD K T R_after_deed) fA dA) (m_settled : Met P w K mg base C "settled" 8 ["self", "memory", "who", "word", "woken"] (spD K T (RS S C fs)) fS dS) : FnOk P w K mg base CX0 9 f fd ["chooser", "state", "who", "deed"] (spD K T (R_done S C fs)) := by
  refine fn_sd F scDone (fun ss d h => ?_) (fun cdv A outer s H E hr => ⟨_, (pss_cons (ps_asg (pv 1) (pg_tup (by rfl) (pgs_cons (pg_name (i := 4) scDone.nd rfl (.inl rfl)) (pgs_cons (pg_name (i := 5) scDone.nd rfl (.inl rfl)) (pgs_cons (pg_name (i := 6) scDone.nd rfl (.inl rfl)) pgs_nil)))))
      (pss_cons (ps_set (i := 7) scDone.nd rfl (.inl rfl) pe_str)
      (pss_cons (ps_set (i := 8) scDone.nd rfl (.inl rfl) (pe_tup pa_nil))
      (pss_cons (ps_if (pt_cmp (pc_notN (pv 2))) (pss_one (ps_asg (pe_call c_after_deed.ok (hr.mono (by decide)) (by rfl) c_after_deed.g c_after_deed.kp c_after_deed.b .nil pass0 (pa_cons (pv 4) (pa_cons (pv 5) (pa_cons (pv 2) (pa_cons (pv 3) pa_nil))))) (pg_tup (by rfl) (pgs_cons (pg_name (i := 4) scDone.nd rfl (.inl rfl)) (pgs_cons (pg_name (i := 5) scDone.nd rfl (.inl rfl)) (pgs_cons (pg_name (i := 7) scDone.nd rfl (.inl rfl)) (pgs_cons (pg_name (i := 8) scDone.nd rfl (.inl rfl)) pgs_nil))))))) pss_nil)
      (pss_one (ps_ret (pe_tup (pa_cons (pe_tup (pa_cons (pv 4) (pa_cons (pv 5) (pa_cons (pe_meth (pv 0) m_settled.cl m_settled.m m_settled.ok (hr.mono (by decide)) m_settled.b .nil pass0 (pa_cons (pv 6) (pa_cons (pv 2) (pa_cons (pv 7) (pa_cons (pv 8) pa_nil))))) pa_nil)))) (pa_cons (pv 7) pa_nil))))))))), fun M H0 ss d h => ?_⟩)
  · obtain ⟨ps, hs, m, x, h1, h2, h3, h4, rfl, rfl⟩ := h
    rfl
  · obtain ⟨ps, hs, m, x, h1, h2, h3, h4, rfl, rfl⟩ := h
    refine sd_seq (sd_unp3 (ed_var rfl) ?_)
    refine sd_seq (sd_set ed_str ?_)
    refine sd_seq (sd_set (ed_tup (ds := []) ea_nil (by decide)) ?_)
    refine sd_seq (sd_when (b := (whoOf x).isSome) (et_is (et_B (ed_notN (ed_var rfl))) ?_) (fun hb => ?_) (fun hb => ?_))
    · cases x with
      | none => rfl
      | some y => rfl
    · cases x with
      | none => cases hb
      | some y =>
        obtain ⟨wh, k, n⟩ := y
        exact sd_unp4 (ed_call (ea_d (ed_var rfl) (ea_d (ed_var rfl) (ea_d (ed_var rfl) (ea_d (ed_var rfl) ea_nil)))) ⟨ps, hs, wh, k, n, h1, h2, h3.1, h3.2, rfl, rfl⟩) (sd_ret (ed_tup (ds := [_, _]) (ea_d (ed_tup (ds := [_, _, _]) (ea_d (ed_var rfl) (ea_d (ed_var rfl) (ea_d (ed_meth (eg_ob rfl) (hno _ (by decide +kernel)) (ea_d (ed_var rfl) (ea_d (ed_var rfl) (ea_d (ed_var rfl) (ea_d (ed_var rfl) ea_nil)))) ⟨m, whoOf (some (wh, k, n)), (afterD ps hs (some (wh, k, n))).word, (afterD ps hs (some (wh, k, n))).woken, h4, rfl, rfl⟩) ea_nil))) (by simp)) (ea_d (ed_var rfl) ea_nil)) (by simp)) rfl)
    · cases x with
      | some y => cases hb
      | none => exact sd_ret (ed_tup (ds := [_, _]) (ea_d (ed_tup (ds := [_, _, _]) (ea_d (ed_var rfl) (ea_d (ed_var rfl) (ea_d (ed_meth (eg_ob rfl) (hno _ (by decide +kernel)) (ea_d (ed_var rfl) (ea_d (ed_var rfl) (ea_d (ed_var rfl) (ea_d (ed_var rfl) ea_nil)))) ⟨m, whoOf none, (afterD ps hs none).word, (afterD ps hs none).woken, h4, rfl, rfl⟩) ea_nil))) (by simp)) (ea_d (ed_var rfl) ea_nil)) (by simp)) rfl
end
end PT
/-! fields as targets, xs[i] += e, defs over a heap's own objects -/
namespace DL
open PySem PySem.Spec PyProof.Rows L2 DA
section
variable {X : Cx}
def gFld (K : PySem.W.Frag) (ta : TE) (f : Str) : TG := fun v σ H Q => ta σ H fun x H2 => ∃ a C dx fs, x = .ref a ∧ H2 a = some (.ins C dx fs) ∧ Cls K C ∧ NoAttr K C f ∧ fs.length < 1000 ∧ Q σ (upd H2 a (.ins C dx (putF f v fs)))
theorem pg_fld {o : Expr} {f : Str} {pos : Pos} {ta : TE} (ha : PE X o ta) : PG X (.Attribute o f pos) (gFld X.K ta f) := by
  refine ⟨fun pins s σ H v u Q I r h => ?_⟩
  rw [PySem.assign_Attribute]
  refine wpAny_bind (wpAny_holding (thn (ha.run pins s σ H _ I h) fun ov s1 ⟨x, H1, I1, rx, a, C, dx, fs, ex, ea, c, n, l, q⟩ => ?_))
  subst ex
  obtain rfl : ov = Value.ref a := rx
  refine wpAny_bind (wpAny_standAt (wpAny_bind (wpAny_holding (setattr_ok I1 ea c n l r fun s3 I3 => ?_))))
  exact wpAny_release ⟨σ, _, I3, q⟩
def getL (K : PySem.W.Frag) : V → V → Hp → VK → Prop := fun x y H Q => ∃ p xs i v, x = .ref p ∧ y = .int i ∧ 0 ≤ i ∧ i < 2 ^ 63 ∧ SqL K H p xs ∧ xs[i.toNat]? = some v ∧ Q v H
theorem get_list : PGet X (getL X.K) := by
  intro pins s σ H o i ov iv Q I r1 r2 h
  obtain ⟨p, xs, k, v, rfl, rfl, h0, h1, hq, hv, q⟩ := h
  cases r1
  obtain ⟨t, rfl⟩ := r2
  obtain ⟨its, r, pl, hz⟩ := I.list hq
  obtain ⟨w, ew, rw'⟩ := r.get hv
  exact wpAny_getItem_list pl.isList h0 h1 (by simpa using ew) ⟨v, H, I, rw', q⟩
theorem ps_augL {o i e : Expr} {to ti te : TE} {tip : TIp} {op : Operator} {tpos pos : Pos} (ho : PE X o to) (hi : PE X i ti) (he : PE X e te) (hp : PIp X op tip)
    (ha : ∀ ov iv new, augStore i ov iv new = (do holding [new, ov, iv] (setItem ov iv new); release [new, ov, iv] []; pure .next) := by intros; rfl) : PS X (.AugAssign (.Subscript o i tpos) op e pos) (tAugS to ti te (getL X.K) tip rSetL) :=
  ps_augS ho hi get_list he hp set_list ha
end
/-! ### a def over data and objects of the heap -/
def spX (K : PySem.W.Frag) (T : List Addr) (R : List Addr → Hp → List DS → PD → Prop) : Sp := fun vs H Q _ => ∃ M ss d, (∀ a ∈ M, a ∉ T ∧ H a ≠ none) ∧ Tabs T H ∧ ArgsOk K (hid M H) vs ss ∧ R M H ss d ∧ ∀ v H', Dp K (hid M H') v d → Keep T H H' → Q v H'
section
variable {P : Program} {w : World} {K : PySem.W.Frag} {mg : Str → Option Value} {base : Heap}
theorem fn_sdX {T : List Addr} {x qual : Str} {st : Stmt} {f : Addr} {fd : FuncData} {N ps : List Str} {k : Nat} {R : List Addr → Hp → List DS → PD → Prop} (F : Fun K x qual st f fd) (S : FnScope N ps (defScope st)) (hl : ∀ M H ss d, R M H ss d → ss.length = ps.length)
    (hb : ∀ (cdv : Value) (A : Around) (outer : List Env) (s : Shared) (H : Hp) (E : XK), Room k (A.deeper (envOfC qual (defScope st) s.heap.objs.size f cdv)) →
      ∃ t, PSs (cxOf CX0 P w K mg base N qual (defScope st) f cdv A outer s H E).nox (defBody st) t ∧ ∀ M H0 ss d, R M H0 ss d → (∀ a ∈ M, a ∉ T ∧ H0 a ≠ none) → Tabs T H0 → SD ⟨K, T, M, H0⟩ t (DR d) (startD N ss)) : FnOk P w K mg base CX0 (k + 1) f fd ps (spX K T R) := by
  refine F.ok S (fun vs H Q E h => ?_) (fun cdv A outer s H vs Q E hr h => ?_)
  · obtain ⟨M, ss, d, _, _, h3, h4, _⟩ := h
    rw [h3.len]
    exact hl M H ss d h4
  · obtain ⟨M, ss, d, h1, h2, h3, h4, q⟩ := h
    obtain ⟨t, ht, hq⟩ := hb cdv A outer s H E hr
    refine ⟨t, ht, hq M H ss d h4 h1 h2 _ ⟨fun A' σ' H' ρ' r' e => ?_, fun v H' e k' h5 h6 => ?_, fun _ _ _ _ _ z => z.elim, fun _ _ _ _ _ z => z.elim⟩ [] _ H (start_sr h1 h2 h3)⟩
    · have e : d = .none := e
      subst e
      exact q .non H' .non r'.keep
    · have h6 : e = d := h6
      subst h6
      exact q v H' h5 k'
end
/-! ### heaps that keep all but some own objects -/
structure KeepX (T O : List Addr) (H H' : Hp) : Prop where
  at_ : ∀ b o, H b = some o → b ∉ T → b ∉ O → H' b = some o
  tab : ∀ P ∈ T, GxR.TabG H P → GxR.TabG H' P
theorem KeepX.of {T O : List Addr} {H H' : Hp} (k : Keep T H H') : KeepX T O H H' := ⟨fun b o e n _ => k.at_ b o e n, k.tab⟩
theorem KeepX.trans {T O : List Addr} {H H1 H2 : Hp} (a : KeepX T O H H1) (b : KeepX T O H1 H2) : KeepX T O H H2 := ⟨fun c o e n m => b.at_ c o (a.at_ c o e n m) n m, fun P hP t => b.tab P hP (a.tab P hP t)⟩
theorem KeepX.refl {T O : List Addr} {H : Hp} : KeepX T O H H := .of .refl
theorem KeepX.upd {T O : List Addr} {H : Hp} {a : Addr} {o : HO} (h : a ∈ O) (hT : a ∉ T) : KeepX T O H (L2.upd H a o) := ⟨fun b u e _ n => by
  rw [upd_ne (fun z => n (by rw [z]; exact h))]
  exact e, fun P hP ⟨ps, e, ok⟩ => ⟨ps, by rw [upd_ne (fun z => hT (by rw [← z]; exact hP))]; exact e, ok⟩⟩
theorem KeepX.tabs {T O : List Addr} {H H1 : Hp} (a : KeepX T O H H1) (t : Tabs T H) : Tabs T H1 := fun P hP => a.tab P hP (t P hP)
/-- own objects that the first heap does not know -/
theorem KeepX.keep {T O : List Addr} {H H1 H2 : Hp} (k : Keep T H H1) (x : KeepX T O H1 H2) (n : ∀ a ∈ O, H a = none) : Keep T H H2 := ⟨fun b o e hT => x.at_ b o (k.at_ b o e hT) hT (fun m => by rw [n b m] at e; cases e), fun P hP t => x.tab P hP (k.tab P hP t)⟩
theorem KeepX.hid {T O M : List Addr} {H H' : Hp} (x : KeepX T O H H') (s : ∀ a ∈ O, a ∈ M) : Keep T (DL.hid M H) (DL.hid M H') := ⟨fun b o e n => by
  obtain ⟨m, e⟩ := hid_inv e
  exact hid_of m (x.at_ b o e n fun q => m (s b q)), fun P hP tb => by
  obtain ⟨ps, e, ok⟩ := tb
  obtain ⟨m, e⟩ := hid_inv e
  obtain ⟨ps', e', ok'⟩ := x.tab P hP ⟨ps, e, ok⟩
  exact ⟨ps', hid_of m e', ok'⟩⟩
end DL
/-! an object that changes: its fields are data, own lists, or objects that stand still -/
namespace DL
open PySem PySem.Spec PyProof.Rows L2 DA
inductive MF where
  | d (x : PD) | l (ds : List PD) | o (C : Addr) (fs : List (Str × PD))
/-- the fields' values, and the addresses of the lists -/
inductive FsM (K : PySem.W.Frag) (Hm H : Hp) : List (Str × V) → List (Str × MF) → List Addr → Prop where
  | nil : FsM K Hm H [] [] []
  | d {f : Str} {v : V} {x : PD} {vs F as} : Dp K Hm v x → FsM K Hm H vs F as → FsM K Hm H ((f, v) :: vs) ((f, .d x) :: F) as
  | o {f : Str} {v : V} {C : Addr} {fs : List (Str × PD)} {vs F as} : ObD K Hm v C fs → FsM K Hm H vs F as → FsM K Hm H ((f, v) :: vs) ((f, .o C fs) :: F) as
  | l {f : Str} {a : Addr} {xs : List V} {ds : List PD} {vs F as} : H a = some (.lst xs) → DpAll K Hm xs ds → FsM K Hm H vs F as → FsM K Hm H ((f, .ref a) :: vs) ((f, .l ds) :: F) (a :: as)
def setF (f : Str) (x : MF) : List (Str × MF) → List (Str × MF)
  | [] => [(f, x)]
  | (g, y) :: r => if g = f then (g, x) :: r else (g, y) :: setF f x r
section
variable {K : PySem.W.Frag} {T M : List Addr} {H H' Hm Hm' : Hp} {p C : Addr}
theorem FsM.move (hm : ∀ v x, Dp K Hm v x → Dp K Hm' v x) (ho : ∀ v C fs, ObD K Hm v C fs → ObD K Hm' v C fs) (hms : ∀ vs xs, DpAll K Hm vs xs → DpAll K Hm' vs xs) {vs : List (Str × V)} {F : List (Str × MF)} {as : List Addr} (r : FsM K Hm H vs F as) (h : ∀ a ∈ as, H' a = H a) : FsM K Hm' H' vs F as := by
  induction r with
  | nil => exact .nil
  | d a _ ih => exact .d (hm _ _ a) (ih h)
  | o a _ ih => exact .o (ho _ _ _ a) (ih h)
  | l e a _ ih => exact .l (by rw [h _ List.mem_cons_self]; exact e) (hms _ _ a) (ih fun x hx => h x (List.mem_cons_of_mem _ hx))
theorem FsM.len : ∀ {vs : List (Str × V)} {F : List (Str × MF)} {as : List Addr}, FsM K Hm H vs F as → vs.length = F.length
  | _, _, _, .nil => rfl
  | _, _, _, .d _ r => by simp [r.len]
  | _, _, _, .o _ r => by simp [r.len]
  | _, _, _, .l _ _ r => by simp [r.len]
theorem FsM.lookD {f : Str} {x : PD} : ∀ {vs : List (Str × V)} {F : List (Str × MF)} {as : List Addr}, FsM K Hm H vs F as → F.lookup f = some (.d x) → ∃ v, vs.lookup f = some v ∧ Dp K Hm v x
  | _, _, _, .nil, h => by cases h
  | _, _, _, .d (f := g) a r, h => by
    rw [List.lookup_cons] at h ⊢
    cases e : f == g with
    | true => rw [e] at h; cases h; exact ⟨_, rfl, a⟩
    | false => rw [e] at h; exact r.lookD h
  | _, _, _, .o (f := g) a r, h => by
    rw [List.lookup_cons] at h ⊢
    cases e : f == g with
    | true => rw [e] at h; cases h
    | false => rw [e] at h; exact r.lookD h
  | _, _, _, .l (f := g) _ a r, h => by
    rw [List.lookup_cons] at h ⊢
    cases e : f == g with
    | true => rw [e] at h; cases h
    | false => rw [e] at h; exact r.lookD h
theorem FsM.lookO {f : Str} {D : Addr} {fs : List (Str × PD)} : ∀ {vs : List (Str × V)} {F : List (Str × MF)} {as : List Addr}, FsM K Hm H vs F as → F.lookup f = some (.o D fs) → ∃ v, vs.lookup f = some v ∧ ObD K Hm v D fs
  | _, _, _, .nil, h => by cases h
  | _, _, _, .d (f := g) a r, h => by
    rw [List.lookup_cons] at h ⊢
    cases e : f == g with
    | true => rw [e] at h; cases h
    | false => rw [e] at h; exact r.lookO h
  | _, _, _, .o (f := g) a r, h => by
    rw [List.lookup_cons] at h ⊢
    cases e : f == g with
    | true => rw [e] at h; cases h; exact ⟨_, rfl, a⟩
    | false => rw [e] at h; exact r.lookO h
  | _, _, _, .l (f := g) _ a r, h => by
    rw [List.lookup_cons] at h ⊢
    cases e : f == g with
    | true => rw [e] at h; cases h
    | false => rw [e] at h; exact r.lookO h
theorem FsM.lookL {f : Str} {ds : List PD} : ∀ {vs : List (Str × V)} {F : List (Str × MF)} {as : List Addr}, FsM K Hm H vs F as → F.lookup f = some (.l ds) → ∃ a xs, vs.lookup f = some (.ref a) ∧ a ∈ as ∧ H a = some (.lst xs) ∧ DpAll K Hm xs ds
  | _, _, _, .nil, h => by cases h
  | _, _, _, .d (f := g) a r, h => by
    rw [List.lookup_cons] at h ⊢
    cases e : f == g with
    | true => rw [e] at h; cases h
    | false => rw [e] at h; exact r.lookL h
  | _, _, _, .o (f := g) a r, h => by
    rw [List.lookup_cons] at h ⊢
    cases e : f == g with
    | true => rw [e] at h; cases h
    | false => rw [e] at h; exact r.lookL h
  | _, _, _, .l (f := g) q a r, h => by
    rw [List.lookup_cons] at h ⊢
    cases e : f == g with
    | true => rw [e] at h; cases h; exact ⟨_, _, rfl, List.mem_cons_self, q, a⟩
    | false =>
      rw [e] at h
      obtain ⟨b, xs, h1, h2, h3⟩ := r.lookL h
      exact ⟨b, xs, h1, List.mem_cons_of_mem _ h2, h3⟩
theorem FsM.lookN {f : Str} : ∀ {vs : List (Str × V)} {F : List (Str × MF)} {as : List Addr}, FsM K Hm H vs F as → F.lookup f = none → vs.lookup f = none
  | _, _, _, .nil, h => rfl
  | _, _, _, .d (f := g) a r, h => by
    rw [List.lookup_cons] at h ⊢
    cases e : f == g with
    | true => rw [e] at h; cases h
    | false => rw [e] at h; exact r.lookN h
  | _, _, _, .o (f := g) a r, h => by
    rw [List.lookup_cons] at h ⊢
    cases e : f == g with
    | true => rw [e] at h; cases h
    | false => rw [e] at h; exact r.lookN h
  | _, _, _, .l (f := g) _ a r, h => by
    rw [List.lookup_cons] at h ⊢
    cases e : f == g with
    | true => rw [e] at h; cases h
    | false => rw [e] at h; exact r.lookN h
/-- a data field is stored anew -/
theorem FsM.putD {f : Str} {v : V} {x y : PD} (hv : Dp K Hm v y) : ∀ {vs : List (Str × V)} {F : List (Str × MF)} {as : List Addr}, FsM K Hm H vs F as → F.lookup f = some (.d x) → FsM K Hm H (putF f v vs) (setF f (.d y) F) as
  | _, _, _, .nil, h => by cases h
  | _, _, _, .d (f := g) a r, h => by
    rw [List.lookup_cons] at h
    show FsM K Hm H (if g = f then _ else _) (if g = f then _ else _) _
    by_cases e : g = f
    · rw [if_pos e, if_pos e]; exact .d hv r
    · rw [if_neg e, if_neg e]
      rw [show (f == g) = false from beq_eq_false_iff_ne.mpr (Ne.symm e)] at h
      exact .d a (r.putD hv h)
  | _, _, _, .o (f := g) a r, h => by
    rw [List.lookup_cons] at h
    show FsM K Hm H (if g = f then _ else _) (if g = f then _ else _) _
    by_cases e : g = f
    · rw [show (f == g) = true from beq_iff_eq.mpr e.symm] at h; cases h
    · rw [if_neg e, if_neg e]
      rw [show (f == g) = false from beq_eq_false_iff_ne.mpr (Ne.symm e)] at h
      exact .o a (r.putD hv h)
  | _, _, _, .l (f := g) q a r, h => by
    rw [List.lookup_cons] at h
    show FsM K Hm H (if g = f then _ else _) (if g = f then _ else _) _
    by_cases e : g = f
    · rw [show (f == g) = true from beq_iff_eq.mpr e.symm] at h; cases h
    · rw [if_neg e, if_neg e]
      rw [show (f == g) = false from beq_eq_false_iff_ne.mpr (Ne.symm e)] at h
      exact .l q a (r.putD hv h)
/-- a list of a field changes -/
theorem FsM.poke {f : Str} {ds es : List PD} {ys : List V} (hy : DpAll K Hm ys es) : ∀ {vs : List (Str × V)} {F : List (Str × MF)} {as : List Addr} {a : Addr}, FsM K Hm H vs F as → as.Nodup → F.lookup f = some (.l ds) → vs.lookup f = some (.ref a) → FsM K Hm (upd H a (.lst ys)) vs (setF f (.l es) F) as
  | _, _, _, _, .nil, _, h, _ => by cases h
  | _, _, _, b, .d (f := g) a r, nd, h, h2 => by
    rw [List.lookup_cons] at h h2
    show FsM K Hm _ _ (if g = f then _ else _) _
    by_cases e : g = f
    · rw [show (f == g) = true from beq_iff_eq.mpr e.symm] at h; cases h
    · rw [if_neg e]
      rw [show (f == g) = false from beq_eq_false_iff_ne.mpr (Ne.symm e)] at h h2
      exact .d a (r.poke hy nd h h2)
  | _, _, _, b, .o (f := g) a r, nd, h, h2 => by
    rw [List.lookup_cons] at h h2
    show FsM K Hm _ _ (if g = f then _ else _) _
    by_cases e : g = f
    · rw [show (f == g) = true from beq_iff_eq.mpr e.symm] at h; cases h
    · rw [if_neg e]
      rw [show (f == g) = false from beq_eq_false_iff_ne.mpr (Ne.symm e)] at h h2
      exact .o a (r.poke hy nd h h2)
  | _, _, _, b, .l (f := g) (a := a0) q a r, nd, h, h2 => by
    rw [List.lookup_cons] at h h2
    show FsM K Hm _ _ (if g = f then _ else _) _
    have nd' := List.nodup_cons.mp nd
    by_cases e : g = f
    · rw [show (f == g) = true from beq_iff_eq.mpr e.symm] at h h2
      cases h2
      rw [if_pos e]
      exact .l upd_same hy (r.move (fun _ _ z => z) (fun _ _ _ z => z) (fun _ _ z => z) fun x hx => upd_ne fun z => nd'.1 (by rw [← z]; exact hx))
    · rw [if_neg e]
      rw [show (f == g) = false from beq_eq_false_iff_ne.mpr (Ne.symm e)] at h h2
      have h : List.lookup f _ = some (MF.l ds) := h
      have h2 : List.lookup f _ = some (V.ref b) := h2
      obtain ⟨c, xs, q1, q2, q3, q4⟩ := r.lookL h
      have e3 : V.ref b = V.ref c := Option.some.inj (h2.symm.trans q1)
      cases e3
      exact .l (by rw [upd_ne (fun z => nd'.1 (by rw [z]; exact q2))]; exact q) a (r.poke hy nd'.2 h h2)
/-- the object at p, its own addresses O -/
structure OA (K : PySem.W.Frag) (M : List Addr) (H : Hp) (p C : Addr) (F : List (Str × MF)) (O : List Addr) : Prop where
  ex : ∃ dx vs as, H p = some (.ins C dx vs) ∧ FsM K (hid M H) H vs F as ∧ O = p :: as ∧ vs.length < 1000
  nd : O.Nodup
  sub : ∀ a ∈ O, a ∈ M
theorem FsM.addr {K : PySem.W.Frag} {Hm H : Hp} : ∀ {vs : List (Str × V)} {F : List (Str × MF)} {as : List Addr}, FsM K Hm H vs F as → ∀ a ∈ as, ∃ xs, H a = some (.lst xs)
  | _, _, _, .nil, a, h => by cases h
  | _, _, _, .d _ r, a, h => r.addr a h
  | _, _, _, .o _ r, a, h => r.addr a h
  | _, _, _, .l q _ r, a, h => by
    rcases List.mem_cons.mp h with z | h
    · exact ⟨_, by rw [z]; exact q⟩
    · exact r.addr a h
theorem OA.none {F : List (Str × MF)} {O : List Addr} (o : OA K M H p C F O) : ∀ a ∈ O, ∃ x, H a = some x ∧ ∀ ps, x ≠ .tbl ps := by
  obtain ⟨dx, vs, as, h1, h2, rfl, _⟩ := o.ex
  intro a ha
  rcases List.mem_cons.mp ha with rfl | ha
  · exact ⟨_, h1, fun ps z => by cases z⟩
  · obtain ⟨xs, e⟩ := h2.addr a ha
    exact ⟨_, e, fun ps z => by cases z⟩
theorem OA.nT {F : List (Str × MF)} {O : List Addr} (o : OA K M H p C F O) (t : Tabs T H) : ∀ a ∈ O, a ∉ T := fun a ha => by
  obtain ⟨x, e, n⟩ := o.none a ha
  exact nT_of t e n
theorem OA.move {F : List (Str × MF)} {O : List Addr} (o : OA K M H p C F O) (t : Tabs T H) (hM : ∀ a ∈ M, a ∉ T) (k : Keep T H H') : OA K M H' p C F O := by
  obtain ⟨dx, vs, as, h1, h2, rfl, h3⟩ := id o.ex
  have nT := o.nT t
  have tm : Tabs T (hid M H) := tabs_hid t hM
  have km : Keep T (hid M H) (hid M H') := hid_keep k
  refine ⟨⟨dx, vs, as, k.at_ _ _ h1 (nT p List.mem_cons_self), h2.move (fun v x z => dp_keep km tm z) (fun v C fs z => ObD.keep km tm z) (fun vs xs z => dps_keep km tm z) (fun a ha => ?_), rfl, h3⟩, o.nd, o.sub⟩
  obtain ⟨x, e, n⟩ := o.none a (List.mem_cons_of_mem _ ha)
  rw [e]
  exact k.at_ _ _ e (nT a (List.mem_cons_of_mem _ ha))
end

/-! ### statements that change the object -/
structure OC where
  K : PySem.W.Frag
  T : List Addr
  M : List Addr
  p : Addr
  C : Addr
  O : List Addr
  Hs : Hp
structure SRM (k : OC) (σ : L2.St) (H : Hp) (ρ : DEnv) (F : List (Str × MF)) : Prop where
  sr : SR ⟨k.K, k.T, k.M, H⟩ [] σ H ρ
  oa : OA k.K k.M H k.p k.C F k.O
  kx : KeepX k.T k.O k.Hs H
section
variable {k : OC} {σ : L2.St} {H H' : Hp} {ρ : DEnv} {F : List (Str × MF)}
theorem hid_nil' {H : Hp} : hid [] H = H := hid_nil
/-- heaps move on, the object stays -/
theorem SRM.move (r : SRM k σ H ρ F) {σ' : L2.St} {ρ' : DEnv} (kp : Keep k.T H H') (s : SR ⟨k.K, k.T, k.M, H⟩ [] σ' H' ρ') : SRM k σ' H' ρ' F := by
  have u := s.up
  have e : DC.up ⟨k.K, k.T, k.M, H⟩ [] H' = ⟨k.K, k.T, k.M, H'⟩ := by unfold DC.up; rw [hid_nil]
  rw [e] at u
  exact ⟨u, r.oa.move r.sr.tab (fun a h => (r.sr.msk a h).1) kp, r.kx.trans (.of kp)⟩
/-- an own object changes -/
theorem SRM.poke (r : SRM k σ H ρ F) {a : Addr} {o : HO} {F' : List (Str × MF)} (ha : a ∈ k.O) (hn : ∀ ps, o ≠ .tbl ps) (oa : OA k.K k.M (upd H a o) k.p k.C F' k.O) : SRM k σ (upd H a o) ρ F' := by
  have nT : a ∉ k.T := r.oa.nT r.sr.tab a ha
  have aM : a ∈ k.M := r.oa.sub a ha
  have hh : hid (k.M ++ []) (upd H a o) = hid (k.M ++ []) H := hid_in (by rw [List.append_nil]; exact aM)
  have kt : Tabs k.T (upd H a o) := fun P hP => by
    obtain ⟨ps, e, ok⟩ := r.sr.tab P hP
    exact ⟨ps, by rw [upd_ne (fun z => nT (by rw [← z]; exact hP))]; exact e, ok⟩
  refine ⟨⟨kt, .refl, fun b hb => ⟨(r.sr.msk b hb).1, fun z => ?_⟩, fun b hb => (nomatch hb), r.sr.len, fun i s e => ?_, r.sr.inj⟩, oa, r.kx.trans (.upd ha nT)⟩
  · have z : upd H a o b = none := z
    by_cases q : b = a
    · rw [q, upd_same] at z; cases z
    · rw [upd_ne q] at z
      exact (r.sr.msk b hb).2 z
  · obtain ⟨ov, h1, h2⟩ := r.sr.rel i s e
    refine ⟨ov, h1, ?_⟩
    show SlotOk k.K (hid (k.M ++ []) (upd H a o)) (upd H a o) [] ov s
    rw [hh]
    cases s with
    | own ds =>
      cases ov with
      | none => exact h2
      | some v =>
        obtain ⟨b, xs, q1, q2, _⟩ := h2
        cases q2
    | non => cases ov <;> trivial
    | dat d => cases ov <;> exact h2
    | ob C fs => cases ov <;> exact h2
    | raw w => cases ov <;> exact h2
end
structure MEnds where
  nx : DEnv → List (Str × MF) → Prop
  rt : PD → List (Str × MF) → Prop
structure LeM (k : OC) (D : MEnds) (E : Ends) : Prop where
  nx : ∀ σ H ρ F, SRM k σ H ρ F → D.nx ρ F → E.nx σ H
  rt : ∀ v H d F, Dp k.K (hid k.M H) v d → OA k.K k.M H k.p k.C F k.O → KeepX k.T k.O k.Hs H → D.rt d F → E.rt v H
def SM (k : OC) (t : TS) (D : MEnds) (ρ : DEnv) (F : List (Str × MF)) : Prop := ∀ E, LeM k D E → ∀ σ H, SRM k σ H ρ F → t E σ H
/-- an expression, while the object stands so -/
structure TB (T M : List Addr) (H : Hp) : Prop where
  t : Tabs T H
  m : ∀ a ∈ M, a ∉ T
def EM (k : OC) (te : TE) (ρ : DEnv) (F : List (Str × MF)) (d : PD) : Prop := ∀ H, OA k.K k.M H k.p k.C F k.O → TB k.T k.M H → ED ⟨k.K, k.T, k.M, H⟩ te ρ d
def TM (k : OC) (tt : TT) (ρ : DEnv) (F : List (Str × MF)) (b : Bool) : Prop := ∀ H, OA k.K k.M H k.p k.C F k.O → TB k.T k.M H → ET ⟨k.K, k.T, k.M, H⟩ tt ρ b
section
variable {k : OC} {ρ : DEnv} {F : List (Str × MF)} {D : MEnds} {t u : TS} {te tk : TE} {d : PD}
theorem SRM.tb {σ : L2.St} {H : Hp} (r : SRM k σ H ρ F) : TB k.T k.M H := ⟨r.sr.tab, fun a h => (r.sr.msk a h).1⟩
theorem EM.run (h : EM k te ρ F d) {σ : L2.St} {H : Hp} (r : SRM k σ H ρ F) {Q : VK} (q : ∀ v H', SRM k σ H' ρ F → Keep k.T H H' → Dp k.K (hid k.M H') v d → Q v H') : te σ H Q :=
  h H r.oa r.tb [] σ H r.sr Q fun v H' k1 h1 => q v H' (r.move k1 (r.sr.move k1)) k1 (by rwa [List.append_nil] at h1)
theorem TM.run {tt : TT} {b : Bool} (h : TM k tt ρ F b) {σ : L2.St} {H : Hp} (r : SRM k σ H ρ F) {Q : Bool → Hp → Prop} (q : ∀ H', SRM k σ H' ρ F → Q b H') : tt σ H Q :=
  h H r.oa r.tb [] σ H r.sr Q fun H' k1 => q H' (r.move k1 (r.sr.move k1))
theorem SRM.setD {σ : L2.St} {H : Hp} (r : SRM k σ H ρ F) (i : Nat) {v : V} (h : Dp k.K (hid k.M H) v d) : SRM k (σ.set i (some v)) H (ρ.set i (.dat d)) F := ⟨r.sr.setD i (by rw [List.append_nil]; exact h), r.oa, r.kx⟩
theorem sm_next (h : D.nx ρ F) : SM k tNext D ρ F := fun E L σ H r => L.nx σ H ρ F r h
theorem sm_seq (h : SM k t { D with nx := fun ρ' F' => SM k u D ρ' F' } ρ F) : SM k (tSeq t u) D ρ F := fun E L σ H r => h { E with nx := u E } ⟨fun σ' H' ρ' F' r' q => q E L σ' H' r', L.rt⟩ σ H r
theorem sm_if {tt : TT} {b : Bool} (h : TM k tt ρ F b) (h1 : b = true → SM k t D ρ F) (h2 : b = false → SM k u D ρ F) : SM k (tIfS tt t u) D ρ F := fun E L σ H r => h.run r fun H1 r1 => by
  cases b with
  | true => exact h1 rfl E L σ H1 r1
  | false => exact h2 rfl E L σ H1 r1
theorem sm_when {tt : TT} {b : Bool} (h : TM k tt ρ F b) (h1 : b = true → SM k t D ρ F) (h2 : b = false → D.nx ρ F) : SM k (tIfS tt t tNext) D ρ F := sm_if h h1 fun e => sm_next (h2 e)
theorem sm_ret (h : EM k te ρ F d) (q : D.rt d F) : SM k (tRet te) D ρ F := fun E L σ H r => h.run r fun v H1 r1 _ h1 => L.rt v H1 d F h1 r1.oa r1.kx q
theorem sm_retN (q : D.rt .none F) : SM k tRetN D ρ F := fun E L σ H r => L.rt .non H .none F .non r.oa r.kx q
theorem sm_set {i : Nat} (h : EM k te ρ F d) (q : D.nx (ρ.set i (.dat d)) F) : SM k (tAsg te (gName i)) D ρ F := fun E L σ H r => h.run r fun v H1 r1 _ h1 => L.nx _ _ _ _ (r1.setD i h1) q
theorem sm_drop (h : EM k te ρ F d) (q : D.nx ρ F) : SM k (tDrop te) D ρ F := fun E L σ H r => h.run r fun v H1 r1 _ h1 => L.nx _ _ _ _ r1 q
theorem sm_unp2 {i j : Nat} {a b : PD} (h : EM k te ρ F (.tuple [a, b])) (q : D.nx ((ρ.set i (.dat a)).set j (.dat b)) F) : SM k (tAsg te (gTup k.K 2 (gCons (gName i) (gCons (gName j) gNil)))) D ρ F := fun E L σ H r => h.run r fun v H1 r1 _ h1 => by
  obtain ⟨p, xs, rfl, h2, h3⟩ := dp_tup h1
  cases h3 with
  | cons a1 h3 =>
    cases h3 with
    | cons a2 h3 =>
      cases h3
      exact ⟨p, _, rfl, sqt_same hid_same h2, rfl, _, _, rfl, _, _, rfl, rfl, L.nx _ _ _ _ ((r1.setD i a1).setD j a2) q⟩
/-- the object itself in a slot -/
def isSelf (k : OC) (ρ : DEnv) (i : Nat) : Prop := ρ[i]? = some (.raw (.ref k.p))
theorem self_at {σ : L2.St} {H : Hp} (r : SRM k σ H ρ F) {i : Nat} (h : isSelf k ρ i) : σ[i]? = some (some (.ref k.p)) := by
  obtain ⟨ov, h1, h2⟩ := r.sr.rel i _ h
  cases ov with
  | none => exact h2.elim
  | some v =>
    have e : v = .ref k.p := h2
    rw [e] at h1
    exact h1
/-- self.f as data -/
theorem em_fld {i : Nat} {f : Str} (hs : isSelf k ρ i) (cl : Cls k.K k.C) (na : NoAttr k.K k.C f) (hl : F.lookup f = some (.d d)) : EM k (tFld k.K (tVar i) f) ρ F d := fun H o t => by
  obtain ⟨dx, vs, as, h1, h2, h3, h4⟩ := o.ex
  obtain ⟨v, e1, e2⟩ := h2.lookD hl
  exact ed_mfld hs h1 cl na e1 e2
/-- self.f as a list to be read -/
theorem el_fld {i : Nat} {f : Str} {ds : List PD} (hs : isSelf k ρ i) (cl : Cls k.K k.C) (na : NoAttr k.K k.C f) (hl : F.lookup f = some (.l ds)) {H : Hp} (o : OA k.K k.M H k.p k.C F k.O) : EL ⟨k.K, k.T, k.M, H⟩ (tFld k.K (tVar i) f) ρ ds := by
  obtain ⟨dx, vs, as, h1, h2, h3, h4⟩ := o.ex
  obtain ⟨a, xs, e1, e2, e3, e4⟩ := h2.lookL hl
  exact el_mfld hs h1 cl na e1 e3 e4
/-- self.f as an object -/
theorem eg_fld {i : Nat} {f : Str} {C2 : Addr} {fs : List (Str × PD)} (hs : isSelf k ρ i) (cl : Cls k.K k.C) (na : NoAttr k.K k.C f) (hl : F.lookup f = some (.o C2 fs)) {H : Hp} (o : OA k.K k.M H k.p k.C F k.O) : EG ⟨k.K, k.T, k.M, H⟩ (tFld k.K (tVar i) f) ρ (.ob C2 fs) := fun A σ H' r Q q => by
  obtain ⟨dx, vs, as, h1, h2, h3, h4⟩ := o.ex
  obtain ⟨v, e1, e2⟩ := h2.lookO hl
  obtain ⟨ov, g1, g2⟩ := r.rel i _ hs
  cases ov with
  | none => exact False.elim g2
  | some w =>
    have e : w = .ref k.p := g2
    subst e
    exact ⟨_, g1, k.p, k.C, dx, vs, v, rfl, fld_at r h1, cl, na, e1, q v H' .refl (ObD.keep (base_dp r) (base_tab r) e2)⟩
theorem setF_len {f : Str} {x y : MF} : ∀ {F : List (Str × MF)}, F.lookup f = some y → (setF f x F).length = F.length
  | [], h => by cases h
  | (g, z) :: r, h => by
    rw [List.lookup_cons] at h
    show (if g = f then _ else _ : List (Str × MF)).length = _
    by_cases e : g = f
    · rw [if_pos e]; rfl
    · rw [if_neg e]
      rw [show (f == g) = false from beq_eq_false_iff_ne.mpr (Ne.symm e)] at h
      show (setF f x r).length + 1 = r.length + 1
      rw [setF_len h]
/-- self.f = e, data -/
theorem SRM.putD {σ : L2.St} {H : Hp} (r : SRM k σ H ρ F) {f : Str} {x y : PD} {v : V} (hl : F.lookup f = some (.d x)) (h : Dp k.K (hid k.M H) v y) {dx : Addr} {vs : List (Str × V)} (h1 : H k.p = some (.ins k.C dx vs)) : SRM k σ (upd H k.p (.ins k.C dx (putF f v vs))) ρ (setF f (.d y) F) := by
  obtain ⟨dx', vs', as, g1, g2, g3, g4⟩ := r.oa.ex
  rw [h1] at g1
  cases g1
  have pM : k.p ∈ k.M := r.oa.sub _ (by rw [g3]; exact List.mem_cons_self)
  have pO : k.p ∈ k.O := by rw [g3]; exact List.mem_cons_self
  have nd : k.p ∉ as := by
    have := r.oa.nd
    rw [g3] at this
    exact (List.nodup_cons.mp this).1
  have q := g2.putD h hl
  refine r.poke pO (fun ps z => by cases z) ⟨⟨dx, putF f v vs, as, upd_same, ?_, g3, ?_⟩, r.oa.nd, r.oa.sub⟩
  · rw [hid_in pM]
    exact q.move (fun _ _ z => z) (fun _ _ _ z => z) (fun _ _ z => z) fun a ha => upd_ne fun z => nd (by rw [← z]; exact ha)
  · rw [q.len, setF_len hl, ← g2.len]
    exact g4
theorem sm_fld {i : Nat} {f : Str} {x y : PD} (h : EM k te ρ F y) (hs : isSelf k ρ i) (cl : Cls k.K k.C) (na : NoAttr k.K k.C f) (hl : F.lookup f = some (.d x)) (q : D.nx ρ (setF f (.d y) F)) : SM k (sFld k.K (tVar i) te f) D ρ F := fun E L σ H r => h.run r fun v H1 r1 _ h1 => by
  obtain ⟨dx, vs, as, g1, g2, g3, g4⟩ := r1.oa.ex
  exact ⟨_, self_at r1 hs, k.p, k.C, dx, vs, rfl, g1, cl, na, g4, L.nx _ _ _ _ (r1.putD hl h1 g1) q⟩
theorem sm_fldaug {i : Nat} {f : Str} {m n : Int} (hs : isSelf k ρ i) (cl : Cls k.K k.C) (na : NoAttr k.K k.C f) (hl : F.lookup f = some (.d (.int m))) (h : EM k te ρ F (.int n)) (q : D.nx ρ (setF f (.d (.int (m + n))) F)) : SM k (sFldAug k.K (tVar i) te rAdd f) D ρ F := fun E L σ H r => by
  obtain ⟨dx, vs, as, g1, g2, g3, g4⟩ := r.oa.ex
  obtain ⟨v, e1, e2⟩ := g2.lookD hl
  refine ⟨_, self_at r hs, k.p, k.C, dx, vs, v, rfl, g1, cl, na, e1, h.run r fun w H1 r1 k1 h1 => ⟨m, n, dp_int e2, dp_int h1, ?_⟩⟩
  obtain ⟨dx', vs', as', f1, f2, f3, f4⟩ := r1.oa.ex
  exact ⟨dx', vs', f1, f4, L.nx _ _ _ _ (r1.putD hl (.int _) f1) q⟩
/-- self.f[j] = e -/
theorem SRM.putL {σ : L2.St} {H : Hp} (r : SRM k σ H ρ F) {f : Str} {ds es : List PD} {ys : List V} {dx a : Addr} {vs : List (Str × V)} (h1 : H k.p = some (.ins k.C dx vs)) (hl : F.lookup f = some (.l ds)) (ha : vs.lookup f = some (.ref a)) (hy : DpAll k.K (hid k.M H) ys es) : SRM k σ (upd H a (.lst ys)) ρ (setF f (.l es) F) := by
  obtain ⟨dx', vs', as, g1, g2, g3, g4⟩ := r.oa.ex
  rw [h1] at g1
  cases g1
  obtain ⟨b, xs, e1, e2, e3, e4⟩ := g2.lookL hl
  rw [ha] at e1
  cases e1
  have aO : a ∈ k.O := by rw [g3]; exact List.mem_cons_of_mem _ e2
  have nd := r.oa.nd
  rw [g3] at nd
  have nd' := List.nodup_cons.mp nd
  refine r.poke aO (fun ps z => by cases z) ⟨⟨dx, vs, as, ?_, ?_, g3, g4⟩, r.oa.nd, r.oa.sub⟩
  · rw [upd_ne (fun z => nd'.1 (by rw [z]; exact e2))]
    exact h1
  · rw [hid_in (r.oa.sub a aO)]
    exact g2.poke hy nd'.2 hl ha
theorem sm_item {i : Nat} {f : Str} {ds : List PD} {n : Int} {j : Nat} {y : PD} (h : EM k te ρ F y) (hk : EM k tk ρ F (.int n)) (hs : isSelf k ρ i) (cl : Cls k.K k.C) (na : NoAttr k.K k.C f) (hl : F.lookup f = some (.l ds)) (hj : ixN ds.length n = some j) (q : D.nx ρ (setF f (.l (ds.set j y)) F)) : SM k (tAsg te (gSub (tFld k.K (tVar i) f) tk rSetL)) D ρ F := fun E L σ H r => h.run r fun v H1 r1 k1 h1 => by
  obtain ⟨dx, vs, as, g1, g2, g3, g4⟩ := r1.oa.ex
  obtain ⟨a, xs, e1, e2, e3, e4⟩ := g2.lookL hl
  refine ⟨_, self_at r1 hs, k.p, k.C, dx, vs, _, rfl, g1, cl, na, e1, hk.run r1 fun w H2 r2 k2 h2 => ?_⟩
  have tm := tabs_hid r1.sr.tab fun a h => (r1.sr.msk a h).1
  have aT : a ∉ k.T := r1.oa.nT r1.sr.tab a (by rw [g3]; exact List.mem_cons_of_mem _ e2)
  have pT : k.p ∉ k.T := r1.oa.nT r1.sr.tab k.p (by rw [g3]; exact List.mem_cons_self)
  have e5 := dps_keep (hid_keep k2) tm e4
  exact ⟨a, xs, n, j, rfl, dp_int h2, k2.at_ _ _ e3 aT, by rw [dps_len e4]; exact hj, L.nx _ _ _ _ (r2.putL (k2.at_ _ _ g1 pT) hl e1 (dps_set j e5 (dp_keep (hid_keep k2) tm h1))) q⟩
/-- self.f[j] += e, ints -/
theorem sm_itemaug {i : Nat} {f : Str} {ds : List PD} {n : Nat} {a b : Int} {g : Int → Int → Int} (hk : EM k tk ρ F (.int (n : Int))) (h : EM k te ρ F (.int b)) (hs : isSelf k ρ i) (cl : Cls k.K k.C) (na : NoAttr k.K k.C f) (hl : F.lookup f = some (.l ds)) (hz : ds.length ≤ 1000) (hj : ds[n]? = some (.int a)) (q : D.nx ρ (setF f (.l (ds.set n (.int (g a b)))) F)) : SM k (tAugS (tFld k.K (tVar i) f) tk te (getL k.K) (ipI g) rSetL) D ρ F := fun E L σ H r => by
  obtain ⟨dx, vs, as, g1, g2, g3, g4⟩ := r.oa.ex
  obtain ⟨l, xs, e1, e2, e3, e4⟩ := g2.lookL hl
  have tm := tabs_hid r.sr.tab fun a h => (r.sr.msk a h).1
  have aT : l ∉ k.T := r.oa.nT r.sr.tab l (by rw [g3]; exact List.mem_cons_of_mem _ e2)
  have pT : k.p ∉ k.T := r.oa.nT r.sr.tab k.p (by rw [g3]; exact List.mem_cons_self)
  have hn : n < ds.length := (List.getElem?_eq_some_iff.mp hj).1
  refine ⟨_, self_at r hs, k.p, k.C, dx, vs, _, rfl, g1, cl, na, e1, hk.run r fun w H1 r1 k1 h1 => ?_⟩
  have e5 := dps_keep (hid_keep k1) tm e4
  obtain ⟨z, z1, z2⟩ := dps_get e5 hj
  have ez := dp_int z2
  subst ez
  refine ⟨l, xs, (n : Int), _, rfl, dp_int h1, by omega, by omega, SqL.of (k1.at_ _ _ e3 aT), by rw [Int.toNat_natCast]; exact z1, h.run r1 fun u H2 r2 k2 h2 => ⟨a, b, rfl, dp_int h2, ?_⟩⟩
  have tm1 := tabs_hid r1.sr.tab fun a h => (r1.sr.msk a h).1
  have k12 := k1.trans k2
  refine ⟨l, xs, (n : Int), n, rfl, dp_int h1, k12.at_ _ _ e3 aT, ?_, L.nx _ _ _ _ (r2.putL (k12.at_ _ _ g1 pT) hl e1 (dps_set n (dps_keep (hid_keep k2) tm1 e5) (.int _))) q⟩
  unfold ixN
  have := dps_len e4
  rw [if_pos (by omega), if_pos (by omega)]
  simp
end
end DL
/-! methods of an object that changes -/
namespace DL
open PySem PySem.Spec PyProof.Rows L2 DA
abbrev RM := List (Str × MF) → List DS → PD → List (Str × MF) → Prop
def spM (K : PySem.W.Frag) (T : List Addr) (C : Addr) (R : RM) : Sp := fun vs H Q _ => ∃ M p O F ss d F', (∀ a ∈ M, a ∉ T ∧ H a ≠ none) ∧ Tabs T H ∧ OA K M H p C F O ∧ ArgsOk K (hid M H) vs (.raw (.ref p) :: ss) ∧ R F ss d F' ∧
  ∀ v H', Dp K (hid M H') v d → OA K M H' p C F' O → KeepX T O H H' → Q v H'
section
variable {P : Program} {w : World} {K : PySem.W.Frag} {mg : Str → Option Value} {base : Heap}
theorem fn_sm {T : List Addr} {C : Addr} {x qual : Str} {st : Stmt} {f : Addr} {fd : FuncData} {N ps : List Str} {k : Nat} {R : RM} (F : Fun K x qual st f fd) (S : FnScope N ps (defScope st)) (hl : ∀ F ss d F', R F ss d F' → ss.length + 1 = ps.length)
    (hb : ∀ (cdv : Value) (A : Around) (outer : List Env) (s : Shared) (H : Hp) (E : XK), Room k (A.deeper (envOfC qual (defScope st) s.heap.objs.size f cdv)) →
      ∃ t, PSs (cxOf CX0 P w K mg base N qual (defScope st) f cdv A outer s H E).nox (defBody st) t ∧ ∀ M p O H0 F ss d F', R F ss d F' → SM ⟨K, T, M, p, C, O, H0⟩ t ⟨fun _ F2 => d = .none ∧ F2 = F', fun e F2 => e = d ∧ F2 = F'⟩ (startD N (.raw (.ref p) :: ss)) F) : FnOk P w K mg base CX0 (k + 1) f fd ps (spM K T C R) := by
  refine F.ok S (fun vs H Q E h => ?_) (fun cdv A outer s H vs Q E hr h => ?_)
  · obtain ⟨M, p, O, F, ss, d, F', _, _, _, h3, h4, _⟩ := h
    rw [h3.len]
    exact hl F ss d F' h4
  · obtain ⟨M, p, O, F, ss, d, F', h1, h2, ho, h3, h4, q⟩ := h
    obtain ⟨t, ht, hq⟩ := hb cdv A outer s H E hr
    refine ⟨t, ht, hq M p O H F ss d F' h4 _ ⟨fun σ' H' ρ' F2 r' e => ?_, fun v H' e F2 h5 h6 h7 h8 => ?_⟩ _ H ⟨start_sr h1 h2 h3, ho, .refl⟩⟩
    · obtain ⟨e, rfl⟩ := e
      subst e
      exact q .non H' .non r'.oa r'.kx
    · obtain ⟨rfl, rfl⟩ := h8
      exact q v H' h5 h6 h7
end
section
variable {k : OC} {ρ : DEnv} {F F' : List (Str × MF)} {D : MEnds} {t u : TS} {te tk : TE} {d : PD}
/-- the object has changed by a call -/
theorem SRM.called {σ : L2.St} {H H' : Hp} (r : SRM k σ H ρ F) (x : KeepX k.T k.O H H') (o : OA k.K k.M H' k.p k.C F' k.O) : SRM k σ H' ρ F' := by
  have tm : Tabs k.T (hid k.M H) := tabs_hid r.sr.tab fun a h => (r.sr.msk a h).1
  have kh : Keep k.T (hid k.M H) (hid k.M H') := x.hid r.oa.sub
  refine ⟨⟨x.tabs r.sr.tab, .refl, fun b hb => ⟨(r.sr.msk b hb).1, fun z => ?_⟩, fun b hb => (nomatch hb), r.sr.len, fun i s e => ?_, r.sr.inj⟩, o, r.kx.trans x⟩
  · have z : H' b = none := z
    by_cases m : b ∈ k.O
    · obtain ⟨y, e, _⟩ := o.none b m
      rw [e] at z; cases z
    · cases e : H b with
      | none => exact (r.sr.msk b hb).2 e
      | some y =>
        rw [x.at_ b y e (r.sr.msk b hb).1 m] at z
        cases z
  · obtain ⟨ov, h1, h2⟩ := r.sr.rel i s e
    refine ⟨ov, h1, ?_⟩
    have h2 : SlotOk k.K (hid (k.M ++ []) H) H [] ov s := h2
    show SlotOk k.K (hid (k.M ++ []) H') H' [] ov s
    rw [List.append_nil] at h2 ⊢
    cases s with
    | own ds =>
      cases ov with
      | none => exact h2
      | some v =>
        obtain ⟨b, xs, q1, q2, _⟩ := h2
        cases q2
    | non => cases ov <;> trivial
    | dat d =>
      cases ov with
      | none => exact h2
      | some v => exact dp_keep kh tm h2
    | ob C fs =>
      cases ov with
      | none => exact h2
      | some v => exact ObD.keep kh tm h2
    | raw w => cases ov <;> exact h2
def AM (k : OC) (ta : TA) (ρ : DEnv) (F : List (Str × MF)) (ss : List DS) : Prop := ∀ H, OA k.K k.M H k.p k.C F k.O → TB k.T k.M H → EA ⟨k.K, k.T, k.M, H⟩ ta ρ ss
theorem am_nil : AM k tNil ρ F [] := fun H o t => ea_nil
theorem am_d {tr : TA} {ss : List DS} (h : EM k te ρ F d) (hr : AM k tr ρ F ss) : AM k (tCons te tr) ρ F (.dat d :: ss) := fun H o t => ea_d (h H o t) (hr H o t)
theorem em_var {i : Nat} (h : ρ[i]? = some (.dat d)) : EM k (tVar i) ρ F d := fun H o t => ed_var h
theorem meth_run {σ : L2.St} {H : Hp} (r : SRM k σ H ρ F) {i : Nat} {m : Str} {R : RM} {ta : TA} {ss : List DS} {E : XK} (hs : isSelf k ρ i) (hm : F.lookup m = none) (ha : AM k ta ρ F ss) (hR : R F ss d F') {Q : VK} (q : ∀ v H', SRM k σ H' ρ F' → Dp k.K (hid k.M H') v d → Q v H') : tMeth k.C m (spM k.K k.T k.C R) [] E (tVar i) ta σ H Q := by
  obtain ⟨dx, vs, as, g1, g2, g3, g4⟩ := r.oa.ex
  refine ⟨_, self_at r hs, k.p, dx, vs, rfl, g1, g2.lookN hm, ha H r.oa r.tb [] σ H r.sr _ fun ws H1 k1 h1 => ?_⟩
  have r1 := r.move k1 (r.sr.move k1)
  rw [show (⟨k.K, k.T, k.M, H⟩ : DC).M ++ [] = k.M from List.append_nil _] at h1
  refine ⟨k.M, k.p, k.O, F, ss, d, F', r1.sr.msk, r1.sr.tab, r1.oa, ?_, hR, fun v H2 h2 o2 x2 => q v H2 (r1.called x2 o2) h2⟩
  rw [List.append_nil]
  exact .cons (show ArgOk k.K (hid k.M H1) (.ref k.p) (.raw (.ref k.p)) from rfl) h1
theorem sm_setM {i j : Nat} {m : Str} {R : RM} {ta : TA} {ss : List DS} {E : XK} (hs : isSelf k ρ i) (hm : F.lookup m = none) (ha : AM k ta ρ F ss) (hR : R F ss d F') (q : D.nx (ρ.set j (.dat d)) F') : SM k (tAsg (tMeth k.C m (spM k.K k.T k.C R) [] E (tVar i) ta) (gName j)) D ρ F := fun _ L σ H r =>
  meth_run r hs hm ha hR fun v H1 r1 h1 => L.nx _ _ _ _ (r1.setD j h1) q
theorem sm_dropM {i : Nat} {m : Str} {R : RM} {ta : TA} {ss : List DS} {E : XK} (hs : isSelf k ρ i) (hm : F.lookup m = none) (ha : AM k ta ρ F ss) (hR : R F ss d F') (q : D.nx ρ F') : SM k (tDrop (tMeth k.C m (spM k.K k.T k.C R) [] E (tVar i) ta)) D ρ F := fun _ L σ H r =>
  meth_run r hs hm ha hR fun v H1 r1 h1 => L.nx _ _ _ _ r1 q
/-- x = None if t else self.m(..) -/
theorem sm_setIfM {i j : Nat} {m : Str} {R : RM} {ta : TA} {tt : TT} {ss : List DS} {E : XK} {b : Bool} (ht : TM k tt ρ F b) (h1 : b = true → EM k te ρ F d ∧ D.nx (ρ.set j (.dat d)) F) (hs : isSelf k ρ i) (hm : F.lookup m = none) (ha : b = false → AM k ta ρ F ss) (hR : b = false → R F ss d F') (q : b = false → D.nx (ρ.set j (.dat d)) F') : SM k (tAsg (tIf tt te (tMeth k.C m (spM k.K k.T k.C R) [] E (tVar i) ta)) (gName j)) D ρ F := fun _ L σ H r =>
  ht.run r fun H1 r1 => by
    cases b with
    | true => exact (h1 rfl).1.run r1 fun v H2 r2 _ h2 => L.nx _ _ _ _ (r2.setD j h2) (h1 rfl).2
    | false => exact meth_run r1 hs hm (ha rfl) (hR rfl) fun v H2 r2 h2 => L.nx _ _ _ _ (r2.setD j h2) (q rfl)
/-- self.f, x = e -/
theorem sm_fldName {i j : Nat} {f : Str} {x a b : PD} (h : EM k te ρ F (.tuple [a, b])) (hs : isSelf k ρ i) (cl : Cls k.K k.C) (na : NoAttr k.K k.C f) (hl : F.lookup f = some (.d x)) (q : D.nx (ρ.set j (.dat b)) (setF f (.d a) F)) : SM k (tAsg te (gTup k.K 2 (gCons (gFld k.K (tVar i) f) (gCons (gName j) gNil)))) D ρ F := fun E L σ H r => h.run r fun v H1 r1 _ h1 => by
  obtain ⟨p, xs, rfl, h2, h3⟩ := dp_tup h1
  cases h3 with
  | cons a1 h3 =>
    cases h3 with
    | cons a2 h3 =>
      cases h3
      obtain ⟨dx, vs, as, g1, g2, g3, g4⟩ := r1.oa.ex
      have pM : k.p ∈ k.M := r1.oa.sub _ (by rw [g3]; exact List.mem_cons_self)
      refine ⟨p, _, rfl, sqt_same hid_same h2, rfl, _, _, rfl, ⟨_, self_at r1 hs, k.p, k.C, dx, vs, rfl, g1, cl, na, g4, _, _, rfl, rfl, L.nx _ _ _ _ ((r1.putD hl a1 g1).setD j ?_) q⟩⟩
      rw [hid_in pM]
      exact a2
/-- for x in t: a tuple of data; the body may change the object -/
theorem sm_forT {ds : List PD} {j : Nat} {tb : TS} (h : EM k te ρ F (.tuple ds)) (Inv : Nat → DEnv → List (Str × MF) → Prop) (h0 : Inv 0 ρ F)
    (hs : ∀ i d ρ' F' Hs, ds[i]? = some d → Inv i ρ' F' → SM ⟨k.K, k.T, k.M, k.p, k.C, k.O, Hs⟩ tb ⟨fun ρ2 F2 => Inv (i + 1) ρ2 F2, D.rt⟩ (ρ'.set j (.dat d)) F')
    (hd : ∀ ρ' F', Inv ds.length ρ' F' → D.nx ρ' F') : SM k (tFor (iTup k.K te) (gName j) tb) D ρ F := fun E L σ H r => h.run r fun v H1 r1 _ h1 => by
  obtain ⟨a, xs, rfl, h2, h3⟩ := dp_tup h1
  have tm := tabs_hid r1.sr.tab fun a h => (r1.sr.msk a h).1
  have back : ∀ {σ' H' ρ' F'}, SRM ⟨k.K, k.T, k.M, k.p, k.C, k.O, H1⟩ σ' H' ρ' F' → SRM k σ' H' ρ' F' := fun r' => ⟨r'.sr, r'.oa, r1.kx.trans r'.kx⟩
  have tups : ∀ {σ' H' ρ' F'}, SRM ⟨k.K, k.T, k.M, k.p, k.C, k.O, H1⟩ σ' H' ρ' F' → SqT k.K H' a xs ∧ DpAll k.K (hid k.M H') xs ds := fun r' => by
    have kh := r'.kx.hid r'.oa.sub
    exact ⟨sqt_same hid_same (kh.sqT tm h2), dps_keep kh tm h3⟩
  refine ⟨a, rfl, ⟨xs, sqt_same hid_same h2⟩, for_tup (fun i σ' H' => ∃ ρ' F', SRM ⟨k.K, k.T, k.M, k.p, k.C, k.O, H1⟩ σ' H' ρ' F' ∧ Inv i ρ' F') ⟨ρ, F, ⟨r1.sr, r1.oa, .refl⟩, h0⟩ (fun i σ' H' _ ⟨ρ', F', r', _⟩ => (tups r').1) ?_ ?_⟩
  · rintro i x σ' H' hx ⟨ρ', F', r', hv⟩
    have s2 := (tups r').2
    obtain ⟨d, hd', hx'⟩ := dps_at s2 hx
    refine hs i d ρ' F' H1 hd' hv { E with nx := fun σ2 H2 => ∃ ρ2 F2, SRM ⟨k.K, k.T, k.M, k.p, k.C, k.O, H1⟩ σ2 H2 ρ2 F2 ∧ Inv (i + 1) ρ2 F2, ct := fun σ2 H2 => ∃ ρ2 F2, SRM ⟨k.K, k.T, k.M, k.p, k.C, k.O, H1⟩ σ2 H2 ρ2 F2 ∧ Inv (i + 1) ρ2 F2, bk := E.nx } ⟨fun σ2 H2 ρ2 F2 r2 q => ⟨ρ2, F2, r2, q⟩, fun v2 H2 d2 F2 q1 q2 q3 q4 => L.rt v2 H2 d2 F2 q1 q2 (r1.kx.trans q3) q4⟩ _ H' (r'.setD j hx')
  · rintro σ' H' ⟨ρ', F', r', hv⟩
    rw [dps_len h3] at hv
    exact L.nx _ _ _ _ (back r') (hd ρ' F' hv)
end
end DL
/-! walks over the lists of an object that stands still meanwhile -/
namespace DL
open PySem PySem.Spec PyProof.Rows L2 DA
def FL (c : DC) (te : TE) (ρ : DEnv) (ds : List PD) : Prop := ∀ A σ H, SR c A σ H ρ → ∀ Q : VK, (∀ a xs, c.H0 a = some (.lst xs) → DpAll c.K (hid c.M c.H0) xs ds → Q (.ref a) H) → te σ H Q
section
variable {c : DC} {ρ : DEnv} {te : TE} {ds : List PD}
theorem fl_mfld {i : Nat} {p C dx a : Addr} {fs : List (Str × V)} {f : Str} {xs : List V} (h : ρ[i]? = some (.raw (.ref p))) (h0 : c.H0 p = some (.ins C dx fs)) (cl : Cls c.K C) (na : NoAttr c.K C f) (hl : fs.lookup f = some (.ref a)) (ha : c.H0 a = some (.lst xs)) (hd : DpAll c.K (hid c.M c.H0) xs ds) : FL c (tFld c.K (tVar i) f) ρ ds := fun A σ H r Q q => by
  obtain ⟨ov, h1, h2⟩ := r.rel i _ h
  cases ov with
  | none => exact False.elim h2
  | some w =>
    have e : w = .ref p := h2
    subst e
    exact ⟨_, h1, p, C, dx, fs, _, rfl, fld_at r h0, cl, na, hl, q a xs ha hd⟩
theorem el_fl (h : FL c te ρ ds) : EL c te ρ ds := fun A σ H r Q q => h A σ H r Q fun a xs h1 h2 => q a xs H .refl (SqL.of (r.keep.at_ _ _ h1 (nT_of r.tab h1 fun ps z => by cases z))) (dps_keep (base_dp r) (base_tab r) h2)
/-- the list, at every later turn -/
theorem fl_base {A A' : List Addr} {σ σ' : L2.St} {H H' : Hp} {ρ ρ' : DEnv} {a : Addr} {xs : List V} (r : SR c A σ H ρ) (r' : SR (c.up A H) A' σ' H' ρ') (h1 : c.H0 a = some (.lst xs)) (h2 : DpAll c.K (hid c.M c.H0) xs ds) : SqL c.K H' a xs ∧ DpAll c.K (hid (c.M ++ A') H') xs ds := by
  have aT : a ∉ c.T := nT_of r.tab h1 fun ps z => by cases z
  have aA : a ∉ A := fun m => by
    rw [(r.new a m).1] at h1
    cases h1
  have e1 : H a = some (.lst xs) := r.keep.at_ _ _ h1 aT
  have e2 : H' a = some (.lst xs) := r'.keep.at_ a _ (hid_of aA e1) aT
  exact ⟨SqL.of e2, dps_keep (upk r r') r.tabm (dps_keep (base_dp r) (base_tab r) h2)⟩
theorem id_listF (h : FL c te ρ ds) : ID c (iList c.K te) ρ ds := fun A σ H r R q => h A σ H r _ fun a xs h1 h2 => by
  have aT : a ∉ c.T := nT_of r.tab h1 fun ps z => by cases z
  refine ⟨a, rfl, ⟨xs, SqL.of (r.keep.at_ _ _ h1 aT)⟩, q _ H .refl ⟨fun i A' σ' H' ρ' r' hi => ?_, fun i A' σ' H' ρ' x H2 r' y d hd => ?_, fun i A' σ' H' ρ' r' hi => ?_⟩⟩
  · obtain ⟨s1, s2⟩ := fl_base r r' h1 h2
    have hx : i < xs.length := by rw [dps_len s2]; exact hi
    exact ⟨xs, xs[i], s1, List.getElem?_eq_getElem hx⟩
  · obtain ⟨s1, s2⟩ := fl_base r r' h1 h2
    obtain ⟨rfl, y⟩ := y
    obtain ⟨w, e1, e2⟩ := dps_get s2 hd
    rw [y xs s1] at e1
    cases e1
    exact ⟨.refl, e2⟩
  · obtain ⟨s1, s2⟩ := fl_base r r' h1 h2
    exact ⟨xs, s1, by rw [dps_len s2]; exact hi⟩
theorem id_enumF (h : FL c te ρ ds) : ID c (iEnum c.K (tCons te tNil)) ρ (enumD ds) := fun A σ H r R q => h A σ H r _ fun a xs h1 h2 => by
  have aT : a ∉ c.T := nT_of r.tab h1 fun ps z => by cases z
  refine ⟨a, xs, rfl, SqL.of (r.keep.at_ _ _ h1 aT), q _ H .refl ⟨fun i A' σ' H' ρ' r' hi => ?_, fun i A' σ' H' ρ' x H2 r' y d hd => ?_, fun i A' σ' H' ρ' r' hi => ?_⟩⟩
  · obtain ⟨s1, s2⟩ := fl_base r r' h1 h2
    rw [enumD_len] at hi
    have hx : i < xs.length := by rw [dps_len s2]; exact hi
    exact ⟨xs, xs[i], s1, List.getElem?_eq_getElem hx⟩
  · obtain ⟨s1, s2⟩ := fl_base r r' h1 h2
    obtain ⟨T, y0, rfl, hT, rfl, y⟩ := y
    obtain ⟨d0, hd0, rfl⟩ := enumD_get hd
    obtain ⟨w, e1, e2⟩ := dps_get s2 hd0
    rw [y xs s1] at e1
    cases e1
    exact new_item (c := c.up A H) r' hT e2
  · obtain ⟨s1, s2⟩ := fl_base r r' h1 h2
    rw [enumD_len] at hi
    exact ⟨xs, s1, by rw [dps_len s2]; exact hi⟩
/-- the field of an object that changes elsewhere -/
theorem fl_fld {k : OC} {F : List (Str × MF)} {i : Nat} {f : Str} {H1 : Hp} (hs : isSelf k ρ i) (cl : Cls k.K k.C) (na : NoAttr k.K k.C f) (hl : F.lookup f = some (.l ds)) {H : Hp} (o : OA k.K k.M H k.p k.C F k.O) : FL ⟨k.K, k.T, k.M, H⟩ (tFld k.K (tVar i) f) ρ ds := by
  obtain ⟨dx, vs, as, h1, h2, h3, h4⟩ := o.ex
  obtain ⟨a, xs, e1, e2, e3, e4⟩ := h2.lookL hl
  exact fl_mfld hs h1 cl na e1 e3 e4
end
section
variable {K : PySem.W.Frag} {T M : List Addr} {H : Hp} {p C : Addr} {O : List Addr} {F : List (Str × MF)} {ρ : DEnv} {i : Nat} {f : Str}
theorem od_fld {d : PD} (o : OA K M H p C F O) (hs : ρ[i]? = some (.raw (.ref p))) (cl : Cls K C) (na : NoAttr K C f) (hl : F.lookup f = some (.d d)) : ED ⟨K, T, M, H⟩ (tFld K (tVar i) f) ρ d := by
  obtain ⟨dx, vs, as, h1, h2, h3, h4⟩ := o.ex
  obtain ⟨v, e1, e2⟩ := h2.lookD hl
  exact ed_mfld hs h1 cl na e1 e2
theorem of_fld {ds : List PD} (o : OA K M H p C F O) (hs : ρ[i]? = some (.raw (.ref p))) (cl : Cls K C) (na : NoAttr K C f) (hl : F.lookup f = some (.l ds)) : FL ⟨K, T, M, H⟩ (tFld K (tVar i) f) ρ ds := by
  obtain ⟨dx, vs, as, h1, h2, h3, h4⟩ := o.ex
  obtain ⟨a, xs, e1, e2, e3, e4⟩ := h2.lookL hl
  exact fl_mfld hs h1 cl na e1 e3 e4
theorem ol_fld {ds : List PD} (o : OA K M H p C F O) (hs : ρ[i]? = some (.raw (.ref p))) (cl : Cls K C) (na : NoAttr K C f) (hl : F.lookup f = some (.l ds)) : EL ⟨K, T, M, H⟩ (tFld K (tVar i) f) ρ ds := el_fl (of_fld o hs cl na hl)
theorem og_fld {C2 : Addr} {fs : List (Str × PD)} (o : OA K M H p C F O) (hs : ρ[i]? = some (.raw (.ref p))) (cl : Cls K C) (na : NoAttr K C f) (hl : F.lookup f = some (.o C2 fs)) : EG ⟨K, T, M, H⟩ (tFld K (tVar i) f) ρ (.ob C2 fs) := eg_fld (k := ⟨K, T, M, p, C, O, H⟩) (F := F) hs cl na hl o
end
end DL
namespace PT
open PySem PySem.Spec PyProof.Rows L2 DA DL TR

abbrev Deed := Str × Nat
def encDd (x : Deed) : PD := .tuple [.str x.1, intD x.2]
def encPr (l : List Deed) : PD := .list (l.map encDd)
/-- a machine -/
structure Mach (μ : Type) where
  ps : List Nat
  hs : List (Option Nat)
  m : μ
  clock : Nat
  progs : List (List Deed)
  reached : List Nat
  worked : List Nat
  comings : List (Option Nat)
  finishes : List (Option Nat)
section
variable {μ : Type}
def mF (S : Chs μ) (C : Addr) (fs : List (Str × PD)) (x : Mach μ) : List (Str × MF) :=
  [("chooser", .o C fs), ("state", .d (encS S x.ps x.hs x.m)), ("clock", .d (intD x.clock)), ("programs", .l (x.progs.map encPr)), ("reached", .l (x.reached.map intD)), ("worked", .l (x.worked.map intD)), ("comings", .l (x.comings.map encO)), ("finishes", .l (x.finishes.map encO))]
variable {S : Chs μ} {C : Addr} {fs : List (Str × PD)} {x : Mach μ}
theorem l_ch : (mF S C fs x).lookup ("chooser" : Str) = some (MF.o C fs) := by rfl
theorem l_st : (mF S C fs x).lookup ("state" : Str) = some (MF.d (encS S x.ps x.hs x.m)) := by rfl
theorem l_ck : (mF S C fs x).lookup ("clock" : Str) = some (MF.d (intD x.clock)) := by rfl
theorem l_pr : (mF S C fs x).lookup ("programs" : Str) = some (MF.l (x.progs.map encPr)) := by rfl
theorem l_re : (mF S C fs x).lookup ("reached" : Str) = some (MF.l (x.reached.map intD)) := by rfl
theorem l_wo : (mF S C fs x).lookup ("worked" : Str) = some (MF.l (x.worked.map intD)) := by rfl
theorem l_co : (mF S C fs x).lookup ("comings" : Str) = some (MF.l (x.comings.map encO)) := by rfl
theorem l_fi : (mF S C fs x).lookup ("finishes" : Str) = some (MF.l (x.finishes.map encO)) := by rfl
theorem l_no {m : Str} (h : m ∈ (["tick", "words", "goes_on", "_next_deed", "_advance", "load"] : List Str)) : (mF S C fs x).lookup m = none := by
  simp only [List.mem_cons, List.not_mem_nil, or_false] at h
  rcases h with rfl | rfl | rfl | rfl | rfl | rfl <;> rfl
theorem s_st {ps hs m} : setF "state" (.d (encS S ps hs m)) (mF S C fs x) = mF S C fs { x with ps := ps, hs := hs, m := m } := by rfl
theorem s_ck {n : Nat} : setF "clock" (.d (intD n)) (mF S C fs x) = mF S C fs { x with clock := n } := by rfl
theorem s_pr {l} : setF "programs" (.l (l.map encPr)) (mF S C fs x) = mF S C fs { x with progs := l } := by rfl
theorem s_re {l : List Nat} : setF "reached" (.l (l.map intD)) (mF S C fs x) = mF S C fs { x with reached := l } := by rfl
theorem s_wo {l : List Nat} : setF "worked" (.l (l.map intD)) (mF S C fs x) = mF S C fs { x with worked := l } := by rfl
theorem s_co {l : List (Option Nat)} : setF "comings" (.l (l.map encO)) (mF S C fs x) = mF S C fs { x with comings := l } := by rfl
theorem s_fi {l : List (Option Nat)} : setF "finishes" (.l (l.map encO)) (mF S C fs x) = mF S C fs { x with finishes := l } := by rfl
end
/-- the class as the top has made it -/
structure MC (K : PySem.W.Frag) (CM : Addr) : Prop where
  cl : Cls K CM
  ch : NoAttr K CM "chooser"
  st : NoAttr K CM "state"
  ck : NoAttr K CM "clock"
  pr : NoAttr K CM "programs"
  re : NoAttr K CM "reached"
  wo : NoAttr K CM "worked"
  co : NoAttr K CM "comings"
  fi : NoAttr K CM "finishes"
def wordOf : Nat → Str
  | 0 => "away" | 1 => "ready" | 2 => "waits" | 3 => "waits" | 4 => "ready" | _ => "ready"
def wordsOf (ps : List Nat) : PD := .list (ps.map fun n => PyData.str (wordOf n))
def okPs (ps : List Nat) : Prop := (∀ n ∈ ps, n < 6) ∧ ps.length ≤ 100
section
variable {μ : Type}
def R_words (S : Chs μ) (C : Addr) (fs : List (Str × PD)) : RM := fun F ss d F' => ∃ x : Mach μ, okPs x.ps ∧ F = mF S C fs x ∧ ss = [] ∧ d = wordsOf x.ps ∧ F' = F
def goesB (x : Mach μ) : Bool := !(slotsOf x.ps).isEmpty || x.comings.any (·.isSome)
def R_goes (S : Chs μ) (C : Addr) (fs : List (Str × PD)) : RM := fun F ss d F' => ∃ x : Mach μ, okPs x.ps ∧ x.comings.length ≤ 100 ∧ F = mF S C fs x ∧ ss = [] ∧ d = .bool (goesB x) ∧ F' = F
def nextM (x : Mach μ) (s : Nat) : Deed := ((x.progs.getD s [])[x.reached.getD s 0]?).getD (("end" : Str), 0)
def R_next (S : Chs μ) (C : Addr) (fs : List (Str × PD)) : RM := fun F ss d F' => ∃ (x : Mach μ) (s : Nat), s < x.progs.length ∧ s < x.reached.length ∧ F = mF S C fs x ∧ ss = [.dat (intD s)] ∧ d = encDd (nextM x s) ∧ F' = F
def advM (x : Mach μ) (s : Nat) (y : Deed) : Mach μ :=
  if y.1 = "end" then { x with finishes := x.finishes.set s (some (x.clock + 1)) } else
  if y.1 = "work" then (if x.worked.getD s 0 + 1 < y.2 then { x with worked := x.worked.set s (x.worked.getD s 0 + 1) } else { x with worked := x.worked.set s 0, reached := x.reached.set s (x.reached.getD s 0 + 1) }) else
  if y.1 = "sleep" then { x with comings := x.comings.set s (some (x.clock + y.2)), worked := x.worked.set s 0, reached := x.reached.set s (x.reached.getD s 0 + 1) } else
  { x with worked := x.worked.set s 0, reached := x.reached.set s (x.reached.getD s 0 + 1) }
def okSz (x : Mach μ) : Prop := x.reached.length = x.ps.length ∧ x.worked.length = x.ps.length ∧ x.comings.length = x.ps.length ∧ x.finishes.length = x.ps.length ∧ x.progs.length = x.ps.length ∧ x.hs.length = 2
def R_adv (S : Chs μ) (C : Addr) (fs : List (Str × PD)) : RM := fun F ss d F' => ∃ (x : Mach μ) (s : Nat) (y : Deed), okSz x ∧ x.ps.length ≤ 100 ∧ s < x.ps.length ∧ F = mF S C fs x ∧ ss = [.dat (intD s), .dat (encDd y)] ∧ d = .none ∧ F' = mF S C fs (advM x s y)
end
theorem wd_at {n : Nat} (h : n < 6) : atI [PyData.str "away", .str "ready", .str "waits", .str "waits", .str "ready", .str "ready"] ((n : Nat) : Int) = some (.str (wordOf n)) := by
  match n, h with
  | 0, _ => rfl
  | 1, _ => rfl
  | 2, _ => rfl
  | 3, _ => rfl
  | 4, _ => rfl
  | 5, _ => rfl
theorem atI_N {l : List Nat} {i : Nat} (h : i < l.length) : atI (l.map intD) ((i : Nat) : Int) = some (intD (l.getD i 0)) := atI_at (by
  rw [List.getElem?_map, List.getElem?_eq_getElem h, List.getD_eq_getElem?_getD, List.getElem?_eq_getElem h]
  rfl)
theorem ixN_at {n j : Nat} (h : j < n) : ixN n ((j : Nat) : Int) = some j := by
  unfold ixN
  rw [if_pos (by omega), if_pos (by omega)]
  simp
theorem et_anyC {c : DC} {ρ : DEnv} {te : TE} {bs : List Bool} (h : EL c te ρ (bs.map PyData.bool)) : ED c (tCB (rAny c.K) (tCons te tNil)) ρ (.bool (bs.any id)) := fun A σ H r Q q => h A σ H r _ fun a xs H1 k1 h1 h2 => by
  have e : xs = bs.map V.bl := by
    clear h1 h q
    induction bs generalizing xs with
    | nil => cases h2; rfl
    | cons b bs ih =>
      cases h2 with
      | cons a1 a2 =>
        rw [List.map_cons, dp_bool a1, ih _ a2]
  subst e
  exact ⟨a, bs, rfl, h1, q _ H1 k1 (.bl _)⟩
section
variable {P : Program} {w : World} {K : PySem.W.Frag} {mg : Str → Option Value} {base : Heap} {f : Addr} {fd : FuncData} {T : List Addr}
end
abbrev sMWords : Stmt := inClass (top 44) 5
abbrev nMWords : List Str := ["self", "post"]
theorem scMWords : FnScope nMWords ["self"] (defScope sMWords) := ⟨rfl, rfl, rfl, by decide +kernel, rfl, by decide +kernel, by decide +kernel⟩
section
variable {P : Program} {w : World} {K : PySem.W.Frag} {mg : Str → Option Value} {base : Heap} {f : Addr} {fd : FuncData} {T : List Addr}
theorem ok_Machine_words (F : Fun K "words" "Machine.words" sMWords f fd) (G : Glob K mg) {μ : Type} {S : Chs μ} {C CM : Addr} {fs : List (Str × PD)} (mc : MC K CM) : FnOk P w K mg base CX0 1 f fd ["self"] (spM K T CM (R_words S C fs)) := by
  refine fn_sm F scMWords (fun F0 ss d F1 h => ?_) (fun cdv A outer s H E hr => ⟨_, (pss_one (ps_ret (pe_lc (own := [("post", 1)]) (g := (gName 1)) (tt := tYes) (te := (tOp (rIxT K) (tC (.ref G.aWORDS)) (tVar 1))) rfl scMWords.nd (pi_tup (pe_ix ix_tup (pe_fld (pv 0) rfl) pe_int (fun _ _ => rfl))) (blkOk_by (N := nMWords) (sc := defScope sMWords) (by decide +kernel)) (fun _ _ _ _ _ => (pg_name (i := 1) scMWords.nd rfl (.inl rfl))) (fun _ _ _ _ _ => pts_nil) (fun _ _ _ _ _ => (pe_ix ix_tup (pe_glob (v := .ref G.aWORDS) (by rfl) G.WORDS rfl) (pv 1) (fun _ _ => rfl)))))), fun M p O H0 F0 ss d F1 h => ?_⟩)
  · obtain ⟨x, h1, rfl, rfl, rfl, rfl⟩ := h
    rfl
  · obtain ⟨x, ⟨h1, h2⟩, rfl, rfl, rfl, rfl⟩ := h
    refine sm_ret (fun H o t => ed_en (en_is (en_lc (js := [1]) (fun _ => true) (fun d => match d with | .int n => .str (wordOf n.toNat) | _ => .none) (id_tup (ds := x.ps.map intD) (ed_ixT (od_fld o rfl mc.cl mc.st l_st) ed_int (atI_at (i := 0) rfl))) (by rw [List.length_map]; omega) (by decide) (fun d hd H1 _ => ?_)) ?_)) ⟨rfl, rfl⟩
    · obtain ⟨n, hn, rfl⟩ := List.mem_map.mp hd
      exact ⟨[intD n], tg_name, et_yes, fun _ => ed_ixT (ed_glob G.dWORDS) (ed_var rfl) (wd_at (h1 n hn))⟩
    · rw [List.filter_map, List.map_map]
      show List.map _ (List.filter (fun _ => true) x.ps) = _
      rw [List.filter_eq_self.mpr fun _ _ => rfl]
      apply List.map_congr_left
      intro n _
      rfl
end
abbrev sMGoes : Stmt := inClass (top 44) 6
abbrev nMGoes : List Str := ["self", "comes"]
theorem scMGoes : FnScope nMGoes ["self"] (defScope sMGoes) := ⟨rfl, rfl, rfl, by decide +kernel, rfl, by decide +kernel, by decide +kernel⟩
section
variable {P : Program} {w : World} {K : PySem.W.Frag} {mg : Str → Option Value} {base : Heap} {f : Addr} {fd : FuncData} {T : List Addr}
theorem ok_Machine_goes_on (F : Fun K "goes_on" "Machine.goes_on" sMGoes f fd) (G : Glob K mg) {μ : Type} {S : Chs μ} {C CM : Addr} {fs : List (Str × PD)} (mc : MC K CM) {fR : Addr} {dR : FuncData} (c_ready_slots : Cal P w K mg base "ready_slots" 2 ["posts"] (spD K T R_ready_slots) fR dR) : FnOk P w K mg base CX0 3 f fd ["self"] (spM K T CM (R_goes S C fs)) := by
  refine fn_sm F scMGoes (fun F0 ss d F1 h => ?_) (fun cdv A outer s H E hr => ⟨_, (pss_cons (ps_if (pt_truth (pe_call c_ready_slots.ok (hr.mono (by decide)) (by rfl) c_ready_slots.g c_ready_slots.kp c_ready_slots.b .nil pass0 (pa_cons (pe_ix ix_tup (pe_fld (pv 0) rfl) pe_int (fun _ _ => rfl)) pa_nil)) (by intro _; rfl)) (pss_one (ps_ret pe_bl)) pss_nil)
      (pss_one (ps_ret (pe_callB (cr_any rfl) (by rfl) G.any (by decide +kernel) (pa_cons (pe_lc (own := [("comes", 1)]) (g := (gName 1)) (tt := tYes) (te := (tNotN (tVar 1))) rfl scMGoes.nd (pi_list (pe_fld (pv 0) rfl)) (blkOk_by (N := nMGoes) (sc := defScope sMGoes) (by decide +kernel)) (fun _ _ _ _ _ => (pg_name (i := 1) scMGoes.nd rfl (.inl rfl))) (fun _ _ _ _ _ => pts_nil) (fun _ _ _ _ _ => (pe_cmp (pc_notN (pv 1))))) pa_nil))))), fun M p O H0 F0 ss d F1 h => ?_⟩)
  · obtain ⟨x, h1, h2, rfl, rfl, rfl, rfl⟩ := h
    rfl
  · obtain ⟨x, ⟨h1, h3⟩, h2, rfl, rfl, rfl, rfl⟩ := h
    have e0 : ((slotsOf x.ps).map intD).isEmpty = (slotsOf x.ps).isEmpty := by cases slotsOf x.ps <;> rfl
    refine sm_seq (sm_when (b := !(slotsOf x.ps).isEmpty) (fun H o t => et_is (et_truth (d := .list ((slotsOf x.ps).map intD)) (ed_call (ea_d (ed_ixT (od_fld o rfl mc.cl mc.st l_st) ed_int (atI_at (i := 0) rfl)) ea_nil) ⟨x.ps, h1, h3, rfl, rfl⟩)) (congrArg (fun b => !b) e0)) (fun hb => ?_) (fun hb => ?_))
    · refine sm_ret (fun H o t => ed_bl) ⟨?_, rfl⟩
      show PyData.bool true = PyData.bool (!(slotsOf x.ps).isEmpty || _)
      rw [hb, Bool.true_or]
    · refine sm_ret (d := .bool ((x.comings.map (·.isSome)).any id)) (fun H o t => et_anyC (el_is (en_el (en_lc (js := [1]) (fun _ => true) (fun d => .bool (!isNone d)) (id_listF (of_fld o rfl mc.cl mc.co l_co)) (by rw [List.length_map]; omega) (by decide) (fun d hd H1 _ => ?_))) ?_)) ⟨?_, rfl⟩
      · exact ⟨[d], tg_name, et_yes, fun _ => ed_notN (ed_var rfl)⟩
      · rw [List.filter_map, List.map_map, List.map_map]
        show List.map _ (List.filter (fun _ => true) x.comings) = _
        rw [List.filter_eq_self.mpr fun _ _ => rfl]
        apply List.map_congr_left
        intro o _
        cases o <;> rfl
      · show PyData.bool _ = PyData.bool (!(slotsOf x.ps).isEmpty || _)
        rw [hb, Bool.false_or, List.any_map]
        rfl
end
abbrev sMNext : Stmt := inClass (top 44) 8
abbrev nMNext : List Str := ["self", "slot", "program", "at"]
theorem scMNext : FnScope nMNext ["self", "slot"] (defScope sMNext) := ⟨rfl, rfl, rfl, by decide +kernel, rfl, by decide +kernel, by decide +kernel⟩
section
variable {P : Program} {w : World} {K : PySem.W.Frag} {mg : Str → Option Value} {base : Heap} {f : Addr} {fd : FuncData} {T : List Addr}
theorem ok_Machine__next_deed (F : Fun K "_next_deed" "Machine._next_deed" sMNext f fd) (G : Glob K mg) {μ : Type} {S : Chs μ} {C CM : Addr} {fs : List (Str × PD)} (mc : MC K CM) : FnOk P w K mg base CX0 1 f fd ["self", "slot"] (spM K T CM (R_next S C fs)) := by
  refine fn_sm F scMNext (fun F0 ss d F1 h => ?_) (fun cdv A outer s H E hr => ⟨_, (pss_cons (ps_set (i := 2) scMNext.nd rfl (.inl rfl) (pe_ix ix_list (pe_fld (pv 0) rfl) (pv 1) (fun _ _ => rfl)))
      (pss_cons (ps_set (i := 3) scMNext.nd rfl (.inl rfl) (pe_ix ix_list (pe_fld (pv 0) rfl) (pv 1) (fun _ _ => rfl)))
      (pss_one (ps_ret (pe_ifExp (pt_cmpR op_lt (pv 3) (pe_callB call_len_seq (by rfl) G.len PySem.boot_len (pa_cons (pv 2) pa_nil)) (nomark _)) (pe_ix ix_list (pv 2) (pv 3) (fun _ _ => rfl)) (pe_tup (pa_cons pe_str (pa_cons pe_int pa_nil)))))))), fun M p O H0 F0 ss d F1 h => ?_⟩)
  · obtain ⟨x, s, h1, h2, rfl, rfl, rfl, rfl⟩ := h
    rfl
  · obtain ⟨x, s, h1, h2, rfl, rfl, rfl, rfl⟩ := h
    have p1 : atI (x.progs.map encPr) ((s : Nat) : Int) = some (encPr (x.progs.getD s [])) := atI_at (by
      rw [List.getElem?_map, List.getElem?_eq_getElem h1, List.getD_eq_getElem?_getD, List.getElem?_eq_getElem h1]
      rfl)
    refine sm_seq (sm_set (d := encPr (x.progs.getD s [])) (fun H o t => ed_ixL (ol_fld o rfl mc.cl mc.pr l_pr) (ed_var rfl) p1) ?_)
    refine sm_seq (sm_set (d := intD (x.reached.getD s 0)) (fun H o t => ed_ixL (ol_fld o rfl mc.cl mc.re l_re) (ed_var rfl) (atI_N h2)) ?_)
    refine sm_ret (d := encDd (nextM x s)) (fun H o t => ed_if (b := decide (x.reached.getD s 0 < (x.progs.getD s []).length)) (et_is (et_test (ed_IB (g := fun i j => decide (i < j)) (ed_var rfl) (ed_lenL (ds := (x.progs.getD s []).map encDd) (el_ed (ed_var rfl))))) ?_) (fun hb => ?_) (fun hb => ?_)) ⟨rfl, rfl⟩
    · rw [List.length_map]
      exact decide_eq_decide.mpr (by omega)
    · have hb := of_decide_eq_true hb
      refine ed_ixL (ds := (x.progs.getD s []).map encDd) (el_ed (ed_var rfl)) (ed_var rfl) (atI_at ?_)
      unfold nextM
      rw [List.getElem?_map, List.getElem?_eq_getElem hb]
      rfl
    · have hb := of_decide_eq_false hb
      have e : nextM x s = (("end" : Str), 0) := by
        unfold nextM
        rw [List.getElem?_eq_none (by omega)]
        rfl
      rw [e]
      exact ed_tup (ds := [.str "end", .int 0]) (ea_d ed_str (ea_d ed_int ea_nil)) (by simp)
end
abbrev sMAdv : Stmt := inClass (top 44) 9
abbrev nMAdv : List Str := ["self", "slot", "deed", "kind", "number"]
theorem scMAdv : FnScope nMAdv ["self", "slot", "deed"] (defScope sMAdv) := ⟨rfl, rfl, rfl, by decide +kernel, rfl, by decide +kernel, by decide +kernel⟩
section
variable {P : Program} {w : World} {K : PySem.W.Frag} {mg : Str → Option Value} {base : Heap} {f : Addr} {fd : FuncData} {T : List Addr}
theorem ok_Machine__advance (F : Fun K "_advance" "Machine._advance" sMAdv f fd) (G : Glob K mg) {μ : Type} {S : Chs μ} {C CM : Addr} {fs : List (Str × PD)} (mc : MC K CM) : FnOk P w K mg base CX0 1 f fd ["self", "slot", "deed"] (spM K T CM (R_adv S C fs)) := by
  refine fn_sm F scMAdv (fun F0 ss d F1 h => ?_) (fun cdv A outer s H E hr => ⟨_, (pss_cons (ps_asg (pv 2) (pg_tup (by rfl) (pgs_cons (pg_name (i := 3) scMAdv.nd rfl (.inl rfl)) (pgs_cons (pg_name (i := 4) scMAdv.nd rfl (.inl rfl)) pgs_nil))))
      (pss_cons (ps_if (pt_cmpR op_eq (pv 3) pe_str (nomark _)) (pss_cons (ps_asg (pe_op op_add (pe_fld (pv 0) rfl) pe_int) (pg_sub (pe_fld (pv 0) rfl) (pv 1) set_list))
      (pss_one ps_retN)) pss_nil)
      (pss_cons (ps_if (pt_cmpR op_eq (pv 3) pe_str (nomark _)) (pss_cons (ps_augL (pe_fld (pv 0) rfl) (pv 1) pe_int ip_add)
      (pss_one (ps_if (pt_cmpR op_lt (pe_ix ix_list (pe_fld (pv 0) rfl) (pv 1) (fun _ _ => rfl)) (pv 4) (nomark _)) (pss_one ps_retN) pss_nil))) pss_nil)
      (pss_cons (ps_if (pt_cmpR op_eq (pv 3) pe_str (nomark _)) (pss_one (ps_asg (pe_op op_add (pe_fld (pv 0) rfl) (pv 4)) (pg_sub (pe_fld (pv 0) rfl) (pv 1) set_list))) pss_nil)
      (pss_cons (ps_augL (pe_fld (pv 0) rfl) (pv 1) pe_int ip_add)
      (pss_one (ps_asg pe_int (pg_sub (pe_fld (pv 0) rfl) (pv 1) set_list)))))))), fun M p O H0 F0 ss d F1 h => ?_⟩)
  · obtain ⟨x, s, y, h1, h2, h3, rfl, rfl, rfl, rfl⟩ := h
    rfl
  · obtain ⟨x, s, y, ⟨z1, z2, z3, z4, z5, z6⟩, hz, h3, rfl, rfl, rfl, rfl⟩ := h
    obtain ⟨kd, nm⟩ := y
    have k1 : ∀ (F : List (Str × MF)) (z : Str), TM ⟨K, T, M, p, CM, O, H0⟩ (tTest (tOp rEq (tVar 3) (tC (.str z)))) [.raw (.ref p), .dat (intD s), .dat (encDd (kd, nm)), .dat (.str kd), .dat (intD nm)] F (decide (kd = z)) := fun F z H o t => et_is (et_test (ed_eq (x := .str kd) (y := .str z) (ed_var rfl) ed_str rfl rfl rfl)) (eqStr kd z)
    have mapS : ∀ (l : List Nat) (n : Nat), (l.map intD).set s (intD n) = (l.set s n).map intD := fun l n => by rw [List.map_set]
    have mapO : ∀ (l : List (Option Nat)) (n : Option Nat), (l.map encO).set s (encO n) = (l.set s n).map encO := fun l n => by rw [List.map_set]
    have fin : ∀ x' : Mach μ, x'.reached = x.reached → x'.worked.length = x.ps.length → ∀ F1, F1 = mF S C fs { x' with worked := x'.worked.set s 0, reached := x'.reached.set s (x'.reached.getD s 0 + 1) } →
        SM ⟨K, T, M, p, CM, O, H0⟩ (tSeq (tAugS (tFld K (tVar 0) "reached") (tVar 1) (tC (.int 1)) (getL K) (ipI fun i j => i + j) rSetL) (tAsg (tC (.int 0)) (gSub (tFld K (tVar 0) "worked") (tVar 1) rSetL))) ⟨fun _ F2 => PyData.none = .none ∧ F2 = F1, fun e F2 => e = .none ∧ F2 = F1⟩ [.raw (.ref p), .dat (intD s), .dat (encDd (kd, nm)), .dat (.str kd), .dat (intD nm)] (mF S C fs x') := fun x' e1 e2 F1 eF => by
      refine sm_seq (sm_itemaug (a := ((x.reached.getD s 0 : Nat) : Int)) (fun H o t => ed_var rfl) (fun H o t => ed_int) rfl mc.cl mc.re l_re (by rw [List.length_map, e1]; omega) ?_ ?_)
      · rw [e1, List.getElem?_map, List.getElem?_eq_getElem (by omega), List.getD_eq_getElem?_getD, List.getElem?_eq_getElem (by omega)]
        rfl
      · have q1 : setF "reached" (.l ((x'.reached.map intD).set s (.int (((x.reached.getD s 0 : Nat) : Int) + 1)))) (mF S C fs x') = mF S C fs { x' with reached := x'.reached.set s (x'.reached.getD s 0 + 1) } := by
          rw [show PyData.int (((x.reached.getD s 0 : Nat) : Int) + 1) = intD (x'.reached.getD s 0 + 1) from by rw [e1]; unfold intD; congr 1]
          rw [mapS]
          exact s_re
        show SM _ _ _ _ (setF _ _ _)
        rw [q1]
        refine sm_item (j := s) (fun H o t => ed_int) (fun H o t => ed_var rfl) rfl mc.cl mc.wo l_wo (ixN_at (by rw [List.length_map]; exact (by omega : s < x'.worked.length))) ⟨rfl, ?_⟩
        rw [eF]
        have q2 := mapS x'.worked 0
        show setF _ (.l ((x'.worked.map intD).set s (intD 0))) _ = _
        rw [q2]
        exact s_wo
    refine sm_seq (sm_unp2 (fun H o t => ed_var rfl) ?_)
    refine sm_seq (sm_when (k1 _ "end") (fun hb => ?_) (fun hb => ?_))
    · have hb := of_decide_eq_true hb
      refine sm_seq (sm_item (j := s) (y := encO (some (x.clock + 1))) (fun H o t => ed_I0 (g := fun a b => a + b) (od_fld o rfl mc.cl mc.ck l_ck) ed_int) (fun H o t => ed_var rfl) rfl mc.cl mc.fi l_fi (ixN_at (by rw [List.length_map]; omega)) ?_)
      refine sm_retN ⟨rfl, ?_⟩
      rw [mapO]
      unfold advM
      rw [if_pos hb]
      exact s_fi
    have n1 := of_decide_eq_false hb
    refine sm_seq (sm_when (k1 _ "work") (fun hb => ?_) (fun hb => ?_))
    · have hb := of_decide_eq_true hb
      refine sm_seq (sm_itemaug (a := ((x.worked.getD s 0 : Nat) : Int)) (fun H o t => ed_var rfl) (fun H o t => ed_int) rfl mc.cl mc.wo l_wo (by rw [List.length_map]; omega) ?_ ?_)
      · rw [List.getElem?_map, List.getElem?_eq_getElem (by omega), List.getD_eq_getElem?_getD, List.getElem?_eq_getElem (by omega)]
        rfl
      have q1 : setF "worked" (.l ((x.worked.map intD).set s (.int (((x.worked.getD s 0 : Nat) : Int) + 1)))) (mF S C fs x) = mF S C fs { x with worked := x.worked.set s (x.worked.getD s 0 + 1) } := by
        rw [show PyData.int (((x.worked.getD s 0 : Nat) : Int) + 1) = intD (x.worked.getD s 0 + 1) from by unfold intD; congr 1]
        rw [mapS]
        exact s_wo
      show SM _ _ _ _ (setF _ _ _)
      rw [q1]
      have g1 : (x.worked.set s (x.worked.getD s 0 + 1)).getD s 0 = x.worked.getD s 0 + 1 := by
        rw [List.getD_eq_getElem?_getD, List.getElem?_set, if_pos rfl, if_pos (by omega)]
        rfl
      refine sm_when (b := decide (x.worked.getD s 0 + 1 < nm)) (fun H o t => et_is (et_test (ed_IB (g := fun i j => decide (i < j)) (ed_ixL (ol_fld o rfl mc.cl mc.wo l_wo) (ed_var rfl) (atI_N (by rw [List.length_set]; omega))) (ed_var rfl))) ?_) (fun hc => ?_) (fun hc => ?_)
      · show decide ((((x.worked.set s (x.worked.getD s 0 + 1)).getD s 0 : Nat) : Int) < (nm : Int)) = _
        rw [g1]
        exact decide_eq_decide.mpr (by omega)
      · have hc := of_decide_eq_true hc
        refine sm_retN ⟨rfl, ?_⟩
        unfold advM
        rw [if_neg n1, if_pos hb, if_pos hc]
      · have hc := of_decide_eq_false hc
        refine sm_seq (sm_when (k1 _ "sleep") (fun hd => ?_) (fun hd => ?_))
        · have hd := of_decide_eq_true hd
          rw [show kd = "work" from hb] at hd
          exact absurd hd (by decide +kernel)
        · refine fin { x with worked := x.worked.set s (x.worked.getD s 0 + 1) } rfl (by rw [List.length_set]; exact z2) _ ?_
          unfold advM
          rw [if_neg n1, if_pos hb, if_neg hc]
          show mF S C fs { x with worked := x.worked.set s 0, reached := _ } = mF S C fs { x with worked := (x.worked.set s (x.worked.getD s 0 + 1)).set s 0, reached := _ }
          rw [List.set_set]
    have n2 := of_decide_eq_false hb
    refine sm_seq (sm_when (k1 _ "sleep") (fun hb => ?_) (fun hb => ?_))
    · have hb := of_decide_eq_true hb
      refine sm_item (j := s) (y := encO (some (x.clock + nm))) (fun H o t => ed_is (ed_I0 (g := fun a b => a + b) (i := (x.clock : Int)) (j := (nm : Int)) (od_fld o rfl mc.cl mc.ck l_ck) (ed_var rfl)) (congrArg PyData.int (show (x.clock : Int) + (nm : Int) = ((x.clock + nm : Nat) : Int) by omega))) (fun H o t => ed_var rfl) rfl mc.cl mc.co l_co (ixN_at (by rw [List.length_map]; omega)) ?_
      show SM _ _ _ _ (setF _ _ _)
      rw [mapO, s_co]
      refine fin { x with comings := x.comings.set s (some (x.clock + nm)) } rfl z2 _ ?_
      unfold advM
      rw [if_neg n1, if_neg n2, if_pos hb]
    · have n3 := of_decide_eq_false hb
      refine fin x rfl z2 _ ?_
      unfold advM
      rw [if_neg n1, if_neg n2, if_neg n3]
end
end PT
namespace PT
open PySem PySem.Spec PyProof.Rows L2 DA DL TR

section
variable {μ : Type}
def comersOf (x : Mach μ) : List Nat := (List.range x.comings.length).filter fun i => decide (x.comings.getD i none = some x.clock)
def clearAll (l : List (Option Nat)) (cs : List Nat) : List (Option Nat) := cs.foldl (fun l c => l.set c none) l
/-- who runs -/
def whoM (S : Chs μ) (x : Mach μ) : Option Nat := S.pick (S.joined x.m (comersOf x)) (come x.ps (comersOf x)) x.hs
/-- the deed of the one that runs -/
def deedX (S : Chs μ) (x : Mach μ) : Option (Nat × Str × Nat) := (whoM S x).map fun w => (w, (nextM x w).1, (nextM x w).2)
def resX (S : Chs μ) (x : Mach μ) : Res4 := afterD (come x.ps (comersOf x)) x.hs (deedX S x)
/-- behind the unit, the programs as they stood -/
def midX (S : Chs μ) (x : Mach μ) : Mach μ := { x with ps := (resX S x).ps, hs := (resX S x).hs, m := S.settled (S.joined x.m (comersOf x)) (whoM S x) (resX S x).word (resX S x).woken, comings := clearAll x.comings (comersOf x) }
def advX (S : Chs μ) (x : Mach μ) : Mach μ := match whoM S x with
  | some w => if (resX S x).word = "ask" then midX S x else advM (midX S x) w (nextM x w)
  | none => midX S x
def tickM (S : Chs μ) (x : Mach μ) : Mach μ := { advX S x with clock := x.clock + 1 }
def rowD (S : Chs μ) (x : Mach μ) : PD := .tuple [wordsOf (come x.ps (comersOf x)), encO (whoM S x), .str (resX S x).word]
structure okTick (S : Chs μ) (x : Mach μ) : Prop where
  ps : okPs x.ps
  sz : okSz x
  j : S.okJ x.m (comersOf x)
  p : S.okP (S.joined x.m (comersOf x)) (come x.ps (comersOf x)) x.hs
  who : ∀ w, whoM S x = some w → w < x.ps.length ∧ ((nextM x w).1 = "take" ∨ (nextM x w).1 = "give" → (nextM x w).2 < 2)
  s : S.okS (S.joined x.m (comersOf x)) (whoM S x) (resX S x).word (resX S x).woken
def R_tick (S : Chs μ) (C : Addr) (fs : List (Str × PD)) : RM := fun F ss d F' => ∃ x : Mach μ, okTick S x ∧ F = mF S C fs x ∧ ss = [] ∧ d = rowD S x ∧ F' = mF S C fs (tickM S x)
def R_load (S : Chs μ) (C : Addr) (fs : List (Str × PD)) : RM := fun F ss d F' => ∃ (x : Mach μ) (s : Nat) (pr : List Deed) (cm : Nat), okSz x ∧ x.ps.length ≤ 100 ∧ s < x.ps.length ∧ F = mF S C fs x ∧ ss = [.dat (intD s), .dat (encPr pr), .dat (intD cm)] ∧ d = .none ∧
  F' = mF S C fs { x with progs := x.progs.set s pr, reached := x.reached.set s 0, worked := x.worked.set s 0, comings := x.comings.set s (some cm), finishes := x.finishes.set s none }
theorem comers_lt (x : Mach μ) : ∀ c ∈ comersOf x, c < x.comings.length := fun c h => List.mem_range.mp (List.mem_filter.mp h).1
theorem comers_eq (x : Mach μ) : ((enumD (x.comings.map encO)).filter fun d => match d with | .tuple [_, e] => decide (vOf e = V.int (x.clock : Int)) | _ => false).map (fun d => match d with | .tuple [i, _] => i | _ => .none) = (comersOf x).map intD := by
  have e : enumD (x.comings.map encO) = (List.range x.comings.length).map fun i => PyData.tuple [intD i, encO (x.comings.getD i none)] := by
    apply List.ext_getElem?
    intro i
    unfold enumD
    rw [List.getElem?_mapIdx, List.getElem?_map, List.getElem?_map]
    by_cases h : i < x.comings.length
    · rw [List.getElem?_eq_getElem h, List.getElem?_range h]
      show some (PyData.tuple [intD i, encO x.comings[i]]) = some (PyData.tuple [intD i, encO (x.comings.getD i none)])
      rw [List.getD_eq_getElem?_getD, List.getElem?_eq_getElem h]
      rfl
    · rw [List.getElem?_eq_none (Nat.le_of_not_lt h), List.getElem?_eq_none (by rw [List.length_range]; omega)]
      rfl
  rw [e]
  unfold comersOf
  rw [List.filter_map, List.map_map, List.map_congr_left (g := intD)]
  · congr 1
    apply List.filter_congr
    intro i _
    show decide (vOf (encO (x.comings.getD i none)) = V.int (x.clock : Int)) = decide (x.comings.getD i none = some x.clock)
    cases x.comings.getD i none with
    | none => rfl
    | some n =>
      show decide (V.int (n : Int) = V.int (x.clock : Int)) = decide (some n = some x.clock)
      refine decide_eq_decide.mpr ⟨fun h => ?_, fun h => by cases h; rfl⟩
      injection h with h
      exact congrArg some (by omega)
  · intro i _
    rfl
theorem clear_len : ∀ (cs : List Nat) (l : List (Option Nat)), (clearAll l cs).length = l.length
  | [], l => rfl
  | c :: cs, l => by
    show (clearAll (l.set c none) cs).length = l.length
    rw [clear_len cs, List.length_set]
theorem flat_O (o : Option Nat) : flatD (encO o) = true := by cases o <;> rfl
theorem scal_O (o : Option Nat) (n : Nat) : scal (vOf (encO o)) (V.int (n : Int)) = true := by cases o <;> rfl
theorem come_lt6 {ps cs : List Nat} (h : ∀ n ∈ ps, n < 6) : ∀ n ∈ come ps cs, n < 6 := by
  unfold come
  induction cs generalizing ps with
  | nil => exact h
  | cons c cs ih =>
    refine ih (ps := ps.set c 1) fun n hn => ?_
    rcases List.mem_or_eq_of_mem_set hn with hn | hn
    · exact h n hn
    · rw [hn]; decide
theorem after_len (ps : List Nat) (hs : List (Option Nat)) (y : Option (Nat × Str × Nat)) : (afterD ps hs y).ps.length = ps.length ∧ (afterD ps hs y).hs.length = hs.length := by
  cases y with
  | none => exact ⟨rfl, rfl⟩
  | some y =>
    obtain ⟨w, k, n⟩ := y
    show (deedM ps hs w k n).ps.length = _ ∧ (deedM ps hs w k n).hs.length = _
    unfold deedM
    split
    · unfold askM
      split <;> simp
    · split
      · unfold giveM
        exact ⟨setAll_len _ _ _, by simp⟩
      · split <;> simp
end
section
variable {P : Program} {w : World} {K : PySem.W.Frag} {mg : Str → Option Value} {base : Heap} {f : Addr} {fd : FuncData} {T : List Addr}
end
abbrev sMLoad : Stmt := inClass (top 44) 1
abbrev nMLoad : List Str := ["self", "slot", "program", "comes"]
theorem scMLoad : FnScope nMLoad ["self", "slot", "program", "comes"] (defScope sMLoad) := ⟨rfl, rfl, rfl, by decide +kernel, rfl, by decide +kernel, by decide +kernel⟩
section
variable {P : Program} {w : World} {K : PySem.W.Frag} {mg : Str → Option Value} {base : Heap} {f : Addr} {fd : FuncData} {T : List Addr}
theorem ok_Machine_load (F : Fun K "load" "Machine.load" sMLoad f fd) (G : Glob K mg) {μ : Type} {S : Chs μ} {C CM : Addr} {fs : List (Str × PD)} (mc : MC K CM) : FnOk P w K mg base CX0 1 f fd ["self", "slot", "program", "comes"] (spM K T CM (R_load S C fs)) := by
  refine fn_sm F scMLoad (fun F0 ss d F1 h => ?_) (fun cdv A outer s H E hr => ⟨_, (pss_cons (ps_asg (pe_callTy call_list_of (by rfl) G.list (by decide +kernel) (pa_cons (pv 2) pa_nil)) (pg_sub (pe_fld (pv 0) rfl) (pv 1) set_list))
      (pss_cons (ps_asg pe_int (pg_sub (pe_fld (pv 0) rfl) (pv 1) set_list))
      (pss_cons (ps_asg pe_int (pg_sub (pe_fld (pv 0) rfl) (pv 1) set_list))
      (pss_cons (ps_asg (pv 3) (pg_sub (pe_fld (pv 0) rfl) (pv 1) set_list))
      (pss_one (ps_asg pe_non (pg_sub (pe_fld (pv 0) rfl) (pv 1) set_list))))))), fun M p O H0 F0 ss d F1 h => ?_⟩)
  · obtain ⟨x, s, pr, cm, h1, h2, h3, rfl, rfl, rfl, rfl⟩ := h
    rfl
  · obtain ⟨x, s, pr, cm, ⟨z1, z2, z3, z4, z5, z6⟩, h2, h3, rfl, rfl, rfl, rfl⟩ := h
    have mapS : ∀ (l : List Nat) (n : Nat), (l.map intD).set s (intD n) = (l.set s n).map intD := fun l n => by rw [List.map_set]
    have mapO : ∀ (l : List (Option Nat)) (n : Option Nat), (l.map encO).set s (encO n) = (l.set s n).map encO := fun l n => by rw [List.map_set]
    have mapP : (x.progs.map encPr).set s (encPr pr) = (x.progs.set s pr).map encPr := by rw [List.map_set]
    refine sm_seq (sm_item (j := s) (y := encPr pr) (fun H o t => ed_en (en_listL (ds := pr.map encDd) (el_ed (ed_var rfl)))) (fun H o t => ed_var rfl) rfl mc.cl mc.pr l_pr (ixN_at (by rw [List.length_map]; omega)) ?_)
    show SM _ _ _ _ (setF _ _ _)
    rw [mapP, s_pr]
    refine sm_seq (sm_item (j := s) (y := intD 0) (fun H o t => ed_int) (fun H o t => ed_var rfl) rfl mc.cl mc.re l_re (ixN_at (by rw [List.length_map]; exact (by omega : s < x.reached.length))) ?_)
    show SM _ _ _ _ (setF _ _ _)
    rw [mapS, s_re]
    refine sm_seq (sm_item (j := s) (y := intD 0) (fun H o t => ed_int) (fun H o t => ed_var rfl) rfl mc.cl mc.wo l_wo (ixN_at (by rw [List.length_map]; exact (by omega : s < x.worked.length))) ?_)
    show SM _ _ _ _ (setF _ _ _)
    rw [mapS, s_wo]
    refine sm_seq (sm_item (j := s) (y := encO (some cm)) (fun H o t => ed_var rfl) (fun H o t => ed_var rfl) rfl mc.cl mc.co l_co (ixN_at (by rw [List.length_map]; exact (by omega : s < x.comings.length))) ?_)
    show SM _ _ _ _ (setF _ _ _)
    rw [mapO, s_co]
    refine sm_item (j := s) (y := encO none) (fun H o t => ed_non) (fun H o t => ed_var rfl) rfl mc.cl mc.fi l_fi (ixN_at (by rw [List.length_map]; exact (by omega : s < x.finishes.length))) ⟨rfl, ?_⟩
    rw [mapO, s_fi]
end
abbrev sMTick : Stmt := inClass (top 44) 7
abbrev nMTick : List Str := ["self", "comers", "slot", "comes", "who", "words", "deed", "word"]
theorem scMTick : FnScope nMTick ["self"] (defScope sMTick) := ⟨rfl, rfl, rfl, by decide +kernel, rfl, by decide +kernel, by decide +kernel⟩
section
variable {P : Program} {w : World} {K : PySem.W.Frag} {mg : Str → Option Value} {base : Heap} {f : Addr} {fd : FuncData} {T : List Addr}
theorem ok_Machine_tick (F : Fun K "tick" "Machine.tick" sMTick f fd) (G : Glob K mg) {μ : Type} {S : Chs μ} {C CM : Addr} {fs : List (Str × PD)} (mc : MC K CM) (hno : ∀ m ∈ (["fresh", "joined", "pick", "settled"] : List Str), fs.lookup m = none) {fB fD fW fN fA : Addr} {dB dD dW dN dA : FuncData} (c_begun : Cal P w K mg base "begun" 9 ["chooser", "state", "comers"] (spD K T (R_begun S C fs)) fB dB) (c_done : Cal P w K mg base "done" 9 ["chooser", "state", "who", "deed"] (spD K T (R_done S C fs)) fD dD)
    (m_words : Met P w K mg base CM "words" 1 ["self"] (spM K T CM (R_words S C fs)) fW dW) (m__next_deed : Met P w K mg base CM "_next_deed" 1 ["self", "slot"] (spM K T CM (R_next S C fs)) fN dN) (m__advance : Met P w K mg base CM "_advance" 1 ["self", "slot", "deed"] (spM K T CM (R_adv S C fs)) fA dA) : FnOk P w K mg base CX0 10 f fd ["self"] (spM K T CM (R_tick S C fs)) := by
  refine fn_sm F scMTick (fun F0 ss d F1 h => ?_) (fun cdv A outer s H E hr => ⟨_, (pss_cons (ps_set (i := 1) scMTick.nd rfl (.inl rfl) (pe_callTy call_tuple_of (by rfl) G.tuple (by decide +kernel) (pa_cons (pe_lc (own := [("slot", 2), ("comes", 3)]) (g := (gTup K 2 (gCons (gName 2) (gCons (gName 3) gNil)))) (tt := (tTest (tOp rEq (tVar 3) (tFld K (tVar 0) "clock")))) (te := (tVar 2)) rfl scMTick.nd (pi_enum (by rfl) G.enumerate (pa_cons (pe_fld (pv 0) rfl) pa_nil)) (blkOk_by (N := nMTick) (sc := defScope sMTick) (by decide +kernel)) (fun _ _ _ _ _ => (pg_tup (by rfl) (pgs_cons (pg_name (i := 2) scMTick.nd rfl (.inl rfl)) (pgs_cons (pg_name (i := 3) scMTick.nd rfl (.inl rfl)) pgs_nil)))) (fun _ _ _ _ _ => (pts_one (pt_cmpR op_eq (pv 3) (pe_fld (pv 0) rfl) (nomark _)))) (fun _ _ _ _ _ => (pv 2))) pa_nil)))
      (pss_cons (ps_for PassesOwn.never rfl (pi_tup (pv 1)) (pg_name (i := 2) scMTick.nd rfl (.inl rfl)) (pss_one (ps_asg pe_non (pg_sub (pe_fld (pv 0) rfl) (pv 2) set_list))))
      (pss_cons (ps_asg (pe_call c_begun.ok (hr.mono (by decide)) (by rfl) c_begun.g c_begun.kp c_begun.b .nil pass0 (pa_cons (pe_fld (pv 0) rfl) (pa_cons (pe_fld (pv 0) rfl) (pa_cons (pv 1) pa_nil)))) (pg_tup (by rfl) (pgs_cons (pg_fld (pv 0)) (pgs_cons (pg_name (i := 4) scMTick.nd rfl (.inl rfl)) pgs_nil))))
      (pss_cons (ps_set (i := 5) scMTick.nd rfl (.inl rfl) (pe_meth0 (pv 0) m_words.cl m_words.m m_words.ok (hr.mono (by decide)) m_words.b .nil pass0))
      (pss_cons (ps_set (i := 6) scMTick.nd rfl (.inl rfl) (pe_ifExp (pt_cmp (pc_isN (pv 4))) pe_non (pe_meth (pv 0) m__next_deed.cl m__next_deed.m m__next_deed.ok (hr.mono (by decide)) m__next_deed.b .nil pass0 (pa_cons (pv 4) pa_nil))))
      (pss_cons (ps_asg (pe_call c_done.ok (hr.mono (by decide)) (by rfl) c_done.g c_done.kp c_done.b .nil pass0 (pa_cons (pe_fld (pv 0) rfl) (pa_cons (pe_fld (pv 0) rfl) (pa_cons (pv 4) (pa_cons (pv 6) pa_nil))))) (pg_tup (by rfl) (pgs_cons (pg_fld (pv 0)) (pgs_cons (pg_name (i := 7) scMTick.nd rfl (.inl rfl)) pgs_nil))))
      (pss_cons (ps_if (PW.pt (pw_and (pt_cmp (pc_notN (pv 4))) (pw_and1 (pt_cmpR op_ne (pv 7) pe_str (nomark _))))) (pss_one (ps_expr (pe_meth (pv 0) m__advance.cl m__advance.m m__advance.ok (hr.mono (by decide)) m__advance.b .nil pass0 (pa_cons (pv 4) (pa_cons (pv 6) pa_nil))))) pss_nil)
      (pss_cons (ps_fldaug (pv 0) pe_int in_add)
      (pss_one (ps_ret (pe_tup (pa_cons (pv 5) (pa_cons (pv 4) (pa_cons (pv 7) pa_nil)))))))))))))), fun M p O H0 F0 ss d F1 h => ?_⟩)
  · obtain ⟨x, h1, rfl, rfl, rfl, rfl⟩ := h
    rfl
  · obtain ⟨x, hk, rfl, rfl, rfl, rfl⟩ := h
    obtain ⟨z1, z2, z3, z4, z5, z6⟩ := id hk.sz
    have hp6 := hk.ps
    have cl := comers_lt x
    have mapO : ∀ (l : List (Option Nat)) (s : Nat) (n : Option Nat), (l.map encO).set s (encO n) = (l.set s n).map encO := fun l s n => by rw [List.map_set]
    -- who comes
    refine sm_seq (sm_set (d := encN (comersOf x)) (fun H o t => ed_tupleL rfl (el_is (en_el (en_lc (js := [2, 3]) (fun d => match d with | .tuple [_, e] => decide (vOf e = V.int (x.clock : Int)) | _ => false) (fun d => match d with | .tuple [i, _] => i | _ => .none) (id_enumF (of_fld o rfl mc.cl mc.co l_co)) (by rw [enumD_len, List.length_map, z3]; have := hp6.2; omega) (by decide) (fun d hd H1 k1 => ?_))) (comers_eq x))) ?_)
    · obtain ⟨i, hi⟩ := List.getElem?_of_mem hd
      obtain ⟨e, he, rfl⟩ := enumD_get hi
      rw [List.getElem?_map] at he
      cases hc : x.comings[i]? with
      | none => rw [hc] at he; cases he
      | some oc =>
        rw [hc] at he
        cases he
        refine ⟨[intD i, encO oc], tg_tup2, et_test (ed_eq (x := encO oc) (y := intD x.clock) (ed_var rfl) (od_fld (o.move t.t t.m k1) rfl mc.cl mc.ck l_ck) (flat_O oc) rfl (scal_O oc x.clock)), fun _ => ed_var rfl⟩
    -- they have come
    refine sm_seq (sm_forT (ds := (comersOf x).map intD) (fun H o t => ed_var rfl) (fun i ρ F => i ≤ (comersOf x).length ∧ F = mF S C fs { x with comings := clearAll x.comings ((comersOf x).take i) } ∧ ∃ s2, ρ = [.raw (.ref p), .dat (encN (comersOf x)), s2, .non, .non, .non, .non, .non]) ⟨Nat.zero_le _, rfl, _, rfl⟩ (fun i d ρ' F' Hs hd hv => ?_) (fun ρ' F' hv => ?_))
    · obtain ⟨hi, rfl, s2, rfl⟩ := hv
      rw [List.getElem?_map] at hd
      cases hc : (comersOf x)[i]? with
      | none => rw [hc] at hd; cases hd
      | some n =>
        rw [hc] at hd
        cases hd
        have hl := (List.getElem?_eq_some_iff.mp hc).1
        have hn := cl n (List.mem_of_getElem? hc)
        refine sm_item (j := n) (y := encO none) (fun H o t => ed_non) (fun H o t => ed_var rfl) rfl mc.cl mc.co l_co (ixN_at (by rw [List.length_map]; exact (by rw [clear_len]; exact hn : n < (clearAll x.comings ((comersOf x).take i)).length))) ⟨hl, ?_, _, rfl⟩
        rw [mapO, s_co, List.take_succ, hc]
        unfold clearAll
        rw [List.foldl_append]
        rfl
    obtain ⟨_, rfl, s2, rfl⟩ := hv
    rw [List.length_map, List.take_length]
    have pl : (come x.ps (comersOf x)).length = x.ps.length := come_len _ _
    -- who runs
    refine sm_seq (sm_fldName (a := encS S (come x.ps (comersOf x)) x.hs (S.joined x.m (comersOf x))) (b := encO (whoM S x)) (fun H o t => ed_call (ea_cons (og_fld o rfl mc.cl mc.ch l_ch) (ea_d (od_fld o rfl mc.cl mc.st l_st) (ea_d (ed_var rfl) ea_nil))) ⟨x.ps, x.hs, x.m, comersOf x, fun c hc => by rw [← z3]; exact cl c hc, hp6.2, hk.j, hk.p, rfl, rfl⟩) rfl mc.cl mc.st l_st ?_)
    show SM _ _ _ _ (setF _ _ _)
    rw [s_st]
    -- the words
    refine sm_seq (sm_setM (d := wordsOf (come x.ps (comersOf x))) rfl (l_no (by decide +kernel)) am_nil ⟨_, ⟨come_lt6 hp6.1, by show (come x.ps (comersOf x)).length ≤ 100; rw [pl]; exact hp6.2⟩, rfl, rfl, rfl, rfl⟩ ?_)
    -- the deed
    have isn : ∀ o : Option Nat, isNone (encO o) = o.isNone := fun o => by cases o <;> rfl
    refine sm_seq (sm_setIfM (b := (whoM S x).isNone) (d := encDeed (deedX S x)) (F' := mF S C fs { x with ps := come x.ps (comersOf x), m := S.joined x.m (comersOf x), comings := clearAll x.comings (comersOf x) }) (R := R_next S C fs) (ss := [.dat (encO (whoM S x))]) (fun H o t => et_is (et_B (ed_isN (ed_var rfl))) (isn _)) (fun hb => ⟨?_, ?_⟩) rfl (l_no (by decide +kernel)) (fun hb => am_d (em_var rfl) am_nil) (fun hb => ?_) (fun hb => ?_))
    · have e : deedX S x = none := by
        unfold deedX
        rw [Option.isNone_iff_eq_none.mp hb]
        rfl
      rw [e]
      exact fun H o t => ed_non
    rotate_left
    · obtain ⟨w0, hw⟩ : ∃ w0, whoM S x = some w0 := by
        cases hq : whoM S x with
        | none => rw [hq] at hb; cases hb
        | some w0 => exact ⟨w0, rfl⟩
      have hlt := (hk.who w0 hw).1
      refine ⟨_, w0, (by show w0 < x.progs.length; omega), (by show w0 < x.reached.length; omega), rfl, by rw [hw]; rfl, ?_, rfl⟩
      unfold deedX
      rw [hw]
      rfl
    all_goals
      -- what comes of it
      have wo : whoOf (deedX S x) = whoM S x := by
        unfold deedX
        cases whoM S x <;> rfl
      have dk : deedOk (come x.ps (comersOf x)) x.hs (deedX S x) := by
        unfold deedX
        cases hq : whoM S x with
        | none => trivial
        | some w0 => exact ⟨by rw [pl]; exact (hk.who w0 hq).1, (hk.who w0 hq).2⟩
      refine sm_seq (sm_fldName (a := encS S (resX S x).ps (resX S x).hs (S.settled (S.joined x.m (comersOf x)) (whoM S x) (resX S x).word (resX S x).woken)) (b := .str (resX S x).word) (fun H o t => ed_call (ea_cons (og_fld o rfl mc.cl mc.ch l_ch) (ea_d (od_fld o rfl mc.cl mc.st l_st) (ea_d (ed_var rfl) (ea_d (ed_var rfl) ea_nil)))) ⟨come x.ps (comersOf x), x.hs, S.joined x.m (comersOf x), deedX S x, by rw [pl]; exact hp6.2, z6, dk, (by rw [wo]; exact hk.s), (by first | (rw [wo]; rfl) | rw [wo]), (by first | (rw [wo]; rfl) | rw [wo])⟩) rfl mc.cl mc.st l_st ?_)
      show SM _ _ _ _ (setF _ _ _)
      rw [s_st]
      have al := after_len (come x.ps (comersOf x)) x.hs (deedX S x)
      have szM : okSz (midX S x) := by
        refine ⟨?_, ?_, ?_, ?_, ?_, ?_⟩
        · show x.reached.length = (resX S x).ps.length
          rw [show (resX S x).ps.length = _ from al.1, pl]; exact z1
        · show x.worked.length = (resX S x).ps.length
          rw [show (resX S x).ps.length = _ from al.1, pl]; exact z2
        · show (clearAll x.comings (comersOf x)).length = (resX S x).ps.length
          rw [show (resX S x).ps.length = _ from al.1, pl, clear_len]; exact z3
        · show x.finishes.length = (resX S x).ps.length
          rw [show (resX S x).ps.length = _ from al.1, pl]; exact z4
        · show x.progs.length = (resX S x).ps.length
          rw [show (resX S x).ps.length = _ from al.1, pl]; exact z5
        · show (resX S x).hs.length = 2
          rw [show (resX S x).hs.length = _ from al.2]; exact z6
      refine sm_seq (sm_when (b := (whoM S x).isSome && !decide ((resX S x).word = ("ask" : Str))) (fun H o t => et_and (et_is (et_B (ed_notN (ed_var rfl))) (by rw [isn]; cases whoM S x <;> rfl)) (fun _ => et_is (et_test (ed_ne (x := .str (resX S x).word) (y := .str "ask") (ed_var rfl) ed_str rfl rfl rfl)) (congrArg (fun b => !b) (eqStr _ _)))) (fun hc => ?_) (fun hc => ?_))
      · obtain ⟨w0, hw⟩ : ∃ w0, whoM S x = some w0 := by
          cases hq : whoM S x with
          | none => rw [hq] at hc; cases hc
          | some w0 => exact ⟨w0, rfl⟩
        have hask : ¬ (resX S x).word = ("ask" : Str) := by
          rw [hw] at hc
          have : (!decide ((resX S x).word = ("ask" : Str))) = true := hc
          intro e
          rw [decide_eq_true e] at this
          cases this
        have eA : advX S x = advM (midX S x) w0 (nextM x w0) := by
          unfold advX
          rw [hw]
          show (if _ then _ else _) = _
          rw [if_neg hask]
        have ck : (advM (midX S x) w0 (nextM x w0)).clock = x.clock := by
          unfold advM
          split
          · rfl
          · split
            · split <;> rfl
            · split <;> rfl
        refine sm_dropM (R := R_adv S C fs) (ss := [.dat (encO (whoM S x)), .dat (encDeed (deedX S x))]) (F' := mF S C fs (advM (midX S x) w0 (nextM x w0))) rfl (l_no (by decide +kernel)) (am_d (em_var rfl) (am_d (em_var rfl) am_nil)) ⟨midX S x, w0, nextM x w0, szM, by show (resX S x).ps.length ≤ 100; rw [show (resX S x).ps.length = _ from al.1, pl]; exact hp6.2, by show w0 < (resX S x).ps.length; rw [show (resX S x).ps.length = _ from al.1, pl]; exact (hk.who w0 hw).1, rfl, ?_, rfl, rfl⟩ ?_
        · rw [hw]
          unfold deedX
          rw [hw]
          rfl
        have lck : (mF S C fs (advM (midX S x) w0 (nextM x w0))).lookup ("clock" : Str) = some (MF.d (.int (x.clock : Int))) := by
          rw [l_ck, ck]
          rfl
        refine sm_seq (sm_fldaug (m := (x.clock : Int)) (n := 1) rfl mc.cl mc.ck lck (fun H o t => ed_int) ?_)
        refine sm_ret (fun H o t => ed_tup (ds := [_, _, _]) (ea_d (ed_var rfl) (ea_d (ed_var rfl) (ea_d (ed_var rfl) ea_nil))) (by simp)) ⟨rfl, ?_⟩
        show setF _ (.d (.int ((x.clock : Int) + 1))) _ = mF S C fs { advX S x with clock := x.clock + 1 }
        rw [show PyData.int ((x.clock : Int) + 1) = intD (x.clock + 1) from rfl, s_ck, eA]
      · have eA : advX S x = midX S x := by
          unfold advX
          cases hq : whoM S x with
          | none => rfl
          | some w0 =>
            rw [hq] at hc
            have : (!decide ((resX S x).word = ("ask" : Str))) = false := hc
            have e : (resX S x).word = ("ask" : Str) := by
              by_cases g : (resX S x).word = ("ask" : Str)
              · exact g
              · rw [decide_eq_false g] at this; cases this
            show (if _ then _ else _) = _
            rw [if_pos e]
        refine sm_seq (sm_fldaug (m := (x.clock : Int)) (n := 1) rfl mc.cl mc.ck l_ck (fun H o t => ed_int) ?_)
        refine sm_ret (fun H o t => ed_tup (ds := [_, _, _]) (ea_d (ed_var rfl) (ea_d (ed_var rfl) (ea_d (ed_var rfl) ea_nil))) (by simp)) ⟨rfl, ?_⟩
        show setF _ (.d (.int ((x.clock : Int) + 1))) _ = mF S C fs { advX S x with clock := x.clock + 1 }
        rw [show PyData.int ((x.clock : Int) + 1) = intD (x.clock + 1) from rfl, s_ck, eA]
        rfl
end
end PT
/-! an object is made: its fields come one after the other -/
namespace DL
open PySem PySem.Spec PyProof.Rows L2 DA
theorem putF_new {f : Str} {v : V} : ∀ {vs : List (Str × V)}, vs.lookup f = none → putF f v vs = vs ++ [(f, v)]
  | [], _ => rfl
  | (g, x) :: r, h => by
    rw [List.lookup_cons] at h
    show (if g = f then _ else _) = _
    by_cases e : g = f
    · rw [show (f == g) = true from beq_iff_eq.mpr e.symm] at h; cases h
    · rw [if_neg e]
      rw [show (f == g) = false from beq_eq_false_iff_ne.mpr (Ne.symm e)] at h
      show (g, x) :: putF f v r = (g, x) :: (r ++ [(f, v)])
      rw [putF_new h]
section
variable {K : PySem.W.Frag} {Hm H : Hp}
theorem FsM.addD {f : Str} {v : V} {x : PD} (hv : Dp K Hm v x) {vs : List (Str × V)} {F : List (Str × MF)} {as : List Addr} (r : FsM K Hm H vs F as) : FsM K Hm H (vs ++ [(f, v)]) (F ++ [(f, .d x)]) as := by
  induction r with
  | nil => exact .d hv .nil
  | d a _ ih => exact .d a ih
  | o a _ ih => exact .o a ih
  | l e a _ ih => exact .l e a ih
theorem FsM.addO {f : Str} {v : V} {C : Addr} {fs : List (Str × PD)} (hv : ObD K Hm v C fs) {vs : List (Str × V)} {F : List (Str × MF)} {as : List Addr} (r : FsM K Hm H vs F as) : FsM K Hm H (vs ++ [(f, v)]) (F ++ [(f, .o C fs)]) as := by
  induction r with
  | nil => exact .o hv .nil
  | d a _ ih => exact .d a ih
  | o a _ ih => exact .o a ih
  | l e a _ ih => exact .l e a ih
theorem FsM.addL {f : Str} {b : Addr} {xs : List V} {ds : List PD} (hb : H b = some (.lst xs)) (hv : DpAll K Hm xs ds) {vs : List (Str × V)} {F : List (Str × MF)} {as : List Addr} (r : FsM K Hm H vs F as) : FsM K Hm H (vs ++ [(f, .ref b)]) (F ++ [(f, .l ds)]) (as ++ [b]) := by
  induction r with
  | nil => exact .l hb hv .nil
  | d a _ ih => exact .d a ih
  | o a _ ih => exact .o a ih
  | l e a _ ih => exact .l e a ih
end
structure IC where
  K : PySem.W.Frag
  T : List Addr
  M : List Addr
  p : Addr
  C : Addr
  Hs : Hp
abbrev IC.oc (k : IC) (O : List Addr) : OC := ⟨k.K, k.T, O ++ k.M, k.p, k.C, O, k.Hs⟩
def SRI (k : IC) (σ : L2.St) (H : Hp) (ρ : DEnv) (F : List (Str × MF)) : Prop := ∃ O, SRM (k.oc O) σ H ρ F ∧ ∀ a ∈ O, a ≠ k.p → k.Hs a = none
structure LeI (k : IC) (nx : DEnv → List (Str × MF) → Prop) (E : Ends) : Prop where
  nx : ∀ σ H ρ F, SRI k σ H ρ F → nx ρ F → E.nx σ H
def SI (k : IC) (t : TS) (nx : DEnv → List (Str × MF) → Prop) (ρ : DEnv) (F : List (Str × MF)) : Prop := ∀ E, LeI k nx E → ∀ σ H, SRI k σ H ρ F → t E σ H
section
variable {k : IC} {ρ : DEnv} {F : List (Str × MF)} {nx : DEnv → List (Str × MF) → Prop} {t u : TS} {te : TE} {d : PD}
theorem si_seq (h : SI k t (fun ρ' F' => SI k u nx ρ' F') ρ F) : SI k (tSeq t u) nx ρ F := fun E L σ H r => h { E with nx := u E } ⟨fun σ' H' ρ' F' r' q => q E L σ' H' r'⟩ σ H r
/-- the object's own record has changed, nothing else -/
theorem SRM.own {k : OC} {σ : L2.St} {H : Hp} {F F' : List (Str × MF)} {ρ : DEnv} (r : SRM k σ H ρ F) {dx : Addr} {vs vs' : List (Str × V)} (h1 : H k.p = some (.ins k.C dx vs)) (hf : ∀ as, FsM k.K (hid k.M H) H vs F as → FsM k.K (hid k.M H) H vs' F' as) (hz : vs'.length < 1000) : SRM k σ (upd H k.p (.ins k.C dx vs')) ρ F' := by
  obtain ⟨dx', vs0, as, g1, g2, g3, g4⟩ := r.oa.ex
  rw [h1] at g1
  cases g1
  have pO : k.p ∈ k.O := by rw [g3]; exact List.mem_cons_self
  have nd := r.oa.nd
  rw [g3] at nd
  have nd' := List.nodup_cons.mp nd
  refine r.poke pO (fun ps z => by cases z) ⟨⟨dx, vs', as, upd_same, ?_, g3, hz⟩, r.oa.nd, r.oa.sub⟩
  rw [hid_in (r.oa.sub _ pO)]
  exact (hf as g2).move (fun _ _ z => z) (fun _ _ _ z => z) (fun _ _ z => z) fun a ha => upd_ne fun z => nd'.1 (by rw [← z]; exact ha)
theorem si_fldD {i : Nat} {f : Str} (h : ∀ O, EM (k.oc O) te ρ F d) (hs : ρ[i]? = some (.raw (.ref k.p))) (cl : Cls k.K k.C) (na : NoAttr k.K k.C f) (hl : F.lookup f = none) (hz : F.length ≤ 900) (q : nx ρ (F ++ [(f, .d d)])) : SI k (sFld k.K (tVar i) te f) nx ρ F := fun E L σ H ⟨O, r, hO⟩ => (h O).run r fun v H1 r1 _ h1 => by
  obtain ⟨dx, vs, as, g1, g2, g3, g4⟩ := r1.oa.ex
  have e := putF_new (v := v) (g2.lookN hl)
  refine ⟨_, self_at (k := k.oc O) r1 hs, k.p, k.C, dx, vs, rfl, g1, cl, na, g4, L.nx _ _ _ _ ⟨O, ?_, hO⟩ q⟩
  rw [e]
  exact r1.own g1 (fun as' z => z.addD h1) (by rw [List.length_append, g2.len]; simp; omega)
theorem si_fldO {i : Nat} {f : Str} {C2 : Addr} {fs : List (Str × PD)} (h : ∀ O H, OA k.K (O ++ k.M) H k.p k.C F O → TB k.T (O ++ k.M) H → EG ⟨k.K, k.T, O ++ k.M, H⟩ te ρ (.ob C2 fs)) (hs : ρ[i]? = some (.raw (.ref k.p))) (cl : Cls k.K k.C) (na : NoAttr k.K k.C f) (hl : F.lookup f = none) (hz : F.length ≤ 900) (q : nx ρ (F ++ [(f, .o C2 fs)])) : SI k (sFld k.K (tVar i) te f) nx ρ F := fun E L σ H ⟨O, r, hO⟩ =>
  h O H r.oa r.tb [] σ H r.sr _ fun v H1 k1 h1 => by
    have r1 := r.move k1 (r.sr.move k1)
    have h1 : ObD k.K (hid ((O ++ k.M) ++ []) H1) v C2 fs := h1
    rw [List.append_nil] at h1
    obtain ⟨dx, vs, as, g1, g2, g3, g4⟩ := r1.oa.ex
    have e := putF_new (v := v) (g2.lookN hl)
    refine ⟨_, self_at (k := k.oc O) r1 hs, k.p, k.C, dx, vs, rfl, g1, cl, na, g4, L.nx _ _ _ _ ⟨O, ?_, hO⟩ q⟩
    rw [e]
    exact r1.own g1 (fun as' z => z.addO h1) (by rw [List.length_append, g2.len]; simp; omega)
theorem hid_more {T M : List Addr} {H H' : Hp} {b : Addr} (k : Keep T H H') (hb : H b = none) : Keep T (hid M H) (hid (b :: M) H') := by
  refine ⟨fun c o e n => ?_, fun P hP tb => ?_⟩
  · obtain ⟨m, e⟩ := hid_inv e
    refine hid_of (fun q => ?_) (k.at_ c o e n)
    rcases List.mem_cons.mp q with q | q
    · rw [q, hb] at e; cases e
    · exact m q
  · obtain ⟨ps, e, ok⟩ := tb
    obtain ⟨m, e⟩ := hid_inv e
    obtain ⟨ps', e', ok'⟩ := k.tab P hP ⟨ps, e, ok⟩
    refine ⟨ps', hid_of (fun q => ?_) e', ok'⟩
    rcases List.mem_cons.mp q with q | q
    · rw [q, hb] at e; cases e
    · exact m q
theorem si_fldL {i : Nat} {f : Str} {ds : List PD} (h : ∀ O H, OA k.K (O ++ k.M) H k.p k.C F O → TB k.T (O ++ k.M) H → EN ⟨k.K, k.T, O ++ k.M, H⟩ te ρ ds) (hs : ρ[i]? = some (.raw (.ref k.p))) (cl : Cls k.K k.C) (na : NoAttr k.K k.C f) (hl : F.lookup f = none) (hz : F.length ≤ 900) (q : nx ρ (F ++ [(f, .l ds)])) : SI k (sFld k.K (tVar i) te f) nx ρ F := fun E L σ H ⟨O, r, hO⟩ =>
  h O H r.oa r.tb [] σ H r.sr _ fun b xs H1 k1 hb h1 h2 => by
    have h2 : DpAll k.K (hid (b :: ((O ++ k.M) ++ [])) H1) xs ds := h2
    rw [List.append_nil] at h2
    obtain ⟨dx, vs, as, g1, g2, g3, g4⟩ := r.oa.ex
    have tm : Tabs k.T (hid (O ++ k.M) H) := tabs_hid r.sr.tab fun a h => (r.sr.msk a h).1
    have pT : k.p ∉ k.T := r.oa.nT r.sr.tab k.p (by rw [show (k.oc O).O = O from rfl] at g3; rw [g3]; exact List.mem_cons_self)
    have g3 : O = k.p :: as := g3
    have e1 : H1 k.p = some (.ins k.C dx vs) := k1.at_ _ _ g1 pT
    have e := putF_new (v := V.ref b) (g2.lookN hl)
    have km : Keep k.T (hid (O ++ k.M) H) (hid (b :: (O ++ k.M)) H1) := hid_more k1 hb
    have nbO : b ∉ O := fun m => by
      obtain ⟨x, q, _⟩ := r.oa.none b m
      rw [hb] at q; cases q
    have nbM : ∀ a ∈ O ++ k.M, a ≠ b := fun a ha z => (r.sr.msk a ha).2 (by rw [z]; exact hb)
    have bT : b ∉ k.T := fun m => by
      obtain ⟨ps, q, _⟩ := (k1.tabs r.sr.tab) b m
      rw [h1] at q; cases q
    have cong : hid ((O ++ [b]) ++ k.M) H1 = hid (b :: (O ++ k.M)) H1 := hid_cong fun a => by simp [or_left_comm, or_assoc]
    have fm : FsM k.K (hid ((O ++ [b]) ++ k.M) H1) H1 vs F as := by
      rw [cong]
      refine g2.move (fun v x z => dp_keep km tm z) (fun v C fs z => ObD.keep km tm z) (fun vs xs z => dps_keep km tm z) fun a ha => ?_
      obtain ⟨x, q, n⟩ := r.oa.none a (by show a ∈ O; rw [g3]; exact List.mem_cons_of_mem _ ha)
      rw [q]
      exact k1.at_ _ _ q (nT_of r.sr.tab q n)
    have oa1 : OA k.K ((O ++ [b]) ++ k.M) (upd H1 k.p (.ins k.C dx (vs ++ [(f, .ref b)]))) k.p k.C (F ++ [(f, .l ds)]) (O ++ [b]) := by
      have pin : k.p ∈ (O ++ [b]) ++ k.M := by rw [g3]; simp
      have pb : k.p ≠ b := nbM k.p (by rw [g3]; simp)
      refine ⟨⟨dx, vs ++ [(f, .ref b)], as ++ [b], upd_same, ?_, by rw [g3]; rfl, ?_⟩, ?_, fun a ha => List.mem_append_left _ ha⟩
      · rw [hid_in pin]
        refine (fm.addL (f := f) h1 (by rw [cong]; exact h2)).move (fun _ _ z => z) (fun _ _ _ z => z) (fun _ _ z => z) fun a ha => upd_ne fun z => ?_
        rcases List.mem_append.mp ha with ha | ha
        · have nd := r.oa.nd
          rw [show (k.oc O).O = O from rfl, g3] at nd
          exact (List.nodup_cons.mp nd).1 (by rw [← z]; exact ha)
        · have := List.mem_singleton.mp ha
          exact pb (by rw [← z]; exact this)
      · rw [List.length_append, g2.len]; simp; omega
      · rw [List.nodup_append]
        refine ⟨r.oa.nd, by simp, fun a ha c hc => ?_⟩
        rw [List.mem_singleton.mp hc]
        exact fun z => nbO (by rw [← z]; exact ha)
    refine ⟨_, self_at (k := k.oc O) (r.move k1 (r.sr.move k1)) hs, k.p, k.C, dx, vs, rfl, e1, cl, na, g4, L.nx _ _ _ _ ⟨O ++ [b], ?_, fun a ha hne => ?_⟩ q⟩
    · rw [e]
      have tb1 : Tabs k.T (upd H1 k.p (.ins k.C dx (vs ++ [(f, .ref b)]))) := fun P hP => by
        obtain ⟨ps, q, ok⟩ := (k1.tabs r.sr.tab) P hP
        exact ⟨ps, by rw [upd_ne (fun z => pT (by rw [← z]; exact hP))]; exact q, ok⟩
      have pin : k.p ∈ (O ++ [b]) ++ k.M := by rw [g3]; simp
      have hh : hid ((O ++ [b]) ++ k.M) (upd H1 k.p (.ins k.C dx (vs ++ [(f, .ref b)]))) = hid (b :: (O ++ k.M)) H1 := by rw [hid_in pin, cong]
      refine ⟨⟨tb1, .refl, fun a ha => ?_, fun b hb => (nomatch hb), r.sr.len, fun j s es => ?_, r.sr.inj⟩, oa1, ?_⟩
      · have ha : a ∈ (O ++ [b]) ++ k.M := ha
        by_cases z : a = b
        · subst z
          refine ⟨bT, ?_⟩
          show upd H1 k.p _ a ≠ none
          rw [upd_ne (fun w => nbM k.p (by rw [g3]; simp) w.symm), h1]
          intro w; cases w
        · have ha' : a ∈ O ++ k.M := by
            rcases List.mem_append.mp ha with ha | ha
            · rcases List.mem_append.mp ha with ha | ha
              · exact List.mem_append_left _ ha
              · exact absurd (List.mem_singleton.mp ha) z
            · exact List.mem_append_right _ ha
          obtain ⟨q1, q2⟩ := r.sr.msk a ha'
          refine ⟨q1, ?_⟩
          show upd H1 k.p _ a ≠ none
          by_cases w : a = k.p
          · rw [w, upd_same]; intro q; cases q
          · rw [upd_ne w]
            have q2 : H a ≠ none := q2
            cases e5 : H a with
            | none => exact absurd e5 q2
            | some o => rw [k1.at_ _ _ e5 q1]; intro q; cases q
      · obtain ⟨ov, z1, z2⟩ := r.sr.rel j s es
        refine ⟨ov, z1, ?_⟩
        have z2 : SlotOk k.K (hid ((O ++ k.M) ++ []) H) H [] ov s := z2
        show SlotOk k.K (hid (((O ++ [b]) ++ k.M) ++ []) (upd H1 k.p _)) (upd H1 k.p _) [] ov s
        rw [List.append_nil] at z2 ⊢
        rw [hh]
        cases s with
        | non => cases ov <;> trivial
        | dat x =>
          cases ov with
          | none => exact z2
          | some v => exact dp_keep km tm z2
        | own es =>
          cases ov with
          | none => exact z2
          | some v =>
            obtain ⟨c, ys, _, w2, _⟩ := z2
            cases w2
        | ob C fs =>
          cases ov with
          | none => exact z2
          | some v => exact ObD.keep km tm z2
        | raw w => cases ov <;> exact z2
      · have kx : KeepX k.T O k.Hs H := r.kx
        refine ⟨fun a o ea hT hO' => ?_, fun P hP tb => ?_⟩
        · have nO : a ∉ O := fun m => hO' (List.mem_append_left _ m)
          have np : a ≠ k.p := fun z => nO (by rw [z, g3]; exact List.mem_cons_self)
          show upd H1 k.p _ a = _
          rw [upd_ne np]
          exact k1.at_ _ _ (kx.at_ a o ea hT nO) hT
        · have := k1.tab P hP (kx.tab P hP tb)
          obtain ⟨ps, q, ok⟩ := this
          exact ⟨ps, by rw [show upd H1 k.p _ P = _ from upd_ne (fun z => pT (by rw [← z]; exact hP))]; exact q, ok⟩
    · rcases List.mem_append.mp ha with ha | ha
      · exact hO a ha hne
      · rw [List.mem_singleton.mp ha]
        cases e5 : k.Hs b with
        | none => rfl
        | some o =>
          have kx : KeepX k.T O k.Hs H := r.kx
          rw [kx.at_ b o e5 bT nbO] at hb
          cases hb
end
end DL
/-! calls that give objects; lists repeated -/
namespace DL
open PySem PySem.Spec PyProof.Rows L2 DA
def spO (K : PySem.W.Frag) (T : List Addr) (R : List DS → DS → Prop) : Sp := fun vs H Q _ => ∃ M ss s, (∀ a ∈ M, a ∉ T ∧ H a ≠ none) ∧ Tabs T H ∧ ArgsOk K (hid M H) vs ss ∧ R ss s ∧ ∀ v H', ArgOk K (hid M H') v s → Keep T H H' → Q v H'
section
variable {c : DC} {ρ : DEnv} {ta tb te : TE}
theorem eg_call {R : List DS → DS → Prop} {E : XK} {ta : TA} {ss : List DS} {s : DS} (h : EA c ta ρ ss) (hR : R ss s) : EG c (tCall (spO c.K c.T R) [] E ta) ρ s := fun A σ H r Q q => h A σ H r _ fun vs H1 k1 h1 =>
  ⟨c.M ++ A, ss, s, (r.move k1).nM, (r.move k1).tabs, by rw [List.append_nil]; exact h1, hR, fun v H2 h2 k2 => q v H2 (k1.trans k2) h2⟩
theorem dps_rep {K : PySem.W.Frag} {H : Hp} {xs : List V} {ds : List PD} (n : Nat) (g : DpAll K H xs ds) : DpAll K H (List.replicate n xs).flatten (List.replicate n ds).flatten := by
  induction n with
  | zero => exact .nil
  | succ n ih =>
    rw [List.replicate_succ, List.replicate_succ, List.flatten_cons, List.flatten_cons]
    exact dps_append g ih
/-- xs * k, a new list -/
theorem en_rep {xs : List PD} {k : Nat} (ha : EN c ta ρ xs) (hb : ED c tb ρ (.int (k : Int))) (hz : xs.length * k ≤ 1000) (hk : k ≤ 1000000) : EN c (tOp rRep ta tb) ρ (List.replicate k xs).flatten := fun A σ H r Q q => ha A σ H r _ fun a us H1 k1 hp h1 h2 => hb A σ H1 (r.move k1) _ fun v H2 k2 h3 => by
  have s2 := (r.move k1).move k2
  have aT : a ∉ c.T := fun m => by
    obtain ⟨ps, e, _⟩ := (k1.tabs r.tabs) a m
    rw [h1] at e; cases e
  have h4 : DpAll c.K (hid (c.M ++ A) H1) us xs := dps_same (hid_sub fun x m => List.mem_cons_of_mem _ m) h2
  have h5 := dps_keep (hid_keep k2) (r.move k1).tabm h4
  refine ⟨a, (k : Int), us, rfl, dp_int h3, k2.at_ _ _ h1 aT, by omega, by omega, ?_, fun p hp2 => ?_⟩
  · rw [Int.toNat_natCast, dps_len h4]
    exact Nat.le_of_lt (small1000 hz)
  · rw [Int.toNat_natCast]
    refine q p _ _ ((k1.trans k2).trans (.new hp2)) ((k1.trans k2).free r.tabs hp2) upd_same ?_
    rw [hid_new hp2]
    exact dps_rep k h5
theorem rep_one {α : Type} (n : Nat) (d : α) : (List.replicate n [d]).flatten = List.replicate n d := by
  induction n with
  | zero => rfl
  | succ n ih => rw [List.replicate_succ, List.flatten_cons, ih, List.replicate_succ]; rfl
end
end DL
namespace DL
open PySem PySem.Spec PyProof.Rows L2 DA
/-! ### for over enumerate(list), the body may change an object -/
structure TGM (k : OC) (g : TG) (d : PD) (ρ ρ' : DEnv) : Prop where
  run : ∀ σ H F v, SRM k σ H ρ F → Dp k.K (hid k.M H) v d → ∀ Q : L2.St → Hp → Prop, (∀ σ', SRM k σ' H ρ' F → Q σ' H) → g v σ H Q
theorem SRM.Hs {k : OC} {σ : L2.St} {H H1 : Hp} {ρ : DEnv} {F : List (Str × MF)} (r : SRM k σ H ρ F) (x : KeepX k.T k.O H1 H) : SRM ⟨k.K, k.T, k.M, k.p, k.C, k.O, H1⟩ σ H ρ F := ⟨r.sr, r.oa, x⟩
theorem tgm_pair {k : OC} {i j l : Nat} {a b c : PD} {ρ : DEnv} : TGM k (gTup k.K 2 (gCons (gName i) (gCons (gTup k.K 2 (gCons (gName j) (gCons (gName l) gNil))) gNil))) (.tuple [a, .tuple [b, c]]) ρ (((ρ.set i (.dat a)).set j (.dat b)).set l (.dat c)) := ⟨fun σ H F v r h Q q => by
  obtain ⟨p, xs, rfl, h1, h2⟩ := dp_tup h
  cases h2 with
  | cons a1 h2 =>
    cases h2 with
    | cons a2 h2 =>
      cases h2
      obtain ⟨p2, ys, rfl, h3, h4⟩ := dp_tup a2
      cases h4 with
      | cons b1 h4 =>
        cases h4 with
        | cons b2 h4 =>
          cases h4
          exact ⟨p, _, rfl, sqt_same hid_same h1, rfl, _, _, rfl, _, _, rfl, ⟨p2, _, rfl, sqt_same hid_same h3, rfl, _, _, rfl, _, _, rfl, rfl, rfl, q _ (((r.setD i a1).setD j b1).setD l b2)⟩⟩⟩
theorem sm_forE {k : OC} {ρ : DEnv} {F : List (Str × MF)} {D : MEnds} {te : TE} {ds : List PD} {g : TG} {tb : TS} (h : EM k te ρ F (.list ds)) (Inv : Nat → DEnv → List (Str × MF) → Prop) (h0 : Inv 0 ρ F)
    (hs : ∀ i d ρ' F' Hs, ds[i]? = some d → Inv i ρ' F' → ∃ ρ2, TGM ⟨k.K, k.T, k.M, k.p, k.C, k.O, Hs⟩ g (.tuple [.int (i : Int), d]) ρ' ρ2 ∧ SM ⟨k.K, k.T, k.M, k.p, k.C, k.O, Hs⟩ tb ⟨fun ρ2 F2 => Inv (i + 1) ρ2 F2, D.rt⟩ ρ2 F')
    (hd : ∀ ρ' F', Inv ds.length ρ' F' → D.nx ρ' F') : SM k (tFor (iEnum k.K (tCons te tNil)) g tb) D ρ F := fun E L σ H r => h.run r fun v H1 r1 _ h1 => by
  obtain ⟨a, xs, rfl, h2, h3⟩ := dp_list h1
  have tm := tabs_hid r1.sr.tab fun a h => (r1.sr.msk a h).1
  have back : ∀ {σ' H' ρ' F'}, SRM ⟨k.K, k.T, k.M, k.p, k.C, k.O, H1⟩ σ' H' ρ' F' → SRM k σ' H' ρ' F' := fun r' => ⟨r'.sr, r'.oa, r1.kx.trans r'.kx⟩
  have lsts : ∀ {σ' H' ρ' F'}, SRM ⟨k.K, k.T, k.M, k.p, k.C, k.O, H1⟩ σ' H' ρ' F' → SqL k.K H' a xs ∧ DpAll k.K (hid k.M H') xs ds := fun r' => by
    have kh := r'.kx.hid r'.oa.sub
    exact ⟨hid_same.seq (kh.sqL tm h2), dps_keep kh tm h3⟩
  refine ⟨a, xs, rfl, hid_same.seq h2, for_it (walk_enum (K := k.K) (a := a) (xs := xs)) (fun i σ' H' => ∃ ρ' F', SRM ⟨k.K, k.T, k.M, k.p, k.C, k.O, H1⟩ σ' H' ρ' F' ∧ Inv i ρ' F') ⟨ρ, F, ⟨r1.sr, r1.oa, .refl⟩, h0⟩ (fun i σ' H' _ ⟨ρ', F', r', _⟩ => (lsts r').1) ?_ ?_⟩
  · rintro i x σ' H' H2 hi ⟨ρ', F', r', hv⟩ hy
    obtain ⟨T, i0, y0, rfl, hT, rfl, hi0, hy0⟩ := hy
    cases hi0
    obtain ⟨d, hd', hx'⟩ := dps_at (lsts r').2 hy0
    obtain ⟨ρ2, tg, hb⟩ := hs i d ρ' F' H1 hd' hv
    have kn : Keep k.T H' (upd H' T (.tup [.int (i : Int), y0])) := .new hT
    have r2 : SRM ⟨k.K, k.T, k.M, k.p, k.C, k.O, H1⟩ σ' (upd H' T (.tup [.int (i : Int), y0])) ρ' F' := r'.move kn (r'.sr.move kn)
    have nT : T ∉ k.M := fun m => (r'.sr.msk T m).2 hT
    have dT : Dp k.K (hid k.M (upd H' T (.tup [.int (i : Int), y0]))) (.ref T) (.tuple [.int (i : Int), d]) := by
      refine .tup (SqT.of (hid_of nT upd_same)) (.cons (.int _) (.cons (dp_same (fun b o e => ?_) hx') .nil))
      obtain ⟨m, e⟩ := hid_inv e
      exact hid_of m (by rw [upd_ne (ne_of_none e hT)]; exact e)
    refine tg.run σ' _ F' _ r2 dT _ fun σ2 r3 => ?_
    refine hb { E with nx := fun σ2 H2 => ∃ ρ2 F2, SRM ⟨k.K, k.T, k.M, k.p, k.C, k.O, H1⟩ σ2 H2 ρ2 F2 ∧ Inv (i + 1) ρ2 F2, ct := fun σ2 H2 => ∃ ρ2 F2, SRM ⟨k.K, k.T, k.M, k.p, k.C, k.O, H1⟩ σ2 H2 ρ2 F2 ∧ Inv (i + 1) ρ2 F2, bk := E.nx } ⟨fun σ2 H2 ρ2 F2 r2 q => ⟨ρ2, F2, r2, q⟩, fun v2 H2 d2 F2 q1 q2 q3 q4 => L.rt v2 H2 d2 F2 q1 q2 (r1.kx.trans q3) q4⟩ _ _ r3
  · rintro σ' H' ⟨ρ', F', r', hv⟩
    rw [dps_len h3] at hv
    exact L.nx _ _ _ _ (back r') (hd ρ' F' hv)
/-! ### a def that makes an object -/
def spMI (K : PySem.W.Frag) (T : List Addr) (C : Addr) (R : List DS → List (Str × MF) → Prop) : Sp := fun vs H Q _ => ∃ M p dx ss F, (∀ a ∈ M, a ∉ T ∧ H a ≠ none) ∧ Tabs T H ∧ H p = some (.ins C dx []) ∧ p ∉ M ∧ ArgsOk K (hid (p :: M) H) vs (.raw (.ref p) :: ss) ∧ R ss F ∧
  ∀ H' O, OA K (O ++ M) H' p C F O → (∀ a ∈ O, a ≠ p → H a = none) → KeepX T [p] H H' → Tabs T H' → Q .non H'
section
variable {P : Program} {w : World} {K : PySem.W.Frag} {mg : Str → Option Value} {base : Heap}
theorem fn_si {T : List Addr} {C : Addr} {x qual : Str} {st : Stmt} {f : Addr} {fd : FuncData} {N ps : List Str} {k : Nat} {R : List DS → List (Str × MF) → Prop} (F : Fun K x qual st f fd) (S : FnScope N ps (defScope st)) (hl : ∀ ss F, R ss F → ss.length + 1 = ps.length)
    (hb : ∀ (cdv : Value) (A : Around) (outer : List Env) (s : Shared) (H : Hp) (E : XK), Room k (A.deeper (envOfC qual (defScope st) s.heap.objs.size f cdv)) →
      ∃ t, PSs (cxOf CX0 P w K mg base N qual (defScope st) f cdv A outer s H E).nox (defBody st) t ∧ ∀ M p H0 ss F, R ss F → SI ⟨K, T, M, p, C, H0⟩ t (fun _ F2 => F2 = F) (startD N (.raw (.ref p) :: ss)) []) : FnOk P w K mg base CX0 (k + 1) f fd ps (spMI K T C R) := by
  refine F.ok S (fun vs H Q E h => ?_) (fun cdv A outer s H vs Q E hr h => ?_)
  · obtain ⟨M, p, dx, ss, F, _, _, _, _, h3, h4, _⟩ := h
    rw [h3.len]
    exact hl ss F h4
  · obtain ⟨M, p, dx, ss, F, h1, h2, hp, hpM, h3, h4, q⟩ := h
    obtain ⟨t, ht, hq⟩ := hb cdv A outer s H E hr
    have pT : p ∉ T := nT_of h2 hp fun ps z => by cases z
    have msk : ∀ a ∈ p :: M, a ∉ T ∧ H a ≠ none := fun a ha => by
      rcases List.mem_cons.mp ha with z | ha
      · rw [z]; exact ⟨pT, by rw [hp]; intro w; cases w⟩
      · exact h1 a ha
    refine ⟨t, ht, hq M p H ss F h4 _ ⟨fun σ' H' ρ' F2 r' e => ?_⟩ _ H ⟨[p], ⟨start_sr msk h2 h3, ⟨⟨dx, [], [], hp, .nil, rfl, by decide⟩, by simp, fun a ha => by rw [List.mem_singleton.mp ha]; exact List.mem_cons_self⟩, .refl⟩, fun a ha hne => absurd (List.mem_singleton.mp ha) hne⟩⟩
    obtain ⟨O, r', hO⟩ := r'
    subst e
    have kx : KeepX T O H H' := r'.kx
    refine q H' O r'.oa hO ⟨fun b o e hT hb => kx.at_ b o e hT fun m => ?_, kx.tab⟩ r'.sr.tab
    have this : H b = none := hO b m fun z => hb (by rw [z]; exact List.mem_cons_self)
    rw [this] at e
    cases e
end
end DL
namespace PT
open PySem PySem.Spec PyProof.Rows L2 DA DL TR

/-- a class of the module, as it is made -/
structure Kls (P : Program) (w : World) (K : PySem.W.Frag) (mg : Str → Option Value) (base : Heap) (x : Str) (k : Nat) (ps : List Str) (sp : Sp) (C f : Addr) (fd : FuncData) : Prop where
  g : mg x = some (.ref C)
  mkr : Mk K C f
  b : Binds K fd ps []
  ok : FnOk P w K mg base CX0 k f fd ps sp
theorem ed_un_neg {c : DC} {ρ : DEnv} {ta : TE} {i : Int} (h : ED c ta ρ (.int i)) : ED c (tUn (rU fun i => .int (-i)) ta) ρ (.int (-i)) := fun A σ H r Q q => h A σ H r _ fun v H1 k1 h1 => ⟨i, dp_int h1, q _ H1 k1 (.int _)⟩
/-- QueueChooser(z) -/
def spQI (C : Addr) : Sp := fun vs H Q _ => ∃ p dx z, vs = [.ref p, .int z] ∧ H p = some (.ins C dx []) ∧ Q .non (upd H p (.ins C dx [("place", .int z)]))
theorem eg_queue {c : DC} {ρ : DEnv} {E : XK} {C : Addr} {z : Int} {ta : TA} (h : EA c ta ρ [.dat (.int z)]) : EG c (tMake C (spQI C) [] E ta) ρ (.ob C (qFs z)) := fun A σ H r Q q => h A σ H r _ fun vs H1 k1 h1 => by
  obtain ⟨v, rfl, h2⟩ := args1 h1
  have e := dp_int h2
  subst e
  intro x dx hx hdx hne
  refine ⟨x, dx, z, rfl, upd_same, rfl, ?_⟩
  have s1 : Keep c.T H1 (upd H1 dx (.own x)) := .new hdx
  have hx1 : upd H1 dx (.own x) x = none := by rw [upd_ne (Ne.symm hne)]; exact hx
  have s2 : Keep c.T H1 (upd (upd H1 dx (.own x)) x (.ins C dx [("place", .int z)])) := s1.trans (.new hx1)
  rw [upd_upd]
  refine q _ _ (k1.trans s2) ⟨x, dx, _, rfl, hid_of (nfresh (r.move k1) hx) upd_same, .cons (.int z) .nil⟩
/-- the chooser of a scheduler -/
def R_chooser_for (Cq : Addr) : List DS → DS → Prop := fun ss s => (ss = [.dat (.tuple [.str "first"])] ∧ s = .ob Cq (qFs 0)) ∨ (ss = [.dat (.tuple [.str "last"])] ∧ s = .ob Cq (qFs (-1)))
/-- a machine at its beginning -/
def mach0 {μ : Type} (S : Chs μ) (n : Nat) : Mach μ := ⟨List.replicate n 0, [none, none], S.fresh, 0, List.replicate n [], List.replicate n 0, List.replicate n 0, List.replicate n none, List.replicate n none⟩
def R_Machine {μ : Type} (S : Chs μ) (C : Addr) (fs : List (Str × PD)) (sch : PD) : List DS → List (Str × MF) → Prop := fun ss F => ∃ n : Nat, 1 ≤ n ∧ n ≤ 100 ∧ ss = [.dat sch, .dat (intD n)] ∧ F = mF S C fs (mach0 S n)
theorem rep_map {α : Type} (n : Nat) (f : α → PD) (x : α) : (List.replicate n [f x]).flatten = (List.replicate n x).map f := by
  rw [rep_one, List.map_replicate]
section
variable {P : Program} {w : World} {K : PySem.W.Frag} {mg : Str → Option Value} {base : Heap} {f : Addr} {fd : FuncData} {T : List Addr}
end
abbrev sQInit : Stmt := inClass (top 34) 0
abbrev nQInit : List Str := ["self", "place"]
theorem scQInit : FnScope nQInit ["self", "place"] (defScope sQInit) := ⟨rfl, rfl, rfl, by decide +kernel, rfl, by decide +kernel, by decide +kernel⟩
section
variable {P : Program} {w : World} {K : PySem.W.Frag} {mg : Str → Option Value} {base : Heap} {f : Addr} {fd : FuncData} {T : List Addr}
theorem ok_QueueChooser___init__ (F : Fun K "__init__" "QueueChooser.__init__" sQInit f fd) {C : Addr} (cl : Cls K C) (nP : NoAttr K C "place") : FnOk P w K mg base CX0 1 f fd ["self", "place"] (spQI C) := by
  refine F.ok scQInit (fun vs H Q E h => ?_) (fun cdv A outer s H vs Q E hr h => ?_)
  · obtain ⟨p, dx, z, rfl, _⟩ := h
    rfl
  · obtain ⟨p, dx, z, rfl, hp, q⟩ := h
    exact ⟨_, (pss_one (ps_fld (pv 0) (pv 1) rfl)), _, rfl, _, rfl, p, C, dx, [], rfl, hp, cl, nP, by decide, q⟩
end
abbrev sChFor : Stmt := top 38
abbrev nChFor : List Str := ["scheduler", "kind"]
theorem scChFor : FnScope nChFor ["scheduler"] (defScope sChFor) := ⟨rfl, rfl, rfl, by decide +kernel, rfl, by decide +kernel, by decide +kernel⟩
section
variable {P : Program} {w : World} {K : PySem.W.Frag} {mg : Str → Option Value} {base : Heap} {f : Addr} {fd : FuncData} {T : List Addr}
theorem ok_chooser_for (F : Fun K "chooser_for" "chooser_for" sChFor f fd) (G : Glob K mg) {Cq fQ : Addr} {dQ : FuncData} (k_QueueChooser : Kls P w K mg base "QueueChooser" 1 ["self", "place"] (spQI Cq) Cq fQ dQ) : FnOk P w K mg base CX0 3 f fd ["scheduler"] (spO K T (R_chooser_for Cq)) := by
  refine F.ok scChFor (fun vs H Q E h => ?_) (fun cdv A outer s H vs Q E hr h => ?_)
  · obtain ⟨M, ss, s, _, _, h3, h4, _⟩ := h
    rw [h3.len]
    rcases h4 with ⟨rfl, _⟩ | ⟨rfl, _⟩ <;> rfl
  · obtain ⟨M, ss, s, h1, h2, h3, h4, q⟩ := h
    refine ⟨_, (pss_cons (ps_set (i := 1) scChFor.nd rfl (.inl rfl) (pe_ix ix_tup (pv 0) pe_int (fun _ _ => rfl)))
      (pss_cons (ps_if (pt_cmpR op_eq (pv 1) pe_str (nomark _)) (pss_one (ps_ret (pe_make k_QueueChooser.mkr k_QueueChooser.ok (hr.mono (by decide)) (by rfl) k_QueueChooser.g k_QueueChooser.b .nil pass0 (pa_cons pe_int pa_nil)))) pss_nil)
      (pss_cons (ps_if (pt_cmpR op_eq (pv 1) pe_str (nomark _)) (pss_one (ps_ret (pe_make k_QueueChooser.mkr k_QueueChooser.ok (hr.mono (by decide)) (by rfl) k_QueueChooser.g k_QueueChooser.b .nil pass0 (pa_cons (pe_un un_neg pe_int) pa_nil)))) pss_nil)
      (pss_cons (ps_if (pt_cmpR op_eq (pv 1) pe_str (nomark _)) (pss_one ps_never) pss_nil)
      (pss_cons (ps_if (pt_cmpR op_eq (pv 1) pe_str (nomark _)) (pss_one ps_never) pss_nil)
      (pss_cons (ps_if (pt_cmpR op_eq (pv 1) pe_str (nomark _)) (pss_one ps_never) pss_nil)
      (pss_cons (ps_if (pt_cmpR op_eq (pv 1) pe_str (nomark _)) (pss_one ps_never) pss_nil)
      (pss_cons (ps_if (pt_cmpR op_eq (pv 1) pe_str (nomark _)) (pss_one ps_never) pss_nil)
      (pss_one ps_never))))))))), ?_⟩
    obtain ⟨kd, hk, rfl⟩ : ∃ kd : Str, (kd = "first" ∧ s = .ob Cq (qFs 0) ∨ kd = "last" ∧ s = .ob Cq (qFs (-1))) ∧ ss = [.dat (.tuple [.str kd])] := by
      rcases h4 with ⟨rfl, rfl⟩ | ⟨rfl, rfl⟩
      · exact ⟨_, .inl ⟨rfl, rfl⟩, rfl⟩
      · exact ⟨_, .inr ⟨rfl, rfl⟩, rfl⟩
    have r := start_sr (N := nChFor) h1 h2 h3
    refine ed_ixT (c := ⟨K, T, M, H⟩) (ds := [.str kd]) (i := 0) (d := .str kd) (ed_var rfl) ed_int rfl [] _ H r _ fun v H1 k1 g1 => ?_
    have r1 := (r.move k1).setD 1 g1
    have t1 : ∀ z : Str, ET ⟨K, T, M, H⟩ (tTest (tOp rEq (tVar 1) (tC (.str z)))) [.dat (.tuple [.str kd]), .dat (.str kd)] (decide (kd = z)) := fun z => et_is (et_test (ed_eq (x := .str kd) (y := .str z) (ed_var rfl) ed_str rfl rfl rfl)) (eqStr kd z)
    have fin : ∀ {H' : Hp} {z : Int} {v : V}, Keep T H H' → ArgOk K (hid (M ++ []) H') v (.ob Cq (qFs z)) → s = .ob Cq (qFs z) → Q v H' := fun {H' z v} kk a e => by
      subst e
      rw [List.append_nil] at a
      exact q v H' a kk
    refine t1 "first" [] _ H1 r1 _ fun H2 k2 => ?_
    rcases hk with ⟨rfl, e⟩ | ⟨rfl, e⟩
    · exact eg_queue (c := ⟨K, T, M, H⟩) (ea_d ed_int ea_nil) [] _ H2 (r1.move k2) _ fun v H3 k3 g3 => fin ((k1.trans k2).trans k3) g3 e
    · refine t1 "last" [] _ H2 (r1.move k2) _ fun H3 k3 => ?_
      exact eg_queue (c := ⟨K, T, M, H⟩) (ea_d (ed_un_neg ed_int) ea_nil) [] _ H3 ((r1.move k2).move k3) _ fun v H4 k4 g4 => fin (((k1.trans k2).trans k3).trans k4) g4 e
end
end PT
namespace DL
open PySem PySem.Spec PyProof.Rows L2 DA
theorem SR.reb {K : PySem.W.Frag} {T M M' : List Addr} {H H2 : Hp} {σ : L2.St} {ρ : DEnv} (r : SR ⟨K, T, M, H⟩ [] σ H ρ) (km : Keep T (hid M H) (hid M' H2)) (t2 : Tabs T H2) (m2 : ∀ a ∈ M', a ∉ T ∧ H2 a ≠ none) : SR ⟨K, T, M', H2⟩ [] σ H2 ρ := by
  have tm : Tabs T (hid M H) := tabs_hid r.tab fun a h => (r.msk a h).1
  refine ⟨t2, .refl, m2, fun b hb => (nomatch hb), r.len, fun i s e => ?_, r.inj⟩
  obtain ⟨ov, h1, h2⟩ := r.rel i s e
  refine ⟨ov, h1, ?_⟩
  have h2 : SlotOk K (hid (M ++ []) H) H [] ov s := h2
  show SlotOk K (hid (M' ++ []) H2) H2 [] ov s
  rw [List.append_nil] at h2 ⊢
  cases s with
  | own ds =>
    cases ov with
    | none => exact h2
    | some v =>
      obtain ⟨b, xs, q1, q2, _⟩ := h2
      cases q2
  | non => cases ov <;> trivial
  | dat d =>
    cases ov with
    | none => exact h2
    | some v => exact dp_keep km tm h2
  | ob C fs =>
    cases ov with
    | none => exact h2
    | some v => exact ObD.keep km tm h2
  | raw w => cases ov <;> exact h2
/-- another hidden object changes -/
theorem SRM.other {k : OC} {σ : L2.St} {H : Hp} {ρ : DEnv} {F : List (Str × MF)} (r : SRM k σ H ρ F) {a : Addr} {o : HO} (ha : a ∈ k.M) (hO : a ∉ k.O) : SRM ⟨k.K, k.T, k.M, k.p, k.C, k.O, upd H a o⟩ σ (upd H a o) ρ F := by
  have aT : a ∉ k.T := (r.sr.msk a ha).1
  have hh : hid k.M (upd H a o) = hid k.M H := hid_in ha
  have t2 : Tabs k.T (upd H a o) := fun P hP => by
    obtain ⟨ps, e, ok⟩ := r.sr.tab P hP
    exact ⟨ps, by rw [upd_ne (fun z => aT (by rw [← z]; exact hP))]; exact e, ok⟩
  refine ⟨r.sr.reb (by rw [hh]; exact .refl) t2 fun b hb => ⟨(r.sr.msk b hb).1, fun z => ?_⟩, ?_, .refl⟩
  · by_cases w : b = a
    · rw [w, upd_same] at z; cases z
    · rw [upd_ne w] at z
      exact (r.sr.msk b hb).2 z
  · obtain ⟨dx, vs, as, h1, h2, h3, h4⟩ := r.oa.ex
    refine ⟨⟨dx, vs, as, ?_, ?_, h3, h4⟩, r.oa.nd, r.oa.sub⟩
    · rw [upd_ne (fun z => hO (by rw [← z, h3]; exact List.mem_cons_self))]
      exact h1
    · show FsM k.K (hid k.M (upd H a o)) _ _ _ _
      rw [hh]
      exact h2.move (fun _ _ z => z) (fun _ _ _ z => z) (fun _ _ z => z) fun b hb => upd_ne fun z => hO (by rw [← z, h3]; exact List.mem_cons_of_mem _ hb)
theorem OA.more {K : PySem.W.Frag} {T M M' : List Addr} {H H' : Hp} {p C : Addr} {F : List (Str × MF)} {O : List Addr} (o : OA K M H p C F O) (t : Tabs T H) (hM : ∀ a ∈ M, a ∉ T) (k : Keep T H H') (km : Keep T (hid M H) (hid M' H')) (sub : ∀ a ∈ O, a ∈ M') : OA K M' H' p C F O := by
  obtain ⟨dx, vs, as, h1, h2, h3, h4⟩ := id o.ex
  have tm : Tabs T (hid M H) := tabs_hid t hM
  refine ⟨⟨dx, vs, as, k.at_ _ _ h1 (o.nT t p (by rw [h3]; exact List.mem_cons_self)), h2.move (fun v x z => dp_keep km tm z) (fun v C fs z => ObD.keep km tm z) (fun vs xs z => dps_keep km tm z) (fun a ha => ?_), h3, h4⟩, o.nd, sub⟩
  obtain ⟨x, e, n⟩ := o.none a (by rw [h3]; exact List.mem_cons_of_mem _ ha)
  rw [e]
  exact k.at_ _ _ e (o.nT t a (by rw [h3]; exact List.mem_cons_of_mem _ ha))
/-- a def that gives a new object -/
def spMF (K : PySem.W.Frag) (T : List Addr) (C : Addr) (R : List DS → List (Str × MF) → Prop) : Sp := fun vs H Q _ => ∃ M ss F, (∀ a ∈ M, a ∉ T ∧ H a ≠ none) ∧ Tabs T H ∧ ArgsOk K (hid M H) vs ss ∧ R ss F ∧
  ∀ p H' O, OA K (O ++ M) H' p C F O → (∀ a ∈ O, H a = none) → Keep T H H' → Q (.ref p) H'
/-- C(..), read -/
theorem make_run {K : PySem.W.Frag} {T M : List Addr} {C : Addr} {R : List DS → List (Str × MF) → Prop} {E : XK} {ta : TA} {σ : L2.St} {H : Hp} {ρ : DEnv} {ss : List DS} {F : List (Str × MF)} (r : SR ⟨K, T, M, H⟩ [] σ H ρ) (h : EA ⟨K, T, M, H⟩ ta ρ ss) (hR : R ss F) {Q : VK}
    (q : ∀ x H2 O, OA K (O ++ M) H2 x C F O → (∀ a ∈ O, H a = none) → Keep T H H2 → SR ⟨K, T, O ++ M, H2⟩ [] σ H2 ρ → Q (.ref x) H2) : tMake C (spMI K T C R) [] E ta σ H Q := h [] σ H r _ fun vs H1 k1 h1 => by
  have h1 : ArgsOk K (hid (M ++ []) H1) vs ss := h1
  rw [List.append_nil] at h1
  intro x dx hx hdx hne
  have t1 : Tabs T H1 := k1.tabs r.tab
  have hx1 : upd H1 dx (.own x) x = none := by rw [upd_ne (Ne.symm hne)]; exact hx
  have ka : Keep T H1 (upd H1 dx (.own x)) := .new hdx
  have kb : Keep T H1 (upd (upd H1 dx (.own x)) x (.ins C dx [])) := ka.trans (.new hx1)
  have tb : Tabs T (upd (upd H1 dx (.own x)) x (.ins C dx [])) := kb.tabs t1
  have tm : Tabs T (hid M H1) := tabs_hid t1 fun a h => (r.msk a h).1
  have m1 : ∀ a ∈ M, a ∉ T ∧ H1 a ≠ none := fun a ha => (r.move k1).nM a (List.mem_append_left _ ha)
  have km : Keep T (hid M H1) (hid (x :: M) (upd (upd H1 dx (.own x)) x (.ins C dx []))) := hid_more kb hx
  have xM : x ∉ M := fun m => (m1 x m).2 hx
  have free : ∀ b o, H1 b = some o → b ≠ x ∧ b ≠ dx := fun b o e => ⟨fun z => (by rw [z, hx] at e; cases e), fun z => (by rw [z, hdx] at e; cases e)⟩
  refine ⟨M, x, dx, ss, F, fun a ha => ⟨(m1 a ha).1, ?_⟩, tb, upd_same, xM, ?_, hR, fun H2 O o2 f2 kx t2 => ⟨rfl, ?_⟩⟩
  · cases e : H1 a with
    | none => exact absurd e (m1 a ha).2
    | some o =>
      obtain ⟨n1, n2⟩ := free a o e
      rw [upd_ne n1, upd_ne n2, e]
      intro z; cases z
  · rw [List.append_nil]
    exact .cons (show ArgOk K _ (.ref x) (.raw (.ref x)) from rfl) (h1.keep km tm)
  · have fO : ∀ a ∈ O, H1 a = none := fun a ha => by
      by_cases z : a = x
      · rw [z]; exact hx
      · have := f2 a ha z
        rw [upd_ne z] at this
        by_cases w : a = dx
        · rw [w]; exact hdx
        · rw [upd_ne w] at this; exact this
    have k2 : Keep T H1 H2 := ⟨fun b o e hT => by
      obtain ⟨n1, n2⟩ := free b o e
      exact kx.at_ b o (by rw [upd_ne n1, upd_ne n2]; exact e) hT (by simpa using n1), fun P hP tb0 => kx.tab P hP (kb.tab P hP tb0)⟩
    have fO' : ∀ a ∈ O, H a = none := fun a ha => k1.free r.tab (fO a ha)
    have kh : Keep T (hid M H1) (hid (O ++ M) H2) := ⟨fun b o e hT => by
      obtain ⟨m, e⟩ := hid_inv e
      exact hid_of (fun q => (List.mem_append.mp q).elim (fun q => (by rw [fO b q] at e; cases e)) m) (k2.at_ b o e hT), fun P hP tb0 => by
      obtain ⟨ps, e, ok⟩ := tb0
      obtain ⟨m, e⟩ := hid_inv e
      obtain ⟨ps', e', ok'⟩ := k2.tab P hP ⟨ps, e, ok⟩
      exact ⟨ps', hid_of (fun q => (List.mem_append.mp q).elim (fun q => (by rw [fO P q] at e; cases e)) m) e', ok'⟩⟩
    have kh0 : Keep T (hid M H) (hid (O ++ M) H2) := (hid_keep k1).trans kh
    refine q x H2 O o2 fO' (k1.trans k2) (r.reb kh0 t2 fun a ha => ?_)
    rcases List.mem_append.mp ha with ha | ha
    · obtain ⟨y, e, n⟩ := o2.none a ha
      exact ⟨nT_of t2 e n, by rw [e]; intro z; cases z⟩
    · refine ⟨(m1 a ha).1, ?_⟩
      cases e : H1 a with
      | none => exact absurd e (m1 a ha).2
      | some o => rw [k2.at_ a o e (m1 a ha).1]; intro z; cases z
theorem SM.andThen {k : OC} {D : MEnds} {t u : TS} {E : Ends} {σ : L2.St} {H : Hp} {ρ : DEnv} {F : List (Str × MF)} (rs : SRM k σ H ρ F) (sm : SM k t D ρ F) (L : LeM k D { E with nx := u E }) : tSeq t u E σ H := sm _ L σ H rs
theorem make_asg {K : PySem.W.Frag} {T M : List Addr} {C : Addr} {R : List DS → List (Str × MF) → Prop} {E : XK} {ta : TA} {σ : L2.St} {H : Hp} {ρ : DEnv} {ss : List DS} {F : List (Str × MF)} {g : TG} {u : TS} {D : Ends} (r : SR ⟨K, T, M, H⟩ [] σ H ρ) (h : EA ⟨K, T, M, H⟩ ta ρ ss) (hR : R ss F)
    (q : ∀ x H2 O, OA K (O ++ M) H2 x C F O → (∀ a ∈ O, H a = none) → Keep T H H2 → SR ⟨K, T, O ++ M, H2⟩ [] σ H2 ρ → g (.ref x) σ H2 fun σ' H' => u D σ' H') : tSeq (tAsg (tMake C (spMI K T C R) [] E ta) g) u D σ H :=
  make_run r h hR (Q := fun v H2 => g v σ H2 fun σ' H' => u D σ' H') q
end DL
namespace PT
open PySem PySem.Spec PyProof.Rows L2 DA DL TR

abbrev Hall := List (Nat × List Deed)
def encHall (h : Hall) : PD := .list (h.map fun x => .tuple [intD x.1, encPr x.2])
/-- the machine of a hall before unit 0 -/
def machH {μ : Type} (S : Chs μ) (h : Hall) : Mach μ := ⟨List.replicate h.length 0, [none, none], S.fresh, 0, h.map (·.2), List.replicate h.length 0, List.replicate h.length 0, h.map (fun x => some x.1), List.replicate h.length none⟩
def partM {μ : Type} (S : Chs μ) (h : Hall) (i : Nat) : Mach μ := { mach0 S h.length with progs := (h.take i).map (·.2) ++ List.replicate (h.length - i) [], comings := (h.take i).map (fun x => some x.1) ++ List.replicate (h.length - i) none }
theorem set_app {α : Type} {a : List α} {y v : α} {n i : Nat} (h : a.length = i) (hn : i < n) : (a ++ List.replicate (n - i) y).set i v = a ++ [v] ++ List.replicate (n - (i + 1)) y := by
  rw [List.set_append_right _ _ (by omega), h, Nat.sub_self]
  obtain ⟨k, hk⟩ : ∃ k, n - i = k + 1 := ⟨n - i - 1, by omega⟩
  rw [hk, List.replicate_succ, List.set_cons_zero, show n - (i + 1) = k from by omega, List.append_assoc]
  rfl
theorem set_rep {α : Type} {y : α} {n i : Nat} : (List.replicate n y).set i y = List.replicate n y := by
  apply List.ext_getElem?
  intro j
  rw [List.getElem?_set]
  split
  · next e =>
    subst e
    rw [List.length_replicate, List.getElem?_replicate]
  · rfl
/-- the rows that a machine tells, and the machine behind them -/
def runsM {μ : Type} (S : Chs μ) : Nat → Mach μ → List PD × Mach μ
  | 0, x => ([], x)
  | n + 1, x => if goesB x = true then (rowD S x :: (runsM S n (tickM S x)).1, (runsM S n (tickM S x)).2) else ([], x)
/-- all is well for so many ticks -/
def okRuns {μ : Type} (S : Chs μ) : Nat → Mach μ → Prop
  | 0, x => okPs x.ps ∧ x.comings.length ≤ 100
  | n + 1, x => okPs x.ps ∧ x.comings.length ≤ 100 ∧ (goesB x = true → okTick S x ∧ okRuns S n (tickM S x))
theorem okRuns.ps {μ : Type} {S : Chs μ} : ∀ {n : Nat} {x : Mach μ}, okRuns S n x → okPs x.ps ∧ x.comings.length ≤ 100
  | 0, _, h => h
  | _ + 1, _, h => ⟨h.1, h.2.1⟩
def R_rows_told {μ : Type} (S : Chs μ) (C : Addr) (fs : List (Str × PD)) : RM := fun F ss d F' => ∃ (x : Mach μ) (n : Nat), n ≤ 900 ∧ okRuns S n x ∧ F = mF S C fs x ∧ ss = [.dat (intD n)] ∧ d = .list (runsM S n x).1 ∧ F' = mF S C fs (runsM S n x).2
def R_rows_of {μ : Type} (S : Chs μ) (sch : PD) : List DS → PD → Prop := fun ss d => ∃ (h : Hall) (n : Nat), 1 ≤ h.length ∧ h.length ≤ 100 ∧ n ≤ 900 ∧ okRuns S n (machH S h) ∧ ss = [.dat sch, .dat (encHall h), .dat (intD n)] ∧ d = .list (runsM S n (machH S h)).1
def R_machine_for {μ : Type} (S : Chs μ) (C : Addr) (fs : List (Str × PD)) (sch : PD) : List DS → List (Str × MF) → Prop := fun ss F => ∃ h : Hall, 1 ≤ h.length ∧ h.length ≤ 100 ∧ ss = [.dat sch, .dat (encHall h)] ∧ F = mF S C fs (machH S h)
def whosM {μ : Type} (S : Chs μ) : Nat → Mach μ → List (Option Nat)
  | 0, _ => []
  | n + 1, x => if goesB x = true then whoM S x :: whosM S n (tickM S x) else []
def R_run_of {μ : Type} (S : Chs μ) (sch : PD) : List DS → PD → Prop := fun ss d => ∃ (h : Hall) (n : Nat), 1 ≤ h.length ∧ h.length ≤ 100 ∧ n ≤ 900 ∧ okRuns S n (machH S h) ∧ ss = [.dat sch, .dat (encHall h), .dat (intD n)] ∧ d = .list ((whosM S n (machH S h)).map encO)
theorem rows_len {μ : Type} (S : Chs μ) : ∀ (n : Nat) (x : Mach μ), (runsM S n x).1.length ≤ n
  | 0, x => Nat.le_refl _
  | n + 1, x => by
    show (if goesB x = true then _ else _ : List PD × Mach μ).1.length ≤ n + 1
    split
    · exact Nat.succ_le_succ (rows_len S n _)
    · exact Nat.zero_le _
theorem rows_shape {μ : Type} (S : Chs μ) : ∀ (n : Nat) (x : Mach μ), ∀ d ∈ (runsM S n x).1, ∃ a b c, d = .tuple [a, b, c]
  | 0, x, d, h => by cases h
  | n + 1, x, d, h => by
    have h : d ∈ (if goesB x = true then (rowD S x :: (runsM S n (tickM S x)).1, (runsM S n (tickM S x)).2) else ([], x) : List PD × Mach μ).1 := h
    split at h
    · rcases List.mem_cons.mp h with rfl | h
      · exact ⟨_, _, _, rfl⟩
      · exact rows_shape S n _ d h
    · cases h
theorem rows_who {μ : Type} (S : Chs μ) : ∀ (n : Nat) (x : Mach μ), (runsM S n x).1.map (fun d => match d with | .tuple [_, b, _] => b | _ => .none) = (whosM S n x).map encO
  | 0, x => rfl
  | n + 1, x => by
    show (if goesB x = true then _ else _ : List PD × Mach μ).1.map _ = (if goesB x = true then _ else _ : List (Option Nat)).map encO
    split
    · show _ :: _ = _ :: _
      rw [rows_who S n]
      rfl
    · rfl
section
variable {P : Program} {w : World} {K : PySem.W.Frag} {mg : Str → Option Value} {base : Heap} {f : Addr} {fd : FuncData} {T : List Addr}
end
abbrev sMInit : Stmt := inClass (top 44) 0
abbrev nMInit : List Str := ["self", "scheduler", "size", "_"]
theorem scMInit : FnScope nMInit ["self", "scheduler", "size"] (defScope sMInit) := ⟨rfl, rfl, rfl, by decide +kernel, rfl, by decide +kernel, by decide +kernel⟩
section
variable {P : Program} {w : World} {K : PySem.W.Frag} {mg : Str → Option Value} {base : Heap} {f : Addr} {fd : FuncData} {T : List Addr}
theorem ok_Machine___init__ (F : Fun K "__init__" "Machine.__init__" sMInit f fd) (G : Glob K mg) {μ : Type} {S : Chs μ} {C CM : Addr} {fs : List (Str × PD)} (mc : MC K CM) {sch : PD} {R_cf : List DS → DS → Prop} (hcf : R_cf [.dat sch] (.ob C fs)) {fc ff : Addr} {dc df : FuncData} (c_chooser_for : Cal P w K mg base "chooser_for" 3 ["scheduler"] (spO K T R_cf) fc dc) (c_first_state : Cal P w K mg base "first_state" 9 ["chooser", "size"] (spD K T (R_first_state S C fs)) ff df) : FnOk P w K mg base CX0 10 f fd ["self", "scheduler", "size"] (spMI K T CM (R_Machine S C fs sch)) := by
  refine fn_si F scMInit (fun ss F1 h => ?_) (fun cdv A outer s H E hr => ⟨_, (pss_cons (ps_fld (pv 0) (pe_call c_chooser_for.ok (hr.mono (by decide)) (by rfl) c_chooser_for.g c_chooser_for.kp c_chooser_for.b .nil pass0 (pa_cons (pv 1) pa_nil)) rfl)
      (pss_cons (ps_fld (pv 0) (pe_call c_first_state.ok (hr.mono (by decide)) (by rfl) c_first_state.g c_first_state.kp c_first_state.b .nil pass0 (pa_cons (pe_fld (pv 0) rfl) (pa_cons (pv 2) pa_nil))) rfl)
      (pss_cons (ps_fld (pv 0) pe_int rfl)
      (pss_cons (ps_fld (pv 0) (pe_lc (own := [("_", 3)]) (g := (gName 3)) (tt := tYes) (te := (tLst tNil)) rfl scMInit.nd (pi_range1 (by rfl) G.range (pa_cons (pv 2) pa_nil)) (blkOk_by (N := nMInit) (sc := defScope sMInit) (by decide +kernel)) (fun _ _ _ _ _ => (pg_name (i := 3) scMInit.nd rfl (.inl rfl))) (fun _ _ _ _ _ => pts_nil) (fun _ _ _ _ _ => (pe_lst pa_nil))) rfl)
      (pss_cons (ps_fld (pv 0) (pe_op op_rep (pe_lst (pa_cons pe_int pa_nil)) (pv 2)) rfl)
      (pss_cons (ps_fld (pv 0) (pe_op op_rep (pe_lst (pa_cons pe_int pa_nil)) (pv 2)) rfl)
      (pss_cons (ps_fld (pv 0) (pe_op op_rep (pe_lst (pa_cons pe_non pa_nil)) (pv 2)) rfl)
      (pss_one (ps_fld (pv 0) (pe_op op_rep (pe_lst (pa_cons pe_non pa_nil)) (pv 2)) rfl))))))))), fun M p H0 ss F1 h => ?_⟩)
  · obtain ⟨n, h1, h2, rfl, rfl⟩ := h
    rfl
  · obtain ⟨n, h1, h2, rfl, rfl⟩ := h
    refine si_seq (si_fldO (C2 := C) (fs := fs) (fun O H o t => eg_call (ea_d (ed_var rfl) ea_nil) hcf) rfl mc.cl mc.ch rfl (by simp) ?_)
    refine si_seq (si_fldD (d := encS S (List.replicate n 0) [none, none] S.fresh) (fun O H o t => ed_call (ea_cons (og_fld o rfl mc.cl mc.ch rfl) (ea_d (ed_var rfl) ea_nil)) ⟨n, h1, h2, rfl, rfl⟩) rfl mc.cl mc.st rfl (by simp) ?_)
    refine si_seq (si_fldD (d := .int 0) (fun O H o t => ed_int) rfl mc.cl mc.ck rfl (by simp) ?_)
    refine si_seq (si_fldL (ds := (List.replicate n ([] : List Deed)).map encPr) (fun O H o t => en_is (en_lc (js := [3]) (fun _ => true) (fun _ => .list []) (id_rng1 (n := (n : Int)) (ea_d (ed_var rfl) ea_nil)) (by rw [rngD_len]; omega) (by decide) (fun d hd H1 _ => ⟨[d], tg_name, et_yes, fun _ => ed_en (en_lst (ds := []) ea_nil (by simp))⟩)) ?_) rfl mc.cl mc.pr rfl (by simp) ?_)
    · rw [List.filter_eq_self.mpr fun _ _ => rfl, List.map_replicate]
      apply List.ext_getElem?
      intro i
      rw [List.getElem?_map, List.getElem?_replicate]
      by_cases h : i < n
      · rw [if_pos h, List.getElem?_eq_getElem (by rw [rngD_len]; omega)]
        rfl
      · rw [if_neg h, List.getElem?_eq_none (by rw [rngD_len]; omega)]
        rfl
    refine si_seq (si_fldL (ds := (List.replicate n (0 : Nat)).map intD) (fun O H o t => en_is (en_rep (k := n) (en_lst (ds := [.int 0]) (ea_d ed_int ea_nil) (by simp)) (ed_var rfl) (by simp; omega) (by omega)) (rep_map n intD 0)) rfl mc.cl mc.re rfl (by simp) ?_)
    refine si_seq (si_fldL (ds := (List.replicate n (0 : Nat)).map intD) (fun O H o t => en_is (en_rep (k := n) (en_lst (ds := [.int 0]) (ea_d ed_int ea_nil) (by simp)) (ed_var rfl) (by simp; omega) (by omega)) (rep_map n intD 0)) rfl mc.cl mc.wo rfl (by simp) ?_)
    refine si_seq (si_fldL (ds := (List.replicate n (none : Option Nat)).map encO) (fun O H o t => en_is (en_rep (k := n) (en_lst (ds := [.none]) (ea_d ed_non ea_nil) (by simp)) (ed_var rfl) (by simp; omega) (by omega)) (rep_map n encO none)) rfl mc.cl mc.co rfl (by simp) ?_)
    exact si_fldL (ds := (List.replicate n (none : Option Nat)).map encO) (fun O H o t => en_is (en_rep (k := n) (en_lst (ds := [.none]) (ea_d ed_non ea_nil) (by simp)) (ed_var rfl) (by simp; omega) (by omega)) (rep_map n encO none)) rfl mc.cl mc.fi rfl (by simp) rfl
end
abbrev sMFor : Stmt := top 45
abbrev nMFor : List Str := ["scheduler", "hall", "machine", "slot", "comes", "program"]
theorem scMFor : FnScope nMFor ["scheduler", "hall"] (defScope sMFor) := ⟨rfl, rfl, rfl, by decide +kernel, rfl, by decide +kernel, by decide +kernel⟩
section
variable {P : Program} {w : World} {K : PySem.W.Frag} {mg : Str → Option Value} {base : Heap} {f : Addr} {fd : FuncData} {T : List Addr}
theorem ok_machine_for (F : Fun K "machine_for" "machine_for" sMFor f fd) (G : Glob K mg) {μ : Type} {S : Chs μ} {C CM : Addr} {fs : List (Str × PD)} (mc : MC K CM) {sch : PD} {fI fL : Addr} {dI dL : FuncData} (k_Machine : Kls P w K mg base "Machine" 10 ["self", "scheduler", "size"] (spMI K T CM (R_Machine S C fs sch)) CM fI dI) (m_load : Met P w K mg base CM "load" 1 ["self", "slot", "program", "comes"] (spM K T CM (R_load S C fs)) fL dL) : FnOk P w K mg base CX0 12 f fd ["scheduler", "hall"] (spMF K T CM (R_machine_for S C fs sch)) := by
  refine F.ok scMFor (fun vs H Q E h => ?_) (fun cdv A outer s H vs Q E hr h => ?_)
  · obtain ⟨M, ss, F1, _, _, h3, h4, _⟩ := h
    obtain ⟨hl, _, _, rfl, _⟩ := h4
    exact h3.len
  · obtain ⟨M, ss, F1, h1, h2, h3, ⟨hl, l1, l2, rfl, rfl⟩, q⟩ := h
    refine ⟨_, (pss_cons (ps_set (i := 2) scMFor.nd rfl (.inl rfl) (pe_make k_Machine.mkr k_Machine.ok (hr.mono (by decide)) (by rfl) k_Machine.g k_Machine.b .nil pass0 (pa_cons (pv 0) (pa_cons (pe_callB call_len_seq (by rfl) G.len PySem.boot_len (pa_cons (pv 1) pa_nil)) pa_nil))))
      (pss_cons (ps_for PassesOwn.never rfl (pi_enum (by rfl) G.enumerate (pa_cons (pv 1) pa_nil)) (pg_tup (by rfl) (pgs_cons (pg_name (i := 3) scMFor.nd rfl (.inl rfl)) (pgs_cons (pg_tup (by rfl) (pgs_cons (pg_name (i := 4) scMFor.nd rfl (.inl rfl)) (pgs_cons (pg_name (i := 5) scMFor.nd rfl (.inl rfl)) pgs_nil))) pgs_nil))) (pss_one (ps_expr (pe_meth (pv 2) m_load.cl m_load.m m_load.ok (hr.mono (by decide)) m_load.b .nil pass0 (pa_cons (pv 3) (pa_cons (pv 5) (pa_cons (pv 4) pa_nil)))))))
      (pss_one (ps_ret (pv 2))))), ?_⟩
    have r0 := start_sr (N := nMFor) h1 h2 h3
    refine make_asg (R := R_Machine S C fs sch) r0 (ss := [.dat sch, .dat (intD hl.length)]) (ea_d (ed_var rfl) (ea_d (ed_is (ed_lenL (ds := hl.map fun x => .tuple [intD x.1, encPr x.2]) (el_ed (ed_var rfl))) (by rw [List.length_map]; rfl)) ea_nil)) ⟨hl.length, l1, l2, rfl, rfl⟩ fun x H2 O o2 f2 k2 r2 => ?_
    have rs : SRM ⟨K, T, O ++ M, x, CM, O, H2⟩ _ H2 _ (mF S C fs (mach0 S hl.length)) := ⟨r2.setS 2 (v := .ref x) (s := .raw (.ref x)) rfl (fun ds z => nomatch z), o2, .refl⟩
    show tSeq (tFor _ _ _) (tRet (tVar 2)) _ _ _
    refine SM.andThen rs (sm_forE (k := ⟨K, T, O ++ M, x, CM, O, H2⟩) (D := ⟨fun ρ' F' => isSelf ⟨K, T, O ++ M, x, CM, O, H2⟩ ρ' 2 ∧ F' = mF S C fs (machH S hl), fun _ _ => False⟩) (ds := hl.map fun x => .tuple [intD x.1, encPr x.2]) (fun H o t => ed_var rfl) (fun i ρ F => i ≤ hl.length ∧ F = mF S C fs (partM S hl i) ∧ ∃ s3 s4 s5, ρ = [.dat sch, .dat (encHall hl), .raw (.ref x), s3, s4, s5]) ⟨Nat.zero_le _, ?_, _, _, _, rfl⟩ (fun i d ρ' F' Hs hd hv => ?_) (fun ρ' F' hv => ?_)) ⟨fun σ' H' ρ' F' r' e => ?_, fun v H' d F' a b c e => e.elim⟩
    · unfold partM mach0
      rfl
    · obtain ⟨hi, rfl, s3, s4, s5, rfl⟩ := hv
      rw [List.getElem?_map] at hd
      cases hc : hl[i]? with
      | none => rw [hc] at hd; cases hd
      | some y =>
        rw [hc] at hd
        cases hd
        have hlt := (List.getElem?_eq_some_iff.mp hc).1
        have lp : ((hl.take i).map (·.2)).length = i := by rw [List.length_map, List.length_take]; omega
        have lc : ((hl.take i).map (fun x => some x.1)).length = i := by rw [List.length_map, List.length_take]; omega
        have e1 : (hl.take (i + 1)) = hl.take i ++ [y] := by rw [List.take_succ, hc]; rfl
        refine ⟨_, tgm_pair, sm_dropM (i := 2) (R := R_load S C fs) (ss := [.dat (intD i), .dat (encPr y.2), .dat (intD y.1)]) (F' := mF S C fs (partM S hl (i + 1))) rfl (l_no (by decide +kernel)) (am_d (em_var rfl) (am_d (em_var rfl) (am_d (em_var rfl) am_nil))) ⟨partM S hl i, i, y.2, y.1, ?_, ?_, ?_, rfl, rfl, rfl, ?_⟩ ⟨hlt, rfl, _, _, _, rfl⟩⟩
        · unfold partM mach0 okSz
          simp
          omega
        · unfold partM mach0
          simp
          omega
        · unfold partM mach0
          simp
          omega
        · unfold partM mach0
          rw [show (List.map (fun x => x.2) (List.take i hl) ++ List.replicate (hl.length - i) ([] : List Deed)).set i y.2 = List.map (fun x => x.2) (List.take (i + 1) hl) ++ List.replicate (hl.length - (i + 1)) [] from by rw [set_app lp hlt, e1, List.map_append]; rfl]
          rw [show (List.map (fun x => some x.1) (List.take i hl) ++ List.replicate (hl.length - i) (none : Option Nat)).set i (some y.1) = List.map (fun x => some x.1) (List.take (i + 1) hl) ++ List.replicate (hl.length - (i + 1)) none from by rw [set_app lc hlt, e1, List.map_append]; rfl]
          rw [set_rep, set_rep]
    · obtain ⟨hi, rfl, s3, s4, s5, rfl⟩ := hv
      refine ⟨rfl, ?_⟩
      rw [List.length_map]
      unfold partM mach0 machH
      rw [List.take_length, Nat.sub_self, List.replicate_zero, List.replicate_zero, List.append_nil, List.append_nil]
    · obtain ⟨e1, rfl⟩ := e
      refine ⟨_, self_at r' e1, q x H' O r'.oa f2 ?_⟩
      exact KeepX.keep k2 r'.kx f2
end
end PT
namespace PT
open PySem PySem.Spec PyProof.Rows L2 DA DL TR

theorem runs_step {μ : Type} {S : Chs μ} {n : Nat} {x : Mach μ} (h : goesB x = true) : runsM S (n + 1) x = (rowD S x :: (runsM S n (tickM S x)).1, (runsM S n (tickM S x)).2) := by
  show (if goesB x = true then _ else _) = _
  rw [if_pos h]
theorem runs_stop {μ : Type} {S : Chs μ} {n : Nat} {x : Mach μ} (h : goesB x = false) : runsM S n x = ([], x) := by
  cases n with
  | zero => rfl
  | succ n =>
    show (if goesB x = true then _ else _) = _
    rw [if_neg (by rw [h]; decide)]
section
variable {P : Program} {w : World} {K : PySem.W.Frag} {mg : Str → Option Value} {base : Heap} {f : Addr} {fd : FuncData} {T : List Addr}
end
abbrev sRTold : Stmt := top 80
abbrev nRTold : List Str := ["machine", "most", "rows"]
theorem scRTold : FnScope nRTold ["machine", "most"] (defScope sRTold) := ⟨rfl, rfl, rfl, by decide +kernel, rfl, by decide +kernel, by decide +kernel⟩
section
variable {P : Program} {w : World} {K : PySem.W.Frag} {mg : Str → Option Value} {base : Heap} {f : Addr} {fd : FuncData} {T : List Addr}
theorem ok_rows_told (F : Fun K "rows_told" "rows_told" sRTold f fd) (G : Glob K mg) {μ : Type} {S : Chs μ} {C CM : Addr} {fs : List (Str × PD)} {fG fT : Addr} {dG dT : FuncData} (m_goes_on : Met P w K mg base CM "goes_on" 3 ["self"] (spM K T CM (R_goes S C fs)) fG dG) (m_tick : Met P w K mg base CM "tick" 10 ["self"] (spM K T CM (R_tick S C fs)) fT dT) : FnOk P w K mg base CX0 11 f fd ["machine", "most"] (spM K T CM (R_rows_told S C fs)) := by
  refine F.ok scRTold (fun vs H Q E h => ?_) (fun cdv A outer s H vs Q E hr h => ?_)
  · obtain ⟨M, p, O, F1, ss, d, F', _, _, _, h3, ⟨x, n, _, _, rfl, rfl, _⟩, _⟩ := h
    exact h3.len
  · obtain ⟨M, p, O, F1, ss, d, F', h1, h2, ho, h3, ⟨x, n, hn, hok, rfl, rfl, rfl, rfl⟩, q⟩ := h
    refine ⟨_, (pss_cons (ps_set (i := 2) scRTold.nd rfl (.inl rfl) (pe_lst pa_nil))
      (pss_cons (ps_while PassesOwn.never (PW.pt (pw_and (pt_cmpR op_lt (pe_callB call_len_seq (by rfl) G.len PySem.boot_len (pa_cons (pv 2) pa_nil)) (pv 1) (nomark _)) (pw_and1 (pt_val (pe_meth0 (pv 0) m_goes_on.cl m_goes_on.m m_goes_on.ok (hr.mono (by decide)) m_goes_on.b .nil pass0))))) (pss_one (ps_expr (pe_bm PySem.F.plainAttrs_list PySem.F.slot_list_append PySem.F.type_list_append mt_append (pv 2) (pa_cons (pe_meth0 (pv 0) m_tick.cl m_tick.m m_tick.ok (hr.mono (by decide)) m_tick.b .nil pass0) pa_nil)))))
      (pss_one (ps_ret (pv 2))))), ?_⟩
    have r0 := start_sr (N := nRTold) h1 h2 h3
    refine ⟨Nat.zero_le _, fun l hl => ?_⟩
    -- the list of rows, hidden as well
    have lM : l ∉ M := fun m => (h1 l m).2 hl
    have k0 : Keep T H (upd H l (.lst [])) := .new hl
    have km0 : Keep T (hid M H) (hid (l :: M) (upd H l (.lst []))) := hid_more k0 hl
    have t0 := k0.tabs h2
    have lT : l ∉ T := fun m => by
      obtain ⟨ps, e, _⟩ := h2 l m
      rw [hl] at e; cases e
    have lO : l ∉ O := fun m => lM (ho.sub l m)
    have msk0 : ∀ a ∈ l :: M, a ∉ T ∧ upd H l (.lst []) a ≠ none := fun a ha => by
      rcases List.mem_cons.mp ha with z | ha
      · rw [z, upd_same]; exact ⟨lT, by intro z; cases z⟩
      · refine ⟨(h1 a ha).1, ?_⟩
        by_cases z : a = l
        · rw [z, upd_same]; intro z; cases z
        · rw [upd_ne z]; exact (h1 a ha).2
    have oa0 : OA K (l :: M) (upd H l (.lst [])) p CM (mF S C fs x) O := ho.more h2 (fun a h => (h1 a h).1) k0 km0 fun a ha => List.mem_cons_of_mem _ (ho.sub a ha)
    have sr0 : SR ⟨K, T, l :: M, upd H l (.lst [])⟩ [] _ (upd H l (.lst [])) _ := (r0.reb km0 t0 msk0).setS 2 (v := .ref l) (s := .raw (.ref l)) rfl (fun ds z => nomatch z)
    -- what the loop keeps
    let Inv : Nat → L2.St → Hp → Prop := fun m σ' H' => ∃ (i : Nat) (x' : Mach μ) (xs : List V) (ds : List PD), i + m = n ∧ SRM ⟨K, T, l :: M, p, CM, O, H'⟩ σ' H' [.raw (.ref p), .dat (intD n), .raw (.ref l)] (mF S C fs x') ∧ H' l = some (.lst xs) ∧ DpAll K (hid (l :: M) H') xs ds ∧ ds.length = i ∧
      okRuns S m x' ∧ (runsM S n x).1 = ds ++ (runsM S m x').1 ∧ (runsM S n x).2 = (runsM S m x').2 ∧ KeepX T (l :: O) H H'
    have hI0 : Inv n ((L2.start nRTold vs).set 2 (some (.ref l))) (upd H l (.lst [])) := ⟨0, x, [], [], by omega, ⟨sr0, oa0, .refl⟩, upd_same, .nil, rfl, hok, rfl, rfl, .of k0⟩
    show tSeq (tWhile _ _) (tRet (tVar 2)) _ _ _
    refine ⟨Inv, ⟨n, hI0⟩, ?_⟩
    rintro m σ' H' ⟨i, x', xs, ds, him, r, hl', hds, hdl, hk', e1, e2, kx⟩
    obtain ⟨kp, kc⟩ := hk'.ps
    have s2 : σ'[2]? = some (some (.ref l)) := by
      obtain ⟨ov, z1, z2⟩ := r.sr.rel 2 _ rfl
      cases ov with
      | none => exact z2.elim
      | some v =>
        have z2 : v = .ref l := z2
        rw [z2] at z1; exact z1
    have s1 : σ'[1]? = some (some (.int (n : Int))) := by
      obtain ⟨ov, z1, z2⟩ := r.sr.rel 1 _ rfl
      cases ov with
      | none => exact z2.elim
      | some v =>
        have z2 := dp_int (show Dp _ _ v (.int (n : Int)) from z2)
        rw [z2] at z1; exact z1
    have fin : ∀ {H'' : Hp}, Dp K (hid (l :: M) H'') .non .none → SRM ⟨K, T, l :: M, p, CM, O, H'⟩ σ' H'' [.raw (.ref p), .dat (intD n), .raw (.ref l)] (mF S C fs x') → (runsM S m x').1 = [] → (runsM S m x').2 = x' → Q (.ref l) H'' := fun {H''} _ r' f1 f2 => by
      have kx' : KeepX T (l :: O) H H'' := kx.trans ⟨fun b o e hT hb => r'.kx.at_ b o e hT fun m => hb (List.mem_cons_of_mem _ m), r'.kx.tab⟩
      have hl2 : H'' l = some (.lst xs) := r'.kx.at_ l _ hl' lT lO
      have tm' : Tabs T (hid (l :: M) H') := tabs_hid r.sr.tab fun a h => (r.sr.msk a h).1
      have hds2 : DpAll K (hid (l :: M) H'') xs ds := dps_keep (r'.kx.hid r'.oa.sub) tm' hds
      have oa2 : OA K M H'' p CM (mF S C fs x') O := by
        obtain ⟨dx, vs, as, g1, g2, g3, g4⟩ := r'.oa.ex
        have sm : Same (hid (l :: M) H'') (hid M H'') := hid_sub fun a ha => List.mem_cons_of_mem _ ha
        exact ⟨⟨dx, vs, as, g1, g2.move (fun _ _ z => dp_same sm z) (fun _ _ _ z => z.same sm) (fun _ _ z => dps_same sm z) (fun _ _ => rfl), g3, g4⟩, r'.oa.nd, ho.sub⟩
      refine q (.ref l) H'' ?_ (by rw [e2, f2]; exact oa2) ⟨fun b o e hT hb => kx'.at_ b o e hT fun m => ?_, kx'.tab⟩
      · rw [e1, f1, List.append_nil]
        exact .lst (SqL.of (hid_of lM hl2)) (dps_same (hid_sub fun a ha => List.mem_cons_of_mem _ ha) hds2)
      · rcases List.mem_cons.mp m with z | m
        · rw [z, hl] at e; cases e
        · exact hb m
    refine ⟨_, s2, l, xs, rfl, .inl (SqL.of hl'), _, s1, _, _, rfl, rfl, _, rfl, ?_⟩
    rw [dps_len hds, hdl]
    by_cases hlt : (i : Int) < (n : Int)
    · rw [decide_eq_true hlt]
      refine iteT ?_
      obtain ⟨m', rfl⟩ : ∃ m', m = m' + 1 := ⟨m - 1, by omega⟩
      refine meth_run (k := ⟨K, T, l :: M, p, CM, O, H'⟩) (R := R_goes S C fs) (ss := []) (d := .bool (goesB x')) (F' := mF S C fs x') r (i := 0) rfl (l_no (by decide +kernel)) am_nil ⟨x', kp, kc, rfl, rfl, rfl, rfl⟩ fun v H2 r2 h2 => ⟨_, dp_bool h2, ?_⟩
      cases hg : goesB x' with
      | true =>
        refine iteT ?_
        obtain ⟨okt, okr⟩ := hk'.2.2 hg
        refine ⟨fun σ2 H2 => Inv m' σ2 H2, fun σ2 H2 h => ⟨m', Nat.lt_succ_self _, h⟩, ?_⟩
        have s2b : σ'[2]? = some (some (.ref l)) := s2
        have hl2 : H2 l = some (.lst xs) := r2.kx.at_ l _ hl' lT lO
        refine ⟨_, s2, .inl ⟨rfl, xs, SqL.of hl2⟩, ?_⟩
        have r2' : SRM ⟨K, T, l :: M, p, CM, O, H2⟩ σ' H2 [.raw (.ref p), .dat (intD n), .raw (.ref l)] (mF S C fs x') := r2.Hs .refl
        refine meth_run (k := ⟨K, T, l :: M, p, CM, O, H2⟩) (R := R_tick S C fs) (ss := []) (d := rowD S x') (F' := mF S C fs (tickM S x')) r2' (i := 0) rfl (l_no (by decide +kernel)) am_nil ⟨x', okt, rfl, rfl, rfl, rfl⟩ fun v H3 r3 h3 => ?_
        have hl3 : H3 l = some (.lst xs) := r3.kx.at_ l _ hl2 lT lO
        have tm' : Tabs T (hid (l :: M) H') := tabs_hid r.sr.tab fun a h => (r.sr.msk a h).1
        have tm2 : Tabs T (hid (l :: M) H2) := tabs_hid r2.sr.tab fun a h => (r2.sr.msk a h).1
        have hds2 : DpAll K (hid (l :: M) H2) xs ds := dps_keep (r2.kx.hid r2.oa.sub) tm' hds
        have hds3 : DpAll K (hid (l :: M) H3) xs ds := dps_keep (r3.kx.hid r3.oa.sub) tm2 hds2
        have kx3 : KeepX T (l :: O) H H3 := (kx.trans ⟨fun b o e hT hb => r2.kx.at_ b o e hT fun m => hb (List.mem_cons_of_mem _ m), r2.kx.tab⟩).trans ⟨fun b o e hT hb => r3.kx.at_ b o e hT fun m => hb (List.mem_cons_of_mem _ m), r3.kx.tab⟩
        have lm3 : l ∈ l :: M := List.mem_cons_self
        have r4 := SRM.other (o := .lst (xs ++ [v])) r3 lm3 lO
        have hh : hid (l :: M) (upd H3 l (.lst (xs ++ [v]))) = hid (l :: M) H3 := hid_in lm3
        refine ⟨l, xs, v, rfl, rfl, hl3, by rw [dps_len hds, hdl]; exact small1000 (by omega), i + 1, tickM S x', xs ++ [v], ds ++ [rowD S x'], by omega, r4, upd_same, ?_, by rw [List.length_append, hdl]; rfl, okr, ?_, ?_, kx3.trans (.upd List.mem_cons_self lT)⟩
        · rw [hh]
          exact dps_append hds3 (.cons h3 .nil)
        · rw [e1, runs_step hg, List.append_assoc]
          rfl
        · rw [e2, runs_step hg]
      | false =>
        refine iteF ?_
        exact ⟨_, s2, fin (H'' := H2) .non r2 (by rw [runs_stop hg]) (by rw [runs_stop hg])⟩
    · rw [decide_eq_false hlt]
      refine iteF ?_
      refine iteF ?_
      have e0 : m = 0 := by omega
      subst e0
      exact ⟨_, s2, fin (H'' := H') .non r rfl rfl⟩
end
abbrev sROf : Stmt := top 81
abbrev nROf : List Str := ["scheduler", "hall", "most"]
theorem scROf : FnScope nROf ["scheduler", "hall", "most"] (defScope sROf) := ⟨rfl, rfl, rfl, by decide +kernel, rfl, by decide +kernel, by decide +kernel⟩
section
variable {P : Program} {w : World} {K : PySem.W.Frag} {mg : Str → Option Value} {base : Heap} {f : Addr} {fd : FuncData} {T : List Addr}
theorem ok_rows_of (F : Fun K "rows_of" "rows_of" sROf f fd) (G : Glob K mg) {μ : Type} {S : Chs μ} {C CM : Addr} {fs : List (Str × PD)} {sch : PD} {fM fR : Addr} {dM dR : FuncData} (c_machine_for : Cal P w K mg base "machine_for" 12 ["scheduler", "hall"] (spMF K T CM (R_machine_for S C fs sch)) fM dM) (c_rows_told : Cal P w K mg base "rows_told" 11 ["machine", "most"] (spM K T CM (R_rows_told S C fs)) fR dR) : FnOk P w K mg base CX0 13 f fd ["scheduler", "hall", "most"] (spD K T (R_rows_of S sch)) := by
  refine F.ok scROf (fun vs H Q E h => ?_) (fun cdv A outer s H vs Q E hr h => ?_)
  · obtain ⟨M, ss, d, _, _, h3, ⟨hl, n, _, _, _, _, rfl, _⟩, _⟩ := h
    exact h3.len
  · obtain ⟨M, ss, d, h1, h2, h3, ⟨hl, n, l1, l2, ln, hok, rfl, rfl⟩, q⟩ := h
    refine ⟨_, (pss_one (ps_ret (pe_call c_rows_told.ok (hr.mono (by decide)) (by rfl) c_rows_told.g c_rows_told.kp c_rows_told.b .nil pass0 (pa_cons (pe_call c_machine_for.ok (hr.mono (by decide)) (by rfl) c_machine_for.g c_machine_for.kp c_machine_for.b .nil pass0 (pa_cons (pv 0) (pa_cons (pv 1) pa_nil))) (pa_cons (pv 2) pa_nil))))), ?_⟩
    have r0 := start_sr (N := nROf) h1 h2 h3
    show tCons (tVar 0) (tCons (tVar 1) tNil) (L2.start nROf vs) H (fun vs1 H1 => spMF K T CM (R_machine_for S C fs sch) (vs1 ++ []) H1 (fun v H2 => tVar 2 (L2.start nROf vs) H2 fun w H3 => spM K T CM (R_rows_told S C fs) ([v, w] ++ []) H3 Q E0) E0)
    refine (ea_d (ed_var rfl) (ea_d (ed_var rfl) ea_nil) : EA ⟨K, T, M, H⟩ (tCons (tVar 0) (tCons (tVar 1) tNil)) _ [.dat sch, .dat (encHall hl)]) [] _ H r0 _ fun us H1 k1 g1 => ?_
    have g1 : ArgsOk K (hid (M ++ []) H1) us [.dat sch, .dat (encHall hl)] := g1
    rw [List.append_nil] at g1
    have m1 : ∀ a ∈ M, a ∉ T ∧ H1 a ≠ none := fun a ha => (r0.move k1).nM a (List.mem_append_left _ ha)
    refine ⟨M, _, _, m1, k1.tabs h2, by rw [List.append_nil]; exact g1, ⟨hl, l1, l2, rfl, rfl⟩, fun p H2 O o2 f2 k2 => ?_⟩
    have k12 := k1.trans k2
    have r2 := r0.move k12
    refine (ed_var rfl : ED ⟨K, T, M, H⟩ (tVar 2) _ (intD n)) [] _ H2 r2 _ fun v H3 k3 g3 => ?_
    have g3 : Dp K (hid (M ++ []) H3) v (intD n) := g3
    have ev := dp_int g3
    subst ev
    have t3 : Tabs T H3 := (k12.trans k3).tabs h2
    have m2 : ∀ a ∈ O ++ M, a ∉ T ∧ H2 a ≠ none := fun a ha => by
      rcases List.mem_append.mp ha with ha | ha
      · obtain ⟨y, e, n⟩ := o2.none a ha
        exact ⟨nT_of (k12.tabs h2) e n, by rw [e]; intro z; cases z⟩
      · refine ⟨(m1 a ha).1, ?_⟩
        cases e : H1 a with
        | none => exact absurd e (m1 a ha).2
        | some o => rw [k2.at_ a o e (m1 a ha).1]; intro z; cases z
    have m3 : ∀ a ∈ O ++ M, a ∉ T ∧ H3 a ≠ none := fun a ha => ⟨(m2 a ha).1, by
      cases e : H2 a with
      | none => exact absurd e (m2 a ha).2
      | some o => rw [k3.at_ a o e (m2 a ha).1]; intro z; cases z⟩
    have o3 := o2.move (k12.tabs h2) (fun a ha => (m2 a ha).1) k3
    refine ⟨O ++ M, p, O, _, _, _, _, m3, t3, o3, .cons (show ArgOk K _ (.ref p) (.raw (.ref p)) from rfl) (.cons (show ArgOk K (hid (O ++ M) H3) (.int (n : Int)) (.dat (intD n)) from .int _) .nil), ⟨machH S hl, n, ln, hok, rfl, rfl, rfl, rfl⟩, fun v H4 h4 o4 x4 => ?_⟩
    refine q v H4 (dp_same (hid_sub fun a ha => List.mem_append_right _ ha) h4) ?_
    have fO : ∀ a ∈ O, H a = none := fun a ha => k1.free h2 (f2 a ha)
    exact KeepX.keep (k12.trans k3) x4 fO
end
abbrev sRunOf : Stmt := top 82
abbrev nRunOf : List Str := ["scheduler", "hall", "most", "row"]
theorem scRunOf : FnScope nRunOf ["scheduler", "hall", "most"] (defScope sRunOf) := ⟨rfl, rfl, rfl, by decide +kernel, rfl, by decide +kernel, by decide +kernel⟩
section
variable {P : Program} {w : World} {K : PySem.W.Frag} {mg : Str → Option Value} {base : Heap} {f : Addr} {fd : FuncData} {T : List Addr}
theorem ok_run_of (F : Fun K "run_of" "run_of" sRunOf f fd) (G : Glob K mg) {μ : Type} {S : Chs μ} {sch : PD} {fR : Addr} {dR : FuncData} (c_rows_of : Cal P w K mg base "rows_of" 13 ["scheduler", "hall", "most"] (spD K T (R_rows_of S sch)) fR dR) : FnOk P w K mg base CX0 14 f fd ["scheduler", "hall", "most"] (spD K T (R_run_of S sch)) := by
  refine fn_sd F scRunOf (fun ss d h => ?_) (fun cdv A outer s H E hr => ⟨_, (pss_one (ps_ret (pe_lc (own := [("row", 3)]) (g := (gName 3)) (tt := tYes) (te := (tOp (rIxT K) (tVar 3) (tC (.int 1)))) rfl scRunOf.nd (pi_list (pe_call c_rows_of.ok (hr.mono (by decide)) (by rfl) c_rows_of.g c_rows_of.kp c_rows_of.b .nil pass0 (pa_cons (pv 0) (pa_cons (pv 1) (pa_cons (pv 2) pa_nil))))) (blkOk_by (N := nRunOf) (sc := defScope sRunOf) (by decide +kernel)) (fun _ _ _ _ _ => (pg_name (i := 3) scRunOf.nd rfl (.inl rfl))) (fun _ _ _ _ _ => pts_nil) (fun _ _ _ _ _ => (pe_ix ix_tup (pv 3) pe_int (fun _ _ => rfl)))))), fun M H0 ss d h => ?_⟩)
  · obtain ⟨hl, n, _, _, _, _, rfl, rfl⟩ := h
    rfl
  · obtain ⟨hl, n, l1, l2, ln, hok, rfl, rfl⟩ := h
    refine sd_ret (ed_en (en_is (en_lc (js := [3]) (fun _ => true) (fun d => match d with | .tuple [_, b, _] => b | _ => .none) (id_list (ed_call (ea_d (ed_var rfl) (ea_d (ed_var rfl) (ea_d (ed_var rfl) ea_nil))) ⟨hl, n, l1, l2, ln, hok, rfl, rfl⟩)) (Nat.le_trans (rows_len S n _) (by omega)) (by decide) (fun d hd H1 _ => ?_)) ?_)) rfl
    · obtain ⟨a, b, e, rfl⟩ := rows_shape S n _ d hd
      exact ⟨[.tuple [a, b, e]], tg_name, et_yes, fun _ => ed_ixT (ds := [a, b, e]) (i := 1) (ed_var rfl) ed_int rfl⟩
    · rw [List.filter_eq_self.mpr fun _ _ => rfl]
      exact rows_who S n _
end
end PT
namespace GE
open PySem PySem.Spec PyProof.Rows L2 GenW

/-- the context of a generator expression's frame -/
abbrev gcx (X : Cx) (A : Around) (s : Shared) (H : Hp) (env : Env) (fp : List Addr) (pn : List (Addr × Obj)) : Cx :=
  { X with A := A, s_0 := s, H_0 := H, env := env, outer := X.stack, stack := env :: X.stack, ex := fp, fn := fun _ => false, pn := pn, xe := fun _ _ => False }

/-- the names of a generator expression: its own, or captured; none is captured further in -/
structure GxOk (N : List Str) (sc scope : Scope) (own : List (Str × Nat)) : Prop where
  blk : BlkOk N sc scope own
  co : scope.isCoroutine = false
  cell : ∀ y ∈ scope.names, y.2 ≠ .cell
  dot : scope.names.lookup (".0" : Str) = some NameKind.local

abbrev clo (X : Cx) (scope : Scope) : List (Str × Addr) := cloFrom X.env.cells scope.names []

theorem gx_start {X : Cx} {pins : List (Addr × Obj)} {σ : L2.St} {H : Hp} {s : Shared} {scope : Scope} {own : List (Str × Nat)} {fp : List Addr} {code it : Value} {A : Around} {h' : Heap} {go : Obj} {g' : Array GenState} {tk : Nat}
    (I : Inv X pins σ H s) (ok : GxOk X.N X.env.scope scope own) (hN : X.N.Nodup) (hfp : ∀ b ∈ fp, FpOk X pins H b ∧ b < s.heap.objs.size) (hA : X.calm = true → A.handled = none)
    (hAf : A.frames = some (genEnv scope (clo X scope) s.heap.objs.size code builtinsNs X.env :: X.stack))
    (ns : h'.Ns s.heap.objs.size (fun y => if y = ".0" then some it else none)) (sb : Heap.SameBut s.heap.objs.size (s.heap.push { cls := .type "frame", data := .dict #[] }) h') (hgo : ∀ v, go.data ≠ .cell v) (hg : AllBare g') (hgp : ∀ h : Heap, (h.push go).get? h.objs.size = some go) :
    Inv (gcx X A s H (genEnv scope (clo X scope) s.heap.objs.size code builtinsNs X.env) fp [(h'.objs.size, go)]) [] (wipe σ (own.map (·.2))) H { s with gens := g', toks := tk, heap := h'.push go } := by
  have hfree : ∀ y ∈ scope.names, y.2 = .free → ∃ c, X.env.cells.lookup y.1 = some c := fun y hy e => by
    rcases ok.blk.free y hy e with k | k
    · exact I.ok.has _ (.inl k)
    · exact I.ok.has _ (.inr k)
  have sz : h'.objs.size = s.heap.objs.size + 1 := by rw [sb.1, Heap.size_push]
  generalize hcenv : genEnv scope (clo X scope) s.heap.objs.size code builtinsNs X.env = cenv at hAf ⊢
  have kp : ∀ b o, s.heap.get? b = some o → (h'.push go).get? b = some o := fun b o e => Heap.get?_push_of_some _ (sb.extBut b o (Nat.ne_of_lt (Heap.lt_size e)) (Heap.get?_push_of_some _ e))
  have hL : cenv.locals = s.heap.objs.size := by rw [← hcenv]; rfl
  have hcl : cenv.cells = clo X scope := by rw [← hcenv]; rfl
  have hsc : cenv.scope = scope := by rw [← hcenv]; rfl
  have cm : ∀ {y c}, (y, c) ∈ clo X scope → X.env.cells.lookup y = some c ∧ c < s.heap.objs.size := fun {y c} hm => by
    rcases cloFrom_mem hm with hm | ⟨h1, rfl⟩
    · cases hm
    · obtain ⟨c, hc⟩ := hfree _ h1 rfl
      rw [hc]
      obtain ⟨w, z⟩ := I.cell _ _ hc
      exact ⟨rfl, z.lt⟩
  have mem : ∀ {y c}, cenv.cells.lookup y = some c → X.env.cells.lookup y = some c ∧ c < s.heap.objs.size := fun {y c} e => by
    rw [hcl] at e
    exact cm (PySem.mem_of_lookup e)
  have look : ∀ {y}, scope.names.lookup y = some .free → ∃ c, cenv.cells.lookup y = some c ∧ X.env.cells.lookup y = some c := fun {y} hl => by
    have hy : (y, NameKind.free) ∈ scope.names := PySem.mem_of_lookup hl
    obtain ⟨c', e'⟩ := L2.mem_lookup (cloFrom_has (cells := X.env.cells) (acc := []) hy)
    have e2 : cenv.cells.lookup y = some c' := by rw [hcl]; exact e'
    exact ⟨c', e2, (mem e2).1⟩
  have okB : (gcx X A s H cenv fp [(h'.objs.size, go)]).Ok := by
    refine ⟨I.ok.mod, by show cenv.scope.kind = _; rw [hsc]; exact ok.blk.kind, by show cenv.globals = _; rw [← hcenv]; exact I.ok.glob, by show cenv.builtins = _; rw [← hcenv]; rfl, by show s.heap.objs.size ≤ cenv.locals; rw [hL]; exact Nat.le_refl _,
      fun y z c e1 e2 => I.ok.inj y z c (mem e1).1 (mem e2).1, fun y hy => ?_, fun y c z e => absurd z Bool.false_ne_true, hA, hAf, .inr ⟨rfl, ?_⟩, fun b hb => ⟨?_, fun y c e z => ?_⟩, I.bs, Nat.le_trans I.ok.bsz I.sz, fun b o e hb => ?_, fun b hb z => ?_, I.stack, I.stkFree⟩
    · show ∃ c, cenv.cells.lookup y = some c
      have key : ∀ k, cenv.scope.names.lookup y = some k → (k = .cell ∨ k = .free) → ∃ c, cenv.cells.lookup y = some c := fun k hk hk' => by
        rw [hsc] at hk
        rcases hk' with rfl | rfl
        · exact absurd rfl (ok.cell _ (PySem.mem_of_lookup hk))
        · obtain ⟨c, h1, _⟩ := look hk
          exact ⟨c, h1⟩
      rcases hy with hy | hy
      · exact key _ hy (.inl rfl)
      · exact key _ hy (.inr rfl)
    · show cenv.frame = some cenv.locals
      rw [← hcenv]; rfl
    · show b ≠ cenv.locals
      rw [hL]; exact Nat.ne_of_lt (hfp b hb).2
    · exact (hfp b hb).1.2.2.2.2.1 y c (mem (show cenv.cells.lookup y = some c from e)).1 z
    · rcases (hfp b hb).1.2.2.2.1 with z | z
      · exact I.ok.noex b o e z
      · exact absurd (Nat.lt_of_lt_of_le (Heap.lt_size e) (Nat.le_trans I.ok.bsz z)) (Nat.lt_irrefl _)
    · rcases List.mem_cons.mp (I.stkSub b z) with z | z
      · exact (hfp b hb).1.2.1 z
      · exact (hfp b hb).1.2.2.1 z
  refine ⟨okB, rfl, hg, Un.kept kp, ⟨fun y => if y = ".0" then some it else none, ?_, fun i y av e1 e2 e3 => ?_⟩, fun y c e => ?_, ?_, fun y c e => I.freeC y c (mem e).1, fun p hp => ?_, I.hok.kept kp, by rw [wipe_length]; exact I.len⟩
  · show Heap.Ns _ cenv.locals _
    rw [hL]
    exact Heap.Ns.keeps ns fun b o e => Heap.get?_push_of_some _ e
  · obtain ⟨e2, hne⟩ := wipe_some e2
    have e3 : Vis cenv.scope y := e3
    have hfr : scope.names.lookup y = some .free := by
      have no : ∀ k', scope.names.lookup y = some k' → ¬ (k' = .local ∨ k' = .cell) := fun k' e hh => by
        rcases ok.blk.own _ (PySem.mem_of_lookup e) hh with e' | e'
        · obtain ⟨p, hp, hpy⟩ := List.mem_map.mp e'
          have e4 := ok.blk.ix p hp
          have : p.1 = y := hpy
          rw [this] at e4
          exact hne (List.mem_map.mpr ⟨p, hp, nodup_ix hN e4 e1⟩)
        · exact e' (List.mem_of_getElem? e1)
      unfold Vis at e3
      rw [hsc] at e3
      rcases e3 with e3 | e3 | e3
      · exact absurd (.inl rfl) (no _ e3)
      · exact absurd (.inr rfl) (no _ e3)
      · exact e3
    obtain ⟨m, hn, hl⟩ := I.loc
    have hvis : Vis X.env.scope y := (ok.blk.free _ (PySem.mem_of_lookup hfr) rfl).elim (fun k => .inr (.inl k)) (fun k => .inr (.inr k))
    obtain ⟨w, r, q⟩ := hl i y av e1 e2 hvis
    refine ⟨w, r, .inr ⟨.inr (by show cenv.scope.names.lookup y = _; rw [hsc]; exact hfr), ?_⟩⟩
    obtain ⟨c, h1, h2⟩ := look hfr
    rcases q with ⟨k, _⟩ | ⟨_, c', e', z⟩
    · have k : X.env.scope.names.lookup y = some .local := k
      rcases ok.blk.free _ (PySem.mem_of_lookup hfr) rfl with k' | k' <;> rw [show X.env.scope.names.lookup y = _ from k'] at k <;> cases k
    · rw [h2] at e'; cases e'
      exact ⟨c, h1, z.keeps kp⟩
  · obtain ⟨w, z⟩ := I.cell y c (mem (show cenv.cells.lookup y = some c from e)).1
    exact ⟨w, z.keeps kp⟩
  · show H cenv.locals = none
    rw [hL]; exact I.hok.fresh (Nat.le_refl _)
  · have hp' : p = (h'.objs.size, go) := by
      have q : p ∈ [(h'.objs.size, go)] ++ ([] : List (Addr × Obj)) := hp
      simpa using q
    subst hp'
    have hge : s.heap.objs.size ≤ h'.objs.size := by rw [sz]; exact Nat.le_succ _
    refine ⟨hgp h', I.hok.fresh hge, ?_, fun z => ?_, hgo⟩
    · show h'.objs.size ≠ cenv.locals
      rw [hL, sz]; exact Nat.succ_ne_self _
    · rcases List.mem_cons.mp (I.stkSub _ z) with z | z
      · have z' : h'.objs.size = X.env.locals := z
        have q := Nat.lt_of_lt_of_le I.lt hge
        rw [z'] at q
        exact absurd q (Nat.lt_irrefl _)
      · exact I.nofs hge z

/-! ### the generator's run -/
section
variable {X : Cx} {Ag : Around} {s4 : Shared} {H4 : Hp} {cenv : Env} {fp : List Addr} {pn : List (Addr × Obj)} {elt tg iter : Expr} {scope : Scope} {gpos : Pos} {it : Addr} {tn : Nat → Heap → Prop} {J : It} {g : TG} {te : TE}

abbrev gcode (elt tg iter : Expr) (scope : Scope) (gpos : Pos) (it : Addr) (cenv : Env) : Code := .compLoop (.GeneratorExp elt [⟨tg, iter, [], 0⟩] scope gpos) 0 (.ref it) .none cenv
abbrev gstart (elt tg iter : Expr) (scope : Scope) (gpos : Pos) (it : Addr) (cenv : Env) : Code := .compStart (.GeneratorExp elt [⟨tg, iter, [], 0⟩] scope gpos) 0 (.ref it) .none cenv

/-- the end; what is handed out -/
def GR (Z : Cx) (σw : L2.St) (N : Nat) (W : Nat → Hp → Prop) : GenEnd := fun n _ r s1 => r = .ok .next ∧ (n = 1 ∧ ∃ H, W N H ∧ Inv Z [] σw H s1)
def GYd (Z : Cx) (σw : L2.St) (fp : List Addr) (tn : Nat → Heap → Prop) (N : Nat) (f : Nat → V) (W Vv : Nat → Hp → Prop) : Protocol := fun n _ v s1 kap =>
  ∃ i H, (n + i = N ∧ i < N) ∧ RelV (f i) v ∧ Vv i H ∧ Inv Z [] σw H s1 ∧ tn (i + 1) s1.heap ∧ (∀ b ∈ fp, H b = none) ∧
    ∀ s' H', Inv Z [] σw H' s' → tn (i + 1) s'.heap → (∀ b ∈ fp, H' b = none) → W (i + 1) H' → kap (.send .none) s'

theorem seg_loop {N : Nat} {f : Nat → V} {W Vv : Nat → Hp → Prop} {σw : L2.St} {vs : List Nat} (hc : X.calm = true) (hco : cenv.scope.isCoroutine = false) (T : Turn X.prog X.w X.K tg J fp it tn)
    (Z : Cx) (hZ : Z = gcx X (Ag.over (gcode elt tg iter scope gpos it cenv) []) s4 H4 cenv fp pn) (hpn : ∀ b ∈ fp, ∀ p ∈ pn, p.1 ≠ b) (pg : PG Z tg g) (pe : PE Z elt te) (hσ : wipe σw vs = σw)
    (turn : ∀ i H, i < N → W i H → J.go i H ∧ ∀ x H', J.yld i H x H' → g x σw H' fun σ2 H2 => wipe σ2 vs = σw ∧ te σ2 H2 fun y H3 => y = f i ∧ Vv i H3) (stop : ∀ H, W N H → J.stop N H) :
    ∀ (k i : Nat) (s₀ s : Shared) (H : Hp), N - i = k → i ≤ N → Inv Z [] σw H s → tn i s.heap → (∀ b ∈ fp, H b = none) → W i H →
      Seg (model X.prog X.w) Ag (GR Z σw N W) (GYd Z σw fp tn N f W Vv) (N - i + 1) s₀ (gcode elt tg iter scope gpos it cenv) ((model X.prog X.w).den (gcode elt tg iter scope gpos it cenv)) [] s := by
  have stat : ∀ {σ' : L2.St} {H' : Hp} {s' : Shared}, Inv Z [] σ' H' s' → (∀ b ∈ fp, H' b = none) → ∀ b ∈ fp, FpOk Z [] H' b := fun {σ' H' s'} I' hn b hb => by
    subst hZ
    exact ⟨hn b hb, (I'.ok.exf b hb).1, I'.ok.exfs b hb, .inl hb, fun x c e => (I'.ok.exf b hb).2 x c e, fun p hp => hpn b hb p (by simpa using hp)⟩
  have hA : Z.A = Ag.over (gcode elt tg iter scope gpos it cenv) [] := by subst hZ; rfl
  have hP : Z.prog = X.prog := by subst hZ; rfl
  have hw : Z.w = X.w := by subst hZ; rfl
  have hK : Z.K = X.K := by subst hZ; rfl
  have hcZ : Z.calm = true := by subst hZ; exact hc
  have hxe : Z.xe = fun _ _ => False := by subst hZ; rfl
  have henv : Z.env = cenv := by subst hZ; rfl
  intro k
  induction k with
  | zero =>
    intro i s₀ s H hk hi I st nf w
    have hin : i = N := by omega
    subst hin
    show Seg _ Ag _ _ _ s₀ _ ((compTurn (.GeneratorExp elt [⟨tg, iter, [], 0⟩] scope gpos) 0 (.ref it) .none cenv).onRaise (leaving cenv)) [] s
    rw [compTurn_gen, Sem.onRaise_eq_wrap]
    refine seg_bind_wrap (wpAny_standAt ?_)
    have td := T.done Z hP hw hK hcZ i [] s σw H (fun _ _ => False) I (stat I nf) st (stop H w)
    rw [hA] at td
    refine seg_bind_wrap (thnF td fun r s6 ⟨hr, I6⟩ => ?_)
    subst hr
    exact seg_end (.ok .next) ⟨rfl, by omega, H, w, I6⟩
  | succ k ih =>
    intro i s₀ s H hk hi I st nf w
    have hlt : i < N := by omega
    obtain ⟨go, step⟩ := turn i H hlt w
    show Seg _ Ag _ _ _ s₀ _ ((compTurn (.GeneratorExp elt [⟨tg, iter, [], 0⟩] scope gpos) 0 (.ref it) .none cenv).onRaise (leaving cenv)) [] s
    rw [compTurn_gen, Sem.onRaise_eq_wrap]
    refine seg_bind_wrap (wpAny_standAt ?_)
    have ti := T.item Z hP hw hK hcZ i [] s σw H (fun _ _ => False) I (stat I nf) st go
    rw [hA] at ti
    refine seg_bind_wrap (thnF ti fun r s6 ⟨u, hr, h6⟩ => ?_)
    subst hr
    refine seg_bind_wrap (thnF h6 fun _ s7 ⟨x, H7, I7, r7, y7, st7, n7⟩ => ?_)
    have I7' := I7.pinned (stat I7 n7) (T.obj _ _ st7)
    have hpg := pg.run _ s7 _ H7 x u _ I7' r7 (step x H7 y7)
    rw [hP, hw, hA, hxe, henv] at hpg
    refine seg_bind_wrap (thnF hpg fun _ s8 ⟨σ8, H8, I8, hw8, q8⟩ => ?_)
    refine seg_bind_wrap (wpAny_tests_nil ?_)
    simp only [if_true]
    have hy : ∀ v, yieldOut cenv v = yieldValue v := fun v => by simp only [yieldOut, hco, Bool.false_eq_true, if_false]
    simp only [hy]
    rw [Sem.bind_eq_wrap', Sem.bind_eq_wrap', Sem.wrap_wrap, Sem.wrap_wrap]
    have hpe := pe.run _ s8 σ8 H8 _ I8 q8
    rw [hP, hw, hA, hxe, henv] at hpe
    refine seg_wrap (thnF hpe fun z s9 ⟨y, H9, I9, r9, ey, v9⟩ => ?_)
    subst ey
    have pin' : ∀ b ∈ fp, ∀ o, s7.heap.get? b = some o → s9.heap.get? b = some o ∧ H9 b = none := fun b hb o e =>
      let z := I9.pin (b, o) (List.mem_append_right _ (List.mem_append_right _ (mem_pinsAt hb e)))
      ⟨z.1, z.2.1⟩
    have hl : σw.length = σ8.length := by rw [← hw8, wipe_length]
    have I10 : Inv Z [] σw H9 s9 := (I9.unpinned (pins := [])).weak hl fun j v e => by
      rw [← hw8] at e
      exact (wipe_some e).1
    have st9 : tn (i + 1) s9.heap := T.keep _ _ _ st7 fun b hb o e => (pin' b hb o e).1
    have n9 : ∀ b ∈ fp, H9 b = none := fun b hb => by
      obtain ⟨o, e, _⟩ := T.obj _ _ st7 b hb
      exact (pin' b hb o e).2
    refine seg_at (seg_yield rfl rfl rfl ⟨i, H9, ⟨by omega, hlt⟩, r9, v9, I10, st9, n9, fun s' H' I' st' n' w' => ?_⟩)
    have e2 : N - i = N - (i + 1) + 1 := by omega
    rw [e2]
    exact seg_again rfl (ih (i + 1) s' s' H' (by omega) hlt I' st' n' w')

theorem seg_start {N : Nat} {f : Nat → V} {W Vv : Nat → Hp → Prop} {σw : L2.St} {vs : List Nat} (hc : X.calm = true) (hco : cenv.scope.isCoroutine = false) (T : Turn X.prog X.w X.K tg J fp it tn)
    (Z : Cx) (hZ : Z = gcx X (Ag.over (gcode elt tg iter scope gpos it cenv) []) s4 H4 cenv fp pn) (hpn : ∀ b ∈ fp, ∀ p ∈ pn, p.1 ≠ b) (pg : PG Z tg g) (pe : PE Z elt te) (hσ : wipe σw vs = σw)
    (turn : ∀ i H, i < N → W i H → J.go i H ∧ ∀ x H', J.yld i H x H' → g x σw H' fun σ2 H2 => wipe σ2 vs = σw ∧ te σ2 H2 fun y H3 => y = f i ∧ Vv i H3) (stop : ∀ H, W N H → J.stop N H)
    (s₀ s : Shared) (H : Hp) (I : Inv Z [] σw H s) (st : tn 0 s.heap) (nf : ∀ b ∈ fp, H b = none) (w : W 0 H) :
    Seg (model X.prog X.w) Ag (GR Z σw N W) (GYd Z σw fp tn N f W Vv) (N + 1) s₀ (gstart elt tg iter scope gpos it cenv) ((model X.prog X.w).den (gstart elt tg iter scope gpos it cenv)) [] s := by
  have loop := seg_loop (s4 := s4) (H4 := H4) (pn := pn) hc hco T Z hZ hpn pg pe hσ turn stop N 0 s₀ s H (Nat.sub_zero _) (Nat.zero_le _) I st nf w
  rw [Nat.sub_zero] at loop
  show Seg _ Ag _ _ _ s₀ _ ((compStart (.GeneratorExp elt [⟨tg, iter, [], 0⟩] scope gpos) 0 (.ref it) .none cenv).onRaise (leaving cenv)) [] s
  unfold compStart
  rw [Sem.onRaise_eq_wrap]
  show Seg _ Ag _ _ _ s₀ _ ((ask >>= _).wrap _ _ _ _) [] s
  refine seg_bind_wrap (wpAny_askSetting ?_)
  split
  · exact seg_again rfl loop
  · first
      | exact seg_bind_wrap (wpAny_rule (seg_bind_wrap (wpAny_standAt (seg_bind_wrap (T.self _ 0 s _ _ st (seg_again rfl loop))))))
      | (refine seg_bind_wrap (wpAny_rule ?_); show Seg _ Ag _ _ _ s₀ _ ((standAt iter.pos >>= _).wrap _ _ _ _) [] s; exact seg_bind_wrap (wpAny_standAt (seg_bind_wrap (T.self _ 0 s _ _ st (seg_again rfl loop)))))

/-- before turn i; behind the i-th item -/
def St (Z : Cx) (Ag : Around) (σw : L2.St) (fp : List Addr) (tn : Nat → Heap → Prop) (N : Nat) (f : Nat → V) (W Vv : Nat → Hp → Prop) (gn i : Nat) (s : Shared) : Prop :=
  ∃ H gs, Inv Z [] σw H s ∧ tn i s.heap ∧ (∀ b ∈ fp, H b = none) ∧ W i H ∧ s.gens[gn]? = some gs ∧ gs.Goes (model Z.prog Z.w) Ag (GR Z σw N W) (GYd Z σw fp tn N f W Vv) (N - i + 1) (.send .none) (s.setGen gn .running)
def Mid (Z : Cx) (Ag : Around) (σw : L2.St) (fp : List Addr) (tn : Nat → Heap → Prop) (N : Nat) (f : Nat → V) (W Vv : Nat → Hp → Prop) (gn i : Nat) (s : Shared) : Prop :=
  ∃ H, Inv Z [] σw H s ∧ Vv i H ∧ (∀ b ∈ fp, H b = none) ∧ ∀ s' H', s'.gens = s.gens → Inv Z [] σw H' s' → (∀ b ∈ fp, ∀ o, s.heap.get? b = some o → s'.heap.get? b = some o) → (∀ b ∈ fp, H' b = none) → W (i + 1) H' → St Z Ag σw fp tn N f W Vv gn (i + 1) s'

theorem Inv.gens {Z : Cx} {σ : L2.St} {H : Hp} {s : Shared} {pins : List (Addr × Obj)} (I : Inv Z pins σ H s) {g' : Array GenState} (hg : AllBare g') : Inv Z pins σ H { s with gens := g' } :=
  ⟨I.ok, I.os, hg, I.base, I.loc, I.cell, I.free, I.freeC, I.pin, I.hok, I.len⟩
theorem Inv.setGen {Z : Cx} {σ : L2.St} {H : Hp} {s : Shared} {pins : List (Addr × Obj)} (I : Inv Z pins σ H s) {gn : Nat} {x : GenState} (hx : x.bare = true) : Inv Z pins σ H (s.setGen gn x) :=
  Inv.gens I (allBare_setGen I.bare hx)

theorem next_item {Z : Cx} {Ac : Around} {σw : L2.St} {N : Nat} {f : Nat → V} {W Vv : Nat → Hp → Prop} {gn i a : Nat} {s : Shared} {go : Obj} {Q : Option Value → Shared → Prop} {E : Value → Shared → Prop}
    (T : Turn X.prog X.w X.K tg J fp it tn)
    (hpn : (a, go) ∈ Z.pn) (hgo : ∀ h : Heap, h.get? a = some go → h.IsGen a gn) (hh : Ac.handled = none) (hroom : Ac.depth < recursionLimit) (hi : i < N) (st : St Z Ac.in1 σw fp tn N f W Vv gn i s)
    (hQ : ∀ v s', RelV (f i) v → Mid Z Ac.in1 σw fp tn N f W Vv gn i s' → Q (some v) s') : wpAny (model Z.prog Z.w) Ac (pyNext (.ref a)) Q E s := by
  obtain ⟨H, gs, I, t, nf, w, hgs, hgoes⟩ := st
  have hlt : gn < s.gens.size := (Array.getElem?_eq_some_iff.mp hgs).1
  have hg := hgo s.heap (I.pin (a, go) (List.mem_append_left _ hpn)).1
  refine wpAny_gsz (n := s.gens.size) (Nat.le_refl _) ?_
  refine wpAny_pyNext_genexpQ (P := fun n _ s1 => n = 1 ∧ ∃ H, W N H ∧ Inv Z [] σw H s1) hh I.nolimit hroom hg hgs hgoes (fun v s₁ gs' hb hv => ?_) (fun s₁ hp h' hk => ?_)
  · obtain ⟨j, H3, hj, rv, vv, I3, t3, n3, kap⟩ := hv
    have hji : j = i := by omega
    subst hji
    intro hsz
    have hsz : s.gens.size ≤ (s₁.setGen gn gs').gens.size := hsz
    have hsz2 : gn < (s₁.setGen gn gs').gens.size := Nat.lt_of_lt_of_le hlt hsz
    have hsz3 : gn < s₁.gens.size := by rw [setGen_size] at hsz2; exact hsz2
    refine hQ v _ rv ⟨H3, Inv.setGen I3 hb, vv, n3, fun s' H' eg I' hk hn' w' => ?_⟩
    have egs : s'.gens[gn]? = some gs' := by rw [eg]; exact setGen_at hsz3
    refine ⟨H', gs', I', T.keep _ _ _ t3 fun b hb o e => hk b hb o e, hn', w', egs, ?_⟩
    have e2 : N - (j + 1) + 1 = N - j := by omega
    rw [e2]
    exact kap (s'.setGen gn .running) H' (Inv.setGen I' rfl) (T.keep _ _ _ t3 fun b hb o e => hk b hb o e) hn' w'
  · have := hp.1
    omega
theorem next_done {Z : Cx} {Ac : Around} {σw : L2.St} {N : Nat} {f : Nat → V} {W Vv : Nat → Hp → Prop} {gn a : Nat} {s : Shared} {go : Obj} {Q : Option Value → Shared → Prop} {E : Value → Shared → Prop}
    (hpn : (a, go) ∈ Z.pn) (hgo : ∀ h : Heap, h.get? a = some go → h.IsGen a gn) (hh : Ac.handled = none) (hroom : Ac.depth < recursionLimit) (st : St Z Ac.in1 σw fp tn N f W Vv gn N s)
    (hQ : ∀ s' H, W N H → Inv Z [] σw H s' → Q none s') : wpAny (model Z.prog Z.w) Ac (pyNext (.ref a)) Q E s := by
  obtain ⟨H, gs, I, t, nf, w, hgs, hgoes⟩ := st
  have hg := hgo s.heap (I.pin (a, go) (List.mem_append_left _ hpn)).1
  refine wpAny_pyNext_genexpQ (P := fun n _ s1 => n = 1 ∧ ∃ H, W N H ∧ Inv Z [] σw H s1) hh I.nolimit hroom hg hgs hgoes (fun v s₁ gs' hb hv => ?_) (fun s₁ hp h' hk => ?_)
  · obtain ⟨j, H3, hj, _⟩ := hv
    omega
  · obtain ⟨_, H3, w3, I3⟩ := hp
    exact hQ _ H3 w3 (Inv.setGen (I3.kept (t' := s₁.toks) hk) rfl)
end

section
variable {X : Cx} {pins : List (Addr × Obj)} {σ : L2.St} {H : Hp} {s : Shared}

def Turns (J : It) (g : TG) (te : TE) (vs : List Nat) (σw : L2.St) (N : Nat) (f : Nat → V) (W Vv : Nat → Hp → Prop) : Prop :=
  ∀ i H, i < N → W i H → J.go i H ∧ ∀ x H', J.yld i H x H' → g x σw H' fun σ2 H2 => wipe σ2 vs = σw ∧ te σ2 H2 fun y H3 => y = f i ∧ Vv i H3
/-- the generator at a, made and not begun -/
def Ready (X : Cx) (pins : List (Addr × Obj)) (σ : L2.St) (J : It) (g : TG) (te : TE) (vs : List Nat) (a : Addr) (H2 : Hp) (s5 : Shared) : Prop :=
  ∃ (Z : Cx) (tg : Expr) (go : Obj) (gn : Nat) (fp : List Addr) (it : Addr) (tn : Nat → Heap → Prop), Z.prog = X.prog ∧ Z.w = X.w ∧ Z.K = X.K ∧ Turn X.prog X.w X.K tg J fp it tn ∧ (a, go) ∈ Z.pn ∧ (∀ h : Heap, h.get? a = some go → h.IsGen a gn) ∧ Inv Z [] (wipe σ vs) H2 s5 ∧ (∀ b ∈ fp, H2 b = none ∧ b < s5.heap.objs.size) ∧
    (∀ H' s', Inv Z [] (wipe σ vs) H' s' → Inv X pins σ H' s') ∧
    ∀ N f W Vv, Turns J g te vs (wipe σ vs) N f W Vv → (∀ H, W N H → J.stop N H) → ∀ s' H', s'.gens = s5.gens → Inv Z [] (wipe σ vs) H' s' → (∀ b ∈ fp, ∀ o, s5.heap.get? b = some o → s'.heap.get? b = some o) → (∀ b ∈ fp, H' b = none) → W 0 H' →
      St Z X.A.in1.in1 (wipe σ vs) fp tn N f W Vv gn 0 s'

theorem wipe_wipe (σ : L2.St) : ∀ vs : List Nat, wipe (wipe σ vs) vs = wipe σ vs := by
  intro vs
  refine List.ext_getElem? fun i => ?_
  by_cases hi : i ∈ vs
  · have e : ∀ τ : L2.St, (wipe τ vs)[i]? = if i < τ.length then some none else none := fun τ => by
      have hl : (wipe τ vs).length = τ.length := wipe_length τ vs
      by_cases hl2 : i < τ.length
      · rw [if_pos hl2]
        cases e1 : (wipe τ vs)[i]? with
        | none => rw [List.getElem?_eq_none_iff] at e1; omega
        | some o =>
          cases o with
          | none => rfl
          | some v => exact absurd hi (wipe_some e1).2
      · rw [if_neg hl2, List.getElem?_eq_none_iff]; omega
    rw [e, e, wipe_length]
  · rw [wipe_out hi]

theorem over_g {A : Around} {elt tg iter : Expr} {scope : Scope} {gpos : Pos} {it : Addr} {cenv : Env} {l : List Env} (h : A.frames = some l) : (A.over (gcode elt tg iter scope gpos it cenv) []).frames = some (cenv :: l) := by
  show pushEnvs [cenv] (pushEnvs [] A.frames) = _
  rw [h]
  rfl
theorem room_g {X : Cx} {k : Nat} {elt tg iter : Expr} {scope : Scope} {gpos : Pos} {it : Addr} {cenv : Env} (hr : Room (k + 1) X.A) : Room k (X.A.in1.in1.over (gcode elt tg iter scope gpos it cenv) []) := by
  refine ⟨hr.hd, ?_, ?_⟩
  · have := hr.dp
    show X.A.depth + 0 + 1 + 3 * k + 5 < _
    omega
  · have := hr.un
    show X.A.units + 1 + 1 + 0 + 3 + 16 * k + 200 < _
    omega

theorem gen_make {c P : Addr} {elt tg iter : Expr} {gpos : Pos} {scope : Scope} {own : List (Str × Nat)} {k : Nat} {wi : TI} {g : TG} {te : TE} {Q' : Value → Shared → Prop} {R : It → Hp → Prop}
    (hr : Room (k + 1) X.A) (hc : X.calm = true) (hN : X.N.Nodup) (TB : GxR.TabB X.base X.mg c P) (hcode : X.env.code = .ref c) (ok : GxOk X.N X.env.scope scope own) (hi : PI X tg iter wi)
    (hg : ∀ (A : Around) (s : Shared) (H : Hp) (code : Value) (fp : List Addr) (pn : List (Addr × Obj)), PG (gcx X A s H (genEnv scope (clo X scope) s.heap.objs.size code builtinsNs X.env) fp pn) tg g)
    (he : ∀ (A : Around) (s : Shared) (H : Hp) (code : Value) (fp : List Addr) (pn : List (Addr × Obj)), Room k A → PE (gcx X A s H (genEnv scope (clo X scope) s.heap.objs.size code builtinsNs X.env) fp pn) elt te)
    (hs : ∀ v, genFold iter X.env v = pure v) (I : Inv X pins σ H s) (h : wi σ H fun J H1 => GxR.TabG H1 P ∧ R J H1)
    (hQ : ∀ J H1 H2 a s5, R J H1 → GxR.Tabbed P H1 H2 → Ready X pins σ J g te (own.map (·.2)) a H2 s5 → Q' (.ref a) s5) :
    wpAny (model X.prog X.w) X.A (eval (.GeneratorExp elt [⟨tg, iter, [], 0⟩] scope gpos) X.env) Q' X.xe s := by
  have hfree : ∀ y ∈ scope.names, y.2 = .free → ∃ c, X.env.cells.lookup y.1 = some c := fun y hy e => by
    rcases ok.blk.free y hy e with k | k
    · exact I.ok.has _ (.inl k)
    · exact I.ok.has _ (.inr k)
  refine wpAny_GeneratorExp_make ok.co (closure_ok hfree) ok.cell ok.dot ok.blk.kind hr.depth ?_ hs
  refine thn (hi.run pins s σ H _ I h) fun xv s1 hx => thn hx fun itv s2 h2 => ?_
  obtain ⟨it, fp, tn, J, H2, e, I2, T, st2, f2, ⟨ps, hP, ht⟩, q⟩ := h2
  subst e
  have hPs : s2.heap.get? P = some { cls := .none, data := .fields ps } := I2.hok P _ hP
  have cd : PySem.W.CodeHd s2.heap c P := TB.code.keeps fun b u e => I2.bk b u e
  refine ⟨I2.nolimit, ?_⟩
  have cont : ∀ (code : Value) (h3 : Heap) (tk : Nat) (ps' : Array Value), Heap.ExtBut P s2.heap h3 → h3.get? P = some { cls := .none, data := .fields ps' } → (∃ more, ps' = ps ++ more) → TriplesOk ps'.toList →
      wpAny (model X.prog X.w) X.A (builtinsFor X.env.globals X.env.builtins) (fun bi s₄ =>
        ∀ h', h'.Ns s₄.heap.objs.size (fun y => if y = ".0" then some (.ref it) else none) → Heap.SameBut s₄.heap.objs.size (s₄.heap.push { cls := .type "frame", data := .dict #[] }) h' →
          Q' (.ref h'.objs.size) { s₄ with
            gens := s₄.gens.push (.fresh (.compStart (.GeneratorExp elt [⟨tg, iter, [], 0⟩] scope gpos) 0 (.ref it) .none (genEnv scope (clo X scope) s₄.heap.objs.size code bi X.env))),
            toks := s₄.toks + 1 + 1 + 1,
            heap := h'.push { cls := .type "generator", data := .fields #[.int s₄.gens.size 0, .str "<genexpr>" (s₄.toks + 1), .str (X.env.qual ++ "<genexpr>") (s₄.toks + 1 + 1)] } }) X.xe { s2 with heap := h3, toks := tk } := by
    intro code h3 tk ps' hx hP3 hmore ht3
    obtain ⟨more, em⟩ := hmore
    obtain ⟨bm, ob, e1, e2, e3, e4, e5, e6, e7, e8⟩ := TB.bm
    have J3 : Inv X pins σ (upd H2 P (.tbl (ps ++ more))) { s2 with heap := h3, gens := s2.gens, drawn := s2.drawn, toks := tk } :=
      GxR.inv_tab (more := more) (h' := h3) (g' := s2.gens) (d' := s2.drawn) (t' := tk) I2 hP (fun b u hb e => hx b u hb e) (by rw [← em]; exact hP3) I2.bare
    refine wpAny_builtinsFor (m := X.mg) (by rw [I2.ok.glob]; exact (I2.mod.glob.keeps I2.bk).extBut hx TB.gP) e1 e2 (hx _ _ e4 (I2.bk _ _ e5)) e6 e7 e8 ?_
    intro h' ns sb
    have nP : ∀ b, H2 b = none → b ≠ P := fun b n z => by rw [z, hP] at n; cases n
    have f3 : ∀ b ∈ fp, FpOk X pins (upd H2 P (.tbl (ps ++ more))) b ∧ b < h3.objs.size := fun b hb => by
      obtain ⟨o, e, _⟩ := T.obj _ _ st2 b hb
      refine ⟨⟨?_, (f2 b hb).2⟩, ?_⟩
      · rw [upd_ne (nP b (f2 b hb).1)]
        exact (f2 b hb).1
      · exact Heap.lt_size (hx b o (nP b (f2 b hb).1) e)
    have st3 : tn 0 h3 := T.keep _ _ _ st2 fun b hb o e => hx b o (nP b (f2 b hb).1) e
    have sz : h'.objs.size = h3.objs.size + 1 := by rw [sb.1]; exact Heap.size_push ..
    generalize hcenv : genEnv scope (clo X scope) h3.objs.size code builtinsNs X.env = cenv
    generalize hgo : ({ cls := .type "generator", data := .fields #[.int s2.gens.size 0, .str "<genexpr>" (tk + 1), .str (X.env.qual ++ "<genexpr>") (tk + 1 + 1)] } : Obj) = go
    have hgd : ∀ v, go.data ≠ .cell v := fun v z => by rw [← hgo] at z; cases z
    have hgp : ∀ h : Heap, (h.push go).get? h.objs.size = some go := fun h => by rw [← hgo]; exact Heap.get?_push_size _ rfl
    have hgen : ∀ (a : Addr) (h : Heap), h.get? a = some go → h.IsGen a s2.gens.size := fun a h e => by
      rw [← hgo] at e
      exact ⟨_, _, _, e, rfl, rfl, rfl⟩
    have hAf : (X.A.in1.in1.over (gcode elt tg iter scope gpos it cenv) []).frames = some (cenv :: X.stack) := over_g (show X.A.in1.in1.frames = some X.stack from I2.ok.frames)
    generalize hZ : gcx X (X.A.in1.in1.over (gcode elt tg iter scope gpos it cenv) []) { s2 with heap := h3, toks := tk } (upd H2 P (.tbl (ps ++ more))) cenv fp [(h'.objs.size, go)] = Z
    have I5 : Inv Z [] (wipe σ (own.map (·.2))) (upd H2 P (.tbl (ps ++ more))) { s2 with gens := s2.gens.push (.fresh (gstart elt tg iter scope gpos it cenv)), toks := tk + 1 + 1 + 1, heap := h'.push go } := by
      rw [← hZ, ← hcenv]
      exact gx_start (A := X.A.in1.in1.over (gcode elt tg iter scope gpos it (genEnv scope (clo X scope) h3.objs.size code builtinsNs X.env)) []) J3 ok hN f3 (fun _ => hr.hd) (by rw [hcenv]; exact hAf) ns sb hgd (I2.bare.push rfl) hgp
    have pg := hg (X.A.in1.in1.over (gcode elt tg iter scope gpos it cenv) []) { s2 with heap := h3, toks := tk } (upd H2 P (.tbl (ps ++ more))) code fp [(h'.objs.size, go)]
    have pe := he (X.A.in1.in1.over (gcode elt tg iter scope gpos it cenv) []) { s2 with heap := h3, toks := tk } (upd H2 P (.tbl (ps ++ more))) code fp [(h'.objs.size, go)] (room_g hr)
    have ezz : genEnv scope (clo X scope) ({ s2 with heap := h3, toks := tk } : Shared).heap.objs.size code builtinsNs X.env = cenv := hcenv
    rw [ezz, hZ] at pg pe
    have hzpn : (h'.objs.size, go) ∈ Z.pn := by rw [← hZ]; exact List.mem_singleton.mpr rfl
    have n5 : ∀ b ∈ fp, (upd H2 P (.tbl (ps ++ more))) b = none := fun b hb => (f3 b hb).1.1
    have hfpn : ∀ b ∈ fp, ∀ p ∈ [(h'.objs.size, go)], p.1 ≠ b := fun b hb p hp z => by
      rw [List.mem_singleton.mp hp] at z
      have z' : h'.objs.size = b := z
      have q := (f3 b hb).2
      rw [← z', sz] at q
      exact absurd q (Nat.not_lt.mpr (Nat.le_succ _))
    refine hQ J H2 (upd H2 P (.tbl (ps ++ more))) h'.objs.size _ q ⟨⟨ps ++ more, upd_same, by rw [← em]; exact ht3⟩, fun b hb => upd_ne hb⟩ ?_
    refine ⟨Z, tg, go, s2.gens.size, fp, it, tn, by rw [← hZ], by rw [← hZ], by rw [← hZ], T, hzpn, hgen _, I5, fun b hb => ⟨n5 b hb, ?_⟩, fun H' s' I' => ?_, fun N f W Vv ht hst s' H' eg I' hk hn w' => ?_⟩
    · show b < (h'.push go).objs.size
      rw [Heap.size_push, sz]
      exact Nat.lt_succ_of_lt (Nat.lt_succ_of_lt (f3 b hb).2)
    · have I6 : Inv (gcx X (X.A.in1.in1.over (gcode elt tg iter scope gpos it cenv) []) { s2 with heap := h3, toks := tk } (upd H2 P (.tbl (ps ++ more))) cenv fp [(h'.objs.size, go)]) [] (wipe σ (own.map (·.2))) H' s' := by rw [hZ]; exact I'
      exact J3.call' (ch := fp) I6.os I6.base I6.hok I6.bare fun b hb => ⟨(f3 b hb).1.2.2.2.1, (f3 b hb).1.2.1, (f3 b hb).1.2.2.2.2.1, (f3 b hb).1.2.2.2.2.2⟩
    · have st5 : tn 0 s'.heap := T.keep _ _ _ st3 fun b hb o e => by
        have hb3 := (f3 b hb).2
        have e1 : (h3.push { cls := .type "frame", data := .dict #[] }).get? b = some o := Heap.get?_push_of_some _ e
        have e2 : h'.get? b = some o := sb.extBut b o (Nat.ne_of_lt hb3) e1
        exact hk b hb o (Heap.get?_push_of_some _ e2)
      have egs : s'.gens[s2.gens.size]? = some (.fresh (gstart elt tg iter scope gpos it cenv)) := by rw [eg]; exact Array.getElem?_push_size ..
      have hp' : Z.prog = X.prog := by rw [← hZ]
      have hw' : Z.w = X.w := by rw [← hZ]
      refine ⟨H', _, I', st5, hn, w', egs, ?_⟩
      rw [hp', hw']
      refine ⟨rfl, ?_⟩
      exact seg_start (s4 := { s2 with heap := h3, toks := tk }) (H4 := upd H2 P (.tbl (ps ++ more))) (pn := [(h'.objs.size, go)]) hc (by rw [← hcenv]; exact ok.co) T Z hZ.symm hfpn pg pe (wipe_wipe _ _) ht hst _ _ H' (Inv.setGen I' rfl) st5 hn w'
  cases hf : codeAmong gpos ps.toList with
  | none =>
    refine wpAny_genexprCodeX hcode (cd.code hPs ht) (cd.tab hPs) hf fun c' h' tk hx hge hlt hco' _ htab' _ => ?_
    obtain ⟨o1, vs, f1, tf, fl, tg', inF, tx, tt, op, _, _, _, _, _, _, _, _, _, htr, _⟩ := hco'
    exact cont _ h' tk _ hx htab'.2 ⟨_, rfl⟩ htr
  | some cv =>
    refine wpAny_genexprCode_hit hcode (cd.code hPs ht) hf ?_
    exact cont cv s2.heap s2.toks ps (Heap.ExtBut.refl _ _) hPs ⟨#[], by simp⟩ ht
end

/-! ### all, any -/
section
variable {X : Cx}
def tAllG (P : Addr) (wi : TI) (g : TG) (te : TE) (vs : List Nat) : TE := fun σ H Q => wi σ H fun J H1 => GxR.TabG H1 P ∧ ∀ H2, GxR.Tabbed P H1 H2 → ∃ (N : Nat) (f : Nat → Bool) (W : Nat → Hp → Prop),
  W 0 H2 ∧ Turns J g te vs (wipe σ vs) N (fun i => .bl (f i)) W (fun i => W (i + 1)) ∧ (∀ H, W N H → J.stop N H) ∧ ∀ i H, i ≤ N → W i H → Q (.bl ((List.range N).all f)) H
def tAnyG (P : Addr) (wi : TI) (g : TG) (te : TE) (vs : List Nat) : TE := fun σ H Q => wi σ H fun J H1 => GxR.TabG H1 P ∧ ∀ H2, GxR.Tabbed P H1 H2 → ∃ (N : Nat) (f : Nat → Bool) (W : Nat → Hp → Prop),
  W 0 H2 ∧ Turns J g te vs (wipe σ vs) N (fun i => .bl (f i)) W (fun i => W (i + 1)) ∧ (∀ H, W N H → J.stop N H) ∧ ∀ i H, i ≤ N → W i H → Q (.bl ((List.range N).any f)) H

theorem all_loop {Z : Cx} {A : Around} {R : Result → Shared → Prop} {tg : Expr} {J : It} {it a : Addr} {go : Obj} {gn : Nat} {fp : List Addr} {tn : Nat → Heap → Prop} {σw : L2.St} {N : Nat} {f : Nat → Bool} {W : Nat → Hp → Prop} (T : Turn Z.prog Z.w Z.K tg J fp it tn)
    (hpn : (a, go) ∈ Z.pn) (hgo : ∀ h : Heap, h.get? a = some go → h.IsGen a gn) (hh : A.handled = none) (hroom : A.depth < recursionLimit)
    (hR : ∀ i s' H, i ≤ N → W i H → Inv Z [] σw H s' → R (.ok (.ret (.bool ((List.range N).all f)))) s') :
    ∀ (k i : Nat) (s : Shared), N - i = k → i ≤ N → ((List.range N).all f = ((List.range N).drop i).all f) → St Z A.in1.in1 σw fp tn N (fun i => .bl (f i)) W (fun i => W (i + 1)) gn i s → codeAny (model Z.prog Z.w) A (.builtin "all.loop" ⟨[.ref a], []⟩) R s := by
  intro k
  induction k with
  | zero =>
    intro i s hk hi hall st
    have hin : i = N := by omega
    subst hin
    refine codeAny_builtin F.entry_all_loop ?_
    rw [Around.under_plainId F.plain_all_loop _]
    show wpAny _ A.in1 (pyNext (.ref a) >>= _) _ _ s
    refine wpAny_bind (next_done hpn hgo hh hroom st fun s' H w I => ?_)
    refine wpAny_bind (wpAny_rule (wpAny_pure ?_))
    have h9 := hR i s' H (Nat.le_refl _) w I
    rw [hall, List.drop_of_length_le (by simp)] at h9
    exact h9
  | succ k ih =>
    intro i s hk hi hall st
    have hlt : i < N := by omega
    have hd : (List.range N).drop i = i :: (List.range N).drop (i + 1) := by
      rw [List.drop_eq_getElem_cons (by simpa using hlt)]; simp
    refine codeAny_builtin F.entry_all_loop ?_
    rw [Around.under_plainId F.plain_all_loop _]
    show wpAny _ A.in1 (pyNext (.ref a) >>= _) _ _ s
    refine wpAny_bind (next_item T hpn hgo hh hroom hlt st fun v s' rv hm => ?_)
    obtain rfl : v = Value.bool (f i) := rv
    obtain ⟨H, I, w, nfp, mid⟩ := hm
    refine wpAny_bind (wpAny_holding (wpAny_truthy_bool ?_))
    refine wpAny_bind (wpAny_letGo ?_)
    cases hb : f i with
    | true =>
      simp only [if_true]
      refine wpAny_pure ⟨plainId_quiet F.plain_all_loop _, ih (i + 1) _ (by omega) hlt ?_ (mid s' H rfl I (fun _ _ _ e => e) nfp w)⟩
      rw [hall, hd, List.all_cons, hb, Bool.true_and]
    | false =>
      simp only [Bool.false_eq_true, if_false]
      refine wpAny_bind (wpAny_rule (wpAny_pure ?_))
      have h9 := hR (i + 1) s' H hlt w I
      rw [hall, hd, List.all_cons, hb, Bool.false_and] at h9
      exact h9
theorem any_loop {Z : Cx} {A : Around} {R : Result → Shared → Prop} {tg : Expr} {J : It} {it a : Addr} {go : Obj} {gn : Nat} {fp : List Addr} {tn : Nat → Heap → Prop} {σw : L2.St} {N : Nat} {f : Nat → Bool} {W : Nat → Hp → Prop} (T : Turn Z.prog Z.w Z.K tg J fp it tn)
    (hpn : (a, go) ∈ Z.pn) (hgo : ∀ h : Heap, h.get? a = some go → h.IsGen a gn) (hh : A.handled = none) (hroom : A.depth < recursionLimit)
    (hR : ∀ i s' H, i ≤ N → W i H → Inv Z [] σw H s' → R (.ok (.ret (.bool ((List.range N).any f)))) s') :
    ∀ (k i : Nat) (s : Shared), N - i = k → i ≤ N → ((List.range N).any f = ((List.range N).drop i).any f) → St Z A.in1.in1 σw fp tn N (fun i => .bl (f i)) W (fun i => W (i + 1)) gn i s → codeAny (model Z.prog Z.w) A (.builtin "any.loop" ⟨[.ref a], []⟩) R s := by
  intro k
  induction k with
  | zero =>
    intro i s hk hi hall st
    have hin : i = N := by omega
    subst hin
    refine codeAny_builtin F.entry_any_loop ?_
    rw [Around.under_plainId F.plain_any_loop _]
    show wpAny _ A.in1 (pyNext (.ref a) >>= _) _ _ s
    refine wpAny_bind (next_done hpn hgo hh hroom st fun s' H w I => ?_)
    refine wpAny_bind (wpAny_rule (wpAny_pure ?_))
    have h9 := hR i s' H (Nat.le_refl _) w I
    rw [hall, List.drop_of_length_le (by simp)] at h9
    exact h9
  | succ k ih =>
    intro i s hk hi hall st
    have hlt : i < N := by omega
    have hd : (List.range N).drop i = i :: (List.range N).drop (i + 1) := by
      rw [List.drop_eq_getElem_cons (by simpa using hlt)]; simp
    refine codeAny_builtin F.entry_any_loop ?_
    rw [Around.under_plainId F.plain_any_loop _]
    show wpAny _ A.in1 (pyNext (.ref a) >>= _) _ _ s
    refine wpAny_bind (next_item T hpn hgo hh hroom hlt st fun v s' rv hm => ?_)
    obtain rfl : v = Value.bool (f i) := rv
    obtain ⟨H, I, w, nfp, mid⟩ := hm
    refine wpAny_bind (wpAny_holding (wpAny_truthy_bool ?_))
    refine wpAny_bind (wpAny_letGo ?_)
    cases hb : f i with
    | false =>
      simp only [Bool.false_eq_true, if_false]
      refine wpAny_pure ⟨plainId_quiet F.plain_any_loop _, ih (i + 1) _ (by omega) hlt ?_ (mid s' H rfl I (fun _ _ _ e => e) nfp w)⟩
      rw [hall, hd, List.any_cons, hb, Bool.false_or]
    | true =>
      simp only [if_true]
      refine wpAny_bind (wpAny_rule (wpAny_pure ?_))
      have h9 := hR (i + 1) s' H hlt w I
      rw [hall, hd, List.any_cons, hb, Bool.true_or] at h9
      exact h9

theorem pe_allG {c P : Addr} {elt tg iter : Expr} {p pos gpos : Pos} {scope : Scope} {own : List (Str × Nat)} {k : Nat} {wi : TI} {g : TG} {te : TE}
    (hr : Room (k + 1) X.A) (hc : X.calm = true) (hN : X.N.Nodup) (hgl : Gl X "all") (hm : X.mg "all" = none) (TB : GxR.TabB X.base X.mg c P) (hcode : X.env.code = .ref c) (ok : GxOk X.N X.env.scope scope own) (hi : PI X tg iter wi)
    (hg : ∀ (A : Around) (s : Shared) (H : Hp) (code : Value) (fp : List Addr) (pn : List (Addr × Obj)), PG (gcx X A s H (genEnv scope (clo X scope) s.heap.objs.size code builtinsNs X.env) fp pn) tg g)
    (he : ∀ (A : Around) (s : Shared) (H : Hp) (code : Value) (fp : List Addr) (pn : List (Addr × Obj)), Room k A → PE (gcx X A s H (genEnv scope (clo X scope) s.heap.objs.size code builtinsNs X.env) fp pn) elt te)
    (hs : ∀ v, genFold iter X.env v = pure v := by intro _; rfl)
    (hst : starEach [.GeneratorExp elt [⟨tg, iter, [], 0⟩] scope gpos] X.env = (false, eval (.GeneratorExp elt [⟨tg, iter, [], 0⟩] scope gpos) X.env) :: starEach [] X.env := by rfl) :
    PE X (.Call (.Name "all" p) [.GeneratorExp elt [⟨tg, iter, [], 0⟩] scope gpos] [] pos) (tAllG P wi g te (own.map (·.2))) := by
  refine ⟨fun pins s σ H Q I h => ?_⟩
  refine wpAny_Call_Name_kw (ld_blt I hgl hm boot_all ?_)
  refine PyProof.Rows.callWith_builtin1 ?_ hst (by rfl)
  rw [hst]
  show wpAny _ _ (spliced ((false, eval (.GeneratorExp elt [⟨tg, iter, [], 0⟩] scope gpos) X.env) :: backTo pos (starEach [] X.env))) _ _ s
  refine Calls.spliced_cons (gen_make hr hc hN TB hcode ok hi hg he hs I h fun J H1 H2 a s5 hR hT hrdy => ?_)
  refine Calls.spliced_nil ?_
  obtain ⟨N, f, W, w0, ht, hstop, hQ⟩ := hR H2 hT
  obtain ⟨Z, tg', go, gn, fp, it, tn, hp, hw, hK, T, hpn, hgo, I5, n5, back, mk⟩ := hrdy
  have st := mk N (fun i => .bl (f i)) W (fun i => W (i + 1)) ht hstop s5 H2 rfl I5 (fun _ _ _ e => e) (fun b hb => (n5 b hb).1) w0
  rw [← hp, ← hw, ← hK] at T
  refine call_function_tree F.kind_all F.plain_all F.entry_all (F.args_all1 _) ?_
  unfold Builtin.«all»
  refine wpAny_bind (m := oneArg "all" _) (wpAny_pure ?_)
  have hG := hgo s5.heap (I5.pin (a, go) (List.mem_append_left _ hpn)).1
  refine wpAny_bind (wpAny_pyIter_gen hG ?_)
  have lp := all_loop (A := X.A) (R := fun r s' => ∃ v, r = .ok (.ret v) ∧ EP X pins σ Q v s') T hpn hgo hr.hd hr.depth (fun i s' H hi w I' => ⟨_, rfl, .bl _, H, back H s' I', rfl, hQ i H hi w⟩) N 0 s5 (Nat.sub_zero _) (Nat.zero_le _) (by rw [List.drop_zero]) st
  rw [hp, hw] at lp
  refine wpAny_pure ⟨plainId_quiet F.plain_all_loop _, codeAny_mono lp fun r s' ⟨v, e, q⟩ => ?_⟩
  subst e
  exact q
theorem pe_anyG {c P : Addr} {elt tg iter : Expr} {p pos gpos : Pos} {scope : Scope} {own : List (Str × Nat)} {k : Nat} {wi : TI} {g : TG} {te : TE}
    (hr : Room (k + 1) X.A) (hc : X.calm = true) (hN : X.N.Nodup) (hgl : Gl X "any") (hm : X.mg "any" = none) (TB : GxR.TabB X.base X.mg c P) (hcode : X.env.code = .ref c) (ok : GxOk X.N X.env.scope scope own) (hi : PI X tg iter wi)
    (hg : ∀ (A : Around) (s : Shared) (H : Hp) (code : Value) (fp : List Addr) (pn : List (Addr × Obj)), PG (gcx X A s H (genEnv scope (clo X scope) s.heap.objs.size code builtinsNs X.env) fp pn) tg g)
    (he : ∀ (A : Around) (s : Shared) (H : Hp) (code : Value) (fp : List Addr) (pn : List (Addr × Obj)), Room k A → PE (gcx X A s H (genEnv scope (clo X scope) s.heap.objs.size code builtinsNs X.env) fp pn) elt te)
    (hs : ∀ v, genFold iter X.env v = pure v := by intro _; rfl)
    (hst : starEach [.GeneratorExp elt [⟨tg, iter, [], 0⟩] scope gpos] X.env = (false, eval (.GeneratorExp elt [⟨tg, iter, [], 0⟩] scope gpos) X.env) :: starEach [] X.env := by rfl) :
    PE X (.Call (.Name "any" p) [.GeneratorExp elt [⟨tg, iter, [], 0⟩] scope gpos] [] pos) (tAnyG P wi g te (own.map (·.2))) := by
  refine ⟨fun pins s σ H Q I h => ?_⟩
  refine wpAny_Call_Name_kw (ld_blt I hgl hm boot_any ?_)
  refine PyProof.Rows.callWith_builtin1 ?_ hst (by rfl)
  rw [hst]
  show wpAny _ _ (spliced ((false, eval (.GeneratorExp elt [⟨tg, iter, [], 0⟩] scope gpos) X.env) :: backTo pos (starEach [] X.env))) _ _ s
  refine Calls.spliced_cons (gen_make hr hc hN TB hcode ok hi hg he hs I h fun J H1 H2 a s5 hR hT hrdy => ?_)
  refine Calls.spliced_nil ?_
  obtain ⟨N, f, W, w0, ht, hstop, hQ⟩ := hR H2 hT
  obtain ⟨Z, tg', go, gn, fp, it, tn, hp, hw, hK, T, hpn, hgo, I5, n5, back, mk⟩ := hrdy
  have st := mk N (fun i => .bl (f i)) W (fun i => W (i + 1)) ht hstop s5 H2 rfl I5 (fun _ _ _ e => e) (fun b hb => (n5 b hb).1) w0
  rw [← hp, ← hw, ← hK] at T
  refine call_function_tree F.kind_any F.plain_any F.entry_any (F.args_any1 _) ?_
  unfold Builtin.«any»
  refine wpAny_bind (m := oneArg "any" _) (wpAny_pure ?_)
  have hG := hgo s5.heap (I5.pin (a, go) (List.mem_append_left _ hpn)).1
  refine wpAny_bind (wpAny_pyIter_gen hG ?_)
  have lp := any_loop (A := X.A) (R := fun r s' => ∃ v, r = .ok (.ret v) ∧ EP X pins σ Q v s') T hpn hgo hr.hd hr.depth (fun i s' H hi w I' => ⟨_, rfl, .bl _, H, back H s' I', rfl, hQ i H hi w⟩) N 0 s5 (Nat.sub_zero _) (Nat.zero_le _) (by rw [List.drop_zero]) st
  rw [hp, hw] at lp
  refine wpAny_pure ⟨plainId_quiet F.plain_any_loop _, codeAny_mono lp fun r s' ⟨v, e, q⟩ => ?_⟩
  subst e
  exact q
end

/-! ### sum -/
def preS (f : Nat → Int) : Nat → Int
  | 0 => 0
  | n + 1 => preS f n + f n
section
variable {X : Cx}
def tSumG (P : Addr) (wi : TI) (g : TG) (te : TE) (vs : List Nat) : TE := fun σ H Q => wi σ H fun J H1 => GxR.TabG H1 P ∧ ∀ H2, GxR.Tabbed P H1 H2 → ∀ D, H2 D = none → ∃ (N : Nat) (f : Nat → Int) (W Vv : Nat → Hp → Prop),
  W 0 (upd H2 D (.lst [.int 0])) ∧ Turns J g te vs (wipe σ vs) N (fun i => .int (f i)) W Vv ∧ (∀ H, W N H → J.stop N H) ∧ (∀ i H, i ≤ N → W i H → H D = some (.lst [.int (preS f i)])) ∧
  (∀ i H, i < N → Vv i H → H D = some (.lst [.int (preS f i)]) ∧ W (i + 1) (upd H D (.lst [.int (preS f (i + 1))]))) ∧ ∀ H, W N H → Q (.int (preS f N)) H
theorem inv_S {Z : Cx} {σ : L2.St} {H : Hp} {s : Shared} {S : Addr} {acc : Int} (I : Inv Z [] σ H s) (hS : H S = some (.lst [.int acc])) :
    ∃ tA c, s.heap.get? S = some { cls := .type "list", dict := none, data := .seq #[.int acc tA] c, slots := #[] } ∧
      ∀ (m : Int) (t : Tok) (tk : Nat), Inv Z [] σ (upd H S (.lst [.int m])) { s with heap := s.heap.update S (Obj.mapSeq fun _ => #[.int m t]), toks := tk } := by
  obtain ⟨hz, its, n, ri, e⟩ := I.hok S _ hS
  cases ri with
  | cons r1 r2 =>
    cases r2
    obtain ⟨tA, rfl⟩ := r1
    refine ⟨tA, n, e, fun m t tk => ?_⟩
    have e2 := Heap.get?_update_self (Obj.mapSeq fun _ => #[Value.int m t]) e rfl
    exact I.write (t' := tk) (by rw [hS]; trivial) (.inl rfl) (fun b u hb q => (Heap.get?_update_other _ _ (Ne.symm hb)).trans q) ⟨_, e2⟩ ⟨hz, [.int m t], n, .cons ⟨t, rfl⟩ .nil, e2⟩
theorem sum_loop {Z : Cx} {A : Around} {R : Result → Shared → Prop} {tg : Expr} {J : It} {it a S : Addr} {go : Obj} {gn : Nat} {fp : List Addr} {tn : Nat → Heap → Prop} {σw : L2.St} {N : Nat} {f : Nat → Int} {W Vv : Nat → Hp → Prop} (T : Turn Z.prog Z.w Z.K tg J fp it tn)
    (hpn : (a, go) ∈ Z.pn) (hgo : ∀ h : Heap, h.get? a = some go → h.IsGen a gn) (hh : A.handled = none) (hroom : A.depth < recursionLimit)
    (hW : ∀ i H, i ≤ N → W i H → H S = some (.lst [.int (preS f i)])) (hV : ∀ i H, i < N → Vv i H → H S = some (.lst [.int (preS f i)]) ∧ W (i + 1) (upd H S (.lst [.int (preS f (i + 1))])))
    (hR : ∀ s' H t, W N H → Inv Z [] σw H s' → R (.ok (.ret (.int (preS f N) t))) s') :
    ∀ (k i : Nat) (s : Shared) (st : Int), (st = 0 ∨ st = 2) → N - i = k → i ≤ N → St Z A.in1.in1 σw fp tn N (fun i => .int (f i)) W Vv gn i s → codeAny (model Z.prog Z.w) A (.builtin "sum.loop" ⟨[.ref a, .ref S, rawInt st, rawInt 0], []⟩) R s := by
  intro k
  induction k with
  | zero =>
    intro i s st hst2 hk hi hst
    have hin : i = N := by omega
    subst hin
    obtain ⟨tA, c, hS, _⟩ : ∃ tA c, s.heap.get? S = some { cls := .type "list", dict := none, data := .seq #[.int (preS f i) tA] c, slots := #[] } ∧ True := by
      obtain ⟨H, gs, I, _, _, w, _⟩ := hst
      obtain ⟨tA, c, e, _⟩ := inv_S I (hW i H (Nat.le_refl _) w)
      exact ⟨tA, c, e, trivial⟩
    refine codeAny_builtin F.entry_sum_loop ?_
    rw [Around.under_plainId F.plain_sum_loop _]
    show wpAny _ A.in1 (seqItems? (.ref S) >>= _) _ _ s
    refine wpAny_bind (wpAny_seqItems hS rfl ?_)
    show wpAny _ A.in1 (tryCatch (pyNext (.ref a)) _ >>= _) _ _ s
    refine wpAny_bind (wpAny_tryCatch (next_done hpn hgo hh hroom hst fun s' H w I => ?_))
    exact wpAny_pure (hR s' H tA w I)
  | succ k ih =>
    intro i s st hst2 hk hi hst
    have hlt : i < N := by omega
    obtain ⟨tA, c, hS, _⟩ : ∃ tA c, s.heap.get? S = some { cls := .type "list", dict := none, data := .seq #[.int (preS f i) tA] c, slots := #[] } ∧ True := by
      obtain ⟨H, gs, I, _, _, w, _⟩ := hst
      obtain ⟨tA, c, e, _⟩ := inv_S I (hW i H hi w)
      exact ⟨tA, c, e, trivial⟩
    refine codeAny_builtin F.entry_sum_loop ?_
    rw [Around.under_plainId F.plain_sum_loop _]
    show wpAny _ A.in1 (seqItems? (.ref S) >>= _) _ _ s
    refine wpAny_bind (wpAny_seqItems hS rfl ?_)
    show wpAny _ A.in1 (tryCatch (pyNext (.ref a)) _ >>= _) _ _ s
    refine wpAny_bind (wpAny_tryCatch (next_item T hpn hgo hh hroom hlt hst fun v s' rv hm => ?_))
    obtain ⟨t, rfl⟩ := (show ∃ t, v = Value.int (f i) t from rv)
    obtain ⟨H, I, vv, nfp, mid⟩ := hm
    obtain ⟨hSH, w'⟩ := hV i H hlt vv
    obtain ⟨tB, c', hS', up1⟩ := inv_S I hSH
    have nS : ∀ b ∈ fp, b ≠ S := fun b hb z => by
      have q := nfp b hb
      rw [z, hSH] at q; cases q
    have nf : ∀ b ∈ fp, upd H S (.lst [.int (preS f (i + 1))]) b = none := fun b hb => by
      rw [upd_ne (nS b hb)]; exact nfp b hb
    rcases hst2 with rfl | rfl
    · show wpAny _ A.in1 (if (_ : Bool) = true then (mkInt (preS f i + f i) >>= _) else _) _ _ _
      split
      · refine wpAny_bind (wpAny_mkInt ?_)
        show wpAny _ A.in1 (updateSeq S (fun _ => #[.int (preS f i + f i) s'.toks]) >>= _) _ _ _
        refine wpAny_bind ?_
        refine wpAny_updateSeq hS' rfl (wpAny_pure ⟨plainId_quiet F.plain_sum_loop _, ih (i + 1) _ 0 (.inl rfl) (by omega) hlt (mid _ _ rfl (up1 (preS f i + f i) s'.toks (s'.toks + 1)) (fun b hb o e => ?_) nf w')⟩)
        exact (Heap.get?_update_other _ _ (Ne.symm (nS b hb))).trans e
      · refine wpAny_bind (wpAny_rule ?_)
        refine wpAny_bind (wpAny_attempt (wpAny_holding (wpAny_add_int ?_)))
        show wpAny _ A.in1 (updateSeq S (fun _ => #[.int (preS f i + f i) s'.toks]) >>= _) _ _ _
        refine wpAny_bind (wpAny_updateSeq hS' rfl ?_)
        have I2 := up1 (preS f i + f i) s'.toks (s'.toks + 1)
        obtain ⟨tC, c2, hS2, up2⟩ := inv_S I2 upd_same
        have I3 := up2 (preS f i + f i) s'.toks (s'.toks + 1)
        rw [upd_upd] at I3
        refine wpAny_bind (wpAny_letGo ?_)
        refine wpAny_bind (wpAny_updateSeq hS2 rfl (wpAny_pure ⟨plainId_quiet F.plain_sum_loop _, ih (i + 1) _ 2 (.inr rfl) (by omega) hlt (mid _ _ rfl I3 (fun b hb o e => ?_) nf w')⟩))
        exact (Heap.get?_update_other _ _ (Ne.symm (nS b hb))).trans ((Heap.get?_update_other _ _ (Ne.symm (nS b hb))).trans e)
    · show wpAny _ A.in1 ((holding [Value.int (f i) t] (binaryOp .Add (.int (preS f i) tA) (.int (f i) t))).attempt >>= _) _ _ _
      refine wpAny_bind (wpAny_attempt (wpAny_holding (wpAny_add_int ?_)))
      show wpAny _ A.in1 (updateSeq S (fun _ => #[.int (preS f i + f i) s'.toks]) >>= _) _ _ _
      refine wpAny_bind (wpAny_updateSeq hS' rfl ?_)
      have I2 := up1 (preS f i + f i) s'.toks (s'.toks + 1)
      obtain ⟨tC, c2, hS2, up2⟩ := inv_S I2 upd_same
      have I3 := up2 (preS f i + f i) s'.toks (s'.toks + 1)
      rw [upd_upd] at I3
      refine wpAny_bind (wpAny_letGo ?_)
      refine wpAny_bind (wpAny_updateSeq hS2 rfl (wpAny_pure ⟨plainId_quiet F.plain_sum_loop _, ih (i + 1) _ 2 (.inr rfl) (by omega) hlt (mid _ _ rfl I3 (fun b hb o e => ?_) nf w')⟩))
      exact (Heap.get?_update_other _ _ (Ne.symm (nS b hb))).trans ((Heap.get?_update_other _ _ (Ne.symm (nS b hb))).trans e)

theorem pe_sumG {c P : Addr} {elt tg iter : Expr} {p pos gpos : Pos} {scope : Scope} {own : List (Str × Nat)} {k : Nat} {wi : TI} {g : TG} {te : TE}
    (hr : Room (k + 1) X.A) (hc : X.calm = true) (hN : X.N.Nodup) (hgl : Gl X "sum") (hm : X.mg "sum" = none) (TB : GxR.TabB X.base X.mg c P) (hcode : X.env.code = .ref c) (ok : GxOk X.N X.env.scope scope own) (hi : PI X tg iter wi)
    (hg : ∀ (A : Around) (s : Shared) (H : Hp) (code : Value) (fp : List Addr) (pn : List (Addr × Obj)), PG (gcx X A s H (genEnv scope (clo X scope) s.heap.objs.size code builtinsNs X.env) fp pn) tg g)
    (he : ∀ (A : Around) (s : Shared) (H : Hp) (code : Value) (fp : List Addr) (pn : List (Addr × Obj)), Room k A → PE (gcx X A s H (genEnv scope (clo X scope) s.heap.objs.size code builtinsNs X.env) fp pn) elt te)
    (hs : ∀ v, genFold iter X.env v = pure v := by intro _; rfl)
    (hst : starEach [.GeneratorExp elt [⟨tg, iter, [], 0⟩] scope gpos] X.env = (false, eval (.GeneratorExp elt [⟨tg, iter, [], 0⟩] scope gpos) X.env) :: starEach [] X.env := by rfl) :
    PE X (.Call (.Name "sum" p) [.GeneratorExp elt [⟨tg, iter, [], 0⟩] scope gpos] [] pos) (tSumG P wi g te (own.map (·.2))) := by
  refine ⟨fun pins s σ H Q I h => ?_⟩
  refine wpAny_Call_Name_kw (ld_blt I hgl hm boot_sum ?_)
  refine PyProof.Rows.callWith_builtin1 ?_ hst (by rfl)
  rw [hst]
  show wpAny _ _ (spliced ((false, eval (.GeneratorExp elt [⟨tg, iter, [], 0⟩] scope gpos) X.env) :: backTo pos (starEach [] X.env))) _ _ s
  refine Calls.spliced_cons (gen_make hr hc hN TB hcode ok hi hg he hs I h fun J H1 H2 a s5 hR hT hrdy => ?_)
  refine Calls.spliced_nil ?_
  obtain ⟨Z, tg', go, gn, fp, it, tn, hp, hw, hK, T, hpn, hgo, I5, n5, back, mk⟩ := hrdy
  have hSn : H2 s5.heap.objs.size = none := I5.hok.fresh (Nat.le_refl _)
  obtain ⟨N, f, W, Vv, w0, ht, hstop, hW, hV, hQ⟩ := hR H2 hT s5.heap.objs.size hSn
  rw [← hp, ← hw, ← hK] at T
  refine call_function_tree F.kind_sum F.plain_sum F.entry_sum (F.args_sum1 _) ?_
  unfold Builtin.«sum»
  simp only [List.length_cons, List.length_nil]
  rw [if_neg (by decide)]
  refine wpAny_bind (wpAny_of_eq (show Builtin.Builtins.bindParams "sum" ["start"] 0 { } = pure [none] from rfl) ?_)
  have hG := hgo s5.heap (I5.pin (a, go) (List.mem_append_left _ hpn)).1
  refine wpAny_bind (wpAny_pyIter_gen hG ?_)
  refine wpAny_bind (wpAny_mkInt ?_)
  refine wpAny_bind (wpAny_pure ?_)
  simp only [List.forIn_cons, List.forIn_nil]
  refine wpAny_bind (wpAny_bind (wpAny_bind (wpAny_isInstance (T := "int") (b := false) (typeIs_int _ _ _) PySem.sub_int_str ?_)))
  simp only [Bool.false_eq_true, if_false]
  refine wpAny_pure (wpAny_bind (wpAny_bind (wpAny_isInstance (T := "int") (b := false) (typeIs_int _ _ _) sub_int_bytes ?_)))
  simp only [Bool.false_eq_true, if_false]
  refine wpAny_pure (wpAny_bind (wpAny_bind (wpAny_isInstance (T := "int") (b := false) (typeIs_int _ _ _) sub_int_bytearray ?_)))
  simp only [Bool.false_eq_true, if_false]
  refine wpAny_pure (wpAny_pure ?_)
  refine wpAny_bind (wpAny_newObj_type ?_)
  have I6 : Inv Z [] (wipe σ (own.map (·.2))) (upd H2 s5.heap.objs.size (.lst [.int 0])) { s5 with heap := s5.heap.push { cls := .type "list", data := .seq #[Value.int 0 s5.toks] }, toks := s5.toks + 1 } :=
    I5.laid (fun b o e => Heap.get?_push_of_some _ e) (Nat.le_refl _) ⟨by show 1 ≤ sizeLine; decide, [.int 0 s5.toks], 0, .cons ⟨_, rfl⟩ .nil, Heap.get?_push_size _ rfl⟩
  have nS : ∀ b ∈ fp, (upd H2 s5.heap.objs.size (.lst [.int 0])) b = none := fun b hb => by
    have q := n5 b hb
    rw [upd_ne (Nat.ne_of_lt q.2)]
    exact q.1
  have st := mk N (fun i => .int (f i)) W Vv ht hstop { s5 with heap := s5.heap.push { cls := .type "list", data := .seq #[Value.int 0 s5.toks] }, toks := s5.toks + 1 } (upd H2 s5.heap.objs.size (.lst [.int 0])) rfl I6 (fun b hb o e => Heap.get?_push_of_some _ e) nS w0
  have lp := sum_loop (A := X.A) (S := s5.heap.objs.size) (R := fun r s' => ∃ v, r = .ok (.ret v) ∧ EP X pins σ Q v s') T hpn hgo hr.hd hr.depth hW hV (fun s' H t w I' => ⟨_, rfl, .int _, H, back H s' I', ⟨t, rfl⟩, hQ H w⟩) N 0 _ 0 (.inl rfl) (Nat.sub_zero _) (Nat.zero_le _) st
  rw [hp, hw] at lp
  refine wpAny_pure ⟨plainId_quiet F.plain_sum_loop _, codeAny_mono lp fun r s' ⟨v, e, q⟩ => ?_⟩
  subst e
  exact q
end
end GE
/-! generator expressions over data; isinstance; chains -/
namespace DL
open PySem PySem.Spec PyProof.Rows L2 DA
section
variable {c : DC} {ρ : DEnv} {te ta tb tc : TE}
theorem keep_tabbed {P : Addr} {H H' : Hp} (hP : P ∈ c.T) (t : GxR.Tabbed P H H') : Keep c.T H H' := .tabbed hP t
theorem range_allD (g : PD → Bool) (ds : List PD) : (List.range ds.length).all (fun i => g (ds[i]?.getD .none)) = ds.all g := by
  rw [Bool.eq_iff_iff, List.all_eq_true, List.all_eq_true]
  constructor
  · intro h d hd
    obtain ⟨i, hi, e⟩ := List.getElem_of_mem hd
    have := h i (List.mem_range.mpr hi)
    rw [List.getElem?_eq_getElem hi, e] at this
    exact this
  · intro h i hi
    have hi := List.mem_range.mp hi
    rw [List.getElem?_eq_getElem hi]
    exact h _ (List.getElem_mem hi)
/-- all(b for x in it) -/
theorem ed_allG {P : Addr} {wi : TI} {g : TG} {vs js : List Nat} {ds : List PD} (b : PD → Bool) (hP : P ∈ c.T) (hi : ID c wi ρ ds) (hj : ∀ j ∈ js, j ∈ vs)
    (hs : ∀ d ∈ ds, ∀ H0, Keep c.T c.H0 H0 → ∃ ps, TGd ⟨c.K, c.T, c.M, H0⟩ g js d ps ∧ ED ⟨c.K, c.T, c.M, H0⟩ te (setDs (wipeD ρ vs) js ps) (.bool (b d))) : ED c (GE.tAllG P wi g te vs) ρ (.bool (ds.all b)) := fun A σ H r Q q => hi A σ H r _ fun J H1 k1 W => by
  have r1 := r.move k1
  refine ⟨r1.tabs P hP, fun H2 tb => ?_⟩
  have k2 : Keep c.T H1 H2 := .tabbed hP tb
  have ru : SR (c.up A H1) A σ H2 ρ := r1.up.move k2
  refine ⟨ds.length, fun i => b (ds[i]?.getD .none), fun i H3 => SR (c.up A H1) A σ H3 ρ ∧ Keep c.T H1 H3, ⟨ru, k2⟩, fun i H3 hi' k => ⟨W.go i A σ H3 ρ k.1 hi', fun x H4 y => ?_⟩, fun H3 k => W.stop _ A σ H3 ρ k.1 (Nat.le_refl _), fun i H3 _ k => ?_⟩
  · have hdi : ds[i]? = some ds[i] := List.getElem?_eq_getElem hi'
    obtain ⟨k3, hx⟩ := W.yld i A σ H3 ρ x H4 k.1 y ds[i] hdi
    obtain ⟨ps, hg, he⟩ := hs ds[i] (List.getElem_mem hi') (hid A H1) r1.ground
    have r4 := k.1.move k3
    have rw4 := r4.wipe vs
    refine hg.run _ _ H4 _ x rw4 hx _ fun zs h2 _ => ⟨by rw [wipe_setVs hj, wipe_wipe (fun _ h => h)], ?_⟩
    refine he A _ H4 (rw4.setVs h2) _ fun v H5 k5 h5 => ⟨?_, r4.move k5, (k.2.trans k3).trans k5⟩
    rw [dp_bool h5]
    show V.bl (b ds[i]) = V.bl (b (ds[i]?.getD .none))
    rw [hdi]
    rfl
  · rw [range_allD]
    exact q _ H3 (k1.trans k.2) (.bl _)
theorem preS_sumD (g : PD → Int) (ds : List PD) : GE.preS (fun i => g (ds[i]?.getD .none)) ds.length = (ds.map g).sum := by
  have key : ∀ n, n ≤ ds.length → GE.preS (fun i => g (ds[i]?.getD .none)) n = ((ds.take n).map g).sum := by
    intro n
    induction n with
    | zero => intro _; rfl
    | succ n ih =>
      intro h
      have e : ds.take (n + 1) = ds.take n ++ [ds[n]] := by rw [List.take_succ, List.getElem?_eq_getElem (by omega)]; rfl
      show GE.preS _ n + g (ds[n]?.getD .none) = _
      rw [ih (by omega), e, List.map_append, List.sum_append, List.getElem?_eq_getElem (by omega)]
      simp
  rw [key _ (Nat.le_refl _), List.take_length]
/-- sum(f for x in it) -/
theorem ed_sumG {P : Addr} {wi : TI} {g : TG} {vs js : List Nat} {ds : List PD} (f : PD → Int) (hP : P ∈ c.T) (hi : ID c wi ρ ds) (hj : ∀ j ∈ js, j ∈ vs)
    (hs : ∀ d ∈ ds, ∀ H0, Keep c.T c.H0 H0 → ∃ ps, TGd ⟨c.K, c.T, c.M, H0⟩ g js d ps ∧ ED ⟨c.K, c.T, c.M, H0⟩ te (setDs (wipeD ρ vs) js ps) (.int (f d))) : ED c (GE.tSumG P wi g te vs) ρ (.int (ds.map f).sum) := fun A σ H r Q q => hi A σ H r _ fun J H1 k1 W => by
  have r1 := r.move k1
  refine ⟨r1.tabs P hP, fun H2 tb D hD => ?_⟩
  have k2 : Keep c.T H1 H2 := .tabbed hP tb
  have hD1 : H1 D = none := k2.free r1.tabs hD
  have nD : ∀ {H3 : Hp} {xs : List V}, Keep c.T H1 H3 → H3 D = some (.lst xs) → ∀ {ys}, Keep c.T H1 (upd H3 D (.lst ys)) := fun {H3 xs} k _ {ys} => k.own r1.tabs hD1
  have DT : ∀ {H3 : Hp} {xs : List V}, Keep c.T H1 H3 → H3 D = some (.lst xs) → D ∉ c.T := fun {H3 xs} k e m => by
    obtain ⟨ps, e', _⟩ := (k.tabs r1.tabs) D m
    rw [e] at e'; cases e'
  refine ⟨ds.length, fun i => f (ds[i]?.getD .none), fun i H3 => Keep c.T H1 H3 ∧ H3 D = some (.lst [.int (GE.preS (fun i => f (ds[i]?.getD .none)) i)]), fun i H3 => Keep c.T H1 H3 ∧ H3 D = some (.lst [.int (GE.preS (fun i => f (ds[i]?.getD .none)) i)]), ⟨k2.own r1.tabs hD1, upd_same⟩, fun i H3 hi' k => ⟨W.go i A σ H3 ρ (r1.up.move k.1) hi', fun x H4 y => ?_⟩, fun H3 k => W.stop _ A σ H3 ρ (r1.up.move k.1) (Nat.le_refl _), fun i H3 _ k => k.2, fun i H3 hi' k => ⟨k.2, k.1.own r1.tabs hD1, upd_same⟩, fun H3 k => ?_⟩
  · have hdi : ds[i]? = some ds[i] := List.getElem?_eq_getElem hi'
    have r3 : SR (c.up A H1) A σ H3 ρ := r1.up.move k.1
    obtain ⟨k3, hx⟩ := W.yld i A σ H3 ρ x H4 r3 y ds[i] hdi
    obtain ⟨ps, hg, he⟩ := hs ds[i] (List.getElem_mem hi') (hid A H1) r1.ground
    have r4 := r3.move k3
    have rw4 := r4.wipe vs
    refine hg.run _ _ H4 _ x rw4 hx _ fun zs h2 _ => ⟨by rw [wipe_setVs hj, wipe_wipe (fun _ h => h)], ?_⟩
    refine he A _ H4 (rw4.setVs h2) _ fun v H5 k5 h5 => ⟨?_, (k.1.trans k3).trans k5, ?_⟩
    · rw [dp_int h5]
      show V.int (f ds[i]) = V.int (f (ds[i]?.getD .none))
      rw [hdi]
      rfl
    · have d3 := DT k.1 k.2
      exact k5.at_ _ _ (k3.at_ _ _ k.2 d3) d3
  · rw [preS_sumD]
    exact q _ H3 (k1.trans k.1) (.int _)
/-- isinstance(x, T) -/
theorem ed_isi {d : PD} {T : String} {r : Bool} (h : ED c ta ρ d) (hk : ∀ v H, Dp c.K H v d → PySem.W.kitOne c.K (.type (clsD d)) (.type T) = some r) : ED c (tCB (rIsi c.K) (tCons ta (tCons (tC (.ty T)) tNil))) ρ (.bool r) := fun A σ H s Q q => h A σ H s _ fun v H1 k1 h1 => by
  have h2 := dp_same (hid_same (M := c.M ++ A)) h1
  exact ⟨v, .ty T, _, _, r, rfl, .ty _, dp_ty h2, hk v H1 h2, q _ H1 k1 (.bl _)⟩
theorem ed_isiList {d : PD} (h : ED c ta ρ d) : ED c (tCB (rIsi c.K) (tCons ta (tCons (tC (.ty "list")) tNil))) ρ (.bool (isList d)) := ed_isi h fun v H h => kit_list h
theorem ed_isiTup {d : PD} (h : ED c ta ρ d) : ED c (tCB (rIsi c.K) (tCons ta (tCons (tC (.ty "tuple")) tNil))) ρ (.bool (isTup d)) := ed_isi h fun v H h => kit_tup h
theorem ed_isiInt {d : PD} (h : ED c ta ρ d) : ED c (tCB (rIsi c.K) (tCons ta (tCons (tC (.ty "int")) tNil))) ρ (.bool (isInt d)) := ed_isi h fun v H h => kit_int h
theorem ed_isiBool {d : PD} (h : ED c ta ρ d) : ED c (tCB (rIsi c.K) (tCons ta (tCons (tC (.ty "bool")) tNil))) ρ (.bool (isBool d)) := ed_isi h fun v H h => kit_bool h
theorem ed_isiStr {d : PD} (h : ED c ta ρ d) : ED c (tCB (rIsi c.K) (tCons ta (tCons (tC (.ty "str")) tNil))) ρ (.bool (isStr d)) := ed_isi h fun v H h => kit_str h
/-- a <= b <= c of ints -/
theorem et_chain {p p' : Int → Int → Bool} {i j k : Int} (ha : ED c ta ρ (.int i)) (hb : ED c tb ρ (.int j)) (hc : ED c tc ρ (.int k)) : ET c (tTest (tChain (rI0 fun a b => .bl (p a b)) (rI0 fun a b => .bl (p' a b)) ta tb tc)) ρ (p i j && p' j k) := fun A σ H r Q q =>
  ha A σ H r _ fun v H1 k1 h1 => hb A σ H1 (r.move k1) _ fun u H2 k2 h2 => ⟨i, j, dp_int h1, dp_int h2, p i j, rfl, by
    cases e : p i j with
    | false =>
      rw [e] at q
      show ∃ k, V.bl false = V.bl k ∧ Q k H2
      exact ⟨_, rfl, q H2 (k1.trans k2)⟩
    | true =>
      rw [e, Bool.true_and] at q
      show tc σ H2 _
      exact hc A σ H2 ((r.move k1).move k2) _ fun w H3 k3 h3 => ⟨j, k, dp_int h2, dp_int h3, _, rfl, q H3 ((k1.trans k2).trans k3)⟩⟩
theorem ed_chain {p p' : Int → Int → Bool} {i j k : Int} (ha : ED c ta ρ (.int i)) (hb : ED c tb ρ (.int j)) (hc : ED c tc ρ (.int k)) : ED c (tChain (rI0 fun a b => .bl (p a b)) (rI0 fun a b => .bl (p' a b)) ta tb tc) ρ (.bool (p i j && p' j k)) := fun A σ H r Q q =>
  ha A σ H r _ fun v H1 k1 h1 => hb A σ H1 (r.move k1) _ fun u H2 k2 h2 => ⟨i, j, dp_int h1, dp_int h2, p i j, rfl, by
    cases e : p i j with
    | false =>
      rw [e] at q
      exact q _ H2 (k1.trans k2) (.bl _)
    | true =>
      rw [e, Bool.true_and] at q
      show tc σ H2 _
      exact hc A σ H2 ((r.move k1).move k2) _ fun w H3 k3 h3 => ⟨j, k, dp_int h2, dp_int h3, q _ H3 ((k1.trans k2).trans k3) (.bl _)⟩⟩
end
end DL
namespace K11
open PySem PySem.Spec PyProof.Rows L2 DA
def top (i : Nat) : Stmt := PySem.Challenge.pw_processturns_k02_whole_queues.main.body.getD i (.Pass ⟨0, 0, 0, 0⟩)
/-- the built-ins' names are the built-ins' -/
structure Glob (mg : Str → Option Value) : Prop where
  isi : mg "isinstance" = none
  int : mg "int" = none
  bool : mg "bool" = none
  tuple : mg "tuple" = none
  list : mg "list" = none
  str : mg "str" = none
  len : mg "len" = none
  all : mg "all" = none
  sum : mg "sum" = none
  set : mg "set" = none
  sorted : mg "sorted" = none
  max : mg "max" = none
  range : mg "range" = none
abbrev sNum : Stmt := top 9
theorem scNum : FnScope ["value", "least", "greatest"] ["value", "least", "greatest"] (defScope sNum) := ⟨rfl, rfl, rfl, by decide +kernel, rfl, by decide +kernel, by decide +kernel⟩
def numD (d : PD) (lo hi : Int) : Bool := match d with | .int i => decide (lo ≤ i) && decide (i ≤ hi) | _ => false
def spNum (K : PySem.W.Frag) : Sp := fun vs H Q _ => ∃ v d lo hi, vs = [v, .int lo, .int hi] ∧ Dp K H v d ∧ Q (.bl (numD d lo hi)) H
section
variable {P : Program} {w : World} {K : PySem.W.Frag} {mg : Str → Option Value} {base : Heap} {f : Addr} {fd : FuncData}
theorem ok_num (F : Fun K "is_number" "is_number" sNum f fd) (G : Glob mg) : FnOk P w K mg base CX0 1 f fd ["value", "least", "greatest"] (spNum K) := by
  refine F.ok scNum (fun vs H Q E h => ?_) (fun cdv A outer s H vs Q E hr h => ?_)
  · obtain ⟨v, d, lo, hi, rfl, _⟩ := h
    rfl
  · obtain ⟨v, d, lo, hi, rfl, hv, q⟩ := h
    refine ⟨_, pss_cons (ps_if (PW.pt (pw_or (pt_not (pt_val (pe_callB call_isi (by rfl) G.isi boot_isinstance (pa_cons (pv 0) (pa_cons (pe_bltn (v := .ty "int") (by rfl) G.int (by decide +kernel) rfl) pa_nil)))))
        (pw_or1 (pt_val (pe_callB call_isi (by rfl) G.isi boot_isinstance (pa_cons (pv 0) (pa_cons (pe_bltn (v := .ty "bool") (by rfl) G.bool (by decide +kernel) rfl) pa_nil))))))) (pss_one (ps_ret pe_bl)) pss_nil)
      (pss_one (ps_ret (pe_chain op_le op_le (pv 1) (pv 0) (pv 2)))), ?_⟩
    refine ⟨v, rfl, v, .ty "int", _, _, _, rfl, .ty _, dp_ty hv, kit_int hv, _, rfl, ?_⟩
    cases hv with
    | int i =>
      refine iteF ?_
      refine ⟨_, rfl, _, .ty "bool", _, _, _, rfl, .ty _, dp_ty (.int i), kit_bool (H := H) (.int i), _, rfl, ?_⟩
      refine iteF ?_
      refine ⟨_, rfl, _, rfl, lo, i, rfl, rfl, _, rfl, ?_⟩
      by_cases h1 : lo ≤ i
      · rw [decide_eq_true h1]
        refine ⟨_, rfl, i, hi, rfl, rfl, ?_⟩
        have e : numD (.int i) lo hi = decide (i ≤ hi) := by simp [numD, h1]
        show Q (.bl (decide (i ≤ hi))) H
        rw [← e]; exact q
      · rw [decide_eq_false h1]
        have e : numD (.int i) lo hi = false := by simp [numD, h1]
        refine iteF ?_
        show Q (.bl false) H
        rw [← e]; exact q
    | bl b =>
      refine iteF ?_
      refine ⟨_, rfl, _, .ty "bool", _, _, _, rfl, .ty _, dp_ty (.bl b), kit_bool (H := H) (.bl b), _, rfl, ?_⟩
      exact q
    | non => exact q
    | str x => exact q
    | lst h a => exact q
    | tup h a => exact q

/-! ### is_deed -/
abbrev sDeed : Stmt := top 49
theorem scDeed : FnScope ["value", "kind", "number"] ["value"] (defScope sDeed) := ⟨rfl, rfl, rfl, by decide +kernel, rfl, by decide +kernel, by decide +kernel⟩
def kin (k a b : Str) : Bool := inV (.str k) [.str a, .str b]
def deedD (d : PD) : Bool := match d with | .tuple [.str k, n] => if kin k "work" "sleep" = true then numD n 1 99 else (kin k "take" "give" && numD n 0 1) | _ => false
theorem deedD_len {ds : List PD} (h : ds.length ≠ 2) : deedD (.tuple ds) = false := by
  unfold deedD
  split
  · next k n e =>
    cases e
    exact absurd rfl h
  · rfl
theorem dp_new {K : PySem.W.Frag} {H : Hp} {v : V} {d : PD} {p : Addr} {o : HO} (np : H p = none) (h : Dp K H v d) : Dp K (upd H p o) v d := dp_keep (T := []) (.new np) (fun _ h => nomatch h) h
theorem dp_same {K : PySem.W.Frag} {H H1 : Hp} {v : V} {d : PD} (s : Same H H1) (h : Dp K H v d) : Dp K H1 v d := dp_keep (T := []) (.same s) (fun _ h => nomatch h) h
def spDeed (K : PySem.W.Frag) : Sp := fun vs H Q _ => ∃ v d, vs = [v] ∧ Dp K H v d ∧ ∀ H', Same H H' → Q (.bl (deedD d)) H'
theorem r_isi {K : PySem.W.Frag} {H : Hp} {v : V} {d : PD} {T : String} {r : Bool} {Q : VK} (h : Dp K H v d) (hk : PySem.W.kitOne K (.type (clsD d)) (.type T) = some r) (q : Q (.bl r) H) : rIsi K [v, .ty T] H Q := ⟨v, .ty T, _, _, r, rfl, .ty _, dp_ty h, hk, q⟩
theorem ok_deed {fN : Addr} {fdN : FuncData} {t99 : Tok} (F : Fun K "is_deed" "is_deed" sDeed f fd) (G : Glob mg) (FN : Fun K "is_number" "is_number" sNum fN fdN) (bN : Binds K fdN ["value", "least", "greatest"] []) (gN : mg "is_number" = some (.ref fN)) (gU : mg "MOST_UNITS_programs" = some (.int 99 t99)) :
    FnOk P w K mg base CX0 2 f fd ["value"] (spDeed K) := by
  have GN : FnOk P w K mg base CX0 1 fN fdN ["value", "least", "greatest"] (spNum K) := ok_num FN G
  refine F.ok scDeed (fun vs H Q E h => ?_) (fun cdv A outer s H vs Q E hr h => ?_)
  · obtain ⟨v, d, rfl, _⟩ := h
    rfl
  · obtain ⟨v, d, rfl, hv, q⟩ := h
    refine ⟨_, pss_cons (ps_if (PW.pt (pw_or (pt_not (pt_val (pe_callB call_isi (by rfl) G.isi boot_isinstance (pa_cons (pv 0) (pa_cons (pe_bltn (v := .ty "tuple") (by rfl) G.tuple (by decide +kernel) rfl) pa_nil)))))
        (pw_or1 (pt_cmpR op_ne (pe_callB call_len (by rfl) G.len PySem.boot_len (pa_cons (pv 0) pa_nil)) pe_int (nomark _))))) (pss_one (ps_ret pe_bl)) pss_nil)
      (pss_cons (ps_asg (pv 0) (pg_tup (by rfl) (pgs_cons (pg_name (i := 1) scDeed.nd rfl (.inl rfl)) (pgs_cons (pg_name (i := 2) scDeed.nd rfl (.inl rfl)) pgs_nil))))
      (pss_cons (ps_if (pt_not (pt_val (pe_callB call_isi (by rfl) G.isi boot_isinstance (pa_cons (pv 1) (pa_cons (pe_bltn (v := .ty "str") (by rfl) G.str (by decide +kernel) rfl) pa_nil))))) (pss_one (ps_ret pe_bl)) pss_nil)
      (pss_cons (ps_if (pt_cmpR op_in_seq (pv 1) (pe_tup (pa_cons pe_str (pa_cons pe_str pa_nil))) (by rfl)) (pss_one (ps_ret (pe_call GN hr (by rfl) gN FN.kp bN .nil pass0 (pa_cons (pv 2) (pa_cons pe_int (pa_cons (pe_glob (v := .int 99) (by rfl) gU ⟨_, rfl⟩) pa_nil)))))) pss_nil)
      (pss_one (ps_ret (pe_and (pe_cmpR op_in_seq (pv 1) (pe_tup (pa_cons pe_str (pa_cons pe_str pa_nil))) (by rfl)) (pe_one (pe_call GN hr (by rfl) gN FN.kp bN .nil pass0 (pa_cons (pv 2) (pa_cons pe_int (pa_cons pe_int pa_nil))))))))))), ?_⟩
    refine ⟨v, rfl, v, .ty "tuple", _, _, _, rfl, .ty _, dp_ty hv, kit_tup hv, _, rfl, ?_⟩
    cases hv with
    | @tup t xs ds h a =>
      refine iteF ?_
      refine ⟨_, rfl, ⟨_, _, rfl, .inr ⟨_, h, rfl⟩, ?_⟩⟩
      refine ⟨rfl, _, rfl, ite2 (fun e => ?_) fun e => ?_⟩
      · have n2 : ds.length ≠ 2 := fun z => by
          rw [dps_len a, z] at e
          simp at e
        have e2 : deedD (.tuple ds) = false := deedD_len n2
        rw [← e2]
        exact q H (Same.refl H)
      · have n2 : xs.length = 2 := by
          by_cases z : xs.length = 2
          · exact z
          · refine absurd ?_ e
            rw [decide_eq_false (fun y => z (by have := V.int.inj y; omega))]
            rfl
        cases a with
        | nil => cases n2
        | @cons x1 xs1 d1 ds1 a1 r1 =>
          cases r1 with
          | nil => cases n2
          | @cons x2 xs2 d2 ds2 a2 r2 =>
            cases r2 with
            | cons _ _ => simp at n2
            | nil =>
              refine ⟨.ref t, rfl, t, _, rfl, h, rfl, x1, [x2], rfl, x2, [], rfl, rfl, ?_⟩
              refine ⟨x1, rfl, x1, .ty "str", _, _, _, rfl, .ty _, dp_ty a1, kit_str a1, _, rfl, ?_⟩
              cases a1 with
              | str k =>
                refine iteF ?_
                refine ⟨.str k, rfl, by show 2 ≤ sizeLine; decide, fun p np => ?_⟩
                refine ⟨p, _, rfl, .inr (.inl (.inl upd_same)), rfl, rfl, _, rfl, ite2 (fun e1 => ?_) fun e1 => ?_⟩
                · have e1 : kin k "work" "sleep" = true := e1
                  refine ⟨x2, rfl, x2, d2, 1, 99, rfl, dp_new np a2, ?_⟩
                  have e2 : deedD (.tuple [.str k, d2]) = numD d2 1 99 := by show (if kin k "work" "sleep" = true then _ else _) = _; rw [if_pos e1]
                  rw [← e2]
                  exact q _ (same_new np)
                · have e1 : ¬ kin k "work" "sleep" = true := e1
                  have e2 : deedD (.tuple [.str k, d2]) = (kin k "take" "give" && numD d2 0 1) := by show (if kin k "work" "sleep" = true then _ else _) = _; rw [if_neg e1]
                  refine ⟨.str k, rfl, by show 2 ≤ sizeLine; decide, fun p' np' => ?_⟩
                  refine ⟨p', _, rfl, .inr (.inl (.inl upd_same)), rfl, rfl, _, rfl, ite2 (fun e3 => ?_) fun e3 => ?_⟩
                  · have e3 : kin k "take" "give" = true := e3
                    refine ⟨x2, rfl, x2, d2, 0, 1, rfl, dp_new np' (dp_new np a2), ?_⟩
                    rw [e3, Bool.true_and] at e2
                    rw [← e2]
                    exact q _ ((same_new np).trans (same_new np'))
                  · have e3 : kin k "take" "give" = false := Bool.eq_false_iff.mpr e3
                    rw [e3, Bool.false_and] at e2
                    show Q (.bl false) _
                    rw [← e2]
                    exact q _ ((same_new np).trans (same_new np'))
              | _ =>
                exact q H (Same.refl H)
    | _ => exact q H (Same.refl H)

/-! ### _locks_fit -/
abbrev sFit : Stmt := top 51
theorem scFit : FnScope ["deeds", "held", "kind", "number"] ["deeds"] (defScope sFit) := ⟨rfl, rfl, rfl, by decide +kernel, rfl, by decide +kernel, by decide +kernel⟩
def fitGo : List PD → List Int → Bool
  | [], held => held.isEmpty
  | .tuple [.str k, .int n] :: r, held =>
    if k = "sleep" ∧ held ≠ [] then false else if k = "take" then (if n ∈ held then false else fitGo r (held ++ [n])) else if k = "give" then (if n ∈ held then fitGo r (held.erase n) else false) else fitGo r held
  | _ :: _, _ => false
def isPair (d : PD) : Prop := ∃ k n, d = .tuple [.str k, .int n]
theorem deedD_pair {d : PD} (h : deedD d = true) : isPair d := by
  unfold deedD at h
  split at h
  · next k n =>
    have num : ∀ {lo hi}, numD n lo hi = true → ∃ i, n = .int i := fun {lo hi} q => by
      unfold numD at q
      split at q
      · exact ⟨_, rfl⟩
      · cases q
    split at h
    · obtain ⟨i, rfl⟩ := num h
      exact ⟨k, i, rfl⟩
    · rw [Bool.and_eq_true] at h
      obtain ⟨i, rfl⟩ := num h.2
      exact ⟨k, i, rfl⟩
  · cases h
def spFit (K : PySem.W.Frag) : Sp := fun vs H Q _ => ∃ a xs ds, vs = [.ref a] ∧ SqL K H a xs ∧ DpAll K H xs ds ∧ (∀ d ∈ ds, isPair d) ∧ ds.length ≤ 1000 ∧ ∀ H', Same H H' → Q (.bl (fitGo ds [])) H'
theorem inV_ints (n : Int) : ∀ ns : List Int, inV (.int n) (ns.map V.int) = decide (n ∈ ns)
  | [] => by simp [inV]
  | m :: ns => by
    have ih := inV_ints n ns
    show (eqV (.int m) (.int n) || inV (.int n) (ns.map V.int)) = _
    rw [ih]
    show ((m == n) || _) = _
    by_cases h : m = n
    · subst h; simp
    · have h2 : ¬ n = m := fun z => h z.symm
      simp [h, h2]
theorem pair_inv {K : PySem.W.Frag} {H : Hp} {v : V} {k : Str} {n : Int} (h : Dp K H v (.tuple [.str k, .int n])) : ∃ t, v = .ref t ∧ SqT K H t [.str k, .int n] := by
  obtain ⟨t, xs, rfl, h1, h2⟩ := dp_tup h
  cases h2 with
  | cons a r =>
    cases r with
    | cons b r2 =>
      cases r2
      rw [dp_str a, dp_int b] at h1
      exact ⟨t, rfl, h1⟩
theorem flat_ints (ns : List Int) : (ns.map V.int).all flatV = true := by
  induction ns with
  | nil => rfl
  | cons n r ih => rw [List.map_cons, List.all_cons, ih]; rfl
theorem idx_first {n : Int} : ∀ (ns : List Int) (m : Nat), m < ns.idxOf n → ns[m]? ≠ some n
  | [], m, h => by simp at h
  | x :: r, 0, h => by
    intro e
    have e' : x = n := by simpa using e
    rw [e', List.idxOf_cons_self] at h
    exact absurd h (Nat.lt_irrefl _)
  | x :: r, m + 1, h => by
    have hx : ¬ x = n := fun e' => by
      rw [e', List.idxOf_cons_self] at h
      omega
    have e0 : List.idxOf n (x :: r) = List.idxOf n r + 1 := by rw [List.idxOf_cons, show (x == n) = false from beq_eq_false_iff_ne.mpr hx]; rfl
    rw [e0] at h
    have := idx_first r m (Nat.lt_of_succ_lt_succ h)
    simpa using this
theorem first_ix {ns : List Int} {n : Int} (h : n ∈ ns) : ns[ns.idxOf n]? = some n ∧ (∀ m : Nat, m < ns.idxOf n → ns[m]? ≠ some n) ∧ ns.eraseIdx (ns.idxOf n) = ns.erase n := by
  refine ⟨?_, fun m hm e => idx_first ns m hm e, ?_⟩
  · have := List.idxOf_lt_length_iff.mpr h
    rw [List.getElem?_eq_getElem this, List.getElem_idxOf]
  · exact (List.erase_eq_eraseIdx_of_idxOf rfl).symm

theorem ok_fit (F : Fun K "_locks_fit" "_locks_fit" sFit f fd) : FnOk P w K mg base CX0 1 f fd ["deeds"] (spFit K) := by
  refine F.ok scFit (fun vs H Q E h => ?_) (fun cdv A outer s H vs Q E hr h => ?_)
  · obtain ⟨a, xs, ds, rfl, _⟩ := h
    rfl
  · obtain ⟨a, xs, ds, rfl, hS, hD, hp, hlen, q⟩ := h
    refine ⟨_, pss_cons (ps_set (i := 1) scFit.nd rfl (.inl rfl) (pe_lst pa_nil))
      (pss_cons (ps_for PassesOwn.never rfl (pi_list (pv 0)) (pg_tup (by rfl) (pgs_cons (pg_name (i := 2) scFit.nd rfl (.inl rfl)) (pgs_cons (pg_name (i := 3) scFit.nd rfl (.inl rfl)) pgs_nil)))
        (pss_cons (ps_if (PW.pt (pw_and (pt_cmpR op_eq (pv 2) pe_str (nomark _)) (pw_and1 (pt_truth (pv 1) (by intro _; rfl))))) (pss_one (ps_ret pe_bl)) pss_nil)
        (pss_cons (ps_if (pt_cmpR op_eq (pv 2) pe_str (nomark _)) (pss_cons (ps_if (pt_cmpR op_in_seq (pv 3) (pv 1) (by rfl)) (pss_one (ps_ret pe_bl)) pss_nil)
            (pss_one (ps_expr (pe_bm PySem.F.plainAttrs_list PySem.F.slot_list_append PySem.F.type_list_append mt_append (pv 1) (pa_cons (pv 3) pa_nil))))) pss_nil)
        (pss_one (ps_if (pt_cmpR op_eq (pv 2) pe_str (nomark _)) (pss_cons (ps_if (pt_cmpR op_notIn_seq (pv 3) (pv 1) (by rfl)) (pss_one (ps_ret pe_bl)) pss_nil)
            (pss_one (ps_expr (pe_bm PySem.F.plainAttrs_list PySem.F.slot_list_remove PySem.F.type_list_remove mt_remove (pv 1) (pa_cons (pv 3) pa_nil))))) pss_nil)))))
      (pss_one (ps_ret (pe_notT (pv 1))))), ?_⟩
    refine ⟨Nat.zero_le _, fun h nh => ?_⟩
    have s1 : Same H (upd H h (.lst [])) := same_new nh
    have k1 : Keep [] H (upd H h (.lst [])) := .same s1
    have t0 : Tabs [] H := fun _ z => nomatch z
    refine ⟨.ref a, rfl, a, rfl, ⟨xs, k1.sqL t0 hS⟩, for_list (K := K) (a := a) (xs := xs) (fun i σ H2 => ∃ (held : List Int) (y2 y3 : Option V), σ = [some (.ref a), some (.ref h), y2, y3] ∧ Same H H2 ∧ H2 h = some (.lst (held.map V.int)) ∧ fitGo ds [] = fitGo (ds.drop i) held ∧ held.length ≤ i)
      ⟨[], none, none, rfl, s1, upd_same, rfl, Nat.le_refl _⟩ (fun i σ H2 _ ⟨_, _, _, _, sm, _⟩ => (Keep.same sm).sqL t0 hS) ?_ ?_⟩
    · rintro i x σ H2 hx ⟨held, y2, y3, rfl, sm, eh, ef, hl⟩
      obtain ⟨d, hd, hdp⟩ := dps_at hD hx
      have hi : i < ds.length := (List.getElem?_eq_some_iff.mp hd).1
      obtain ⟨k, n, rfl⟩ := hp d (List.mem_of_getElem? hd)
      obtain ⟨t, rfl, ht⟩ := pair_inv (dp_same sm hdp)
      have edrop : ds.drop i = .tuple [.str k, .int n] :: ds.drop (i + 1) := by
        rw [List.drop_eq_getElem_cons hi, (List.getElem?_eq_some_iff.mp hd).2]
      rw [edrop] at ef
      have estep : fitGo (.tuple [.str k, .int n] :: ds.drop (i + 1)) held = if k = "sleep" ∧ held ≠ [] then false else if k = "take" then (if n ∈ held then false else fitGo (ds.drop (i + 1)) (held ++ [n])) else if k = "give" then (if n ∈ held then fitGo (ds.drop (i + 1)) (held.erase n) else false) else fitGo (ds.drop (i + 1)) held := rfl
      rw [estep] at ef
      refine ⟨t, _, rfl, ht, rfl, .str k, [.int n], rfl, .int n, [], rfl, rfl, ?_⟩
      -- behind the first test
      have rest : ¬ (k = "sleep" ∧ held ≠ []) → tSeq (tIfS (tTest (tOp rEq (tVar 2) (tC (V.str "take")))) (tSeq (tIfS (tTest (tOp (rIn K false) (tVar 3) (tVar 1))) (tRet (tC (.bl false))) tNext) (tDrop (tBM K "list" rAppend (tVar 1) (tCons (tVar 3) tNil)))) tNext)
          (tIfS (tTest (tOp rEq (tVar 2) (tC (V.str "give")))) (tSeq (tIfS (tTest (tOp (rIn K true) (tVar 3) (tVar 1))) (tRet (tC (.bl false))) tNext) (tDrop (tBM K "list" rRemI (tVar 1) (tCons (tVar 3) tNil)))) tNext)
          { nx := fun σ H2 => ∃ (held : List Int) (y2 y3 : Option V), σ = [some (.ref a), some (.ref h), y2, y3] ∧ Same H H2 ∧ H2 h = some (.lst (held.map V.int)) ∧ fitGo ds [] = fitGo (ds.drop (i + 1)) held ∧ held.length ≤ i + 1, rt := Q } [some (.ref a), some (.ref h), some (.str k), some (.int n)] H2 := by
        intro hne
        rw [if_neg hne] at ef
        refine ⟨.str k, rfl, rfl, _, rfl, ite2 (fun e1 => ?_) fun e1 => ?_⟩
        · have e1 : k = "take" := V.str.inj (of_decide_eq_true e1)
          rw [if_pos e1] at ef
          refine ⟨.int n, rfl, .ref h, rfl, h, _, rfl, .inl (.of eh), rfl, flat_ints _, _, rfl, ite2 (fun e2 => ?_) fun e2 => ?_⟩
          · have e2 : inV (.int n) (held.map V.int) = true := e2
            rw [inV_ints] at e2
            rw [if_pos (of_decide_eq_true e2)] at ef
            show Q (.bl false) H2
            rw [← ef]; exact q H2 sm
          · have e2 : ¬ inV (.int n) (held.map V.int) = true := e2
            rw [inV_ints] at e2
            rw [if_neg (fun z => e2 (decide_eq_true z))] at ef
            refine ⟨.ref h, rfl, .inl ⟨rfl, _, .of eh⟩, .int n, rfl, h, _, _, rfl, rfl, eh, small1000 (by rw [List.length_map]; omega), ?_⟩
            refine ⟨.str k, rfl, rfl, _, rfl, ite2 (fun e3 => ?_) fun e3 => ?_⟩
            · have e3 : k = "give" := V.str.inj (of_decide_eq_true e3)
              rw [e1] at e3
              exact absurd e3 (by decide +kernel)
            · refine ⟨held ++ [n], _, _, rfl, fun b o e => ?_, by rw [upd_same, List.map_append]; rfl, ef, by rw [List.length_append]; exact Nat.succ_le_succ hl⟩
              rw [upd_ne (ne_of_none e nh)]
              exact sm b o e
        · have e1 : ¬ k = "take" := fun z => e1 (decide_eq_true (by rw [z]))
          rw [if_neg e1] at ef
          refine ⟨.str k, rfl, rfl, _, rfl, ite2 (fun e3 => ?_) fun e3 => ?_⟩
          · have e3 : k = "give" := V.str.inj (of_decide_eq_true e3)
            rw [if_pos e3] at ef
            refine ⟨.int n, rfl, .ref h, rfl, h, _, rfl, .inl (.of eh), rfl, flat_ints _, _, rfl, ite2 (fun e2 => ?_) fun e2 => ?_⟩
            · have e2 : (!inV (.int n) (held.map V.int)) = true := e2
              rw [inV_ints] at e2
              have e2 : ¬ n ∈ held := by simpa using e2
              rw [if_neg e2] at ef
              show Q (.bl false) H2
              rw [← ef]; exact q H2 sm
            · have e2 : ¬ (!inV (.int n) (held.map V.int)) = true := e2
              rw [inV_ints] at e2
              have e2 : n ∈ held := by simpa using e2
              rw [if_pos e2] at ef
              obtain ⟨f1, f2, f3⟩ := first_ix e2
              refine ⟨.ref h, rfl, .inl ⟨rfl, _, .of eh⟩, .int n, rfl, h, held, n, _, rfl, rfl, eh, f1, f2, ?_⟩
              rw [f3]
              refine ⟨held.erase n, _, _, rfl, fun b o e => ?_, upd_same, ef, Nat.le_trans (List.length_erase_le) (Nat.le_succ_of_le hl)⟩
              rw [upd_ne (ne_of_none e nh)]
              exact sm b o e
          · have e3 : ¬ k = "give" := fun z => e3 (decide_eq_true (by rw [z]))
            rw [if_neg e3] at ef
            exact ⟨held, _, _, rfl, sm, eh, ef, Nat.le_succ_of_le hl⟩
      refine ⟨.str k, rfl, rfl, _, rfl, ite2 (fun e1 => ?_) fun e1 => ?_⟩
      · have e1 : k = "sleep" := V.str.inj (of_decide_eq_true e1)
        refine ⟨.ref h, rfl, _, .inl ⟨_, .of eh, rfl⟩, ite2 (fun e2 => ?_) fun e2 => ?_⟩
        · have hne : held ≠ [] := fun z => by rw [z] at e2; cases e2
          rw [if_pos ⟨e1, hne⟩] at ef
          show Q (.bl false) H2
          rw [← ef]; exact q H2 sm
        · refine rest fun z => e2 ?_
          cases held with
          | nil => exact absurd rfl z.2
          | cons _ _ => rfl
      · exact rest fun z => e1 (decide_eq_true (by rw [z.1]))
    · rintro σ H2 ⟨held, y2, y3, rfl, sm, eh, ef, hl⟩
      rw [dps_len hD, List.drop_length] at ef
      refine ⟨.ref h, rfl, _, .inl ⟨_, .of eh, rfl⟩, ?_⟩
      have e3 : (!(!(held.map V.int).isEmpty)) = fitGo ds [] := by
        rw [ef]
        cases held <;> rfl
      rw [e3]
      exact q H2 sm

/-! ### is_program -/
abbrev sProg : Stmt := top 50
theorem scProg : FnScope ["value", "deed"] ["value"] (defScope sProg) := ⟨rfl, rfl, rfl, by decide +kernel, rfl, by decide +kernel, by decide +kernel⟩
def progD (d : PD) : Bool := match d with | .list ds => if 40 < ds.length then false else (ds.all deedD && fitGo ds []) | _ => false
def spProg (K : PySem.W.Frag) (T : List Addr) : Sp := fun vs H Q _ => ∃ v d, vs = [v] ∧ Dp K H v d ∧ Tabs T H ∧ ∀ H', Keep T H H' → Q (.bl (progD d)) H'
theorem range_all (g : PD → Bool) (ds : List PD) : (List.range ds.length).all (fun i => g (ds[i]?.getD .none)) = ds.all g := by
  rw [Bool.eq_iff_iff, List.all_eq_true, List.all_eq_true]
  constructor
  · intro h d hd
    obtain ⟨i, hi, e⟩ := List.getElem_of_mem hd
    have := h i (List.mem_range.mpr hi)
    rw [List.getElem?_eq_getElem hi, e] at this
    exact this
  · intro h i hi
    have hi := List.mem_range.mp hi
    rw [List.getElem?_eq_getElem hi]
    exact h _ (List.getElem_mem hi)
theorem ok_prog {c PT fD fF fN : Addr} {fdD fdF fdN : FuncData} {t40 t99 : Tok} {T : List Addr} (F : FunC K "is_program" "is_program" sProg f fd c) (TB : GxR.TabB base mg c PT) (hPT : PT ∈ T) (G : Glob mg)
    (FD : Fun K "is_deed" "is_deed" sDeed fD fdD) (bD : Binds K fdD ["value"] []) (gD : mg "is_deed" = some (.ref fD)) (FN : Fun K "is_number" "is_number" sNum fN fdN) (bN : Binds K fdN ["value", "least", "greatest"] []) (gN : mg "is_number" = some (.ref fN))
    (FF : Fun K "_locks_fit" "_locks_fit" sFit fF fdF) (bF : Binds K fdF ["deeds"] []) (gF : mg "_locks_fit" = some (.ref fF)) (gM : mg "MOST_DEEDS" = some (.int 40 t40)) (gU : mg "MOST_UNITS_programs" = some (.int 99 t99)) :
    FnOk P w K mg base CX0 4 f fd ["value"] (spProg K T) := by
  have GD : FnOk P w K mg base CX0 2 fD fdD ["value"] (spDeed K) := ok_deed FD G FN bN gN gU
  have GF : FnOk P w K mg base CX0 1 fF fdF ["deeds"] (spFit K) := ok_fit FF
  refine F.ok scProg (fun vs H Q E h => ?_) (fun A outer s H vs Q E hr h => ?_)
  · obtain ⟨v, d, rfl, _⟩ := h
    rfl
  · obtain ⟨v, d, rfl, hv, ht, q⟩ := h
    refine ⟨_, pss_cons (ps_if (PW.pt (pw_or (pt_not (pt_val (pe_callB call_isi (by rfl) G.isi boot_isinstance (pa_cons (pv 0) (pa_cons (pe_bltn (v := .ty "list") (by rfl) G.list (by decide +kernel) rfl) pa_nil)))))
        (pw_or1 (pt_cmpR op_gt (pe_callB call_len (by rfl) G.len PySem.boot_len (pa_cons (pv 0) pa_nil)) (pe_glob (v := .int 40) (by rfl) gM ⟨_, rfl⟩) (nomark _))))) (pss_one (ps_ret pe_bl)) pss_nil)
      (pss_one (ps_ret (pe_and (GE.pe_allG (k := 2) (own := [("deed", 1)]) hr rfl scProg.nd (by rfl) G.all TB rfl ⟨blkOk_by (N := ["value", "deed"]) (sc := defScope sProg) (by decide +kernel), by rfl, by decide +kernel, by rfl⟩ (pi_list (pv 0))
          (fun _ _ _ _ _ _ => pg_name (i := 1) scProg.nd rfl (Or.inl rfl)) (fun _ _ _ _ _ _ hr2 => pe_call GD hr2 (by rfl) gD FD.kp bD .nil pass0 (pa_cons (pv 1) pa_nil)))
        (pe_one (pe_call GF (hr.mono (by decide)) (by rfl) gF FF.kp bF .nil pass0 (pa_cons (pv 0) pa_nil)))))), ?_⟩
    refine ⟨v, rfl, v, .ty "list", _, _, _, rfl, .ty _, dp_ty hv, kit_list hv, _, rfl, ?_⟩
    cases hv with
    | @lst a xs ds h hD =>
      have hl := dps_len hD
      refine iteF ?_
      refine ⟨_, rfl, ⟨_, _, rfl, .inl ⟨_, h, rfl⟩, ?_⟩⟩
      refine ⟨_, _, rfl, rfl, _, rfl, ite2 (fun e => ?_) fun e => ?_⟩
      · have e : (40 : Int) < xs.length := of_decide_eq_true e
        have e2 : progD (.list ds) = false := if_pos (by omega)
        show Q (.bl false) H
        rw [← e2]; exact q H .refl
      · have e : ¬ (40 : Int) < xs.length := fun z => e (decide_eq_true z)
        have e2 : progD (.list ds) = (ds.all deedD && fitGo ds []) := if_neg (by omega)
        refine ⟨_, rfl, a, rfl, ⟨xs, h⟩, ht PT hPT, fun H2 tb => ⟨ds.length, fun i => deedD (ds[i]?.getD .none), fun _ H3 => Keep T H H3, Keep.tabbed hPT tb, fun i H3 hi k => ⟨⟨xs, xs[i]'(by omega), k.sqL ht h, by simp [hl, hi]⟩, fun x H' y => ?_⟩, fun H3 k => ⟨xs, k.sqL ht h, by omega⟩, fun i H3 _ k => ?_⟩⟩
        · obtain ⟨rfl, y⟩ := y
          have hx := y xs (k.sqL ht h)
          obtain ⟨d, hd, hdp⟩ := dps_at hD hx
          refine ⟨rfl, x, rfl, x, d, rfl, dp_keep k ht hdp, fun H4 sm => ⟨?_, k.trans (.same sm)⟩⟩
          show V.bl (deedD d) = V.bl (deedD (ds[i]?.getD .none))
          rw [hd]; rfl
        · rw [range_all]
          refine ⟨_, rfl, ite2 (fun e3 => ?_) fun e3 => ?_⟩
          · rw [e3, Bool.true_and] at e2
            refine ⟨_, rfl, a, xs, ds, rfl, k.sqL ht h, dps_keep k ht hD, fun d hd => deedD_pair (List.all_eq_true.mp e3 d hd), by omega, fun H4 sm => ?_⟩
            rw [← e2]; exact q H4 (k.trans (.same sm))
          · rw [Bool.eq_false_iff.mpr e3, Bool.false_and] at e2
            rw [← e2]; exact q H3 k
    | _ => exact q H .refl

/-! ### check_program, _units, length -/
abbrev sChk : Stmt := top 52
theorem scChk : FnScope ["value"] ["value"] (defScope sChk) := ⟨rfl, rfl, rfl, by decide +kernel, rfl, by decide +kernel, by decide +kernel⟩
def spChk (K : PySem.W.Frag) (T : List Addr) : Sp := fun vs H Q _ => ∃ v d, vs = [v] ∧ Dp K H v d ∧ Tabs T H ∧ progD d = true ∧ ∀ H', Keep T H H' → Q .non H'
theorem ok_chk {fP : Addr} {fdP : FuncData} {c : Addr} {T : List Addr} (F : Fun K "check_program" "check_program" sChk f fd) (FP : FunC K "is_program" "is_program" sProg fP fdP c) (GP : FnOk P w K mg base CX0 4 fP fdP ["value"] (spProg K T)) (bP : Binds K fdP ["value"] []) (gP : mg "is_program" = some (.ref fP)) :
    FnOk P w K mg base CX0 5 f fd ["value"] (spChk K T) := by
  refine F.ok scChk (fun vs H Q E h => ?_) (fun cdv A outer s H vs Q E hr h => ?_)
  · obtain ⟨v, d, rfl, _⟩ := h
    rfl
  · obtain ⟨v, d, rfl, hv, ht, hp, q⟩ := h
    refine ⟨_, pss_one (ps_if (pt_not (pt_val (pe_call GP hr (by rfl) gP FP.kp bP .nil pass0 (pa_cons (pv 0) pa_nil)))) (pss_one ps_never) pss_nil), ?_⟩
    refine ⟨v, rfl, v, d, rfl, hv, ht, fun H' k => ⟨_, rfl, ?_⟩⟩
    rw [hp]
    exact q H' k
abbrev sUnits : Stmt := top 54
theorem scUnits : FnScope ["deed", "kind", "number"] ["deed"] (defScope sUnits) := ⟨rfl, rfl, rfl, by decide +kernel, rfl, by decide +kernel, by decide +kernel⟩
def unitsD (d : PD) : Int := match d with | .tuple [.str k, .int n] => if k = "work" then n else 1 | _ => 1
def spUnits (K : PySem.W.Frag) : Sp := fun vs H Q _ => ∃ v d, vs = [v] ∧ Dp K H v d ∧ isPair d ∧ Q (.int (unitsD d)) H
theorem ok_units (F : Fun K "_units" "_units" sUnits f fd) : FnOk P w K mg base CX0 1 f fd ["deed"] (spUnits K) := by
  refine F.ok scUnits (fun vs H Q E h => ?_) (fun cdv A outer s H vs Q E hr h => ?_)
  · obtain ⟨v, d, rfl, _⟩ := h
    rfl
  · obtain ⟨v, d, rfl, hv, ⟨k, n, rfl⟩, q⟩ := h
    obtain ⟨t, rfl, ht⟩ := pair_inv hv
    refine ⟨_, pss_cons (ps_asg (pv 0) (pg_tup (by rfl) (pgs_cons (pg_name (i := 1) scUnits.nd rfl (.inl rfl)) (pgs_cons (pg_name (i := 2) scUnits.nd rfl (.inl rfl)) pgs_nil))))
      (pss_one (ps_ret (pe_ifExp (pt_cmpR op_eq (pv 1) pe_str (nomark _)) (pv 2) pe_int))), ?_⟩
    refine ⟨.ref t, rfl, t, _, rfl, ht, rfl, .str k, [.int n], rfl, .int n, [], rfl, rfl, ?_⟩
    refine ⟨.str k, rfl, rfl, _, rfl, ite2 (fun e => ?_) fun e => ?_⟩
    · have e : k = "work" := V.str.inj (of_decide_eq_true e)
      refine ⟨_, rfl, ?_⟩
      have e2 : unitsD (.tuple [.str k, .int n]) = n := if_pos e
      show Q (.int n) H
      rw [← e2]; exact q
    · have e : ¬ k = "work" := fun z => e (decide_eq_true (by rw [z]))
      have e2 : unitsD (.tuple [.str k, .int n]) = 1 := if_neg e
      show Q (.int 1) H
      rw [← e2]; exact q
abbrev sLen : Stmt := top 53
theorem scLen : FnScope ["program", "deed"] ["program"] (defScope sLen) := ⟨rfl, rfl, rfl, by decide +kernel, rfl, by decide +kernel, by decide +kernel⟩
def lenD (ds : List PD) : Int := (ds.map unitsD).sum + 1
theorem preS_sum (g : PD → Int) : ∀ ds : List PD, GE.preS (fun i => g (ds[i]?.getD .none)) ds.length = (ds.map g).sum := by
  intro ds
  have key : ∀ n, n ≤ ds.length → GE.preS (fun i => g (ds[i]?.getD .none)) n = ((ds.take n).map g).sum := by
    intro n
    induction n with
    | zero => intro _; rfl
    | succ n ih =>
      intro h
      have hn : n < ds.length := h
      show GE.preS _ n + g (ds[n]?.getD .none) = _
      rw [ih (Nat.le_of_lt hn), List.take_add_one, List.getElem?_eq_getElem hn, List.map_append, List.sum_append]
      show _ = _ + (g ds[n] + 0)
      rw [Int.add_zero]; rfl
  rw [key ds.length (Nat.le_refl _), List.take_length]
theorem prog_inv {d : PD} (h : progD d = true) : ∃ ds, d = .list ds ∧ ds.length ≤ 40 ∧ (∀ x ∈ ds, deedD x = true) ∧ fitGo ds [] = true := by
  unfold progD at h
  split at h
  · next ds =>
    split at h
    · cases h
    · next hn =>
      rw [Bool.and_eq_true, List.all_eq_true] at h
      exact ⟨ds, rfl, by omega, h.1, h.2⟩
  · cases h
def spLen (K : PySem.W.Frag) (T : List Addr) : Sp := fun vs H Q _ => ∃ v ds, vs = [v] ∧ Dp K H v (.list ds) ∧ Tabs T H ∧ progD (.list ds) = true ∧ ∀ H', Keep T H H' → Q (.int (lenD ds)) H'
theorem ok_len {fC fU c PL : Addr} {fdC fdU : FuncData} {T : List Addr} (F : FunC K "length" "length" sLen f fd c) (TB : GxR.TabB base mg c PL) (hPL : PL ∈ T) (G : Glob mg) (FC : Fun K "check_program" "check_program" sChk fC fdC) (GC : FnOk P w K mg base CX0 5 fC fdC ["value"] (spChk K T)) (bC : Binds K fdC ["value"] []) (gC : mg "check_program" = some (.ref fC))
    (FU : Fun K "_units" "_units" sUnits fU fdU) (bU : Binds K fdU ["deed"] []) (gU : mg "_units" = some (.ref fU)) : FnOk P w K mg base CX0 6 f fd ["program"] (spLen K T) := by
  have GU : FnOk P w K mg base CX0 1 fU fdU ["deed"] (spUnits K) := ok_units FU
  refine F.ok scLen (fun vs H Q E h => ?_) (fun A outer s H vs Q E hr h => ?_)
  · obtain ⟨v, d, rfl, _⟩ := h
    rfl
  · obtain ⟨v, ds, rfl, hv, ht, hp, q⟩ := h
    refine ⟨_, pss_cons (ps_expr (pe_call GC hr (by rfl) gC FC.kp bC .nil pass0 (pa_cons (pv 0) pa_nil)))
      (pss_one (ps_ret (pe_op op_add (GE.pe_sumG (k := 1) (own := [("deed", 1)]) (hr.mono (by decide)) rfl scLen.nd (by rfl) G.sum TB rfl ⟨blkOk_by (N := ["program", "deed"]) (sc := defScope sLen) (by decide +kernel), by rfl, by decide +kernel, by rfl⟩ (pi_list (pv 0))
          (fun _ _ _ _ _ _ => pg_name (i := 1) scLen.nd rfl (Or.inl rfl)) (fun _ _ _ _ _ _ hr2 => pe_call GU hr2 (by rfl) gU FU.kp bU .nil pass0 (pa_cons (pv 1) pa_nil))) pe_int))), ?_⟩
    obtain ⟨ds', e, _, hdd, _⟩ := prog_inv hp
    cases e
    obtain ⟨a, xs, rfl, h, hD⟩ := dp_list hv
    have hl := dps_len hD
    refine ⟨.ref a, rfl, .ref a, .list ds, rfl, hv, ht, hp, fun H1 k1 => ?_⟩
    have t1 := k1.tabs ht
    have sq : ∀ {H3}, Keep T H1 H3 → SqL K H3 a xs := fun {H3} k => (k1.trans k).sqL ht h
    refine ⟨_, rfl, a, rfl, ⟨xs, sq .refl⟩, t1 PL hPL, fun H2 tb D hD2 => ⟨ds.length, fun i => unitsD (ds[i]?.getD .none), fun i H3 => Keep T H1 H3 ∧ H3 D = some (.lst [.int (GE.preS (fun i => unitsD (ds[i]?.getD .none)) i)]),
      fun i H3 => Keep T H1 H3 ∧ H3 D = some (.lst [.int (GE.preS (fun i => unitsD (ds[i]?.getD .none)) i)]), ⟨?_, upd_same⟩, fun i H3 hi k => ⟨⟨xs, xs[i]'(by omega), sq k.1, by simp [hl, hi]⟩, fun x H' y => ?_⟩, fun H3 k => ⟨xs, sq k.1, by omega⟩, fun i H3 _ k => k.2, fun i H3 hi k => ⟨k.2, ?_, upd_same⟩, fun H3 k => ?_⟩⟩
    · exact (Keep.tabbed hPL tb).own t1 ((Keep.tabbed hPL tb).free t1 hD2)
    · obtain ⟨rfl, y⟩ := y
      have hx := y xs (sq k.1)
      obtain ⟨d, hd, hdp⟩ := dps_at hD hx
      refine ⟨rfl, x, rfl, x, d, rfl, dp_keep (k1.trans k.1) ht hdp, deedD_pair (hdd d (List.mem_of_getElem? hd)), ?_, k⟩
      show V.int (unitsD d) = V.int (unitsD (ds[i]?.getD .none))
      rw [hd]; rfl
    · exact k.1.own t1 ((Keep.tabbed hPL tb).free t1 hD2)
    · rw [preS_sum]
      exact ⟨_, _, rfl, rfl, q H3 (k1.trans k.1)⟩

/-! ### locks_used -/
end
end K11
/-! sorted(t), t a tuple of ints -/
namespace SO
open PySem PySem.Spec PyProof.Rows L2
section
variable {prog : Program} {w : World} {A : Around} {E : Value → Shared → Prop} {s : Shared} {t : Addr} {vs : List Value}
/-- the heap behind the items' own list -/
abbrev gath (h : Heap) (vs : List Value) : Heap := (h.push (seqObj "list" #[] 0)).update h.objs.size (Obj.mapSeq (· ++ vs.toArray))
theorem gather {Q : List Value → Shared → Prop} (ht : IsTup s.heap t vs.toArray) (hz : vs.length ≤ sizeLine) (h : Q vs { s with heap := gath s.heap vs }) : wpAny (model prog w) A (collect (.ref t)) Q E s := by
  obtain ⟨o, e1, e2, n, e3⟩ := id ht
  have e4 : (s.heap.push (seqObj "list" #[] 0)).get? t = some o := Heap.get?_push_of_some _ e1
  have e5 : (s.heap.push (seqObj "list" #[] 0)).get? s.heap.objs.size = some (seqObj "list" #[] 0) := Heap.get?_push_size _ rfl
  unfold collect
  refine wpAny_bind (wpAny_runValue (codeAny_builtin
    entry_proto_collect' ?_))
  show wpAny _ _ (newList [] >>= fun l => again
    (.builtin "list.__iadd__" ⟨[l, .ref t], []⟩)) _ _ s
  refine wpAny_bind (wpAny_newList (wpAny_pure
    ⟨Code.quiet_builtin _ (by decide +kernel),
      codeAny_builtin entry_list_iadd' ?_⟩))
  show wpAny _ _ (Builtin.List.listExtendWith
    (.ref s.heap.objs.size) (.ref t) (.ref s.heap.objs.size)) _ _ { s with heap := s.heap.push (seqObj "list" #[] 0) }
  unfold Builtin.List.listExtendWith
  have tt : (Value.type "tuple" == Value.type "tuple") = true := by rfl
  refine wpAny_bind (wpAny_typeOf (T := "tuple") ⟨o, e4, e2⟩ ?_)
  rw [if_pos (by rw [tt]; simp)]
  refine wpAny_bind (listItems_at e4 e3 (wpAny_bind (listItems_at (xs := #[]) (n := 0) e5 rfl ?_)))
  rw [if_neg (by simp)]
  refine wpAny_bind (listUpdate_at (xs := #[]) (n := 0) e5 rfl (wpAny_pure ?_) (Nat.zero_le _) (by
    show (#[] ++ vs.toArray).size ≤ sizeLine + 1
    simp only [Array.size_append, List.size_toArray, List.length_nil]
    omega))
  show wpAny (model prog w) A (load s.heap.objs.size >>= fun o => (match o.data with
      | .seq xs _ => pure xs.toList
      | _ => unsupported "internal:collect")) Q E { s with heap := gath s.heap vs }
  refine wpAny_bind (wpAny_load (get?_update_seq e5 _) ?_)
  show wpAny _ _ (pure ((#[] : Array Value) ++ vs.toArray).toList) Q E _
  have e6 : ((#[] : Array Value) ++ vs.toArray).toList = vs := by simp
  rw [e6]
  exact wpAny_pure h
theorem sorted_tup {ns : List Int} {Q : Value → Shared → Prop} (ht : IsTup s.heap t vs.toArray) (hI : IntsAre vs ns) (h64 : vs.length < 64)
    (h : ∀ (out : Array Value) (ms : List Int), IntsAre out.toList ms → ms.Perm ns → ms.Pairwise (· ≤ ·) → Q (.ref (s.heap.objs.size + 1)) { s with heap := sortedAll s.heap vs out }) :
    wpAny (model prog w) A (call (.builtin "sorted") [.ref t]) Q E s := by
  have hz : vs.length ≤ sizeLine := by rw [sizeLine_eq]; omega
  refine Calls.call_function_entry kind_sorted plain_sorted
    entry_sorted (args_sorted1 _) ?_
  unfold Builtin.«sorted»
  refine wpAny_bind (m := checkCount "sorted" 1 1 _) (wpAny_pure (wpAny_bind (gather ht hz (wpAny_bind (wpAny_newList ?_ hz)))))
  have e1 : (gath s.heap vs).objs.size = s.heap.objs.size + 1 := by rw [Heap.size_update, size_push']
  have e2 : ((gath s.heap vs).push (seqObj "list" vs.toArray 0)).get? (s.heap.objs.size + 1) = some (seqObj "list" vs.toArray 0) := by
    rw [← e1]
    exact Heap.get?_push_size _ rfl
  show wpAny _ _ _ _ _ { s with heap := (gath s.heap vs).push (seqObj "list" vs.toArray 0) }
  rw [e1]
  refine wpAny_bind (wpAny_holding (wpAny_call_entry slot_list_sort ⟨_, e2, rfl⟩ entry_list_sort (list_sort_tree e2 hI h64 fun out ms a1 a2 a3 =>
    ⟨_, rfl, wpAny_pure ⟨_, rfl, h out ms a1 a2 a3⟩⟩) (args_list_sort _)))
end
section
variable {X : Cx}
def rSortTup (K : PySem.W.Frag) : List V → Hp → VK → Prop := fun xs H Q => ∃ (t : Addr) (ns : List Int), xs = [V.ref t] ∧ SqT K H t (ns.map V.int) ∧ ns.length < 64 ∧
  ∀ (ms : List Int) (p : Addr), ms.Perm ns → ms.Pairwise (· ≤ ·) → H p = none → Q (.ref p) (upd H p (.lst (ms.map V.int)))
theorem cr_sortTup : CallR X (.builtin "sorted") (rSortTup X.K) := by
  intro pins s σ H xs us Q I r h
  obtain ⟨t, ns, rfl, hs, h64, q⟩ := h
  obtain ⟨its, rv, pt, _⟩ := I.tuple hs
  have hi := rv.ints
  rw [Vals.ref1 r]
  refine sorted_tup pt hi (by rw [hi.length]; exact h64) fun out ms h1 h2 h3 => ?_
  obtain ⟨ep, he⟩ := sortedAll_at s.heap its out
  have hl : (ms.map V.int).length ≤ sizeLine := by rw [List.length_map, h2.length_eq]; exact small64 h64
  have ok : ObjOk X.prog X.w H (sortedAll s.heap its out) (s.heap.objs.size + 1) (.lst (ms.map V.int)) := ⟨hl, out.toList, ep, vals_of_ints h1, he⟩
  exact ⟨.ref _, upd H (s.heap.objs.size + 1) (.lst (ms.map V.int)), I.laid (t' := s.toks) (fun _ _ => sortedAll_old) (Nat.le_succ _) ok, rfl, q ms _ h2 h3 (I.hok.fresh (Nat.le_succ _))⟩
end
end SO
namespace K13
open PySem PySem.Spec PyProof.Rows L2 DA
def top (i : Nat) : Stmt := PySem.Challenge.pw_processturns_k02_whole_queues.main.body.getD i (.Pass ⟨0, 0, 0, 0⟩)
structure Glob (mg : Str → Option Value) : Prop where
  isi : mg "isinstance" = none
  int : mg "int" = none
  bool : mg "bool" = none
  tuple : mg "tuple" = none
  list : mg "list" = none
  str : mg "str" = none
  len : mg "len" = none
  all : mg "all" = none
  any : mg "any" = none
  sorted : mg "sorted" = none
  range : mg "range" = none
/-- a def of the module, as it is called -/
structure Cal (P : Program) (w : World) (K : PySem.W.Frag) (mg : Str → Option Value) (base : Heap) (x : Str) (k : Nat) (ps : List Str) (sp : Sp) (f : Addr) (fd : FuncData) : Prop where
  g : mg x = some (.ref f)
  kp : PySem.W.keepIn K (.ref f) = true
  b : Binds K fd ps []
  ok : FnOk P w K mg base CX0 k f fd ps sp
/-! ### is_number, is_row -/
abbrev sNum : Stmt := top 9
theorem scNum : FnScope ["value", "least", "greatest"] ["value", "least", "greatest"] (defScope sNum) := ⟨rfl, rfl, rfl, by decide +kernel, rfl, by decide +kernel, by decide +kernel⟩
def numD (d : PD) (lo hi : Int) : Bool := match d with | .int i => decide (lo ≤ i) && decide (i ≤ hi) | _ => false
def spNum (K : PySem.W.Frag) : Sp := fun vs H Q _ => ∃ v d lo hi, vs = [v, .int lo, .int hi] ∧ Dp K H v d ∧ Q (.bl (numD d lo hi)) H
section
variable {P : Program} {w : World} {K : PySem.W.Frag} {mg : Str → Option Value} {base : Heap} {f : Addr} {fd : FuncData} {T : List Addr}
theorem ok_num (F : Fun K "is_number" "is_number" sNum f fd) (G : Glob mg) : FnOk P w K mg base CX0 1 f fd ["value", "least", "greatest"] (spNum K) := by
  refine F.ok scNum (fun vs H Q E h => ?_) (fun cdv A outer s H vs Q E hr h => ?_)
  · obtain ⟨v, d, lo, hi, rfl, _⟩ := h
    rfl
  · obtain ⟨v, d, lo, hi, rfl, hv, q⟩ := h
    refine ⟨_, pss_cons (ps_if (PW.pt (pw_or (pt_not (pt_val (pe_callB call_isi (by rfl) G.isi boot_isinstance (pa_cons (pv 0) (pa_cons (pe_bltn (v := .ty "int") (by rfl) G.int (by decide +kernel) rfl) pa_nil)))))
        (pw_or1 (pt_val (pe_callB call_isi (by rfl) G.isi boot_isinstance (pa_cons (pv 0) (pa_cons (pe_bltn (v := .ty "bool") (by rfl) G.bool (by decide +kernel) rfl) pa_nil))))))) (pss_one (ps_ret pe_bl)) pss_nil)
      (pss_one (ps_ret (pe_chain op_le op_le (pv 1) (pv 0) (pv 2)))), ?_⟩
    refine ⟨v, rfl, v, .ty "int", _, _, _, rfl, .ty _, dp_ty hv, kit_int hv, _, rfl, ?_⟩
    cases hv with
    | int i =>
      refine iteF ?_
      refine ⟨_, rfl, _, .ty "bool", _, _, _, rfl, .ty _, dp_ty (.int i), kit_bool (H := H) (.int i), _, rfl, ?_⟩
      refine iteF ?_
      refine ⟨_, rfl, _, rfl, lo, i, rfl, rfl, _, rfl, ?_⟩
      by_cases h1 : lo ≤ i
      · rw [decide_eq_true h1]
        refine ⟨_, rfl, i, hi, rfl, rfl, ?_⟩
        have e : numD (.int i) lo hi = decide (i ≤ hi) := by simp [numD, h1]
        show Q (.bl (decide (i ≤ hi))) H
        rw [← e]; exact q
      · rw [decide_eq_false h1]
        have e : numD (.int i) lo hi = false := by simp [numD, h1]
        refine iteF ?_
        show Q (.bl false) H
        rw [← e]; exact q
    | bl b =>
      refine iteF ?_
      refine ⟨_, rfl, _, .ty "bool", _, _, _, rfl, .ty _, dp_ty (.bl b), kit_bool (H := H) (.bl b), _, rfl, ?_⟩
      exact q
    | non => exact q
    | str x => exact q
    | lst h a => exact q
    | tup h a => exact q
abbrev sRow : Stmt := top 10
abbrev nRow : List Str := ["value", "many", "least", "greatest", "item"]
theorem scRow : FnScope nRow ["value", "many", "least", "greatest"] (defScope sRow) := ⟨rfl, rfl, rfl, by decide +kernel, rfl, by decide +kernel, by decide +kernel⟩
def rowD (d : PD) (many lo hi : Int) : Bool := match d with | .tuple ds => decide ((ds.length : Int) = many) && ds.all (fun x => numD x lo hi) | _ => false
def spRow (K : PySem.W.Frag) (T : List Addr) : Sp := fun vs H Q _ => ∃ v d many lo hi, vs = [v, .int many, .int lo, .int hi] ∧ Dp K H v d ∧ Tabs T H ∧ ∀ H', Keep T H H' → Q (.bl (rowD d many lo hi)) H'
theorem range_all (g : PD → Bool) (ds : List PD) : (List.range ds.length).all (fun i => g (ds[i]?.getD .none)) = ds.all g := by
  rw [Bool.eq_iff_iff, List.all_eq_true, List.all_eq_true]
  constructor
  · intro h d hd
    obtain ⟨i, hi, e⟩ := List.getElem_of_mem hd
    have := h i (List.mem_range.mpr hi)
    rw [List.getElem?_eq_getElem hi, e] at this
    exact this
  · intro h i hi
    have hi := List.mem_range.mp hi
    rw [List.getElem?_eq_getElem hi]
    exact h _ (List.getElem_mem hi)
theorem ok_row {c PT fN : Addr} {dN : FuncData} (F : FunC K "is_row" "is_row" sRow f fd c) (TB : GxR.TabB base mg c PT) (hPT : PT ∈ T) (G : Glob mg) (cN : Cal P w K mg base "is_number" 1 ["value", "least", "greatest"] (spNum K) fN dN) :
    FnOk P w K mg base CX0 3 f fd ["value", "many", "least", "greatest"] (spRow K T) := by
  refine F.ok scRow (fun vs H Q E h => ?_) (fun A outer s H vs Q E hr h => ?_)
  · obtain ⟨v, d, m, lo, hi, rfl, _⟩ := h
    rfl
  · obtain ⟨v, d, m, lo, hi, rfl, hv, ht, q⟩ := h
    refine ⟨_, (pss_cons (ps_if (PW.pt (pw_or (pt_not (pt_val (pe_callB call_isi (by rfl) G.isi boot_isinstance (pa_cons (pv 0) (pa_cons (pe_bltn (v := .ty "tuple") (by rfl) G.tuple (by decide +kernel) rfl) pa_nil))))) (pw_or1 (pt_cmpR op_ne (pe_callB call_len (by rfl) G.len PySem.boot_len (pa_cons (pv 0) pa_nil)) (pv 1) (nomark _))))) (pss_one (ps_ret pe_bl)) pss_nil) (pss_one (ps_ret (GE.pe_allG (k := 1) (own := [("item", 4)]) hr rfl scRow.nd (by rfl) G.all TB rfl ⟨blkOk_by (N := nRow) (sc := defScope sRow) (by decide +kernel), by rfl, by decide +kernel, by rfl⟩ (pi_tup (pv 0)) (fun _ _ _ _ _ _ => pg_name (i := 4) scRow.nd rfl (Or.inl rfl)) (fun _ _ _ _ _ _ hr2 => (pe_call cN.ok hr2 (by rfl) cN.g cN.kp cN.b .nil pass0 (pa_cons (pv 4) (pa_cons (pv 2) (pa_cons (pv 3) pa_nil))))))))), ?_⟩
    refine ⟨v, rfl, v, .ty "tuple", _, _, _, rfl, .ty _, dp_ty hv, kit_tup hv, _, rfl, ?_⟩
    cases hv with
    | @tup a xs ds h hD =>
      have hl := dps_len hD
      refine iteF ?_
      refine ⟨_, rfl, ⟨_, _, rfl, .inr ⟨_, h, rfl⟩, ?_⟩⟩
      refine ⟨.int m, rfl, rfl, _, rfl, ite2 (fun e => ?_) fun e => ?_⟩
      · have hne : ¬ (ds.length : Int) = m := fun z => by
          rw [hl, z] at e
          simp at e
        have e2 : rowD (.tuple ds) m lo hi = false := by show (decide ((ds.length : Int) = m) && _) = false; rw [decide_eq_false hne, Bool.false_and]
        show Q (.bl false) H
        rw [← e2]; exact q H .refl
      · have heq : (ds.length : Int) = m := by
          by_cases z : (ds.length : Int) = m
          · exact z
          · refine absurd ?_ e
            rw [hl, decide_eq_false (fun y => z (V.int.inj y))]
            rfl
        refine ⟨_, rfl, a, rfl, ⟨xs, h⟩, ht PT hPT, fun H2 tb => ⟨ds.length, fun i => numD (ds[i]?.getD .none) lo hi, fun _ H3 => Keep T H H3, Keep.tabbed hPT tb, fun i H3 hib k => ⟨⟨xs, xs[i]'(by omega), k.sqT ht h, by simp [hl, hib]⟩, fun x H' y => ?_⟩, fun H3 k => ⟨xs, k.sqT ht h, by omega⟩, fun i H3 _ k => ?_⟩⟩
        · obtain ⟨rfl, y⟩ := y
          have hx := y xs (k.sqT ht h)
          obtain ⟨d, hd, hdp⟩ := dps_at hD hx
          refine ⟨rfl, x, rfl, .int lo, rfl, .int hi, rfl, x, d, lo, hi, rfl, dp_keep k ht hdp, ?_, k⟩
          show V.bl (numD d lo hi) = V.bl (numD (ds[i]?.getD .none) lo hi)
          rw [hd]; rfl
        · rw [range_all (fun x => numD x lo hi)]
          have e2 : rowD (.tuple ds) m lo hi = ds.all fun x => numD x lo hi := by show (decide ((ds.length : Int) = m) && _) = _; rw [decide_eq_true heq, Bool.true_and]
          show Q (.bl _) H3
          rw [← e2]; exact q H3 k
    | _ => exact q H .refl
/-! ### _first_word -/
abbrev sFirst : Stmt := top 63
theorem scFirst : FnScope ["value"] ["value"] (defScope sFirst) := ⟨rfl, rfl, rfl, by decide +kernel, rfl, by decide +kernel, by decide +kernel⟩
theorem atI_0 (x : V) (xr : List V) : atI (x :: xr) 0 = some x := by
  unfold atI ixN
  rw [if_pos (by decide), if_pos (by rw [List.length_cons]; omega)]
  rfl
def firstD (d : PD) : Str := match d with | .tuple (.str s :: _) => s | _ => ""
def spFirst (K : PySem.W.Frag) : Sp := fun vs H Q _ => ∃ v d, vs = [v] ∧ Dp K H v d ∧ Q (.str (firstD d)) H
theorem ok_first (F : Fun K "_first_word" "_first_word" sFirst f fd) (G : Glob mg) : FnOk P w K mg base CX0 1 f fd ["value"] (spFirst K) := by
  refine F.ok scFirst (fun vs H Q E h => ?_) (fun cdv A outer s H vs Q E hr h => ?_)
  · obtain ⟨v, d, rfl, _⟩ := h
    rfl
  · obtain ⟨v, d, rfl, hv, q⟩ := h
    refine ⟨_, (pss_cons (ps_if (PW.pt (pw_or (pt_not (pt_val (pe_callB call_isi (by rfl) G.isi boot_isinstance (pa_cons (pv 0) (pa_cons (pe_bltn (v := .ty "tuple") (by rfl) G.tuple (by decide +kernel) rfl) pa_nil))))) (pw_or1 (pt_not (pt_truth (pv 0) (by intro _; rfl)))))) (pss_one (ps_ret pe_str)) pss_nil) (pss_one (ps_ret (pe_ifExp (pt_val (pe_callB call_isi (by rfl) G.isi boot_isinstance (pa_cons (pe_ix ix_tup (pv 0) pe_int (fun _ _ => rfl)) (pa_cons (pe_bltn (v := .ty "str") (by rfl) G.str (by decide +kernel) rfl) pa_nil)))) (pe_ix ix_tup (pv 0) pe_int (fun _ _ => rfl)) pe_str)))), ?_⟩
    refine ⟨v, rfl, v, .ty "tuple", _, _, _, rfl, .ty _, dp_ty hv, kit_tup hv, _, rfl, ?_⟩
    cases hv with
    | @tup a xs ds h hD =>
      refine iteF ?_
      refine ⟨.ref a, rfl, _, .inr (.inl ⟨_, h, rfl⟩), ?_⟩
      cases hD with
      | nil => exact iteT q
      | @cons x xr d dr hx hr' =>
        refine iteF ?_
        refine ⟨.ref a, rfl, a, _, 0, x, rfl, rfl, h, atI_0 x xr, x, .ty "str", _, _, _, rfl, .ty _, dp_ty hx, kit_str hx, _, rfl, ?_⟩
        cases hx with
        | str k =>
          refine iteT ?_
          exact ⟨.ref a, rfl, a, _, 0, .str k, rfl, rfl, h, atI_0 _ xr, q⟩
        | _ => exact iteF q
    | _ => exact q
/-! ### _is_order -/
abbrev sOrder : Stmt := top 64
theorem scOrder : FnScope ["value", "size"] ["value", "size"] (defScope sOrder) := ⟨rfl, rfl, rfl, by decide +kernel, rfl, by decide +kernel, by decide +kernel⟩
def intsOf : List PD → List Int
  | .int i :: r => i :: intsOf r
  | _ :: r => intsOf r
  | [] => []
def ins (x : Int) : List Int → List Int
  | [] => [x]
  | y :: r => if x ≤ y then x :: y :: r else y :: ins x r
def isort : List Int → List Int
  | [] => []
  | x :: r => ins x (isort r)
def rgI (n : Int) : List Int := List.map (fun i : Nat => (i : Int)) (List.range n.toNat)
def orderD (d : PD) (n : Int) : Bool := match d with | .tuple ds => rowD (.tuple ds) n 0 (n - 1) && decide (isort (intsOf ds) = rgI n) | _ => false
theorem ins_perm (x : Int) : ∀ l, (ins x l).Perm (x :: l)
  | [] => List.Perm.refl _
  | y :: r => by
    unfold ins
    split
    · exact List.Perm.refl _
    · exact ((ins_perm x r).cons y).trans (List.Perm.swap x y r)
theorem isort_perm : ∀ l, (isort l).Perm l
  | [] => List.Perm.refl _
  | x :: r => (ins_perm x (isort r)).trans ((isort_perm r).cons x)
theorem ins_sorted (x : Int) : ∀ l : List Int, l.Pairwise (· ≤ ·) → (ins x l).Pairwise (· ≤ ·)
  | [], _ => by unfold ins; simp
  | y :: r, h => by
    unfold ins
    rw [List.pairwise_cons] at h
    split
    · next hxy =>
      rw [List.pairwise_cons, List.pairwise_cons]
      refine ⟨fun z hz => ?_, h⟩
      rcases List.mem_cons.mp hz with e | e
      · rw [e]; exact hxy
      · exact Int.le_trans hxy (h.1 z e)
    · next hxy =>
      rw [List.pairwise_cons]
      refine ⟨fun z hz => ?_, ins_sorted x r h.2⟩
      rcases List.mem_cons.mp ((ins_perm x r).mem_iff.mp hz) with e | e
      · rw [e]; omega
      · exact h.1 z e
theorem isort_sorted : ∀ l, (isort l).Pairwise (· ≤ ·)
  | [] => List.Pairwise.nil
  | x :: r => ins_sorted x _ (isort_sorted r)
theorem sorted_unique : ∀ {a b : List Int}, a.Perm b → a.Pairwise (· ≤ ·) → b.Pairwise (· ≤ ·) → a = b
  | [], b, p, _, _ => (List.nil_perm.mp p).symm
  | x :: a, [], p, _, _ => by
    have := p.length_eq
    simp at this
  | x :: a, y :: b, p, ha, hb => by
    rw [List.pairwise_cons] at ha hb
    have h1 : y ≤ x := by
      rcases List.mem_cons.mp (p.mem_iff.mp List.mem_cons_self) with e | e
      · omega
      · exact hb.1 x e
    have h2 : x ≤ y := by
      rcases List.mem_cons.mp (p.mem_iff.mpr List.mem_cons_self) with e | e
      · omega
      · exact ha.1 y e
    have e : x = y := by omega
    subst e
    rw [sorted_unique (List.perm_cons x |>.mp p) ha.2 hb.2]
theorem nums_ints : ∀ {ds : List PD} {lo hi : Int}, (ds.all fun x => numD x lo hi) = true → ds = (intsOf ds).map .int
  | [], _, _, _ => rfl
  | d :: ds, lo, hi, h => by
    rw [List.all_cons, Bool.and_eq_true] at h
    have ih := nums_ints h.2
    cases d with
    | int i =>
      show _ = PyData.int i :: (intsOf ds).map .int
      rw [← ih]
    | _ => exact absurd h.1 (by simp [numD])
theorem eqv_ints : ∀ a b : List Int, PyData.eqv (.list (a.map .int)) (.list (b.map .int)) = decide (a = b)
  | [], [] => rfl
  | [], y :: b => rfl
  | x :: a, [] => rfl
  | x :: a, y :: b => by
    have ih := eqv_ints a b
    have e : PyData.eqv (.list ((x :: a).map .int)) (.list ((y :: b).map .int)) = ((x == y) && PyData.eqv (.list (a.map .int)) (.list (b.map .int))) := rfl
    rw [e, ih]
    by_cases h : x = y
    · subst h; simp
    · simp [h]
theorem ints_lay (ns : List Int) : PyData.canLayAll0 (ns.map PyData.int) = true := by
  induction ns with
  | nil => rfl
  | cons n r ih => simp only [List.map_cons, PyData.canLayAll0, PyData.canLay0, ih, Bool.and_self]
theorem ints_depth (ns : List Int) : PyData.depthAll (ns.map PyData.int) = 0 := by
  induction ns with
  | nil => rfl
  | cons n r ih => simp only [List.map_cons, PyData.depthAll, PyData.depth, ih, Nat.max_self]
theorem ints_shaped (ns : List Int) : SeqAt.shaped (.list (ns.map PyData.int)) = true := by
  show (PyData.canLay0 (.list (ns.map .int)) && decide (PyData.depth (.list (ns.map .int)) ≤ 64)) = true
  simp only [PyData.canLay0, PyData.depth, ints_lay, ints_depth]
  decide
theorem rgV_ints (n : Int) : rgV 0 n = (rgI n).map V.int := by
  unfold rgV rgI
  rw [List.map_map, Int.sub_zero]
  refine List.map_congr_left fun i _ => ?_
  show V.int (0 + (i : Int)) = V.int (i : Int)
  rw [Int.zero_add]
def spOrder (K : PySem.W.Frag) (T : List Addr) : Sp := fun vs H Q _ => ∃ v d n, vs = [v, .int n] ∧ Dp K H v d ∧ 1 ≤ n ∧ n ≤ 63 ∧ Tabs T H ∧ ∀ H', Keep T H H' → Q (.bl (orderD d n)) H'
theorem ok_order {fR : Addr} {dR : FuncData} (F : Fun K "_is_order" "_is_order" sOrder f fd) (G : Glob mg) (cR : Cal P w K mg base "is_row" 3 ["value", "many", "least", "greatest"] (spRow K T) fR dR) :
    FnOk P w K mg base CX0 4 f fd ["value", "size"] (spOrder K T) := by
  refine F.ok scOrder (fun vs H Q E h => ?_) (fun cdv A outer s H vs Q E hr h => ?_)
  · obtain ⟨v, d, n, rfl, _⟩ := h
    rfl
  · obtain ⟨v, d, n, rfl, hv, n1, n2, ht, q⟩ := h
    refine ⟨_, (pss_cons (ps_if (pt_not (pt_val (pe_call cR.ok hr (by rfl) cR.g cR.kp cR.b .nil pass0 (pa_cons (pv 0) (pa_cons (pv 1) (pa_cons pe_int (pa_cons (pe_op op_sub (pv 1) pe_int) pa_nil))))))) (pss_one (ps_ret pe_bl)) pss_nil) (pss_one (ps_ret (pe_cmpR (op_eqD hr.units) (pe_callB SO.cr_sortTup (by rfl) G.sorted boot_sorted (pa_cons (pv 0) pa_nil)) (pe_listRg rfl (by rfl) G.list (prg_1 (by rfl) G.range (pv 1))) (nomark _))))), ?_⟩
    refine ⟨v, rfl, .int n, rfl, .int n, rfl, n, 1, rfl, rfl, v, d, n, 0, n - 1, rfl, hv, ht, fun H1 k1 => ⟨_, rfl, ?_⟩⟩
    cases hrow : rowD d n 0 (n - 1) with
    | false =>
      have e : orderD d n = false := by
        unfold orderD
        split
        · rw [hrow, Bool.false_and]
        · rfl
      refine iteT ?_
      show Q (.bl false) H1
      rw [← e]; exact q H1 k1
    | true =>
      refine iteF ?_
      cases hv with
      | @tup a xs ds h hD =>
        have h1 : (decide ((ds.length : Int) = n) && ds.all fun x => numD x 0 (n - 1)) = true := hrow
        rw [Bool.and_eq_true] at h1
        have hlen := of_decide_eq_true h1.1
        have hints := nums_ints h1.2
        have exs : xs = (intsOf ds).map V.int := by
          rw [hints] at hD
          exact dps_ints_inv hD
        rw [exs] at h
        have hil : (intsOf ds).length = ds.length := by
          have := congrArg List.length hints
          rw [List.length_map] at this
          exact this.symm
        refine ⟨.ref a, rfl, a, intsOf ds, rfl, k1.sqT ht h, by omega, fun ms p pm pw np => ?_⟩
        refine ⟨.int n, rfl, n, rfl, RgOk.of_le (by decide) (by omega) (by decide) (by omega), fun p2 np2 => ?_⟩
        have em : ms = isort (intsOf ds) := sorted_unique (pm.trans (isort_perm _).symm) pw (isort_sorted _)
        have k2 := (k1.trans (Keep.new (T := T) (o := .lst (ms.map V.int)) np)).trans (Keep.new (T := T) (o := .lst (rgV 0 n)) np2)
        refine ⟨.list (ms.map .int), .list ((rgI n).map .int), .lst (.of (same_new np2 _ _ upd_same)) (dps_ints _), ?_, ints_shaped _, ints_shaped _, ?_⟩
        · rw [rgV_ints]
          exact .lst (.of upd_same) (dps_ints _)
        · have e : orderD (.tuple ds) n = decide (isort (intsOf ds) = rgI n) := by show (rowD (.tuple ds) n 0 (n - 1) && _) = _; rw [hrow, Bool.true_and]
          rw [eqv_ints, em, ← e]
          rw [em] at k2
          exact q _ k2
      | _ => cases hrow
end
end K13
namespace K13
open PySem PySem.Spec PyProof.Rows L2 DA
/-! ### the kinds -/
abbrev sRule : Stmt := top 65
abbrev sBare : Stmt := top 66
abbrev sByOrder : Stmt := top 67
abbrev sRounds : Stmt := top 68
abbrev sLevels : Stmt := top 69
abbrev sAge : Stmt := top 70
abbrev sLimits : Stmt := top 71
abbrev sWeights : Stmt := top 72
abbrev sSched : Stmt := top 74
abbrev nLevels : List Str := ["value", "size", "many"]
theorem scRule : FnScope ["value", "size", "word"] ["value", "size"] (defScope sRule) := ⟨rfl, rfl, rfl, by decide +kernel, rfl, by decide +kernel, by decide +kernel⟩
theorem scBare : FnScope ["value", "size"] ["value", "size"] (defScope sBare) := ⟨rfl, rfl, rfl, by decide +kernel, rfl, by decide +kernel, by decide +kernel⟩
theorem scByOrder : FnScope ["value", "size"] ["value", "size"] (defScope sByOrder) := ⟨rfl, rfl, rfl, by decide +kernel, rfl, by decide +kernel, by decide +kernel⟩
theorem scRounds : FnScope ["value", "size"] ["value", "size"] (defScope sRounds) := ⟨rfl, rfl, rfl, by decide +kernel, rfl, by decide +kernel, by decide +kernel⟩
theorem scLevels : FnScope nLevels ["value", "size"] (defScope sLevels) := ⟨rfl, rfl, rfl, by decide +kernel, rfl, by decide +kernel, by decide +kernel⟩
theorem scAge : FnScope ["value", "size"] ["value", "size"] (defScope sAge) := ⟨rfl, rfl, rfl, by decide +kernel, rfl, by decide +kernel, by decide +kernel⟩
theorem scLimits : FnScope ["value", "size"] ["value", "size"] (defScope sLimits) := ⟨rfl, rfl, rfl, by decide +kernel, rfl, by decide +kernel, by decide +kernel⟩
theorem scWeights : FnScope ["value", "size"] ["value", "size"] (defScope sWeights) := ⟨rfl, rfl, rfl, by decide +kernel, rfl, by decide +kernel, by decide +kernel⟩
theorem scSched : FnScope ["value", "size", "word", "fits"] ["value", "size"] (defScope sSched) := ⟨rfl, rfl, rfl, by decide +kernel, rfl, by decide +kernel, by decide +kernel⟩
def kin (k a b : Str) : Bool := inV (.str k) [.str a, .str b]
def topD (d : PD) (n : Int) : Bool := match d with | .tuple [_, r] => rowD r 2 0 (n - 1) | _ => false
def soleD (d : PD) : Bool := match d with | .tuple [_] => true | _ => false
def ruleD (d : PD) (n : Int) : Bool := if firstD d = "top" then topD d n else (kin (firstD d) "plain" "lent" && soleD d)
def bareM (ds : List PD) (_ : Int) : Bool := match ds with | [_] => true | _ => false
def byOrderM (ds : List PD) (n : Int) : Bool := match ds with | [_, o, t, r] => (orderD o n && numD t 0 1) && ruleD r n | _ => false
def roundsM (ds : List PD) (_ : Int) : Bool := match ds with | [_, q, l] => numD q 1 4 && numD l 0 1 | _ => false
def levelsM (ds : List PD) (_ : Int) : Bool := match ds with | [_, r, b] => numD b 0 8 && (rowD r 1 1 4 || (rowD r 2 1 4 || rowD r 3 1 4)) | _ => false
def ageM (ds : List PD) (n : Int) : Bool := match ds with | [_, o, b] => orderD o n && numD b 1 3 | _ => false
def limitsM (ds : List PD) (n : Int) : Bool := match ds with | [_, r] => rowD r n 1 6 | _ => false
def weightsM (ds : List PD) (n : Int) : Bool := match ds with | [_, r] => rowD r n 1 4 | _ => false
def spRule (K : PySem.W.Frag) (T : List Addr) : Sp := fun vs H Q _ => ∃ v d n, vs = [v, .int n] ∧ Dp K H v d ∧ Tabs T H ∧ ∀ H', Keep T H H' → Q (.bl (ruleD d n)) H'
def spKind (K : PySem.W.Frag) (T : List Addr) (mir : List PD → Int → Bool) : Sp := fun vs H Q _ => ∃ v ds n, vs = [v, .int n] ∧ Dp K H v (.tuple ds) ∧ 1 ≤ n ∧ n ≤ 4 ∧ Tabs T H ∧ ∀ H', Keep T H H' → Q (.bl (mir ds n)) H'
theorem first_tup {d : PD} (h : ¬ firstD d = "") : ∃ r, d = .tuple (.str (firstD d) :: r) := by
  unfold firstD at h ⊢
  split
  · exact ⟨_, rfl⟩
  · next hh =>
    exfalso
    apply h
    split
    · next s r => exact absurd rfl (hh s r)
    · rfl
section
variable {K : PySem.W.Frag} {H : Hp}
theorem shape1 {xs : List V} {ds : List PD} (h : DpAll K H xs ds) (e : ds.length = 1) : ∃ x0 d0, xs = [x0] ∧ ds = [d0] ∧ Dp K H x0 d0 := by
  match h with
  | .cons a .nil => exact ⟨_, _, rfl, rfl, a⟩
  | .cons _ (.cons _ _) => simp at e
theorem shape2 {xs : List V} {ds : List PD} (h : DpAll K H xs ds) (e : ds.length = 2) : ∃ x0 x1 d0 d1, xs = [x0, x1] ∧ ds = [d0, d1] ∧ Dp K H x0 d0 ∧ Dp K H x1 d1 := by
  match h with
  | .cons a r =>
    obtain ⟨x, d, rfl, rfl, b⟩ := shape1 r (by simpa using e)
    exact ⟨_, _, _, _, rfl, rfl, a, b⟩
theorem shape3 {xs : List V} {ds : List PD} (h : DpAll K H xs ds) (e : ds.length = 3) : ∃ x0 x1 x2 d0 d1 d2, xs = [x0, x1, x2] ∧ ds = [d0, d1, d2] ∧ Dp K H x0 d0 ∧ Dp K H x1 d1 ∧ Dp K H x2 d2 := by
  match h with
  | .cons a r =>
    obtain ⟨x, y, d, f, rfl, rfl, b, c⟩ := shape2 r (by simpa using e)
    exact ⟨_, _, _, _, _, _, rfl, rfl, a, b, c⟩
theorem shape4 {xs : List V} {ds : List PD} (h : DpAll K H xs ds) (e : ds.length = 4) : ∃ x0 x1 x2 x3 d0 d1 d2 d3, xs = [x0, x1, x2, x3] ∧ ds = [d0, d1, d2, d3] ∧ Dp K H x0 d0 ∧ Dp K H x1 d1 ∧ Dp K H x2 d2 ∧ Dp K H x3 d3 := by
  match h with
  | .cons a r =>
    obtain ⟨x, y, z, d, f, g, rfl, rfl, b, c, e⟩ := shape3 r (by simpa using e)
    exact ⟨_, _, _, _, _, _, _, _, rfl, rfl, a, b, c, e⟩
theorem len_ne {n : Nat} {k : Int} (e : (!decide (V.int (n : Int) = V.int k)) = true) : ¬ (n : Int) = k := fun z => by rw [z] at e; simp at e
theorem len_eq {n : Nat} {k : Int} (e : ¬ (!decide (V.int (n : Int) = V.int k)) = true) : (n : Int) = k := by
  by_cases z : (n : Int) = k
  · exact z
  · exact absurd (by rw [decide_eq_false fun y => z (V.int.inj y)]; rfl) e
theorem len_eq' {n : Nat} {k : Int} (e : decide (V.int (n : Int) = V.int k) = true) : (n : Int) = k := V.int.inj (of_decide_eq_true e)
theorem len_ne' {n : Nat} {k : Int} (e : ¬ decide (V.int (n : Int) = V.int k) = true) : ¬ (n : Int) = k := fun z => e (by rw [z]; simp)
end
section
variable {P : Program} {w : World} {K : PySem.W.Frag} {mg : Str → Option Value} {base : Heap} {f : Addr} {fd : FuncData} {T : List Addr}
variable {fN fR fF fO fU : Addr} {dN dR dF dO dU : FuncData}
theorem ok_rule (F : Fun K "_is_rule" "_is_rule" sRule f fd) (G : Glob mg) (cF : Cal P w K mg base "_first_word" 1 ["value"] (spFirst K) fF dF) (cR : Cal P w K mg base "is_row" 3 ["value", "many", "least", "greatest"] (spRow K T) fR dR) :
    FnOk P w K mg base CX0 4 f fd ["value", "size"] (spRule K T) := by
  refine F.ok scRule (fun vs H Q E h => ?_) (fun cdv A outer s H vs Q E hr h => ?_)
  · obtain ⟨v, d, n, rfl, _⟩ := h
    rfl
  · obtain ⟨v, d, n, rfl, hv, ht, q⟩ := h
    have hr1 : Room 1 _ := hr.mono (by decide)
    refine ⟨_, (pss_cons (ps_set (i := 2) scRule.nd rfl (.inl rfl) (pe_call cF.ok hr1 (by rfl) cF.g cF.kp cF.b .nil pass0 (pa_cons (pv 0) pa_nil))) (pss_cons (ps_if (pt_cmpR op_eq (pv 2) pe_str (nomark _)) (pss_one (ps_ret (pe_and (pe_cmpR op_eq (pe_callB call_len (by rfl) G.len PySem.boot_len (pa_cons (pv 0) pa_nil)) pe_int (nomark _)) (pe_one (pe_call cR.ok hr (by rfl) cR.g cR.kp cR.b .nil pass0 (pa_cons (pe_ix ix_tup (pv 0) pe_int (fun _ _ => rfl)) (pa_cons pe_int (pa_cons pe_int (pa_cons (pe_op op_sub (pv 1) pe_int) pa_nil))))))))) pss_nil) (pss_one (ps_ret (pe_and (pe_cmpR op_in_seq (pv 2) (pe_tup (pa_cons pe_str (pa_cons pe_str pa_nil))) (by rfl)) (pe_one (pe_cmpR op_eq (pe_callB call_len (by rfl) G.len PySem.boot_len (pa_cons (pv 0) pa_nil)) pe_int (nomark _)))))))), ?_⟩
    refine ⟨v, rfl, v, d, rfl, hv, .str (firstD d), rfl, rfl, _, rfl, ite2 (fun e => ?_) fun e => ?_⟩
    · have e : firstD d = "top" := V.str.inj (of_decide_eq_true e)
      obtain ⟨r, hd⟩ := first_tup (d := d) (by rw [e]; decide +kernel)
      have er : ruleD d n = topD d n := if_pos e
      rw [er] at q
      rw [hd] at hv q
      obtain ⟨a, xs, rfl, h, hD⟩ := dp_tup hv
      have hl := dps_len hD
      refine ⟨_, rfl, ⟨_, _, rfl, .inr ⟨_, h, rfl⟩, rfl, _, rfl, ite2 (fun e1 => ?_) fun e1 => ?_⟩⟩
      · have e2 := len_eq' e1
        obtain ⟨x0, x1, d0, d1, rfl, e3, hx0, hx1⟩ := shape2 hD (by omega)
        rw [e3] at q
        exact ⟨.ref a, rfl, a, _, 1, x1, rfl, rfl, h, rfl, .int n, rfl, n, 1, rfl, rfl, x1, d1, 2, 0, n - 1, rfl, hx1, ht, fun H' k => q H' k⟩
      · have e2 := len_ne' e1
        have e3 : topD (.tuple (.str (firstD d) :: r)) n = false := by
          match r, hl with
          | [], _ => rfl
          | [y], hl => exact absurd (by rw [hl]; rfl) e2
          | y :: z :: r, _ => rfl
        rw [e3] at q
        exact q H .refl
    · have e : ¬ firstD d = "top" := fun z => e (decide_eq_true (by rw [z]))
      have er : ruleD d n = (kin (firstD d) "plain" "lent" && soleD d) := if_neg e
      rw [er] at q
      refine ⟨.str (firstD d), rfl, by show 2 ≤ sizeLine; decide, fun p np => ⟨p, _, rfl, .inr (.inl (.inl upd_same)), rfl, rfl, _, rfl, ite2 (fun e1 => ?_) fun e1 => ?_⟩⟩
      · have e1 : kin (firstD d) "plain" "lent" = true := e1
        rw [e1, Bool.true_and] at q
        have hne : ¬ firstD d = "" := fun z => by rw [z] at e1; exact absurd e1 (by decide +kernel)
        obtain ⟨r, hd⟩ := first_tup hne
        rw [hd] at hv q
        obtain ⟨a, xs, rfl, h, hD⟩ := dp_tup hv
        have hl := dps_len hD
        have h2 := (Keep.new (T := T) (o := .tup [.str "plain", .str "lent"]) np).sqT ht h
        refine ⟨_, rfl, ⟨_, _, rfl, .inr ⟨_, h2, rfl⟩, rfl, ?_⟩⟩
        have e3 : soleD (.tuple (.str (firstD d) :: r)) = decide (V.int (xs.length : Int) = V.int 1) := by
          rw [hl]
          match r with
          | [] => rfl
          | y :: r =>
            show false = _
            rw [decide_eq_false fun z => by have := V.int.inj z; simp at this; omega]
        rw [e3] at q
        exact q _ (Keep.new np)
      · have e1 : kin (firstD d) "plain" "lent" = false := Bool.eq_false_iff.mpr e1
        rw [e1, Bool.false_and] at q
        exact q _ (Keep.new np)
theorem ok_bare (F : Fun K "_is_bare" "_is_bare" sBare f fd) (G : Glob mg) : FnOk P w K mg base CX0 1 f fd ["value", "size"] (spKind K T bareM) := by
  refine F.ok scBare (fun vs H Q E h => ?_) (fun cdv A outer s H vs Q E hr h => ?_)
  · obtain ⟨v, d, n, rfl, _⟩ := h
    rfl
  · obtain ⟨v, ds, n, rfl, hv, n1, n4, ht, q⟩ := h
    refine ⟨_, (pss_one (ps_ret (pe_cmpR op_eq (pe_callB call_len (by rfl) G.len PySem.boot_len (pa_cons (pv 0) pa_nil)) pe_int (nomark _)))), ?_⟩
    obtain ⟨a, xs, rfl, h, hD⟩ := dp_tup hv
    have hl := dps_len hD
    refine ⟨_, rfl, ⟨_, _, rfl, .inr ⟨_, h, rfl⟩, rfl, ?_⟩⟩
    have e3 : bareM ds n = decide (V.int (xs.length : Int) = V.int 1) := by
      rw [hl]
      match ds with
      | [] => rfl
      | [y] => rfl
      | y :: z :: r =>
        show false = _
        rw [decide_eq_false fun z => by have := V.int.inj z; simp at this; omega]
    rw [e3] at q
    exact q _ .refl
theorem ok_byOrder (F : Fun K "_is_by_order" "_is_by_order" sByOrder f fd) (G : Glob mg) (cO : Cal P w K mg base "_is_order" 4 ["value", "size"] (spOrder K T) fO dO) (cN : Cal P w K mg base "is_number" 1 ["value", "least", "greatest"] (spNum K) fN dN)
    (cU : Cal P w K mg base "_is_rule" 4 ["value", "size"] (spRule K T) fU dU) : FnOk P w K mg base CX0 5 f fd ["value", "size"] (spKind K T byOrderM) := by
  refine F.ok scByOrder (fun vs H Q E h => ?_) (fun cdv A outer s H vs Q E hr h => ?_)
  · obtain ⟨v, d, n, rfl, _⟩ := h
    rfl
  · obtain ⟨v, ds, n, rfl, hv, n1, n4, ht, q⟩ := h
    have hr1 : Room 1 _ := hr.mono (by decide)
    refine ⟨_, (pss_cons (ps_if (pt_cmpR op_ne (pe_callB call_len (by rfl) G.len PySem.boot_len (pa_cons (pv 0) pa_nil)) pe_int (nomark _)) (pss_one (ps_ret pe_bl)) pss_nil) (pss_cons (ps_if (PW.pt (pw_or (pt_not (pt_val (pe_call cO.ok hr (by rfl) cO.g cO.kp cO.b .nil pass0 (pa_cons (pe_ix ix_tup (pv 0) pe_int (fun _ _ => rfl)) (pa_cons (pv 1) pa_nil))))) (pw_or1 (pt_not (pt_val (pe_call cN.ok hr1 (by rfl) cN.g cN.kp cN.b .nil pass0 (pa_cons (pe_ix ix_tup (pv 0) pe_int (fun _ _ => rfl)) (pa_cons pe_int (pa_cons pe_int pa_nil))))))))) (pss_one (ps_ret pe_bl)) pss_nil) (pss_one (ps_ret (pe_call cU.ok hr (by rfl) cU.g cU.kp cU.b .nil pass0 (pa_cons (pe_ix ix_tup (pv 0) pe_int (fun _ _ => rfl)) (pa_cons (pv 1) pa_nil))))))), ?_⟩
    obtain ⟨a, xs, rfl, h, hD⟩ := dp_tup hv
    have hl := dps_len hD
    refine ⟨_, rfl, ⟨_, _, rfl, .inr ⟨_, h, rfl⟩, rfl, _, rfl, ite2 (fun e => ?_) fun e => ?_⟩⟩
    · have e := len_ne e
      have e3 : byOrderM ds n = false := by
        unfold byOrderM
        split
        · exact absurd (by rw [hl]; rfl) e
        · rfl
      rw [e3] at q
      exact q H .refl
    · have e := len_eq e
      obtain ⟨x0, x1, x2, x3, d0, d1, d2, d3, rfl, rfl, h0, h1, h2, h3⟩ := shape4 hD (by omega)
      have e3 : byOrderM [d0, d1, d2, d3] n = ((orderD d1 n && numD d2 0 1) && ruleD d3 n) := rfl
      rw [e3] at q
      refine ⟨.ref a, rfl, a, _, 1, x1, rfl, rfl, h, rfl, .int n, rfl, x1, d1, n, rfl, h1, n1, by omega, ht, fun H1 k1 => ⟨_, rfl, ?_⟩⟩
      cases o1 : orderD d1 n with
      | false =>
        rw [o1] at q
        exact iteT (q H1 k1)
      | true =>
        rw [o1, Bool.true_and] at q
        refine iteF ⟨.ref a, rfl, a, _, 2, x2, rfl, rfl, k1.sqT ht h, rfl, x2, d2, 0, 1, rfl, dp_keep k1 ht h2, _, rfl, ?_⟩
        cases o2 : numD d2 0 1 with
        | false =>
          rw [o2] at q
          exact iteT (q H1 k1)
        | true =>
          rw [o2, Bool.true_and] at q
          exact iteF ⟨.ref a, rfl, a, _, 3, x3, rfl, rfl, k1.sqT ht h, rfl, .int n, rfl, x3, d3, n, rfl, dp_keep k1 ht h3, k1.tabs ht, fun H2 k2 => q H2 (k1.trans k2)⟩
theorem ok_rounds (F : Fun K "_is_by_rounds" "_is_by_rounds" sRounds f fd) (G : Glob mg) (cN : Cal P w K mg base "is_number" 1 ["value", "least", "greatest"] (spNum K) fN dN) : FnOk P w K mg base CX0 2 f fd ["value", "size"] (spKind K T roundsM) := by
  refine F.ok scRounds (fun vs H Q E h => ?_) (fun cdv A outer s H vs Q E hr h => ?_)
  · obtain ⟨v, d, n, rfl, _⟩ := h
    rfl
  · obtain ⟨v, ds, n, rfl, hv, n1, n4, ht, q⟩ := h
    refine ⟨_, (pss_cons (ps_if (pt_cmpR op_ne (pe_callB call_len (by rfl) G.len PySem.boot_len (pa_cons (pv 0) pa_nil)) pe_int (nomark _)) (pss_one (ps_ret pe_bl)) pss_nil) (pss_one (ps_ret (pe_and (pe_call cN.ok hr (by rfl) cN.g cN.kp cN.b .nil pass0 (pa_cons (pe_ix ix_tup (pv 0) pe_int (fun _ _ => rfl)) (pa_cons pe_int (pa_cons pe_int pa_nil)))) (pe_one (pe_call cN.ok hr (by rfl) cN.g cN.kp cN.b .nil pass0 (pa_cons (pe_ix ix_tup (pv 0) pe_int (fun _ _ => rfl)) (pa_cons pe_int (pa_cons pe_int pa_nil))))))))), ?_⟩
    obtain ⟨a, xs, rfl, h, hD⟩ := dp_tup hv
    have hl := dps_len hD
    refine ⟨_, rfl, ⟨_, _, rfl, .inr ⟨_, h, rfl⟩, rfl, _, rfl, ite2 (fun e => ?_) fun e => ?_⟩⟩
    · have e := len_ne e
      have e3 : roundsM ds n = false := by
        unfold roundsM
        split
        · exact absurd (by rw [hl]; rfl) e
        · rfl
      rw [e3] at q
      exact q H .refl
    · have e := len_eq e
      obtain ⟨x0, x1, x2, d0, d1, d2, rfl, rfl, h0, h1, h2⟩ := shape3 hD (by omega)
      have e3 : roundsM [d0, d1, d2] n = (numD d1 1 4 && numD d2 0 1) := rfl
      rw [e3] at q
      refine ⟨.ref a, rfl, a, _, 1, x1, rfl, rfl, h, rfl, x1, d1, 1, 4, rfl, h1, _, rfl, ?_⟩
      cases o1 : numD d1 1 4 with
      | false =>
        rw [o1] at q
        exact iteF (q H .refl)
      | true =>
        rw [o1, Bool.true_and] at q
        exact iteT ⟨.ref a, rfl, a, _, 2, x2, rfl, rfl, h, rfl, x2, d2, 0, 1, rfl, h2, q H .refl⟩
theorem ok_levels {c PT : Addr} (F : FunC K "_is_by_levels" "_is_by_levels" sLevels f fd c) (TB : GxR.TabB base mg c PT) (hPT : PT ∈ T) (G : Glob mg) (cN : Cal P w K mg base "is_number" 1 ["value", "least", "greatest"] (spNum K) fN dN)
    (cR : Cal P w K mg base "is_row" 3 ["value", "many", "least", "greatest"] (spRow K T) fR dR) : FnOk P w K mg base CX0 5 f fd ["value", "size"] (spKind K T levelsM) := by
  refine F.ok scLevels (fun vs H Q E h => ?_) (fun A outer s H vs Q E hr h => ?_)
  · obtain ⟨v, d, n, rfl, _⟩ := h
    rfl
  · obtain ⟨v, ds, n, rfl, hv, n1, n4, ht, q⟩ := h
    have hr1 : Room 1 _ := hr.mono (by decide)
    refine ⟨_, (pss_cons (ps_if (PW.pt (pw_or (pt_cmpR op_ne (pe_callB call_len (by rfl) G.len PySem.boot_len (pa_cons (pv 0) pa_nil)) pe_int (nomark _)) (pw_or1 (pt_not (pt_val (pe_call cN.ok hr1 (by rfl) cN.g cN.kp cN.b .nil pass0 (pa_cons (pe_ix ix_tup (pv 0) pe_int (fun _ _ => rfl)) (pa_cons pe_int (pa_cons pe_int pa_nil))))))))) (pss_one (ps_ret pe_bl)) pss_nil) (pss_one (ps_ret (GE.pe_anyG (k := 3) (own := [("many", 2)]) (g := gName 2) (te := tCall (spRow K T) [] E0 (tCons (tOp (rIxT K) (tVar 0) (tC (.int 1))) (tCons (tVar 2) (tCons (tC (.int 1)) (tCons (tC (.int 4)) tNil))))) hr rfl scLevels.nd (by rfl) G.any TB rfl ⟨blkOk_by (N := nLevels) (sc := defScope sLevels) (by decide +kernel), by rfl, by decide +kernel, by rfl⟩ (pi_tup (pe_tup (pa_cons pe_int (pa_cons pe_int (pa_cons pe_int pa_nil))))) (fun _ _ _ _ _ _ => pg_name (i := 2) scLevels.nd rfl (Or.inl rfl)) (fun _ _ _ _ _ _ hr2 => (pe_call cR.ok hr2 (by rfl) cR.g cR.kp cR.b .nil pass0 (pa_cons (pe_ix ix_tup (pv 0) pe_int (fun _ _ => rfl)) (pa_cons (pv 2) (pa_cons pe_int (pa_cons pe_int pa_nil)))))))))), ?_⟩
    obtain ⟨a, xs, rfl, h, hD⟩ := dp_tup hv
    have hl := dps_len hD
    refine ⟨_, rfl, ⟨_, _, rfl, .inr ⟨_, h, rfl⟩, rfl, _, rfl, ite2 (fun e => ?_) fun e => ?_⟩⟩
    · have e := len_ne e
      have e3 : levelsM ds n = false := by
        unfold levelsM
        split
        · exact absurd (by rw [hl]; rfl) e
        · rfl
      rw [e3] at q
      exact q H .refl
    · have e := len_eq e
      obtain ⟨x0, x1, x2, d0, d1, d2, rfl, rfl, h0, h1, h2⟩ := shape3 hD (by omega)
      have e3 : levelsM [d0, d1, d2] n = (numD d2 0 8 && (rowD d1 1 1 4 || (rowD d1 2 1 4 || rowD d1 3 1 4))) := rfl
      rw [e3] at q
      refine ⟨.ref a, rfl, a, _, 2, x2, rfl, rfl, h, rfl, x2, d2, 0, 8, rfl, h2, _, rfl, ?_⟩
      cases o1 : numD d2 0 8 with
      | false =>
        rw [o1] at q
        exact iteT (q H .refl)
      | true =>
        rw [o1, Bool.true_and] at q
        refine iteF ⟨by show 3 ≤ sizeLine; decide, fun p np => ?_⟩
        have kn := Keep.new (T := T) (o := .tup [.int 1, .int 2, .int 3]) np
        refine ⟨p, rfl, ⟨_, .of upd_same⟩, kn.tabs ht PT hPT, fun H2 tb => ⟨3, fun i => rowD d1 ((i : Int) + 1) 1 4, fun _ H3 => Keep T H H3 ∧ SqT K H3 p [.int 1, .int 2, .int 3], ⟨kn.trans (Keep.tabbed hPT tb), ?_⟩, fun i H3 hib k => ⟨⟨_, _, k.2, List.getElem?_eq_getElem hib⟩, fun x H' y => ?_⟩, fun H3 k => ⟨_, k.2, Nat.le_refl _⟩, fun i H3 _ k => ?_⟩⟩
        · exact (Keep.tabbed hPT tb).sqT (kn.tabs ht) (.of upd_same)
        · obtain ⟨rfl, y⟩ := y
          have hx := y _ k.2
          have ex : x = .int ((i : Int) + 1) := by
            match i, hib with
            | 0, _ => exact (Option.some.inj hx).symm
            | 1, _ => exact (Option.some.inj hx).symm
            | 2, _ => exact (Option.some.inj hx).symm
          subst ex
          refine ⟨rfl, .ref a, rfl, a, _, 1, x1, rfl, rfl, k.1.sqT ht h, rfl, .int ((i : Int) + 1), rfl, x1, d1, (i : Int) + 1, 1, 4, rfl, dp_keep k.1 ht h1, k.1.tabs ht, fun H4 k4 => ⟨rfl, k.1.trans k4, k4.sqT (k.1.tabs ht) k.2⟩⟩
        · have e4 : ((List.range 3).any fun i => rowD d1 ((i : Int) + 1) 1 4) = (rowD d1 1 1 4 || (rowD d1 2 1 4 || rowD d1 3 1 4)) := by
            show (rowD d1 (((0 : Nat) : Int) + 1) 1 4 || (rowD d1 (((1 : Nat) : Int) + 1) 1 4 || (rowD d1 (((2 : Nat) : Int) + 1) 1 4 || false))) = _
            rw [Bool.or_false]
            rfl
          rw [e4]
          exact q H3 k.1
theorem ok_age (F : Fun K "_is_by_age" "_is_by_age" sAge f fd) (G : Glob mg) (cO : Cal P w K mg base "_is_order" 4 ["value", "size"] (spOrder K T) fO dO) (cN : Cal P w K mg base "is_number" 1 ["value", "least", "greatest"] (spNum K) fN dN) :
    FnOk P w K mg base CX0 5 f fd ["value", "size"] (spKind K T ageM) := by
  refine F.ok scAge (fun vs H Q E h => ?_) (fun cdv A outer s H vs Q E hr h => ?_)
  · obtain ⟨v, d, n, rfl, _⟩ := h
    rfl
  · obtain ⟨v, ds, n, rfl, hv, n1, n4, ht, q⟩ := h
    have hr1 : Room 1 _ := hr.mono (by decide)
    refine ⟨_, (pss_cons (ps_if (pt_cmpR op_ne (pe_callB call_len (by rfl) G.len PySem.boot_len (pa_cons (pv 0) pa_nil)) pe_int (nomark _)) (pss_one (ps_ret pe_bl)) pss_nil) (pss_one (ps_ret (pe_and (pe_call cO.ok hr (by rfl) cO.g cO.kp cO.b .nil pass0 (pa_cons (pe_ix ix_tup (pv 0) pe_int (fun _ _ => rfl)) (pa_cons (pv 1) pa_nil))) (pe_one (pe_call cN.ok hr1 (by rfl) cN.g cN.kp cN.b .nil pass0 (pa_cons (pe_ix ix_tup (pv 0) pe_int (fun _ _ => rfl)) (pa_cons pe_int (pa_cons pe_int pa_nil))))))))), ?_⟩
    obtain ⟨a, xs, rfl, h, hD⟩ := dp_tup hv
    have hl := dps_len hD
    refine ⟨_, rfl, ⟨_, _, rfl, .inr ⟨_, h, rfl⟩, rfl, _, rfl, ite2 (fun e => ?_) fun e => ?_⟩⟩
    · have e := len_ne e
      have e3 : ageM ds n = false := by
        unfold ageM
        split
        · exact absurd (by rw [hl]; rfl) e
        · rfl
      rw [e3] at q
      exact q H .refl
    · have e := len_eq e
      obtain ⟨x0, x1, x2, d0, d1, d2, rfl, rfl, h0, h1, h2⟩ := shape3 hD (by omega)
      have e3 : ageM [d0, d1, d2] n = (orderD d1 n && numD d2 1 3) := rfl
      rw [e3] at q
      refine ⟨.ref a, rfl, a, _, 1, x1, rfl, rfl, h, rfl, .int n, rfl, x1, d1, n, rfl, h1, n1, by omega, ht, fun H1 k1 => ⟨_, rfl, ?_⟩⟩
      cases o1 : orderD d1 n with
      | false =>
        rw [o1] at q
        exact iteF (q H1 k1)
      | true =>
        rw [o1, Bool.true_and] at q
        exact iteT ⟨.ref a, rfl, a, _, 2, x2, rfl, rfl, k1.sqT ht h, rfl, x2, d2, 1, 3, rfl, dp_keep k1 ht h2, q H1 k1⟩
theorem ok_limits (F : Fun K "_is_by_limits" "_is_by_limits" sLimits f fd) (G : Glob mg) (cR : Cal P w K mg base "is_row" 3 ["value", "many", "least", "greatest"] (spRow K T) fR dR) : FnOk P w K mg base CX0 4 f fd ["value", "size"] (spKind K T limitsM) := by
  refine F.ok scLimits (fun vs H Q E h => ?_) (fun cdv A outer s H vs Q E hr h => ?_)
  · obtain ⟨v, d, n, rfl, _⟩ := h
    rfl
  · obtain ⟨v, ds, n, rfl, hv, n1, n4, ht, q⟩ := h
    refine ⟨_, (pss_one (ps_ret (pe_and (pe_cmpR op_eq (pe_callB call_len (by rfl) G.len PySem.boot_len (pa_cons (pv 0) pa_nil)) pe_int (nomark _)) (pe_one (pe_call cR.ok hr (by rfl) cR.g cR.kp cR.b .nil pass0 (pa_cons (pe_ix ix_tup (pv 0) pe_int (fun _ _ => rfl)) (pa_cons (pv 1) (pa_cons pe_int (pa_cons pe_int pa_nil))))))))), ?_⟩
    obtain ⟨a, xs, rfl, h, hD⟩ := dp_tup hv
    have hl := dps_len hD
    refine ⟨_, rfl, ⟨_, _, rfl, .inr ⟨_, h, rfl⟩, rfl, _, rfl, ite2 (fun e => ?_) fun e => ?_⟩⟩
    · have e := len_eq' e
      obtain ⟨x0, x1, d0, d1, rfl, rfl, h0, h1⟩ := shape2 hD (by omega)
      exact ⟨.ref a, rfl, a, _, 1, x1, rfl, rfl, h, rfl, .int n, rfl, x1, d1, n, 1, 6, rfl, h1, ht, fun H1 k1 => q H1 k1⟩
    · have e := len_ne' e
      have e3 : limitsM ds n = false := by
        unfold limitsM
        split
        · exact absurd (by rw [hl]; rfl) e
        · rfl
      rw [e3] at q
      exact q H .refl
theorem ok_weights (F : Fun K "_is_by_weights" "_is_by_weights" sWeights f fd) (G : Glob mg) (cR : Cal P w K mg base "is_row" 3 ["value", "many", "least", "greatest"] (spRow K T) fR dR) : FnOk P w K mg base CX0 4 f fd ["value", "size"] (spKind K T weightsM) := by
  refine F.ok scWeights (fun vs H Q E h => ?_) (fun cdv A outer s H vs Q E hr h => ?_)
  · obtain ⟨v, d, n, rfl, _⟩ := h
    rfl
  · obtain ⟨v, ds, n, rfl, hv, n1, n4, ht, q⟩ := h
    refine ⟨_, (pss_one (ps_ret (pe_and (pe_cmpR op_eq (pe_callB call_len (by rfl) G.len PySem.boot_len (pa_cons (pv 0) pa_nil)) pe_int (nomark _)) (pe_one (pe_call cR.ok hr (by rfl) cR.g cR.kp cR.b .nil pass0 (pa_cons (pe_ix ix_tup (pv 0) pe_int (fun _ _ => rfl)) (pa_cons (pv 1) (pa_cons pe_int (pa_cons pe_int pa_nil))))))))), ?_⟩
    obtain ⟨a, xs, rfl, h, hD⟩ := dp_tup hv
    have hl := dps_len hD
    refine ⟨_, rfl, ⟨_, _, rfl, .inr ⟨_, h, rfl⟩, rfl, _, rfl, ite2 (fun e => ?_) fun e => ?_⟩⟩
    · have e := len_eq' e
      obtain ⟨x0, x1, d0, d1, rfl, rfl, h0, h1⟩ := shape2 hD (by omega)
      exact ⟨.ref a, rfl, a, _, 1, x1, rfl, rfl, h, rfl, .int n, rfl, x1, d1, n, 1, 4, rfl, h1, ht, fun H1 k1 => q H1 k1⟩
    · have e := len_ne' e
      have e3 : weightsM ds n = false := by
        unfold weightsM
        split
        · exact absurd (by rw [hl]; rfl) e
        · rfl
      rw [e3] at q
      exact q H .refl
end
end K13
namespace K13
open PySem PySem.Spec PyProof.Rows L2 DA
/-! ### is_scheduler -/
def kindD (x : Str) (ds : List PD) (n : Int) : Bool :=
  if x = "first" then bareM ds n else if x = "last" then bareM ds n else if x = "order" then byOrderM ds n else if x = "rounds" then roundsM ds n else if x = "levels" then levelsM ds n
  else if x = "aging" then ageM ds n else if x = "due" then limitsM ds n else if x = "shares" then weightsM ds n else false
def schedD (d e : PD) : Bool := match d, e with | .tuple ds, .int n => numD (.int n) 1 4 && kindD (firstD (.tuple ds)) ds n | _, _ => false
abbrev kindNames : List Str := ["first", "last", "order", "rounds", "levels", "aging", "due", "shares"]
theorem kind_none {x : Str} (h : x ∉ kindNames) (ds : List PD) (n : Int) : kindD x ds n = false := by
  simp only [kindNames, List.mem_cons, List.not_mem_nil, or_false, not_or] at h
  obtain ⟨h1, h2, h3, h4, h5, h6, h7, h8⟩ := h
  unfold kindD
  rw [if_neg h1, if_neg h2, if_neg h3, if_neg h4, if_neg h5, if_neg h6, if_neg h7, if_neg h8]
/-- the function object at f bears this name -/
def Named (K : PySem.W.Frag) (f : Addr) (x : Str) : Prop := ∃ oc od fd osl, K.lookup f = some ⟨oc, od, .func fd, osl⟩ ∧ fd.name = x
theorem Named.ne {K : PySem.W.Frag} {f g : Addr} {x y : Str} (a : Named K f x) (b : Named K g y) (h : x ≠ y) : f ≠ g := fun e => by
  subst e
  obtain ⟨oc, od, fd, osl, h1, h2⟩ := a
  obtain ⟨oc', od', fd', osl', h3, h4⟩ := b
  rw [h1] at h3
  cases h3
  exact h (h2.symm.trans h4)
theorem Named.of {K : PySem.W.Frag} {x : Str} {st : Stmt} {f : Addr} {fd : FuncData} (F : Fun K x x st f fd) : Named K f x := by
  obtain ⟨oc, od, kV, doc, pm, an, cdv, ct, osl, h1, h2, h3⟩ := F.ex
  exact ⟨oc, od, fd, osl, h2, by rw [h1]⟩
theorem no_key {P : Params} : ∀ {es : List DictEntry} {ks : List Str} {z : Str}, es.map He.keyOf = He.keysIn P ks → z ∉ ks → es.find? (·.key.isStr z) = none ∧ es.any (·.refKey) = false
  | [], _, _, _, _ => ⟨rfl, rfl⟩
  | e :: es, [], _, h, _ => by cases h
  | e :: es, k :: ks, z, h, hz => by
    have h' : He.keyOf e :: es.map He.keyOf = some (k, PyData.keyHash P k) :: He.keysIn P ks := h
    rw [List.cons.injEq] at h'
    obtain ⟨h1, h2⟩ := h'
    obtain ⟨r1, r2⟩ := no_key h2 fun m => hz (List.mem_cons_of_mem _ m)
    have hk : ∃ t, e.key = .str k t := by
      unfold He.keyOf at h1
      split at h1
      · next x t ex =>
        have e1 : some x = some k := congrArg (fun o : Option (Str × Int) => o.map Prod.fst) h1
        cases e1
        exact ⟨t, ex⟩
      · cases h1
    obtain ⟨t, ek⟩ := hk
    have hne : ¬ k = z := fun w => hz (by rw [w]; exact List.mem_cons_self)
    have i1 : e.key.isStr z = false := by
      rw [ek]
      show (k == z) = false
      exact beq_eq_false_iff_ne.mpr hne
    constructor
    · rw [List.find?_cons, i1]
      exact r1
    · rw [List.any_cons, r2, Bool.or_false]
      unfold DictEntry.refKey
      rw [ek]
/-- the module's table of kinds -/
structure KindsAt (K : PySem.W.Frag) (w : World) (dk fB fO fR fL fA fD fW : Addr) : Prop where
  kd : ∃ es n, KDict K w dk es n ∧ es.toList.map He.keyOf = He.keysIn w.params kindNames
  h1 : PySem.W.nsIn K dk "first" = some (some (.ref fB))
  h2 : PySem.W.nsIn K dk "last" = some (some (.ref fB))
  h3 : PySem.W.nsIn K dk "order" = some (some (.ref fO))
  h4 : PySem.W.nsIn K dk "rounds" = some (some (.ref fR))
  h5 : PySem.W.nsIn K dk "levels" = some (some (.ref fL))
  h6 : PySem.W.nsIn K dk "aging" = some (some (.ref fA))
  h7 : PySem.W.nsIn K dk "due" = some (some (.ref fD))
  h8 : PySem.W.nsIn K dk "shares" = some (some (.ref fW))
theorem KindsAt.no {K : PySem.W.Frag} {w : World} {dk fB fO fR fL fA fD fW : Addr} (h : KindsAt K w dk fB fO fR fL fA fD fW) {z : Str} (hz : z ∉ kindNames) : PySem.W.nsIn K dk z = some none := by
  obtain ⟨es, n, D, hk⟩ := h.kd
  obtain ⟨r1, r2⟩ := no_key hk hz
  unfold PySem.W.nsIn
  rw [D.at_]
  show (match es.toList.find? (·.key.isStr z) with | some e => some (some e.val) | none => if es.toList.any (·.refKey) then none else some none) = some none
  rw [r1]
  show (if es.toList.any (·.refKey) then none else some none) = some none
  rw [r2]
  rfl
def spSched (K : PySem.W.Frag) (T : List Addr) : Sp := fun vs H Q _ => ∃ v z d e, vs = [v, z] ∧ Dp K H v d ∧ Dp K H z e ∧ Tabs T H ∧ ∀ H', Keep T H H' → Q (.bl (schedD d e)) H'
section
variable {P : Program} {w : World} {K : PySem.W.Frag} {mg : Str → Option Value} {base : Heap} {f : Addr} {fd : FuncData} {T : List Addr}
variable {fN fF dk fB fO fR fL fA fD fW : Addr} {dN dF : FuncData}
def kindS (K : PySem.W.Frag) (T : List Addr) (fB fO fR fL fA fD fW : Addr) (g : Addr) : Option Sp :=
  if g = fB then some (spKind K T bareM) else if g = fO then some (spKind K T byOrderM) else if g = fR then some (spKind K T roundsM) else if g = fL then some (spKind K T levelsM)
  else if g = fA then some (spKind K T ageM) else if g = fD then some (spKind K T limitsM) else if g = fW then some (spKind K T weightsM) else none
theorem ok_sched (F : Fun K "is_scheduler" "is_scheduler" sSched f fd) (cN : Cal P w K mg base "is_number" 1 ["value", "least", "greatest"] (spNum K) fN dN) (cF : Cal P w K mg base "_first_word" 1 ["value"] (spFirst K) fF dF)
    (gk : mg "KINDS" = some (.ref dk)) (KT : KindsAt K w dk fB fO fR fL fA fD fW)
    (kB : Held P w K mg base 5 fB (spKind K T bareM)) (kO : Held P w K mg base 5 fO (spKind K T byOrderM)) (kR : Held P w K mg base 5 fR (spKind K T roundsM)) (kL : Held P w K mg base 5 fL (spKind K T levelsM))
    (kA : Held P w K mg base 5 fA (spKind K T ageM)) (kD : Held P w K mg base 5 fD (spKind K T limitsM)) (kW : Held P w K mg base 5 fW (spKind K T weightsM))
    (mB : Named K fB "_is_bare") (mO : Named K fO "_is_by_order") (mR : Named K fR "_is_by_rounds") (mL : Named K fL "_is_by_levels") (mA : Named K fA "_is_by_age") (mD : Named K fD "_is_by_limits") (mW : Named K fW "_is_by_weights") :
    FnOk P w K mg base CX0 6 f fd ["value", "size"] (spSched K T) := by
  obtain ⟨es, ne, KD, hkeys⟩ := KT.kd
  have hA : ∀ g sp, kindS K T fB fO fR fL fA fD fW g = some sp → Held P w K mg base 5 g sp := fun g sp h => by
    unfold kindS at h
    split at h
    · next e => cases h; rw [e]; exact kB
    split at h
    · next e => cases h; rw [e]; exact kO
    split at h
    · next e => cases h; rw [e]; exact kR
    split at h
    · next e => cases h; rw [e]; exact kL
    split at h
    · next e => cases h; rw [e]; exact kA
    split at h
    · next e => cases h; rw [e]; exact kD
    split at h
    · next e => cases h; rw [e]; exact kW
    · cases h
  have nB := fun {g : Addr} {x : Str} (m : Named K g x) (hne : x ≠ "_is_bare") => m.ne mB hne
  have sB : kindS K T fB fO fR fL fA fD fW fB = some (spKind K T bareM) := if_pos rfl
  have sO : kindS K T fB fO fR fL fA fD fW fO = some (spKind K T byOrderM) := by
    unfold kindS
    rw [if_neg (mO.ne mB (by decide +kernel)), if_pos rfl]
  have sR : kindS K T fB fO fR fL fA fD fW fR = some (spKind K T roundsM) := by
    unfold kindS
    rw [if_neg (mR.ne mB (by decide +kernel)), if_neg (mR.ne mO (by decide +kernel)), if_pos rfl]
  have sL : kindS K T fB fO fR fL fA fD fW fL = some (spKind K T levelsM) := by
    unfold kindS
    rw [if_neg (mL.ne mB (by decide +kernel)), if_neg (mL.ne mO (by decide +kernel)), if_neg (mL.ne mR (by decide +kernel)), if_pos rfl]
  have sA : kindS K T fB fO fR fL fA fD fW fA = some (spKind K T ageM) := by
    unfold kindS
    rw [if_neg (mA.ne mB (by decide +kernel)), if_neg (mA.ne mO (by decide +kernel)), if_neg (mA.ne mR (by decide +kernel)), if_neg (mA.ne mL (by decide +kernel)), if_pos rfl]
  have sD : kindS K T fB fO fR fL fA fD fW fD = some (spKind K T limitsM) := by
    unfold kindS
    rw [if_neg (mD.ne mB (by decide +kernel)), if_neg (mD.ne mO (by decide +kernel)), if_neg (mD.ne mR (by decide +kernel)), if_neg (mD.ne mL (by decide +kernel)), if_neg (mD.ne mA (by decide +kernel)), if_pos rfl]
  have sW : kindS K T fB fO fR fL fA fD fW fW = some (spKind K T weightsM) := by
    unfold kindS
    rw [if_neg (mW.ne mB (by decide +kernel)), if_neg (mW.ne mO (by decide +kernel)), if_neg (mW.ne mR (by decide +kernel)), if_neg (mW.ne mL (by decide +kernel)), if_neg (mW.ne mA (by decide +kernel)), if_neg (mW.ne mD (by decide +kernel)), if_pos rfl]
  refine F.ok scSched (fun vs H Q E h => ?_) (fun cdv A outer s H vs Q E hr h => ?_)
  · obtain ⟨v, z, d, e, rfl, _⟩ := h
    rfl
  · obtain ⟨v, z, d, e, rfl, hv, hz, ht, q⟩ := h
    have hr1 : Room 1 _ := hr.mono (by decide)
    refine ⟨_, (pss_cons (ps_if (pt_not (pt_val (pe_call cN.ok hr1 (by rfl) cN.g cN.kp cN.b .nil pass0 (pa_cons (pv 1) (pa_cons pe_int (pa_cons pe_int pa_nil)))))) (pss_one (ps_ret pe_bl)) pss_nil) (pss_cons (ps_set (i := 2) scSched.nd rfl (.inl rfl) (pe_call cF.ok hr1 (by rfl) cF.g cF.kp cF.b .nil pass0 (pa_cons (pv 0) pa_nil))) (pss_cons (ps_if (pt_cmpR (op_notIn_kd KD) (pv 2) (pe_glob (v := .ref dk) (by rfl) gk rfl) (by rfl)) (pss_one (ps_ret pe_bl)) pss_nil) (pss_cons (ps_set (i := 3) scSched.nd rfl (.inl rfl) (pe_ix ix_kdict (pe_glob (v := .ref dk) (by rfl) gk rfl) (pv 2) (fun _ _ => rfl))) (pss_one (ps_ret (pe_callA (i := 3) hA hr (by rfl) (.inl rfl) (pa_cons (pv 0) (pa_cons (pv 1) pa_nil))))))))), ?_⟩
    refine ⟨z, rfl, z, e, 1, 4, rfl, hz, _, rfl, ?_⟩
    cases hn : numD e 1 4 with
    | false =>
      have e1 : schedD d e = false := by
        unfold schedD
        split
        · rw [hn, Bool.false_and]
        · rfl
      rw [e1] at q
      exact iteT (q H .refl)
    | true =>
      obtain ⟨n, rfl⟩ : ∃ n, e = .int n := by
        unfold numD at hn
        split at hn
        · exact ⟨_, rfl⟩
        · cases hn
      have hn4 : 1 ≤ n ∧ n ≤ 4 := by
        have h1 : (decide (1 ≤ n) && decide (n ≤ 4)) = true := hn
        rw [Bool.and_eq_true] at h1
        exact ⟨of_decide_eq_true h1.1, of_decide_eq_true h1.2⟩
      have ez := dp_int hz
      subst ez
      refine iteF ⟨v, rfl, v, d, rfl, hv, .str (firstD d), rfl, ?_⟩
      by_cases hk : firstD d ∈ kindNames
      · have hne : ¬ firstD d = "" := fun y => by rw [y] at hk; exact absurd hk (by decide +kernel)
        obtain ⟨r, hd⟩ := first_tup hne
        have e1 : schedD d (.int n) = kindD (firstD d) (.str (firstD d) :: r) n := by
          have e2 : schedD (.tuple (.str (firstD d) :: r)) (.int n) = (numD (.int n) 1 4 && kindD (firstD d) (.str (firstD d) :: r) n) := rfl
          rw [← hd, hn, Bool.true_and] at e2
          exact e2
        rw [e1] at q
        rw [hd] at hv
        obtain ⟨g, mir, c1, c2, c3⟩ : ∃ (g : Addr) (mir : List PD → Int → Bool), PySem.W.nsIn K dk (firstD d) = some (some (.ref g)) ∧ kindS K T fB fO fR fL fA fD fW g = some (spKind K T mir) ∧ kindD (firstD d) (.str (firstD d) :: r) n = mir (.str (firstD d) :: r) n := by
          clear q e1 hd hv
          generalize firstD d = x at hk hne ⊢
          simp only [kindNames, List.mem_cons, List.not_mem_nil, or_false] at hk
          rcases hk with rfl | rfl | rfl | rfl | rfl | rfl | rfl | rfl
          · exact ⟨fB, bareM, KT.h1, sB, rfl⟩
          · exact ⟨fB, bareM, KT.h2, sB, rfl⟩
          · exact ⟨fO, byOrderM, KT.h3, sO, rfl⟩
          · exact ⟨fR, roundsM, KT.h4, sR, rfl⟩
          · exact ⟨fL, levelsM, KT.h5, sL, rfl⟩
          · exact ⟨fA, ageM, KT.h6, sA, rfl⟩
          · exact ⟨fD, limitsM, KT.h7, sD, rfl⟩
          · exact ⟨fW, weightsM, KT.h8, sW, rfl⟩
        rw [c3] at q
        refine ⟨firstD d, some (.ref g), rfl, rfl, c1, _, rfl, iteF ?_⟩
        refine ⟨.str (firstD d), rfl, dk, firstD d, .ref g, rfl, rfl, ⟨es, ne, .ref g, KD.at_, KD.lit, c1, rfl⟩, ?_⟩
        exact ⟨g, _, rfl, c2, v, rfl, .int n, rfl, v, _, n, rfl, hv, hn4.1, hn4.2, ht, fun H1 k1 => q H1 k1⟩
      · have e1 : schedD d (.int n) = false := by
          unfold schedD
          split
          · next ds m e2 =>
            rw [kind_none hk, Bool.and_false]
          · rfl
        rw [e1] at q
        exact ⟨firstD d, none, rfl, rfl, KT.no hk, _, rfl, iteT (q H .refl)⟩
end
end K13
namespace PT
open PySem PySem.Spec PyProof.Rows L2 DA DL TR

theorem fn_sdC {P : Program} {w : World} {K : PySem.W.Frag} {mg : Str → Option Value} {base : Heap} {T : List Addr} {x qual : Str} {st : Stmt} {f : Addr} {fd : FuncData} {co : Addr} {N ps : List Str} {k : Nat} {R : List DS → PD → Prop} (F : FunC K x qual st f fd co) (S : FnScope N ps (defScope st)) (hl : ∀ ss d, R ss d → ss.length = ps.length)
    (hb : ∀ (A : Around) (outer : List Env) (s : Shared) (H : Hp) (E : XK), Room k (A.deeper (envOfC qual (defScope st) s.heap.objs.size f (.ref co))) →
      ∃ t, PSs (cxOf CX0 P w K mg base N qual (defScope st) f (.ref co) A outer s H E).nox (defBody st) t ∧ ∀ M H0 ss d, R ss d → SD ⟨K, T, M, H0⟩ t (DR d) (startD N ss)) : FnOk P w K mg base CX0 (k + 1) f fd ps (spD K T R) := by
  refine F.ok S (fun vs H Q E h => ?_) (fun A outer s H vs Q E hr h => ?_)
  · obtain ⟨M, ss, d, _, _, h3, h4, _⟩ := h
    rw [h3.len]
    exact hl ss d h4
  · obtain ⟨M, ss, d, h1, h2, h3, h4, q⟩ := h
    obtain ⟨t, ht, hq⟩ := hb A outer s H E hr
    refine ⟨t, ht, hq M H ss d h4 _ ⟨fun A' σ' H' ρ' r' e => ?_, fun v H' e k' h5 h6 => ?_, fun _ _ _ _ _ z => z.elim, fun _ _ _ _ _ z => z.elim⟩ [] _ H (start_sr h1 h2 h3)⟩
    · have e : d = .none := e
      subst e
      exact q .non H' .non r'.keep
    · have h6 : e = d := h6
      subst h6
      exact q v H' h5 k'
def R_is_number : List DS → PD → Prop := fun ss d => ∃ e lo hi, ss = [.dat e, .dat (.int lo), .dat (.int hi)] ∧ d = .bool (K11.numD e lo hi)
def R_is_program : List DS → PD → Prop := fun ss d => ∃ e, ss = [.dat e] ∧ d = .bool (K11.progD e)
def R_length : List DS → PD → Prop := fun ss d => ∃ ds, K11.progD (.list ds) = true ∧ ss = [.dat (.list ds)] ∧ d = .int (K11.lenD ds)
def R_is_scheduler : List DS → PD → Prop := fun ss d => ∃ (e : PD) (n : Int), ss = [.dat e, .dat (.int n)] ∧ d = .bool (K13.schedD e (.int n))
def procD : PD → Bool
  | .tuple [a, b] => K11.numD a 0 99 && K11.progD b
  | _ => false
def hallD : PD → Bool
  | .list ds => decide (1 ≤ ds.length) && decide (ds.length ≤ 4) && ds.all procD
  | _ => false
def R__is_process : List DS → PD → Prop := fun ss d => ∃ e, ss = [.dat e] ∧ d = .bool (procD e)
def R_is_hall : List DS → PD → Prop := fun ss d => ∃ e, (∀ ds, e = .list ds → ds.length ≤ 1000) ∧ ss = [.dat e] ∧ d = .bool (hallD e)
def R_check_hall : List DS → PD → Prop := fun ss d => ∃ e, hallD e = true ∧ ss = [.dat e] ∧ d = .none
def R_check_number : List DS → PD → Prop := fun ss d => ∃ e lo hi, K11.numD e lo hi = true ∧ ss = [.dat e, .dat (.int lo), .dat (.int hi)] ∧ d = .none
def R_check_scheduler : List DS → PD → Prop := fun ss d => ∃ (e : PD) (n : Int), K13.schedD e (.int n) = true ∧ ss = [.dat e, .dat (.int n)] ∧ d = .none
def R_check_units : List DS → PD → Prop := fun ss d => ∃ e, K11.numD e 0 200 = true ∧ ss = [.dat e] ∧ d = .none
def R_check_run : List DS → PD → Prop := fun ss d => ∃ s h m, hallD (.list h) = true ∧ K13.schedD s (.int (h.length : Int)) = true ∧ K11.numD m 0 200 = true ∧ ss = [.dat s, .dat (.list h), .dat m] ∧ d = .none
def R__check_all : List DS → PD → Prop := fun ss d => ∃ s h m e, hallD (.list h) = true ∧ K13.schedD s (.int (h.length : Int)) = true ∧ K11.numD m 0 200 = true ∧ K11.numD e 0 ((h.length : Int) - 1) = true ∧ ss = [.dat s, .dat (.list h), .dat m, .dat e] ∧ d = .none
def workD : PD → Int
  | .tuple [_, .list p] => K11.lenD p
  | _ => 0
def R_whole_work : List DS → PD → Prop := fun ss d => ∃ h, hallD (.list h) = true ∧ ss = [.dat (.list h)] ∧ d = .int (h.map workD).sum
theorem hall_inv {e : PD} (h : hallD e = true) : ∃ ds, e = .list ds ∧ 1 ≤ ds.length ∧ ds.length ≤ 4 ∧ ∀ x ∈ ds, procD x = true := by
  cases e with
  | list ds =>
    have h : (decide (1 ≤ ds.length) && decide (ds.length ≤ 4) && ds.all procD) = true := h
    rw [Bool.and_eq_true, Bool.and_eq_true] at h
    exact ⟨ds, rfl, of_decide_eq_true h.1.1, of_decide_eq_true h.1.2, fun x hx => List.all_eq_true.mp h.2 x hx⟩
  | _ => cases h
theorem proc_inv {e : PD} (h : procD e = true) : ∃ a b, e = .tuple [a, .list b] ∧ K11.numD a 0 99 = true ∧ K11.progD (.list b) = true := by
  unfold procD at h
  split at h
  · next a b =>
    rw [Bool.and_eq_true] at h
    obtain ⟨ds, rfl, _⟩ := K11.prog_inv h.2
    exact ⟨a, ds, rfl, h.1, h.2⟩
  · cases h
structure GlobC (K : PySem.W.Frag) (mg : Str → Option Value) where
  tMP : Tok
  MOST_PROCESSES : mg "MOST_PROCESSES" = some (.int 4 tMP)
  tLT : Tok
  LAST_TIME : mg "LAST_TIME" = some (.int 99 tLT)
  tMU : Tok
  MOST_UNITS_running : mg "MOST_UNITS_running" = some (.int 200 tMU)
section
variable {P : Program} {w : World} {K : PySem.W.Frag} {mg : Str → Option Value} {base : Heap} {f : Addr} {fd : FuncData} {T : List Addr}
theorem is_number_D (h : FnOk P w K mg base CX0 1 f fd ["value", "least", "greatest"] (K11.spNum K)) : FnOk P w K mg base CX0 1 f fd ["value", "least", "greatest"] (spD K T R_is_number) := h.imp fun vs H Q E ⟨M, ss, d, _, _, h3, ⟨e, lo, hi, e1, e2⟩, q⟩ => by
  subst e1 e2
  cases h3 with
  | cons a1 h3 =>
    cases h3 with
    | cons a2 h3 =>
      cases h3 with
      | cons a3 h3 =>
        cases h3
        have b2 := dp_int a2
        have b3 := dp_int a3
        subst b2 b3
        exact ⟨_, e, lo, hi, rfl, DL.dp_same hid_same a1, q _ H (.bl _) .refl⟩
theorem is_program_D (h : FnOk P w K mg base CX0 4 f fd ["value"] (K11.spProg K T)) : FnOk P w K mg base CX0 4 f fd ["value"] (spD K T R_is_program) := h.imp fun vs H Q E ⟨M, ss, d, _, h2, h3, ⟨e, e1, e2⟩, q⟩ => by
  subst e1 e2
  obtain ⟨v, rfl, a1⟩ := args1 h3
  exact ⟨v, e, rfl, DL.dp_same hid_same a1, h2, fun H' k => q _ H' (.bl _) k⟩
theorem length_D (h : FnOk P w K mg base CX0 6 f fd ["program"] (K11.spLen K T)) : FnOk P w K mg base CX0 6 f fd ["program"] (spD K T R_length) := h.imp fun vs H Q E ⟨M, ss, d, _, h2, h3, ⟨ds, hp, e1, e2⟩, q⟩ => by
  subst e1 e2
  obtain ⟨v, rfl, a1⟩ := args1 h3
  exact ⟨v, ds, rfl, DL.dp_same hid_same a1, h2, hp, fun H' k => q _ H' (.int _) k⟩
theorem is_scheduler_D (h : FnOk P w K mg base CX0 6 f fd ["value", "size"] (K13.spSched K T)) : FnOk P w K mg base CX0 6 f fd ["value", "size"] (spD K T R_is_scheduler) := h.imp fun vs H Q E ⟨M, ss, d, _, h2, h3, ⟨e, n, e1, e2⟩, q⟩ => by
  subst e1 e2
  obtain ⟨v, z, rfl, a1, a2⟩ := args2 h3
  exact ⟨v, z, e, .int n, rfl, DL.dp_same hid_same a1, DL.dp_same hid_same a2, h2, fun H' k => q _ H' (.bl _) k⟩
end
section
variable {P : Program} {w : World} {K : PySem.W.Frag} {mg : Str → Option Value} {base : Heap} {f : Addr} {fd : FuncData} {T : List Addr}
end
abbrev sIsProc : Stmt := top 59
abbrev nIsProc : List Str := ["value"]
theorem scIsProc : FnScope nIsProc ["value"] (defScope sIsProc) := ⟨rfl, rfl, rfl, by decide +kernel, rfl, by decide +kernel, by decide +kernel⟩
section
variable {P : Program} {w : World} {K : PySem.W.Frag} {mg : Str → Option Value} {base : Heap} {f : Addr} {fd : FuncData} {T : List Addr}
theorem ok__is_process (F : Fun K "_is_process" "_is_process" sIsProc f fd) (G : Glob K mg) (GC : GlobC K mg) {fN : Addr} {dN : FuncData} (c_is_number : Cal P w K mg base "is_number" 1 ["value", "least", "greatest"] (spD K T R_is_number) fN dN) {fP : Addr} {dP : FuncData} (c_is_program : Cal P w K mg base "is_program" 4 ["value"] (spD K T R_is_program) fP dP) : FnOk P w K mg base CX0 5 f fd ["value"] (spD K T R__is_process) := by
  refine fn_sd F scIsProc (fun ss d h => ?_) (fun cdv A outer s H E hr => ⟨_, (pss_cons (ps_if (PW.pt (pw_or (pt_not (pt_val (pe_callB call_isi (by rfl) G.isinstance boot_isinstance (pa_cons (pv 0) (pa_cons (pe_bltn (v := .ty "tuple") (by rfl) G.tuple (by decide +kernel) rfl) pa_nil))))) (pw_or1 (pt_cmpR op_ne (pe_callB call_len_seq (by rfl) G.len PySem.boot_len (pa_cons (pv 0) pa_nil)) pe_int (nomark _))))) (pss_one (ps_ret pe_bl)) pss_nil)
      (pss_one (ps_ret (pe_and (pe_call c_is_number.ok (hr.mono (by decide)) (by rfl) c_is_number.g c_is_number.kp c_is_number.b .nil pass0 (pa_cons (pe_ix ix_tup (pv 0) pe_int (fun _ _ => rfl)) (pa_cons pe_int (pa_cons (pe_glob (v := .int 99) (by rfl) GC.LAST_TIME ⟨_, rfl⟩) pa_nil)))) (pe_one (pe_call c_is_program.ok (hr.mono (by decide)) (by rfl) c_is_program.g c_is_program.kp c_is_program.b .nil pass0 (pa_cons (pe_ix ix_tup (pv 0) pe_int (fun _ _ => rfl)) pa_nil))))))), fun M H0 ss d h => ?_⟩)
  · obtain ⟨e, rfl, rfl⟩ := h
    rfl
  · obtain ⟨e, rfl, rfl⟩ := h
    by_cases ht : ∃ ds, e = .tuple ds
    · obtain ⟨ds, rfl⟩ := ht
      refine sd_seq (sd_when (b := false || !decide (ds.length = 2)) (et_or (a := false) (et_is (et_not (et_B (ed_isiTup (ed_var rfl)))) rfl) (fun _ => et_is (et_test (ed_ne (x := .int (ds.length : Int)) (y := .int 2) (ed_lenT (ds := ds) (ed_var rfl)) ed_int rfl rfl rfl)) ?_)) (fun hb => ?_) (fun hb => ?_))
      · show (!decide (V.int (ds.length : Int) = V.int 2)) = !decide (ds.length = 2)
        congr 1
        exact decide_eq_decide.mpr ⟨fun h => by injection h with h; omega, fun h => by rw [h]; rfl⟩
      · refine sd_ret ed_bl ?_
        rw [Bool.false_or] at hb
        have hn : ds.length ≠ 2 := by
          intro z
          rw [decide_eq_true z] at hb
          cases hb
        have e0 : procD (.tuple ds) = false := by
          unfold procD
          split
          · next a b e1 =>
            injection e1 with e1
            rw [e1] at hn
            exact absurd rfl hn
          · rfl
        show PyData.bool false = _
        rw [e0]
      · rw [Bool.false_or] at hb
        have hl : ds.length = 2 := by
          by_cases z : ds.length = 2
          · exact z
          · rw [decide_eq_false z] at hb; cases hb
        match ds, hl with
        | [a, b], _ =>
          refine sd_ret (ed_andV (ed_call (ea_d (ed_ixT (ds := [a, b]) (i := 0) (ed_var rfl) ed_int rfl) (ea_d ed_int (ea_d ed_int ea_nil))) ⟨a, 0, 99, rfl, rfl⟩) (fun _ => ed_call (ea_d (ed_ixT (ds := [a, b]) (i := 1) (ed_var rfl) ed_int rfl) ea_nil) ⟨b, rfl, rfl⟩)) rfl
    · have e1 : isTup e = false := by
        cases e <;> first | rfl | exact absurd ⟨_, rfl⟩ ht
      have e2 : procD e = false := by
        unfold procD
        split
        · exact absurd ⟨_, rfl⟩ ht
        · rfl
      rw [e2]
      refine sd_seq (sd_when (b := true || false) (et_or (a := true) (et_is (et_not (et_B (ed_isiTup (ed_var rfl)))) (by rw [e1]; rfl)) (fun h => by cases h)) (fun hb => sd_ret ed_bl rfl) (fun hb => by cases hb))
end
abbrev sIsHall : Stmt := top 58
abbrev nIsHall : List Str := ["value", "process"]
theorem scIsHall : FnScope nIsHall ["value"] (defScope sIsHall) := ⟨rfl, rfl, rfl, by decide +kernel, rfl, by decide +kernel, by decide +kernel⟩
section
variable {P : Program} {w : World} {K : PySem.W.Frag} {mg : Str → Option Value} {base : Heap} {f : Addr} {fd : FuncData} {T : List Addr}
theorem ok_is_hall {co : Addr} (F : FunC K "is_hall" "is_hall" sIsHall f fd co) (G : Glob K mg) (GC : GlobC K mg) {PT : Addr} (TB : GxR.TabB base mg co PT) (hPT : PT ∈ T) {fP : Addr} {dP : FuncData} (c__is_process : Cal P w K mg base "_is_process" 5 ["value"] (spD K T R__is_process) fP dP) : FnOk P w K mg base CX0 7 f fd ["value"] (spD K T R_is_hall) := by
  refine fn_sdC F scIsHall (fun ss d h => ?_) (fun A outer s H E hr => ⟨_, (pss_cons (ps_if (pt_not (pt_val (pe_callB call_isi (by rfl) G.isinstance boot_isinstance (pa_cons (pv 0) (pa_cons (pe_bltn (v := .ty "list") (by rfl) G.list (by decide +kernel) rfl) pa_nil))))) (pss_one (ps_ret pe_bl)) pss_nil)
      (pss_cons (ps_if (pt_not (pt_chain op_le op_le pe_int (pe_callB call_len_seq (by rfl) G.len PySem.boot_len (pa_cons (pv 0) pa_nil)) (pe_glob (v := .int 4) (by rfl) GC.MOST_PROCESSES ⟨_, rfl⟩))) (pss_one (ps_ret pe_bl)) pss_nil)
      (pss_one (ps_ret (GE.pe_allG (k := 5) (own := [("process", 1)]) (g := (gName 1)) (hr.mono (by decide)) rfl scIsHall.nd (by rfl) G.all TB rfl ⟨blkOk_by (N := nIsHall) (sc := defScope sIsHall) (by decide +kernel), by rfl, by decide +kernel, by rfl⟩ (pi_list (pv 0)) (fun _ _ _ _ _ _ => (pg_name (i := 1) scIsHall.nd rfl (.inl rfl))) (fun _ _ _ _ _ _ hr2 => (pe_call c__is_process.ok (hr2.mono (by decide)) (by rfl) c__is_process.g c__is_process.kp c__is_process.b .nil pass0 (pa_cons (pv 1) pa_nil)))))))), fun M H0 ss d h => ?_⟩)
  · obtain ⟨e, _, rfl, rfl⟩ := h
    rfl
  · obtain ⟨e, hz, rfl, rfl⟩ := h
    by_cases ht : ∃ ds, e = .list ds
    · obtain ⟨ds, rfl⟩ := ht
      refine sd_seq (sd_when (b := false) (et_is (et_not (et_B (ed_isiList (ed_var rfl)))) rfl) (fun hb => by cases hb) (fun _ => ?_))
      refine sd_seq (sd_when (b := !(decide (1 ≤ (ds.length : Int)) && decide ((ds.length : Int) ≤ 4))) (et_not (et_chain (p := fun i j => decide (i ≤ j)) (p' := fun i j => decide (i ≤ j)) (i := 1) (j := (ds.length : Int)) (k := 4) ed_int (ed_lenL (ds := ds) (el_ed (ed_var rfl))) ed_int)) (fun hb => sd_ret ed_bl ?_) (fun hb => ?_))
      · show PyData.bool false = .bool (decide (1 ≤ ds.length) && decide (ds.length ≤ 4) && ds.all procD)
        have : (decide (1 ≤ ds.length) && decide (ds.length ≤ 4)) = false := by
          rw [← Bool.not_eq_true'] at *
          rw [show decide (1 ≤ ds.length) = decide (1 ≤ (ds.length : Int)) from decide_eq_decide.mpr (by omega), show decide (ds.length ≤ 4) = decide ((ds.length : Int) ≤ 4) from decide_eq_decide.mpr (by omega)]
          exact hb
        rw [this, Bool.false_and]
      · refine sd_ret (d := .bool (ds.all procD)) (ed_allG (js := [1]) procD hPT (id_list (ed_var rfl)) (by decide) (fun d hd H1 _ => ⟨[d], tg_name, ed_call (ea_d (ed_var rfl) ea_nil) ⟨d, rfl, rfl⟩⟩)) ?_
        show PyData.bool (ds.all procD) = .bool (decide (1 ≤ ds.length) && decide (ds.length ≤ 4) && ds.all procD)
        have : (decide (1 ≤ ds.length) && decide (ds.length ≤ 4)) = true := by
          rw [show decide (1 ≤ ds.length) = decide (1 ≤ (ds.length : Int)) from decide_eq_decide.mpr (by omega), show decide (ds.length ≤ 4) = decide ((ds.length : Int) ≤ 4) from decide_eq_decide.mpr (by omega)]
          cases hq : (decide (1 ≤ (ds.length : Int)) && decide ((ds.length : Int) ≤ 4)) with
          | true => rfl
          | false => rw [hq] at hb; cases hb
        rw [this, Bool.true_and]
    · have e1 : isList e = false := by
        cases e <;> first | rfl | exact absurd ⟨_, rfl⟩ ht
      have e2 : hallD e = false := by
        cases e <;> first | rfl | exact absurd ⟨_, rfl⟩ ht
      rw [e2]
      exact sd_seq (sd_when (b := true) (et_is (et_not (et_B (ed_isiList (ed_var rfl)))) (by rw [e1]; rfl)) (fun _ => sd_ret ed_bl rfl) (fun hb => by cases hb))
end
end PT
/-! a local name that holds an object that changes -/
namespace DL
open PySem PySem.Spec PyProof.Rows L2 DA
section
variable {k : OC} {ρ : DEnv} {F F' : List (Str × MF)} {D : MEnds} {t u : TS} {te : TE} {d : PD}
/-- f(object, ..) -/
theorem call_run {σ : L2.St} {H : Hp} (r : SRM k σ H ρ F) {i : Nat} {R : RM} {ta : TA} {ss : List DS} {E : XK} (hs : isSelf k ρ i) (ha : AM k ta ρ F ss) (hR : R F ss d F') {Q : VK} (q : ∀ v H', SRM k σ H' ρ F' → Dp k.K (hid k.M H') v d → Q v H') : tCall (spM k.K k.T k.C R) [] E (tCons (tVar i) ta) σ H Q := by
  refine ⟨_, self_at r hs, ha H r.oa r.tb [] σ H r.sr _ fun ws H1 k1 h1 => ?_⟩
  have r1 := r.move k1 (r.sr.move k1)
  rw [show (⟨k.K, k.T, k.M, H⟩ : DC).M ++ [] = k.M from List.append_nil _] at h1
  refine ⟨k.M, k.p, k.O, F, ss, d, F', r1.sr.msk, r1.sr.tab, r1.oa, ?_, hR, fun v H2 h2 o2 x2 => q v H2 (r1.called x2 o2) h2⟩
  rw [List.append_nil]
  exact .cons (show ArgOk k.K (hid k.M H1) (.ref k.p) (.raw (.ref k.p)) from rfl) h1
theorem sm_dropC {i : Nat} {R : RM} {ta : TA} {ss : List DS} {E : XK} (hs : isSelf k ρ i) (ha : AM k ta ρ F ss) (hR : R F ss d F') (q : D.nx ρ F') : SM k (tDrop (tCall (spM k.K k.T k.C R) [] E (tCons (tVar i) ta))) D ρ F := fun _ L σ H r =>
  call_run r hs ha hR fun v H1 r1 h1 => L.nx _ _ _ _ r1 q
/-- if object.m(..): -/
theorem sm_ifM {i : Nat} {m : Str} {R : RM} {ta : TA} {ss : List DS} {E : XK} {b : Bool} (hs : isSelf k ρ i) (hm : F.lookup m = none) (ha : AM k ta ρ F ss) (hR : R F ss (.bool b) F') (h1 : b = true → SM k t D ρ F') (h2 : b = false → SM k u D ρ F') : SM k (tIfS (tB (tMeth k.C m (spM k.K k.T k.C R) [] E (tVar i) ta)) t u) D ρ F := fun E' L σ H r =>
  meth_run r hs hm ha hR fun v H1 r1 g1 => ⟨b, dp_bool g1, by
    cases b with
    | true => exact h1 rfl E' L σ H1 r1
    | false => exact h2 rfl E' L σ H1 r1⟩
/-- return a if x in object.m() else b -/
theorem sm_retInM {i : Nat} {m : Str} {R : RM} {E : XK} {ys : List PD} {x y z : Str} (hs : isSelf k ρ i) (hm : F.lookup m = none) (hR : R F [] (.list ys) F') (hy : ys.all flatD = true) (q : D.rt (.str (if inV (.str x) (ys.map vOf) = true then y else z)) F') :
    SM k (tRet (tIf (tTest (tOp (rIn k.K false) (tC (.str x)) (tMeth k.C m (spM k.K k.T k.C R) [] E (tVar i) tNil))) (tC (.str y)) (tC (.str z)))) D ρ F := fun E' L σ H r =>
  meth_run r hs hm am_nil hR fun v H1 r1 g1 => by
    obtain ⟨a, us, rfl, g2, g3⟩ := dp_list g1
    have e := dps_flat g3 hy
    subst e
    refine ⟨a, _, rfl, .inl (hid_same.seq g2), rfl, flats_V hy, _, rfl, ?_⟩
    show if (inV (.str x) (ys.map vOf)) = true then E'.rt (.str y) H1 else E'.rt (.str z) H1
    split
    · next h =>
      rw [if_pos h] at q
      exact L.rt _ H1 _ F' (.str y) r1.oa r1.kx q
    · next h =>
      rw [if_neg h] at q
      exact L.rt _ H1 _ F' (.str z) r1.oa r1.kx q
end
/-- x = f(..), f gives a new object: from there on the statements with the object -/
theorem mf_asg {K : PySem.W.Frag} {T M : List Addr} {C : Addr} {R : List DS → List (Str × MF) → Prop} {E : XK} {ta : TA} {σ : L2.St} {H : Hp} {ρ : DEnv} {ss : List DS} {F : List (Str × MF)} {j : Nat} {u : TS} {D : Ends} {c : DC} (hc : c = ⟨K, T, M, H⟩) (r : SR c [] σ H ρ) (h : EA c ta ρ ss) (hR : R ss F)
    (q : ∀ x H2 O, (∀ a ∈ O, H a = none) → Keep T H H2 → SRM ⟨K, T, O ++ M, x, C, O, H2⟩ (σ.set j (some (.ref x))) H2 (ρ.set j (.raw (.ref x))) F → u D (σ.set j (some (.ref x))) H2) : tSeq (tAsg (tCall (spMF K T C R) [] E ta) (gName j)) u D σ H := by
  subst hc
  refine h [] σ H r _ fun vs H1 k1 h1 => ?_
  have h1 : ArgsOk K (hid (M ++ []) H1) vs ss := h1
  rw [List.append_nil] at h1
  have m1 : ∀ a ∈ M, a ∉ T ∧ H1 a ≠ none := fun a ha => (r.move k1).nM a (List.mem_append_left _ ha)
  have t1 : Tabs T H1 := k1.tabs r.tab
  refine ⟨M, ss, F, m1, t1, by rw [List.append_nil]; exact h1, hR, fun p H2 O o2 f2 k2 => ?_⟩
  have t2 : Tabs T H2 := k2.tabs t1
  have fO : ∀ a ∈ O, H a = none := fun a ha => k1.free r.tab (f2 a ha)
  have kh : Keep T (hid M H) (hid (O ++ M) H2) := (hid_keep k1).trans ⟨fun b o e hT => by
      obtain ⟨m, e⟩ := hid_inv e
      exact hid_of (fun q => (List.mem_append.mp q).elim (fun q => (by rw [f2 b q] at e; cases e)) m) (k2.at_ b o e hT), fun P hP tb0 => by
      obtain ⟨ps, e, ok⟩ := tb0
      obtain ⟨m, e⟩ := hid_inv e
      obtain ⟨ps', e', ok'⟩ := k2.tab P hP ⟨ps, e, ok⟩
      exact ⟨ps', hid_of (fun q => (List.mem_append.mp q).elim (fun q => (by rw [f2 P q] at e; cases e)) m) e', ok'⟩⟩
  have m2 : ∀ a ∈ O ++ M, a ∉ T ∧ H2 a ≠ none := fun a ha => by
    rcases List.mem_append.mp ha with ha | ha
    · obtain ⟨y, e, n⟩ := o2.none a ha
      exact ⟨nT_of t2 e n, by rw [e]; intro z; cases z⟩
    · refine ⟨(m1 a ha).1, ?_⟩
      cases e : H1 a with
      | none => exact absurd e (m1 a ha).2
      | some o => rw [k2.at_ a o e (m1 a ha).1]; intro z; cases z
  have r2 : SR ⟨K, T, O ++ M, H2⟩ [] σ H2 ρ := SR.reb (H := H) ⟨r.tab, .refl, r.msk, fun b hb => (nomatch hb), r.len, r.rel, r.inj⟩ kh t2 m2
  exact q p H2 O fO (k1.trans k2) ⟨r2.setS j (v := .ref p) (s := .raw (.ref p)) rfl (fun ds z => nomatch z), o2, .refl⟩
/-- back from the object to the caller -/
theorem mf_ends {K : PySem.W.Frag} {T M : List Addr} {x C : Addr} {O : List Addr} {H H2 : Hp} {Q : VK} {nx : L2.St → Hp → Prop} {F : List (Str × MF)} {d : PD} (fO : ∀ a ∈ O, H a = none) (k : Keep T H H2) (q : ∀ v H', Dp K (hid M H') v d → Keep T H H' → Q v H') :
    LeM ⟨K, T, O ++ M, x, C, O, H2⟩ ⟨fun _ _ => False, fun e F' => e = d⟩ { nx := nx, rt := Q } :=
  ⟨fun _ _ _ _ _ z => z.elim, fun v H' e F' h1 _ x2 e1 => by
    have e1 : e = d := e1
    subst e1
    exact q v H' (dp_same (hid_sub fun a ha => List.mem_append_right _ ha) h1) (KeepX.keep k x2 fO)⟩
end DL
namespace PT
open PySem PySem.Spec PyProof.Rows L2 DA DL TR

structure okRun {μ : Type} (S : Chs μ) (sch : PD) (h : Hall) (n : Nat) : Prop where
  vh : hallD (encHall h) = true
  vs : K13.schedD sch (.int (h.length : Int)) = true
  vn : n ≤ 200
  vr : okRuns S n (machH S h)
theorem okRun.l {μ : Type} {S : Chs μ} {sch : PD} {h : Hall} {n : Nat} (o : okRun S sch h n) : 1 ≤ h.length ∧ h.length ≤ 100 := by
  obtain ⟨ds, e, l1, l2, _⟩ := hall_inv o.vh
  injection e with e
  rw [← e, List.length_map] at l1 l2
  omega
theorem num_ok {n : Nat} (h : n ≤ 200) : K11.numD (intD n) 0 200 = true := by
  show (decide ((0 : Int) ≤ (n : Int)) && decide ((n : Int) ≤ 200)) = true
  rw [Bool.and_eq_true]
  exact ⟨decide_eq_true (by omega), decide_eq_true (by omega)⟩
abbrev hallL (h : Hall) : List PD := h.map fun x => .tuple [intD x.1, encPr x.2]
theorem chk_ok {μ : Type} {S : Chs μ} {sch : PD} {h : Hall} {n : Nat} (o : okRun S sch h n) : R_check_run [.dat sch, .dat (encHall h), .dat (intD n)] .none :=
  ⟨sch, hallL h, intD n, o.vh, by rw [List.length_map]; exact o.vs, num_ok o.vn, rfl, rfl⟩
theorem sr_base {K : PySem.W.Frag} {T M : List Addr} {H H1 : Hp} {σ : L2.St} {ρ : DEnv} (r : SR ⟨K, T, M, H⟩ [] σ H1 ρ) : SR ⟨K, T, M, H1⟩ [] σ H1 ρ := by
  have u := r.up
  have e : DC.up ⟨K, T, M, H⟩ [] H1 = ⟨K, T, M, H1⟩ := by unfold DC.up; rw [hid_nil]
  rw [e] at u
  exact u
theorem sm_at {k : OC} {u : TS} {E : MEnds} {D : Ends} {ρ : DEnv} {F : List (Str × MF)} {σ : L2.St} {H : Hp} (L : LeM k E D) (r : SRM k σ H ρ F) (h : SM k u E ρ F) : u D σ H := h D L σ H r
section
variable {μ : Type}
def R_run (S : Chs μ) (sch : PD) : List DS → PD → Prop := fun ss d => ∃ (h : Hall) (n : Nat), okRun S sch h n ∧ ss = [.dat sch, .dat (encHall h), .dat (intD n)] ∧ d = .list ((whosM S n (machH S h)).map encO)
def logsM (S : Chs μ) : Nat → Mach μ → List (Option Nat × Str)
  | 0, _ => []
  | n + 1, x => if goesB x = true then (whoM S x, (resX S x).word) :: logsM S n (tickM S x) else []
def encLg (x : Option Nat × Str) : PD := .tuple [encO x.1, .str x.2]
def R_log (S : Chs μ) (sch : PD) : List DS → PD → Prop := fun ss d => ∃ (h : Hall) (n : Nat), okRun S sch h n ∧ ss = [.dat sch, .dat (encHall h), .dat (intD n)] ∧ d = .list ((logsM S n (machH S h)).map encLg)
theorem rows_log (S : Chs μ) : ∀ (n : Nat) (x : Mach μ), (runsM S n x).1.map (fun d => match d with | .tuple [_, b, c] => .tuple [b, c] | _ => .none) = (logsM S n x).map encLg
  | 0, x => rfl
  | n + 1, x => by
    show (if goesB x = true then _ else _ : List PD × Mach μ).1.map _ = (if goesB x = true then _ else _ : List (Option Nat × Str)).map encLg
    split
    · show _ :: _ = _ :: _
      rw [rows_log S n]
      rfl
    · rfl
def endOf (x : Mach μ) : Str := if goesB x = true then "open" else if inV (.str "waits") (x.ps.map fun n => V.str (wordOf n)) = true then "stuck" else "ended"
def R_ends (S : Chs μ) (sch : PD) : List DS → PD → Prop := fun ss d => ∃ (h : Hall) (n : Nat), okRun S sch h n ∧ ss = [.dat sch, .dat (encHall h), .dat (intD n)] ∧ d = .str (endOf (runsM S n (machH S h)).2)
def R_finish (S : Chs μ) (sch : PD) : List DS → PD → Prop := fun ss d => ∃ (h : Hall) (n s v : Nat), okRun S sch h n ∧ s < h.length ∧ (runsM S n (machH S h)).2.finishes[s]? = some (some v) ∧ ss = [.dat sch, .dat (encHall h), .dat (intD n), .dat (intD s)] ∧ d = intD v
theorem okRuns_ps {S : Chs μ} : ∀ (n : Nat) (x : Mach μ), okRuns S n x → okPs (runsM S n x).2.ps ∧ (runsM S n x).2.comings.length ≤ 100
  | 0, x, h => h
  | n + 1, x, h => by
    show okPs (if goesB x = true then _ else _ : List PD × Mach μ).2.ps ∧ (if goesB x = true then _ else _ : List PD × Mach μ).2.comings.length ≤ 100
    split
    · next g => exact okRuns_ps n _ (h.2.2 g).2
    · exact ⟨h.1, h.2.1⟩
end
section
variable {P : Program} {w : World} {K : PySem.W.Frag} {mg : Str → Option Value} {base : Heap} {f : Addr} {fd : FuncData} {T : List Addr}
end
abbrev sChNum : Stmt := top 11
abbrev nChNum : List Str := ["value", "least", "greatest"]
theorem scChNum : FnScope nChNum ["value", "least", "greatest"] (defScope sChNum) := ⟨rfl, rfl, rfl, by decide +kernel, rfl, by decide +kernel, by decide +kernel⟩
section
variable {P : Program} {w : World} {K : PySem.W.Frag} {mg : Str → Option Value} {base : Heap} {f : Addr} {fd : FuncData} {T : List Addr}
theorem ok_check_number (F : Fun K "check_number" "check_number" sChNum f fd) (G : Glob K mg) {fN : Addr} {dN : FuncData} (c_is_number : Cal P w K mg base "is_number" 1 ["value", "least", "greatest"] (spD K T R_is_number) fN dN) : FnOk P w K mg base CX0 2 f fd ["value", "least", "greatest"] (spD K T R_check_number) := by
  refine fn_sd F scChNum (fun ss d h => ?_) (fun cdv A outer s H E hr => ⟨_, (pss_one (ps_if (pt_not (pt_val (pe_call c_is_number.ok (hr.mono (by decide)) (by rfl) c_is_number.g c_is_number.kp c_is_number.b .nil pass0 (pa_cons (pv 0) (pa_cons (pv 1) (pa_cons (pv 2) pa_nil)))))) (pss_one ps_never) pss_nil)), fun M H0 ss d h => ?_⟩)
  · obtain ⟨e, lo, hi, h1, rfl, rfl⟩ := h
    rfl
  · obtain ⟨e, lo, hi, h1, rfl, rfl⟩ := h
    exact sd_when (b := false) (et_is (et_not (et_B (ed_call (ea_d (ed_var rfl) (ea_d (ed_var rfl) (ea_d (ed_var rfl) ea_nil))) ⟨e, lo, hi, rfl, rfl⟩))) (by rw [h1]; rfl)) (fun z => by cases z) (fun _ => rfl)
end
abbrev sChHall : Stmt := top 60
abbrev nChHall : List Str := ["value"]
theorem scChHall : FnScope nChHall ["value"] (defScope sChHall) := ⟨rfl, rfl, rfl, by decide +kernel, rfl, by decide +kernel, by decide +kernel⟩
section
variable {P : Program} {w : World} {K : PySem.W.Frag} {mg : Str → Option Value} {base : Heap} {f : Addr} {fd : FuncData} {T : List Addr}
theorem ok_check_hall (F : Fun K "check_hall" "check_hall" sChHall f fd) (G : Glob K mg) {fH : Addr} {dH : FuncData} (c_is_hall : Cal P w K mg base "is_hall" 7 ["value"] (spD K T R_is_hall) fH dH) : FnOk P w K mg base CX0 8 f fd ["value"] (spD K T R_check_hall) := by
  refine fn_sd F scChHall (fun ss d h => ?_) (fun cdv A outer s H E hr => ⟨_, (pss_one (ps_if (pt_not (pt_val (pe_call c_is_hall.ok (hr.mono (by decide)) (by rfl) c_is_hall.g c_is_hall.kp c_is_hall.b .nil pass0 (pa_cons (pv 0) pa_nil)))) (pss_one ps_never) pss_nil)), fun M H0 ss d h => ?_⟩)
  · obtain ⟨e, h1, rfl, rfl⟩ := h
    rfl
  · obtain ⟨e, h1, rfl, rfl⟩ := h
    exact sd_when (b := false) (et_is (et_not (et_B (ed_call (ea_d (ed_var rfl) ea_nil) ⟨e, fun ds z => (by obtain ⟨ds', e', _, l2, _⟩ := hall_inv h1; rw [e'] at z; injection z with z; rw [← z]; omega), rfl, rfl⟩))) (by rw [h1]; rfl)) (fun z => by cases z) (fun _ => rfl)
end
abbrev sChSch : Stmt := top 75
abbrev nChSch : List Str := ["value", "size"]
theorem scChSch : FnScope nChSch ["value", "size"] (defScope sChSch) := ⟨rfl, rfl, rfl, by decide +kernel, rfl, by decide +kernel, by decide +kernel⟩
section
variable {P : Program} {w : World} {K : PySem.W.Frag} {mg : Str → Option Value} {base : Heap} {f : Addr} {fd : FuncData} {T : List Addr}
theorem ok_check_scheduler (F : Fun K "check_scheduler" "check_scheduler" sChSch f fd) (G : Glob K mg) {fS : Addr} {dS : FuncData} (c_is_scheduler : Cal P w K mg base "is_scheduler" 6 ["value", "size"] (spD K T R_is_scheduler) fS dS) : FnOk P w K mg base CX0 7 f fd ["value", "size"] (spD K T R_check_scheduler) := by
  refine fn_sd F scChSch (fun ss d h => ?_) (fun cdv A outer s H E hr => ⟨_, (pss_one (ps_if (pt_not (pt_val (pe_call c_is_scheduler.ok (hr.mono (by decide)) (by rfl) c_is_scheduler.g c_is_scheduler.kp c_is_scheduler.b .nil pass0 (pa_cons (pv 0) (pa_cons (pv 1) pa_nil))))) (pss_one ps_never) pss_nil)), fun M H0 ss d h => ?_⟩)
  · obtain ⟨e, n, h1, rfl, rfl⟩ := h
    rfl
  · obtain ⟨e, n, h1, rfl, rfl⟩ := h
    exact sd_when (b := false) (et_is (et_not (et_B (ed_call (ea_d (ed_var rfl) (ea_d (ed_var rfl) ea_nil)) ⟨e, n, rfl, rfl⟩))) (by rw [h1]; rfl)) (fun z => by cases z) (fun _ => rfl)
end
abbrev sChUn : Stmt := top 78
abbrev nChUn : List Str := ["value"]
theorem scChUn : FnScope nChUn ["value"] (defScope sChUn) := ⟨rfl, rfl, rfl, by decide +kernel, rfl, by decide +kernel, by decide +kernel⟩
section
variable {P : Program} {w : World} {K : PySem.W.Frag} {mg : Str → Option Value} {base : Heap} {f : Addr} {fd : FuncData} {T : List Addr}
theorem ok_check_units (F : Fun K "check_units" "check_units" sChUn f fd) (G : Glob K mg) (GC : GlobC K mg) {fn : Addr} {dn : FuncData} (c_check_number : Cal P w K mg base "check_number" 2 ["value", "least", "greatest"] (spD K T R_check_number) fn dn) : FnOk P w K mg base CX0 3 f fd ["value"] (spD K T R_check_units) := by
  refine fn_sd F scChUn (fun ss d h => ?_) (fun cdv A outer s H E hr => ⟨_, (pss_one (ps_expr (pe_call c_check_number.ok (hr.mono (by decide)) (by rfl) c_check_number.g c_check_number.kp c_check_number.b .nil pass0 (pa_cons (pv 0) (pa_cons pe_int (pa_cons (pe_glob (v := .int 200) (by rfl) GC.MOST_UNITS_running ⟨_, rfl⟩) pa_nil)))))), fun M H0 ss d h => ?_⟩)
  · obtain ⟨e, h1, rfl, rfl⟩ := h
    rfl
  · obtain ⟨e, h1, rfl, rfl⟩ := h
    exact sd_drop (ed_call (ea_d (ed_var rfl) (ea_d ed_int (ea_d ed_int ea_nil))) ⟨e, 0, 200, h1, rfl, rfl⟩) rfl
end
abbrev sChRun : Stmt := top 79
abbrev nChRun : List Str := ["scheduler", "hall", "most"]
theorem scChRun : FnScope nChRun ["scheduler", "hall", "most"] (defScope sChRun) := ⟨rfl, rfl, rfl, by decide +kernel, rfl, by decide +kernel, by decide +kernel⟩
section
variable {P : Program} {w : World} {K : PySem.W.Frag} {mg : Str → Option Value} {base : Heap} {f : Addr} {fd : FuncData} {T : List Addr}
theorem ok_check_run (F : Fun K "check_run" "check_run" sChRun f fd) (G : Glob K mg) {fh : Addr} {dh : FuncData} (c_check_hall : Cal P w K mg base "check_hall" 8 ["value"] (spD K T R_check_hall) fh dh) {fs fu : Addr} {ds du : FuncData} (c_check_scheduler : Cal P w K mg base "check_scheduler" 7 ["value", "size"] (spD K T R_check_scheduler) fs ds) (c_check_units : Cal P w K mg base "check_units" 3 ["value"] (spD K T R_check_units) fu du) : FnOk P w K mg base CX0 9 f fd ["scheduler", "hall", "most"] (spD K T R_check_run) := by
  refine fn_sd F scChRun (fun ss d h => ?_) (fun cdv A outer s H E hr => ⟨_, (pss_cons (ps_expr (pe_call c_check_hall.ok (hr.mono (by decide)) (by rfl) c_check_hall.g c_check_hall.kp c_check_hall.b .nil pass0 (pa_cons (pv 1) pa_nil)))
      (pss_cons (ps_expr (pe_call c_check_scheduler.ok (hr.mono (by decide)) (by rfl) c_check_scheduler.g c_check_scheduler.kp c_check_scheduler.b .nil pass0 (pa_cons (pv 0) (pa_cons (pe_callB call_len_seq (by rfl) G.len PySem.boot_len (pa_cons (pv 1) pa_nil)) pa_nil))))
      (pss_one (ps_expr (pe_call c_check_units.ok (hr.mono (by decide)) (by rfl) c_check_units.g c_check_units.kp c_check_units.b .nil pass0 (pa_cons (pv 2) pa_nil)))))), fun M H0 ss d h => ?_⟩)
  · obtain ⟨s, hl, m, h1, h2, h3, rfl, rfl⟩ := h
    rfl
  · obtain ⟨s, hl, m, h1, h2, h3, rfl, rfl⟩ := h
    refine sd_seq (sd_drop (ed_call (ea_d (ed_var rfl) ea_nil) ⟨.list hl, h1, rfl, rfl⟩) ?_)
    refine sd_seq (sd_drop (ed_call (ea_d (ed_var rfl) (ea_d (ed_lenL (ds := hl) (el_ed (ed_var rfl))) ea_nil)) ⟨s, (hl.length : Int), h2, rfl, rfl⟩) ?_)
    exact sd_drop (ed_call (ea_d (ed_var rfl) ea_nil) ⟨m, h3, rfl, rfl⟩) rfl
end
abbrev sChAll : Stmt := top 87
abbrev nChAll : List Str := ["scheduler", "hall", "most", "slot"]
theorem scChAll : FnScope nChAll ["scheduler", "hall", "most", "slot"] (defScope sChAll) := ⟨rfl, rfl, rfl, by decide +kernel, rfl, by decide +kernel, by decide +kernel⟩
section
variable {P : Program} {w : World} {K : PySem.W.Frag} {mg : Str → Option Value} {base : Heap} {f : Addr} {fd : FuncData} {T : List Addr}
theorem ok__check_all (F : Fun K "_check_all" "_check_all" sChAll f fd) (G : Glob K mg) {fr : Addr} {dr : FuncData} (c_check_run : Cal P w K mg base "check_run" 9 ["scheduler", "hall", "most"] (spD K T R_check_run) fr dr) {fn : Addr} {dn : FuncData} (c_check_number : Cal P w K mg base "check_number" 2 ["value", "least", "greatest"] (spD K T R_check_number) fn dn) : FnOk P w K mg base CX0 10 f fd ["scheduler", "hall", "most", "slot"] (spD K T R__check_all) := by
  refine fn_sd F scChAll (fun ss d h => ?_) (fun cdv A outer s H E hr => ⟨_, (pss_cons (ps_expr (pe_call c_check_run.ok (hr.mono (by decide)) (by rfl) c_check_run.g c_check_run.kp c_check_run.b .nil pass0 (pa_cons (pv 0) (pa_cons (pv 1) (pa_cons (pv 2) pa_nil)))))
      (pss_one (ps_expr (pe_call c_check_number.ok (hr.mono (by decide)) (by rfl) c_check_number.g c_check_number.kp c_check_number.b .nil pass0 (pa_cons (pv 3) (pa_cons pe_int (pa_cons (pe_op op_sub (pe_callB call_len_seq (by rfl) G.len PySem.boot_len (pa_cons (pv 1) pa_nil)) pe_int) pa_nil))))))), fun M H0 ss d h => ?_⟩)
  · obtain ⟨s, hl, m, e, h1, h2, h3, h4, rfl, rfl⟩ := h
    rfl
  · obtain ⟨s, hl, m, e, h1, h2, h3, h4, rfl, rfl⟩ := h
    refine sd_seq (sd_drop (ed_call (ea_d (ed_var rfl) (ea_d (ed_var rfl) (ea_d (ed_var rfl) ea_nil))) ⟨s, hl, m, h1, h2, h3, rfl, rfl⟩) ?_)
    exact sd_drop (ed_call (ea_d (ed_var rfl) (ea_d ed_int (ea_d (ed_I0 (g := fun a b => a - b) (ed_lenL (ds := hl) (el_ed (ed_var rfl))) ed_int) ea_nil))) ⟨e, 0, (hl.length : Int) - 1, h4, rfl, rfl⟩) rfl
end
abbrev sWhole : Stmt := top 61
abbrev nWhole : List Str := ["hall", "_", "program"]
theorem scWhole : FnScope nWhole ["hall"] (defScope sWhole) := ⟨rfl, rfl, rfl, by decide +kernel, rfl, by decide +kernel, by decide +kernel⟩
section
variable {P : Program} {w : World} {K : PySem.W.Frag} {mg : Str → Option Value} {base : Heap} {f : Addr} {fd : FuncData} {T : List Addr}
theorem ok_whole_work {co : Addr} (F : FunC K "whole_work" "whole_work" sWhole f fd co) (G : Glob K mg) {PT : Addr} (TB : GxR.TabB base mg co PT) (hPT : PT ∈ T) {fh : Addr} {dh : FuncData} (c_check_hall : Cal P w K mg base "check_hall" 8 ["value"] (spD K T R_check_hall) fh dh) {fL : Addr} {dL : FuncData} (c_length : Cal P w K mg base "length" 6 ["program"] (spD K T R_length) fL dL) : FnOk P w K mg base CX0 9 f fd ["hall"] (spD K T R_whole_work) := by
  refine fn_sdC F scWhole (fun ss d h => ?_) (fun A outer s H E hr => ⟨_, (pss_cons (ps_expr (pe_call c_check_hall.ok (hr.mono (by decide)) (by rfl) c_check_hall.g c_check_hall.kp c_check_hall.b .nil pass0 (pa_cons (pv 0) pa_nil)))
      (pss_one (ps_ret (GE.pe_sumG (k := 6) (own := [("_", 1), ("program", 2)]) (g := (gTup K 2 (gCons (gName 1) (gCons (gName 2) gNil)))) (hr.mono (by decide)) rfl scWhole.nd (by rfl) G.sum TB rfl ⟨blkOk_by (N := nWhole) (sc := defScope sWhole) (by decide +kernel), by rfl, by decide +kernel, by rfl⟩ (pi_list (pv 0)) (fun _ _ _ _ _ _ => (pg_tup (by rfl) (pgs_cons (pg_name (i := 1) scWhole.nd rfl (.inl rfl)) (pgs_cons (pg_name (i := 2) scWhole.nd rfl (.inl rfl)) pgs_nil)))) (fun _ _ _ _ _ _ hr2 => (pe_call c_length.ok (hr2.mono (by decide)) (by rfl) c_length.g c_length.kp c_length.b .nil pass0 (pa_cons (pv 2) pa_nil))))))), fun M H0 ss d h => ?_⟩)
  · obtain ⟨hl, h1, rfl, rfl⟩ := h
    rfl
  · obtain ⟨hl, h1, rfl, rfl⟩ := h
    obtain ⟨ds, e, l1, l2, hp⟩ := hall_inv h1
    injection e with e
    subst e
    refine sd_seq (sd_drop (ed_call (ea_d (ed_var rfl) ea_nil) ⟨.list hl, h1, rfl, rfl⟩) ?_)
    refine sd_ret (ed_sumG (js := [1, 2]) workD hPT (id_list (ed_var rfl)) (by decide) (fun d hd H1 _ => ?_)) rfl
    obtain ⟨a, b, rfl, _, p2⟩ := proc_inv (hp d hd)
    exact ⟨[a, .list b], tg_tup2, ed_call (ea_d (ed_var rfl) ea_nil) ⟨b, p2, rfl, rfl⟩⟩
end
abbrev sRun : Stmt := top 83
abbrev nRun : List Str := ["scheduler", "hall", "most"]
theorem scRun : FnScope nRun ["scheduler", "hall", "most"] (defScope sRun) := ⟨rfl, rfl, rfl, by decide +kernel, rfl, by decide +kernel, by decide +kernel⟩
section
variable {P : Program} {w : World} {K : PySem.W.Frag} {mg : Str → Option Value} {base : Heap} {f : Addr} {fd : FuncData} {T : List Addr}
theorem ok_run (F : Fun K "run" "run" sRun f fd) (G : Glob K mg) {μ : Type} {S : Chs μ} {sch : PD} {fr : Addr} {dr : FuncData} (c_check_run : Cal P w K mg base "check_run" 9 ["scheduler", "hall", "most"] (spD K T R_check_run) fr dr) {fo : Addr} {do_ : FuncData} (c_run_of : Cal P w K mg base "run_of" 14 ["scheduler", "hall", "most"] (spD K T (R_run_of S sch)) fo do_) : FnOk P w K mg base CX0 15 f fd ["scheduler", "hall", "most"] (spD K T (R_run S sch)) := by
  refine fn_sd F scRun (fun ss d h => ?_) (fun cdv A outer s H E hr => ⟨_, (pss_cons (ps_expr (pe_call c_check_run.ok (hr.mono (by decide)) (by rfl) c_check_run.g c_check_run.kp c_check_run.b .nil pass0 (pa_cons (pv 0) (pa_cons (pv 1) (pa_cons (pv 2) pa_nil)))))
      (pss_one (ps_ret (pe_call c_run_of.ok (hr.mono (by decide)) (by rfl) c_run_of.g c_run_of.kp c_run_of.b .nil pass0 (pa_cons (pv 0) (pa_cons (pv 1) (pa_cons (pv 2) pa_nil))))))), fun M H0 ss d h => ?_⟩)
  · obtain ⟨hl, n, o, rfl, rfl⟩ := h
    rfl
  · obtain ⟨hl, n, o, rfl, rfl⟩ := h
    refine sd_seq (sd_drop (ed_call (ea_d (ed_var rfl) (ea_d (ed_var rfl) (ea_d (ed_var rfl) ea_nil))) (chk_ok o)) ?_)
    exact sd_ret (ed_call (ea_d (ed_var rfl) (ea_d (ed_var rfl) (ea_d (ed_var rfl) ea_nil))) ⟨hl, n, o.l.1, o.l.2, by have := o.vn; omega, o.vr, rfl, rfl⟩) rfl
end
abbrev sLog : Stmt := top 84
abbrev nLog : List Str := ["scheduler", "hall", "most", "row"]
theorem scLog : FnScope nLog ["scheduler", "hall", "most"] (defScope sLog) := ⟨rfl, rfl, rfl, by decide +kernel, rfl, by decide +kernel, by decide +kernel⟩
section
variable {P : Program} {w : World} {K : PySem.W.Frag} {mg : Str → Option Value} {base : Heap} {f : Addr} {fd : FuncData} {T : List Addr}
theorem ok_log (F : Fun K "log" "log" sLog f fd) (G : Glob K mg) {μ : Type} {S : Chs μ} {sch : PD} {fr : Addr} {dr : FuncData} (c_check_run : Cal P w K mg base "check_run" 9 ["scheduler", "hall", "most"] (spD K T R_check_run) fr dr) {fo : Addr} {do_ : FuncData} (c_rows_of : Cal P w K mg base "rows_of" 13 ["scheduler", "hall", "most"] (spD K T (R_rows_of S sch)) fo do_) : FnOk P w K mg base CX0 15 f fd ["scheduler", "hall", "most"] (spD K T (R_log S sch)) := by
  refine fn_sd F scLog (fun ss d h => ?_) (fun cdv A outer s H E hr => ⟨_, (pss_cons (ps_expr (pe_call c_check_run.ok (hr.mono (by decide)) (by rfl) c_check_run.g c_check_run.kp c_check_run.b .nil pass0 (pa_cons (pv 0) (pa_cons (pv 1) (pa_cons (pv 2) pa_nil)))))
      (pss_one (ps_ret (pe_lc (own := [("row", 3)]) (g := (gName 3)) (tt := tYes) (te := (tTup (tCons (tOp (rIxT K) (tVar 3) (tC (.int 1))) (tCons (tOp (rIxT K) (tVar 3) (tC (.int 2))) tNil)))) rfl scLog.nd (pi_list (pe_call c_rows_of.ok (hr.mono (by decide)) (by rfl) c_rows_of.g c_rows_of.kp c_rows_of.b .nil pass0 (pa_cons (pv 0) (pa_cons (pv 1) (pa_cons (pv 2) pa_nil))))) (blkOk_by (N := nLog) (sc := defScope sLog) (by decide +kernel)) (fun _ _ _ _ _ => (pg_name (i := 3) scLog.nd rfl (.inl rfl))) (fun _ _ _ _ _ => pts_nil) (fun _ _ _ _ _ => (pe_tup (pa_cons (pe_ix ix_tup (pv 3) pe_int (fun _ _ => rfl)) (pa_cons (pe_ix ix_tup (pv 3) pe_int (fun _ _ => rfl)) pa_nil)))))))), fun M H0 ss d h => ?_⟩)
  · obtain ⟨hl, n, o, rfl, rfl⟩ := h
    rfl
  · obtain ⟨hl, n, o, rfl, rfl⟩ := h
    have on := o.vn
    refine sd_seq (sd_drop (ed_call (ea_d (ed_var rfl) (ea_d (ed_var rfl) (ea_d (ed_var rfl) ea_nil))) (chk_ok o)) ?_)
    refine sd_ret (ed_en (en_is (en_lc (js := [3]) (fun _ => true) (fun d => match d with | .tuple [_, b, c] => .tuple [b, c] | _ => .none) (id_list (ed_call (ea_d (ed_var rfl) (ea_d (ed_var rfl) (ea_d (ed_var rfl) ea_nil))) ⟨hl, n, o.l.1, o.l.2, by omega, o.vr, rfl, rfl⟩)) (Nat.le_trans (rows_len S n _) (by omega)) (by decide) (fun d hd H1 _ => ?_)) ?_)) rfl
    · obtain ⟨a, b, e, rfl⟩ := rows_shape S n _ d hd
      exact ⟨[.tuple [a, b, e]], tg_name, et_yes, fun _ => ed_tup (ds := [b, e]) (ea_d (ed_ixT (ds := [a, b, e]) (i := 1) (ed_var rfl) ed_int rfl) (ea_d (ed_ixT (ds := [a, b, e]) (i := 2) (ed_var rfl) ed_int rfl) ea_nil)) (by simp)⟩
    · rw [List.filter_eq_self.mpr fun _ _ => rfl]
      exact rows_log S n _
end
abbrev sEnds : Stmt := top 85
abbrev nEnds : List Str := ["scheduler", "hall", "most", "machine"]
theorem scEnds : FnScope nEnds ["scheduler", "hall", "most"] (defScope sEnds) := ⟨rfl, rfl, rfl, by decide +kernel, rfl, by decide +kernel, by decide +kernel⟩
section
variable {P : Program} {w : World} {K : PySem.W.Frag} {mg : Str → Option Value} {base : Heap} {f : Addr} {fd : FuncData} {T : List Addr}
theorem ok_ends (F : Fun K "ends" "ends" sEnds f fd) (G : Glob K mg) {μ : Type} {S : Chs μ} {C CM : Addr} {fs : List (Str × PD)} (mc : MC K CM) {sch : PD} {fr : Addr} {dr : FuncData} (c_check_run : Cal P w K mg base "check_run" 9 ["scheduler", "hall", "most"] (spD K T R_check_run) fr dr) {fm ft fg fw : Addr} {dm dt dg dw : FuncData} (c_machine_for : Cal P w K mg base "machine_for" 12 ["scheduler", "hall"] (spMF K T CM (R_machine_for S C fs sch)) fm dm) (c_rows_told : Cal P w K mg base "rows_told" 11 ["machine", "most"] (spM K T CM (R_rows_told S C fs)) ft dt) (m_goes_on : Met P w K mg base CM "goes_on" 3 ["self"] (spM K T CM (R_goes S C fs)) fg dg) (m_words : Met P w K mg base CM "words" 1 ["self"] (spM K T CM (R_words S C fs)) fw dw) : FnOk P w K mg base CX0 15 f fd ["scheduler", "hall", "most"] (spD K T (R_ends S sch)) := by
  refine F.ok scEnds (fun vs H Q E h => ?_) (fun cdv A outer s H vs Q E hr h => ?_)
  · obtain ⟨M, ss, d, _, _, h3, ⟨hl, n, o, rfl, rfl⟩, _⟩ := h
    exact h3.len
  · obtain ⟨M, ss, d, h1, h2, h3, ⟨hl, n, o, rfl, rfl⟩, q⟩ := h
    refine ⟨_, (pss_cons (ps_expr (pe_call c_check_run.ok (hr.mono (by decide)) (by rfl) c_check_run.g c_check_run.kp c_check_run.b .nil pass0 (pa_cons (pv 0) (pa_cons (pv 1) (pa_cons (pv 2) pa_nil)))))
      (pss_cons (ps_set (i := 3) scEnds.nd rfl (.inl rfl) (pe_call c_machine_for.ok (hr.mono (by decide)) (by rfl) c_machine_for.g c_machine_for.kp c_machine_for.b .nil pass0 (pa_cons (pv 0) (pa_cons (pv 1) pa_nil))))
      (pss_cons (ps_expr (pe_call c_rows_told.ok (hr.mono (by decide)) (by rfl) c_rows_told.g c_rows_told.kp c_rows_told.b .nil pass0 (pa_cons (pv 3) (pa_cons (pv 2) pa_nil))))
      (pss_cons (ps_if (pt_val (pe_meth0 (pv 3) m_goes_on.cl m_goes_on.m m_goes_on.ok (hr.mono (by decide)) m_goes_on.b .nil pass0)) (pss_one (ps_ret pe_str)) pss_nil)
      (pss_one (ps_ret (pe_ifExp (pt_cmpR op_in_seq pe_str (pe_meth0 (pv 3) m_words.cl m_words.m m_words.ok (hr.mono (by decide)) m_words.b .nil pass0) (by rfl)) pe_str pe_str))))))), ?_⟩
    have r0 := start_sr (N := nEnds) h1 h2 h3
    have on := o.vn
    refine ed_call (c := ⟨K, T, M, H⟩) (R := R_check_run) (ss := [.dat sch, .dat (encHall hl), .dat (intD n)]) (d := .none) (ea_d (ed_var rfl) (ea_d (ed_var rfl) (ea_d (ed_var rfl) ea_nil))) (chk_ok o) [] _ H r0 _ fun v1 H1 k1 _ => ?_
    refine mf_asg (K := K) (T := T) (M := M) (H := H1) (R := R_machine_for S C fs sch) (ss := [.dat sch, .dat (encHall hl)]) rfl (sr_base (r0.move k1)) (ea_d (ed_var rfl) (ea_d (ed_var rfl) ea_nil)) ⟨hl, o.l.1, o.l.2, rfl, rfl⟩ fun x H2 O f2 k2 rs => ?_
    have f0 : ∀ a ∈ O, H a = none := fun a ha => k1.free h2 (f2 a ha)
    have okE := okRuns_ps n _ o.vr
    refine sm_at (mf_ends (F := []) f0 (k1.trans k2) q) rs (sm_seq (sm_dropC (R := R_rows_told S C fs) (ss := [.dat (intD n)]) rfl (am_d (em_var rfl) am_nil) ⟨machH S hl, n, by omega, o.vr, rfl, rfl, rfl, rfl⟩ (sm_seq (sm_ifM (R := R_goes S C fs) (ss := []) (b := goesB (runsM S n (machH S hl)).2) rfl (l_no (by decide +kernel)) am_nil ⟨(runsM S n (machH S hl)).2, okE.1, okE.2, rfl, rfl, rfl, rfl⟩ (fun hb => sm_ret (fun H o t => ed_str) ?_) (fun hb => sm_next ?_)))))
    · show PyData.str "open" = .str (endOf _)
      unfold endOf
      rw [if_pos hb]
    · have e0 : (x :: []) = [x] := rfl
      refine sm_retInM (R := R_words S C fs) rfl (l_no (by decide +kernel)) ⟨(runsM S n (machH S hl)).2, okE.1, rfl, rfl, rfl, rfl⟩ ?_ ?_
      · rw [List.all_map]
        exact List.all_eq_true.mpr fun _ _ => rfl
      · show PyData.str _ = .str (endOf _)
        have e1 : endOf (runsM S n (machH S hl)).2 = _ := if_neg (by rw [hb]; decide)
        rw [e1, List.map_map]
        rfl
end
abbrev sFin : Stmt := top 89
abbrev nFin : List Str := ["scheduler", "hall", "most", "slot", "machine"]
theorem scFin : FnScope nFin ["scheduler", "hall", "most", "slot"] (defScope sFin) := ⟨rfl, rfl, rfl, by decide +kernel, rfl, by decide +kernel, by decide +kernel⟩
section
variable {P : Program} {w : World} {K : PySem.W.Frag} {mg : Str → Option Value} {base : Heap} {f : Addr} {fd : FuncData} {T : List Addr}
theorem ok_finish (F : Fun K "finish" "finish" sFin f fd) (G : Glob K mg) {μ : Type} {S : Chs μ} {C CM : Addr} {fs : List (Str × PD)} (mc : MC K CM) {sch : PD} {fa : Addr} {da : FuncData} (c__check_all : Cal P w K mg base "_check_all" 10 ["scheduler", "hall", "most", "slot"] (spD K T R__check_all) fa da) {fm ft fg fw : Addr} {dm dt dg dw : FuncData} (c_machine_for : Cal P w K mg base "machine_for" 12 ["scheduler", "hall"] (spMF K T CM (R_machine_for S C fs sch)) fm dm) (c_rows_told : Cal P w K mg base "rows_told" 11 ["machine", "most"] (spM K T CM (R_rows_told S C fs)) ft dt) : FnOk P w K mg base CX0 15 f fd ["scheduler", "hall", "most", "slot"] (spD K T (R_finish S sch)) := by
  refine F.ok scFin (fun vs H Q E h => ?_) (fun cdv A outer s H vs Q E hr h => ?_)
  · obtain ⟨M, ss, d, _, _, h3, ⟨hl, n, sl, v, o, _, _, rfl, rfl⟩, _⟩ := h
    exact h3.len
  · obtain ⟨M, ss, d, h1, h2, h3, ⟨hl, n, sl, v, o, hs, hv, rfl, rfl⟩, q⟩ := h
    refine ⟨_, (pss_cons (ps_expr (pe_call c__check_all.ok (hr.mono (by decide)) (by rfl) c__check_all.g c__check_all.kp c__check_all.b .nil pass0 (pa_cons (pv 0) (pa_cons (pv 1) (pa_cons (pv 2) (pa_cons (pv 3) pa_nil))))))
      (pss_cons (ps_set (i := 4) scFin.nd rfl (.inl rfl) (pe_call c_machine_for.ok (hr.mono (by decide)) (by rfl) c_machine_for.g c_machine_for.kp c_machine_for.b .nil pass0 (pa_cons (pv 0) (pa_cons (pv 1) pa_nil))))
      (pss_cons (ps_expr (pe_call c_rows_told.ok (hr.mono (by decide)) (by rfl) c_rows_told.g c_rows_told.kp c_rows_told.b .nil pass0 (pa_cons (pv 4) (pa_cons (pv 2) pa_nil))))
      (pss_cons (ps_if (pt_cmp (pc_isN (pe_ix ix_list (pe_fld (pv 4) rfl) (pv 3) (fun _ _ => rfl)))) (pss_one ps_never) pss_nil)
      (pss_one (ps_ret (pe_ix ix_list (pe_fld (pv 4) rfl) (pv 3) (fun _ _ => rfl)))))))), ?_⟩
    have r0 := start_sr (N := nFin) h1 h2 h3
    have on := o.vn
    have chk : R__check_all [.dat sch, .dat (encHall hl), .dat (intD n), .dat (intD sl)] .none := ⟨sch, hallL hl, intD n, intD sl, o.vh, by rw [List.length_map]; exact o.vs, num_ok on, by
      rw [List.length_map]
      show (decide ((0 : Int) ≤ (sl : Int)) && decide ((sl : Int) ≤ (hl.length : Int) - 1)) = true
      rw [Bool.and_eq_true]
      exact ⟨decide_eq_true (by omega), decide_eq_true (by omega)⟩, rfl, rfl⟩
    refine ed_call (c := ⟨K, T, M, H⟩) (R := R__check_all) (ss := [.dat sch, .dat (encHall hl), .dat (intD n), .dat (intD sl)]) (d := .none) (ea_d (ed_var rfl) (ea_d (ed_var rfl) (ea_d (ed_var rfl) (ea_d (ed_var rfl) ea_nil)))) chk [] _ H r0 _ fun v1 H1 k1 _ => ?_
    refine mf_asg (K := K) (T := T) (M := M) (H := H1) (R := R_machine_for S C fs sch) (ss := [.dat sch, .dat (encHall hl)]) rfl (sr_base (r0.move k1)) (ea_d (ed_var rfl) (ea_d (ed_var rfl) ea_nil)) ⟨hl, o.l.1, o.l.2, rfl, rfl⟩ fun x H2 O f2 k2 rs => ?_
    have f0 : ∀ a ∈ O, H a = none := fun a ha => k1.free h2 (f2 a ha)
    have fi : atI ((runsM S n (machH S hl)).2.finishes.map encO) ((sl : Nat) : Int) = some (intD v) := atI_at (by rw [List.getElem?_map, hv]; rfl)
    exact sm_at (mf_ends (F := []) f0 (k1.trans k2) q) rs (sm_seq (sm_dropC (R := R_rows_told S C fs) (ss := [.dat (intD n)]) rfl (am_d (em_var rfl) am_nil) ⟨machH S hl, n, by omega, o.vr, rfl, rfl, rfl, rfl⟩ (sm_seq (sm_when (b := false) (fun H o t => et_is (et_B (ed_isN (ed_ixL (ol_fld o rfl mc.cl mc.fi l_fi) (ed_var rfl) fi))) rfl) (fun z => by cases z) (fun _ => sm_ret (fun H o t => ed_ixL (ol_fld o rfl mc.cl mc.fi l_fi) (ed_var rfl) fi) rfl)))))
end
end PT
/-! xs.count(y) over data -/
namespace DL
open PySem PySem.Spec PyProof.Rows L2 DA
section
variable {X : Cx}
def rCntD (K : PySem.W.Frag) : V → List V → Hp → VK → Prop := fun x xs H Q => ∃ (a : Addr) (y : V) (d : PyData) (ds : List PyData), x = V.ref a ∧ xs = [y] ∧ Dp K H (V.ref a) (.list ds) ∧ Dp K H y d ∧
  SeqAt.shaped (.list ds) = true ∧ SeqAt.shaped d = true ∧ Q (.int ((ds.countP fun z => PyData.eqv z d : Nat) : Int)) H
theorem mt_countD (hu : X.A.units + 65 < cLine) : MtR X "list.count" (rCntD X.K) := by
  intro pins s σ H x xs v us Q I rx rxs h
  obtain ⟨a, y, d, ds, rfl, rfl, hl, hy, sl, sd, q⟩ := h
  cases rx
  cases rxs with
  | cons ry rt =>
    rename_i uy ut
    cases rt
    obtain ⟨bs, r1⟩ := Dp.reads I d y uy hy ry
    have hxs : PyData.canLayAll0 ds = true := SeqAt.canLay_of_shaped sl
    have hroom : X.A.units + 1 + min (PyData.depthAll ds) d.depth < cLine := room_in_shaped sd hu
    cases hl with
    | lst hs ha =>
      obtain ⟨its, rv, ⟨⟨cls, dd, data, sls⟩, n, ho, hc, hdn, hdt⟩, hlen⟩ := I.list hs
      simp only at hc hdt
      subst hc hdt
      obtain ⟨as, h4⟩ := Dp.readsAll I ds _ its ha rv
      have hmap : its.map (SeqAt.readOf s.heap) = ds := SeqAt.readsAll_map ds its as hxs h4
      refine call_meets PySem.F.slot_list_count ⟨_, ho, rfl⟩ PySem.F.entry_list_count (PySem.F.args_list_count_2 _ _)
        (SeqAt.list_countAt a its.toArray n dd sls uy (fun u => PyData.eqv (SeqAt.readOf s.heap u) d)) ⟨ho, SeqAt.items_eqAt (vs := its.toArray) (show ReadsAll s.heap its.toArray.toList ds as from h4) r1 hxs (SeqAt.canLay_of_shaped sd) hroom, ?_⟩
      have ec : its.toArray.toList.countP (fun u => PyData.eqv (SeqAt.readOf s.heap u) d) = ds.countP fun z => PyData.eqv z d := by
        rw [← hmap, List.countP_map]
        rfl
      refine ⟨.int ((ds.countP fun z => PyData.eqv z d : Nat) : Int), H, I.tok _, ⟨s.toks, ?_⟩, q⟩
      show Value.int ((its.toArray.toList.countP (fun u => PyData.eqv (SeqAt.readOf s.heap u) d) : Nat) : Int) s.toks = _
      rw [ec]
end
section
variable {c : DC} {ρ : DEnv} {ta tb te : TE} {d : PD}
theorem ed_countD {ds : List PD} (ha : EL c te ρ ds) (hb : ED c tb ρ d) (hs : SeqAt.shaped (.list ds) = true) (hd : SeqAt.shaped d = true) : ED c (tBM c.K "list" (rCntD c.K) te (tCons tb tNil)) ρ (.int ((ds.countP fun z => PyData.eqv z d : Nat) : Int)) := fun A σ H s Q q =>
  ha A σ H s _ fun a xs H1 k1 h1 h2 => ⟨.inl ⟨rfl, xs, h1⟩, hb A σ H1 (s.move k1) _ fun w H2 k2 h3 => by
    have h4 := dps_keep (hid_keep k2) (s.move k1).tabm h2
    exact ⟨a, w, d, ds, rfl, rfl, .lst (k2.sqL (s.move k1).tabs h1) (dps_same hid_same h4), dp_same hid_same h3, hs, hd, q _ H2 (k1.trans k2) (.int _)⟩⟩
end
/-! shaped data -/
theorem canAll {ds : List PD} (h : ∀ d ∈ ds, PyData.canLay0 d = true) : PyData.canLayAll0 ds = true := by
  induction ds with
  | nil => simp [PyData.canLayAll0]
  | cons d ds ih => simp [PyData.canLayAll0, h d List.mem_cons_self, ih fun e he => h e (List.mem_cons_of_mem _ he)]
theorem depAll {ds : List PD} {n : Nat} (h : ∀ d ∈ ds, PyData.depth d ≤ n) : PyData.depthAll ds ≤ n := by
  induction ds with
  | nil => simp [PyData.depthAll]
  | cons d ds ih =>
    have h1 := h d List.mem_cons_self
    have h2 := ih fun e he => h e (List.mem_cons_of_mem _ he)
    simp only [PyData.depthAll]
    omega
theorem shaped_listOf {ds : List PD} {n : Nat} (h : ∀ d ∈ ds, PyData.canLay0 d = true ∧ PyData.depth d ≤ n) (hn : n ≤ 60) : SeqAt.shaped (.list ds) = true := by
  have h1 := canAll fun d hd => (h d hd).1
  have h2 := depAll fun d hd => (h d hd).2
  show (PyData.canLay0 (.list ds) && decide (PyData.depth (.list ds) ≤ 64)) = true
  rw [Bool.and_eq_true]
  refine ⟨?_, decide_eq_true ?_⟩
  · simp only [PyData.canLay0]
    exact h1
  · simp only [PyData.depth]
    omega
end DL
namespace PT
open PySem PySem.Spec PyProof.Rows L2 DA DL TR

section
variable {μ : Type}
def R_served (S : Chs μ) (sch : PD) : List DS → PD → Prop := fun ss d => ∃ (h : Hall) (n : Nat), okRun S sch h n ∧ ss = [.dat sch, .dat (encHall h), .dat (intD n)] ∧ d = .list ((List.range h.length).map fun i => intD ((whosM S n (machH S h)).count (some i)))
def R_idle (S : Chs μ) (sch : PD) : List DS → PD → Prop := fun ss d => ∃ (h : Hall) (n : Nat), okRun S sch h n ∧ ss = [.dat sch, .dat (encHall h), .dat (intD n)] ∧ d = intD ((whosM S n (machH S h)).count none)
def R_vain (S : Chs μ) (sch : PD) : List DS → PD → Prop := fun ss d => ∃ (h : Hall) (n : Nat), okRun S sch h n ∧ (∀ x ∈ logsM S n (machH S h), PyData.strOk x.2 = true) ∧ ss = [.dat sch, .dat (encHall h), .dat (intD n)] ∧ d = .list ((List.range h.length).map fun i => intD ((logsM S n (machH S h)).count (some i, ("ask" : Str))))
def rnrs (xs : List (Option Nat)) : List Nat := xs.filterMap id
def swN (r : List Nat) : Nat := ((List.range (r.length - 1)).filter fun i => r.getD (i + 1) 0 != r.getD i 0).length
def R_switches (S : Chs μ) (sch : PD) : List DS → PD → Prop := fun ss d => ∃ (h : Hall) (n : Nat), okRun S sch h n ∧ ss = [.dat sch, .dat (encHall h), .dat (intD n)] ∧ d = intD (swN (rnrs (whosM S n (machH S h))))
theorem encO_can (x : Option Nat) : PyData.canLay0 (encO x) = true ∧ PyData.depth (encO x) ≤ 1 := by
  cases x <;> exact ⟨by simp [encO, PyData.canLay0], by simp [encO, PyData.depth]⟩
theorem whos_shaped (xs : List (Option Nat)) : SeqAt.shaped (.list (xs.map encO)) = true := shaped_listOf (n := 1) (fun d hd => by
  obtain ⟨x, _, rfl⟩ := List.mem_map.mp hd
  exact encO_can x) (by omega)
theorem hu65 {A : Around} {k : Nat} (hr : Room k A) : A.units + 65 < cLine := by have := hr.un; omega
theorem logs_shaped (xs : List (Option Nat × Str)) (hx : ∀ x ∈ xs, PyData.strOk x.2 = true) : SeqAt.shaped (.list (xs.map encLg)) = true := shaped_listOf (n := 3) (fun d hd => by
  obtain ⟨x, hm, rfl⟩ := List.mem_map.mp hd
  have h := encO_can x.1
  exact ⟨by simp [encLg, PyData.canLay0, PyData.canLayAll0, h.1, hx x hm], by have := h.2; simp [encLg, PyData.depth, PyData.depthAll]; omega⟩) (by omega)
theorem eqv_encO (x y : Option Nat) : PyData.eqv (encO x) (encO y) = (x == y) := by
  cases x with
  | none => cases y <;> rfl
  | some a =>
    cases y with
    | none => rfl
    | some b =>
      show PyData.eqv (.int (a : Int)) (.int (b : Int)) = _
      have e : PyData.eqv (.int (a : Int)) (.int (b : Int)) = ((a : Int) == (b : Int)) := by simp only [PyData.eqv]
      rw [e]
      by_cases h : a = b
      · subst h; simp
      · have : ((a : Int) == (b : Int)) = false := by simp; omega
        rw [this]; simp [h]
theorem count_enc (xs : List (Option Nat)) (y : Option Nat) : (xs.map encO).countP (fun z => PyData.eqv z (encO y)) = xs.count y := by
  rw [List.countP_map, List.count]
  congr 1
  funext x
  exact eqv_encO x y
theorem count_lg (xs : List (Option Nat × Str)) (i : Nat) (w : Str) : (xs.map encLg).countP (fun z => PyData.eqv z (.tuple [intD i, .str w])) = xs.count (some i, w) := by
  rw [List.countP_map, List.count]
  congr 1
  funext x
  obtain ⟨a, b⟩ := x
  show PyData.eqv (.tuple [encO a, .str b]) (.tuple [intD i, .str w]) = _
  have e : PyData.eqv (.tuple [encO a, .str b]) (.tuple [intD i, .str w]) = (PyData.eqv (encO a) (encO (some i)) && ((b == w) && true)) := by simp only [PyData.eqv, PyData.eqvAll]; rfl
  rw [e, eqv_encO, Bool.and_true]
  rfl
theorem shp_ask (i : Nat) : SeqAt.shaped (.tuple [intD i, .str "ask"]) = true := by
  have h : PyData.strOk ("ask" : Str) = true := by decide +kernel
  simp [SeqAt.shaped, intD, PyData.canLay0, PyData.canLayAll0, PyData.depth, PyData.depthAll, h]
theorem whos_len (S : Chs μ) : ∀ (n : Nat) (x : Mach μ), (whosM S n x).length ≤ n
  | 0, x => by simp [whosM]
  | n + 1, x => by
    show (if goesB x = true then _ else _ : List (Option Nat)).length ≤ _
    split
    · have := whos_len S n (tickM S x)
      simp only [List.length_cons]
      omega
    · simp
theorem logs_len (S : Chs μ) : ∀ (n : Nat) (x : Mach μ), (logsM S n x).length ≤ n
  | 0, x => by simp [logsM]
  | n + 1, x => by
    show (if goesB x = true then _ else _ : List (Option Nat × Str)).length ≤ _
    split
    · have := logs_len S n (tickM S x)
      simp only [List.length_cons]
      omega
    · simp
theorem rnrs_enc : ∀ xs : List (Option Nat), ((xs.map encO).filter fun d => !isNone d).map (fun d => d) = (rnrs xs).map intD
  | [] => rfl
  | none :: xs => rnrs_enc xs
  | some a :: xs => by
    have := rnrs_enc xs
    show intD a :: _ = intD a :: _
    rw [this]
    rfl
theorem ne_int (a b : Nat) : (!decide (V.int (a : Int) = V.int (b : Int))) = (a != b) := by
  by_cases h : a = b
  · subst h; simp
  · have : ¬ (V.int (a : Int) = V.int (b : Int)) := fun z => by injection z with z; omega
    rw [decide_eq_false this]
    simp [h]
theorem sw_eq (r : List Nat) : ((((rngD 1 (((r.length : Nat) : Int) - 1).toNat).filter fun d => match d with | .int i => r.getD i.toNat 0 != r.getD (i.toNat - 1) 0 | _ => false).map fun d => d).length : Nat) = swN r := by
  unfold rngD swN
  rw [List.length_map, List.filter_map, List.length_map]
  congr 1
  rw [show (((r.length : Nat) : Int) - 1).toNat = r.length - 1 by omega]
  refine List.filter_congr fun i _ => ?_
  show (r.getD ((1 : Int) + (i : Int)).toNat 0 != r.getD (((1 : Int) + (i : Int)).toNat - 1) 0) = _
  rw [show ((1 : Int) + (i : Int)).toNat = i + 1 by omega, Nat.add_sub_cancel]
theorem rnrs_len (xs : List (Option Nat)) : (rnrs xs).length ≤ xs.length := List.length_filterMap_le _ _
end

section
variable {P : Program} {w : World} {K : PySem.W.Frag} {mg : Str → Option Value} {base : Heap} {f : Addr} {fd : FuncData} {T : List Addr}
end
abbrev sServed : Stmt := top 88
abbrev nServed : List Str := ["scheduler", "hall", "most", "ran", "slot"]
theorem scServed : FnScope nServed ["scheduler", "hall", "most"] (defScope sServed) := ⟨rfl, rfl, rfl, by decide +kernel, rfl, by decide +kernel, by decide +kernel⟩
section
variable {P : Program} {w : World} {K : PySem.W.Frag} {mg : Str → Option Value} {base : Heap} {f : Addr} {fd : FuncData} {T : List Addr}
theorem ok_served (F : Fun K "served" "served" sServed f fd) (G : Glob K mg) {μ : Type} {S : Chs μ} {sch : PD} {fr : Addr} {dr : FuncData} (c_run : Cal P w K mg base "run" 15 ["scheduler", "hall", "most"] (spD K T (R_run S sch)) fr dr) : FnOk P w K mg base CX0 16 f fd ["scheduler", "hall", "most"] (spD K T (R_served S sch)) := by
  refine fn_sd F scServed (fun ss d h => ?_) (fun cdv A outer s H E hr => ⟨_, (pss_cons (ps_set (i := 3) scServed.nd rfl (.inr rfl) (pe_call c_run.ok (hr.mono (by decide)) (by rfl) c_run.g c_run.kp c_run.b .nil pass0 (pa_cons (pv 0) (pa_cons (pv 1) (pa_cons (pv 2) pa_nil)))))
      (pss_one (ps_ret (pe_lc (own := [("slot", 4)]) (g := (gName 4)) (tt := tYes) (te := (tBM K "list" (rCntD K) (tVar 3) (tCons (tVar 4) tNil))) rfl scServed.nd (pi_range1 (by rfl) G.range (pa_cons (pe_callB call_len_seq (by rfl) G.len PySem.boot_len (pa_cons (pv 1) pa_nil)) pa_nil)) (blkOk_by (N := nServed) (sc := defScope sServed) (by decide +kernel)) (fun _ _ _ _ _ => (pg_name (i := 4) scServed.nd rfl (.inl rfl))) (fun _ _ _ _ _ => pts_nil) (fun _ _ _ _ _ => (pe_bm PySem.F.plainAttrs_list PySem.F.slot_list_count PySem.F.type_list_count (mt_countD (hu65 hr)) (pv 3) (pa_cons (pv 4) pa_nil))))))), fun M H0 ss d h => ?_⟩)
  · obtain ⟨hl, n, o, rfl, rfl⟩ := h
    rfl
  · obtain ⟨hl, n, o, rfl, rfl⟩ := h
    have ol := o.l
    have on := o.vn
    refine sd_seq (sd_set (ed_call (R := R_run S sch) (ea_d (ed_var rfl) (ea_d (ed_var rfl) (ea_d (ed_var rfl) ea_nil))) ⟨hl, n, o, rfl, rfl⟩) ?_) 
    refine sd_ret (ed_en (en_is (en_lc (js := [4]) (fun _ => true) (fun d => match d with | .int i => intD ((whosM S n (machH S hl)).count (some i.toNat)) | _ => .none) (id_rng1 (n := (hl.length : Int)) (ea_d (ed_is (ed_lenL (ds := hallL hl) (el_ed (ed_var rfl))) (by rw [List.length_map])) ea_nil)) (by rw [rngD_len]; omega) (by decide) (fun d hd H0 _ => ?_)) ?_)) rfl
    · obtain ⟨i, hi⟩ := List.getElem?_of_mem hd
      obtain ⟨_, rfl⟩ := rngD_get hi
      have e0 : (0 : Int) + (i : Int) = (i : Int) := by omega
      rw [e0]
      refine ⟨[intD i], tg_name, et_yes, fun _ => ed_is (ed_countD (el_ed (ed_var rfl)) (ed_var rfl) (whos_shaped _) (by rfl)) ?_⟩
      rw [show (fun z => PyData.eqv z (intD i)) = fun z => PyData.eqv z (encO (some i)) from rfl, count_enc]
      rfl
    · rw [List.filter_eq_self.mpr fun _ _ => rfl]
      unfold rngD
      rw [List.map_map]
      refine List.map_congr_left fun i _ => ?_
      show intD _ = intD _
      rw [show ((0 : Int) + (i : Int)).toNat = i by omega]
      
end
abbrev sIdle : Stmt := top 91
abbrev nIdle : List Str := ["scheduler", "hall", "most"]
theorem scIdle : FnScope nIdle ["scheduler", "hall", "most"] (defScope sIdle) := ⟨rfl, rfl, rfl, by decide +kernel, rfl, by decide +kernel, by decide +kernel⟩
section
variable {P : Program} {w : World} {K : PySem.W.Frag} {mg : Str → Option Value} {base : Heap} {f : Addr} {fd : FuncData} {T : List Addr}
theorem ok_idle_units (F : Fun K "idle_units" "idle_units" sIdle f fd) (G : Glob K mg) {μ : Type} {S : Chs μ} {sch : PD} {fr : Addr} {dr : FuncData} (c_run : Cal P w K mg base "run" 15 ["scheduler", "hall", "most"] (spD K T (R_run S sch)) fr dr) : FnOk P w K mg base CX0 16 f fd ["scheduler", "hall", "most"] (spD K T (R_idle S sch)) := by
  refine fn_sd F scIdle (fun ss d h => ?_) (fun cdv A outer s H E hr => ⟨_, (pss_one (ps_ret (pe_bm PySem.F.plainAttrs_list PySem.F.slot_list_count PySem.F.type_list_count (mt_countD (hu65 hr)) (pe_call c_run.ok (hr.mono (by decide)) (by rfl) c_run.g c_run.kp c_run.b .nil pass0 (pa_cons (pv 0) (pa_cons (pv 1) (pa_cons (pv 2) pa_nil)))) (pa_cons pe_non pa_nil)))), fun M H0 ss d h => ?_⟩)
  · obtain ⟨hl, n, o, rfl, rfl⟩ := h
    rfl
  · obtain ⟨hl, n, o, rfl, rfl⟩ := h
    have ol := o.l
    have on := o.vn
    refine sd_ret (ed_is (ed_countD (d := .none) (el_ed (ed_call (R := R_run S sch) (ea_d (ed_var rfl) (ea_d (ed_var rfl) (ea_d (ed_var rfl) ea_nil))) ⟨hl, n, o, rfl, rfl⟩)) ed_non (whos_shaped _) (by rfl)) ?_) rfl
    rw [show (fun z => PyData.eqv z PyData.none) = fun z => PyData.eqv z (encO none) from rfl, count_enc]
    rfl
end
abbrev sVain : Stmt := top 92
abbrev nVain : List Str := ["scheduler", "hall", "most", "told", "slot"]
theorem scVain : FnScope nVain ["scheduler", "hall", "most"] (defScope sVain) := ⟨rfl, rfl, rfl, by decide +kernel, rfl, by decide +kernel, by decide +kernel⟩
section
variable {P : Program} {w : World} {K : PySem.W.Frag} {mg : Str → Option Value} {base : Heap} {f : Addr} {fd : FuncData} {T : List Addr}
theorem ok_asked_in_vain (F : Fun K "asked_in_vain" "asked_in_vain" sVain f fd) (G : Glob K mg) {μ : Type} {S : Chs μ} {sch : PD} {fl : Addr} {dl : FuncData} (c_log : Cal P w K mg base "log" 15 ["scheduler", "hall", "most"] (spD K T (R_log S sch)) fl dl) : FnOk P w K mg base CX0 16 f fd ["scheduler", "hall", "most"] (spD K T (R_vain S sch)) := by
  refine fn_sd F scVain (fun ss d h => ?_) (fun cdv A outer s H E hr => ⟨_, (pss_cons (ps_set (i := 3) scVain.nd rfl (.inr rfl) (pe_call c_log.ok (hr.mono (by decide)) (by rfl) c_log.g c_log.kp c_log.b .nil pass0 (pa_cons (pv 0) (pa_cons (pv 1) (pa_cons (pv 2) pa_nil)))))
      (pss_one (ps_ret (pe_lc (own := [("slot", 4)]) (g := (gName 4)) (tt := tYes) (te := (tBM K "list" (rCntD K) (tVar 3) (tCons (tTup (tCons (tVar 4) (tCons (tC (.str "ask")) tNil))) tNil))) rfl scVain.nd (pi_range1 (by rfl) G.range (pa_cons (pe_callB call_len_seq (by rfl) G.len PySem.boot_len (pa_cons (pv 1) pa_nil)) pa_nil)) (blkOk_by (N := nVain) (sc := defScope sVain) (by decide +kernel)) (fun _ _ _ _ _ => (pg_name (i := 4) scVain.nd rfl (.inl rfl))) (fun _ _ _ _ _ => pts_nil) (fun _ _ _ _ _ => (pe_bm PySem.F.plainAttrs_list PySem.F.slot_list_count PySem.F.type_list_count (mt_countD (hu65 hr)) (pv 3) (pa_cons (pe_tup (pa_cons (pv 4) (pa_cons pe_str pa_nil))) pa_nil))))))), fun M H0 ss d h => ?_⟩)
  · obtain ⟨hl, n, o, ow, rfl, rfl⟩ := h
    rfl
  · obtain ⟨hl, n, o, ow, rfl, rfl⟩ := h
    have ol := o.l
    have on := o.vn
    refine sd_seq (sd_set (ed_call (R := R_log S sch) (ea_d (ed_var rfl) (ea_d (ed_var rfl) (ea_d (ed_var rfl) ea_nil))) ⟨hl, n, o, rfl, rfl⟩) ?_)
    refine sd_ret (ed_en (en_is (en_lc (js := [4]) (fun _ => true) (fun d => match d with | .int i => intD ((logsM S n (machH S hl)).count (some i.toNat, ("ask" : Str))) | _ => .none) (id_rng1 (n := (hl.length : Int)) (ea_d (ed_is (ed_lenL (ds := hallL hl) (el_ed (ed_var rfl))) (by rw [List.length_map])) ea_nil)) (by rw [rngD_len]; omega) (by decide) (fun d hd H0 _ => ?_)) ?_)) rfl
    · obtain ⟨i, hi⟩ := List.getElem?_of_mem hd
      obtain ⟨_, rfl⟩ := rngD_get hi
      have e0 : (0 : Int) + (i : Int) = (i : Int) := by omega
      rw [e0]
      refine ⟨[intD i], tg_name, et_yes, fun _ => ed_is (ed_countD (d := .tuple [intD i, .str "ask"]) (el_ed (ed_var rfl)) (ed_tup (ds := [intD i, .str "ask"]) (ea_d (ed_var rfl) (ea_d ed_str ea_nil)) (by simp)) (logs_shaped _ ow) (shp_ask i)) ?_⟩
      rw [count_lg]
      rfl
    · rw [List.filter_eq_self.mpr fun _ _ => rfl]
      unfold rngD
      rw [List.map_map]
      refine List.map_congr_left fun i _ => ?_
      show intD _ = intD _
      rw [show ((0 : Int) + (i : Int)).toNat = i by omega]
end
abbrev sSw : Stmt := top 90
abbrev nSw : List Str := ["scheduler", "hall", "most", "runners", "who", "at"]
theorem scSw : FnScope nSw ["scheduler", "hall", "most"] (defScope sSw) := ⟨rfl, rfl, rfl, by decide +kernel, rfl, by decide +kernel, by decide +kernel⟩
section
variable {P : Program} {w : World} {K : PySem.W.Frag} {mg : Str → Option Value} {base : Heap} {f : Addr} {fd : FuncData} {T : List Addr}
theorem ok_switches (F : Fun K "switches" "switches" sSw f fd) (G : Glob K mg) {μ : Type} {S : Chs μ} {sch : PD} {fr : Addr} {dr : FuncData} (c_run : Cal P w K mg base "run" 15 ["scheduler", "hall", "most"] (spD K T (R_run S sch)) fr dr) : FnOk P w K mg base CX0 16 f fd ["scheduler", "hall", "most"] (spD K T (R_switches S sch)) := by
  refine fn_sd F scSw (fun ss d h => ?_) (fun cdv A outer s H E hr => ⟨_, (pss_cons (ps_set (i := 3) scSw.nd rfl (.inr rfl) (pe_lc (own := [("who", 4)]) (g := (gName 4)) (tt := (tB (tNotN (tVar 4)))) (te := (tVar 4)) rfl scSw.nd (pi_list (pe_call c_run.ok (hr.mono (by decide)) (by rfl) c_run.g c_run.kp c_run.b .nil pass0 (pa_cons (pv 0) (pa_cons (pv 1) (pa_cons (pv 2) pa_nil))))) (blkOk_by (N := nSw) (sc := defScope sSw) (by decide +kernel)) (fun _ _ _ _ _ => (pg_name (i := 4) scSw.nd rfl (.inl rfl))) (fun _ _ _ _ _ => (pts_one (pt_cmp (pc_notN (pv 4))))) (fun _ _ _ _ _ => (pv 4))))
      (pss_one (ps_ret (pe_callB call_len_seq (by rfl) G.len PySem.boot_len (pa_cons (pe_lc (own := [("at", 5)]) (g := (gName 5)) (tt := (tTest (tOp rNe (tOp (rIxL K) (tVar 3) (tVar 5)) (tOp (rIxL K) (tVar 3) (tOp (rI0 fun i j => .int (i - j)) (tVar 5) (tC (.int 1))))))) (te := (tVar 5)) rfl scSw.nd (pi_range2 (by rfl) G.range (pa_cons pe_int (pa_cons (pe_callB call_len_seq (by rfl) G.len PySem.boot_len (pa_cons (pv 3) pa_nil)) pa_nil))) (blkOk_by (N := nSw) (sc := defScope sSw) (by decide +kernel)) (fun _ _ _ _ _ => (pg_name (i := 5) scSw.nd rfl (.inl rfl))) (fun _ _ _ _ _ => (pts_one (pt_cmpR op_ne (pe_ix ix_list (pv 3) (pv 5) (fun _ _ => rfl)) (pe_ix ix_list (pv 3) (pe_op op_sub (pv 5) pe_int) (fun _ _ => rfl)) (nomark _)))) (fun _ _ _ _ _ => (pv 5))) pa_nil))))), fun M H0 ss d h => ?_⟩)
  · obtain ⟨hl, n, o, rfl, rfl⟩ := h
    rfl
  · obtain ⟨hl, n, o, rfl, rfl⟩ := h
    have ol := o.l
    have on := o.vn
    have rl := rnrs_len (whosM S n (machH S hl))
    have wl := whos_len S n (machH S hl)
    refine sd_seq (sd_set (d := .list ((rnrs (whosM S n (machH S hl))).map intD)) (ed_en (en_is (en_lc (js := [4]) (fun d => !isNone d) (fun d => d) (id_list (ed_call (R := R_run S sch) (ea_d (ed_var rfl) (ea_d (ed_var rfl) (ea_d (ed_var rfl) ea_nil))) ⟨hl, n, o, rfl, rfl⟩)) (by rw [List.length_map]; omega) (by decide) (fun d hd H0 _ => ⟨[d], tg_name, et_B (ed_notN (ed_var rfl)), fun _ => ed_var rfl⟩)) (rnrs_enc _))) ?_)
    have el : (rnrs (whosM S n (machH S hl))).map intD = (rnrs (whosM S n (machH S hl))).map intD := rfl
    refine sd_ret (ed_is (ed_lenL (el_ed (ed_en (en_lc (js := [5]) (fun d => match d with | .int i => (rnrs (whosM S n (machH S hl))).getD i.toNat 0 != (rnrs (whosM S n (machH S hl))).getD (i.toNat - 1) 0 | _ => false) (fun d => d) (id_rng2 (a := 1) (n := ((rnrs (whosM S n (machH S hl))).length : Int)) (ea_d ed_int (ea_d (ed_is (ed_lenL (ds := (rnrs (whosM S n (machH S hl))).map intD) (el_ed (ed_var rfl))) (by rw [List.length_map])) ea_nil)) (by omega) (by omega)) (by rw [rngD_len]; omega) (by decide) (fun d hd H0 _ => ?_))))) ?_) rfl
    · obtain ⟨i, hi⟩ := List.getElem?_of_mem hd
      obtain ⟨hi, rfl⟩ := rngD_get hi
      have e0 : (1 : Int) + (i : Int) = ((i + 1 : Nat) : Int) := by omega
      rw [e0]
      have a1 : atI ((rnrs (whosM S n (machH S hl))).map intD) ((i + 1 : Nat) : Int) = some (intD ((rnrs (whosM S n (machH S hl))).getD (i + 1) 0)) := atI_at (by
        rw [List.getElem?_map, List.getElem?_eq_getElem (by omega), List.getD_eq_getElem?_getD, List.getElem?_eq_getElem (by omega)]; rfl)
      have a2 : atI ((rnrs (whosM S n (machH S hl))).map intD) (((i + 1 : Nat) : Int) - 1) = some (intD ((rnrs (whosM S n (machH S hl))).getD i 0)) := by
        rw [show (((i + 1 : Nat) : Int) - 1) = ((i : Nat) : Int) by omega]
        exact atI_at (by
          rw [List.getElem?_map, List.getElem?_eq_getElem (by omega), List.getD_eq_getElem?_getD, List.getElem?_eq_getElem (by omega)]; rfl)
      refine ⟨[intD (i + 1)], tg_name, et_is (et_B (ed_ne (x := intD _) (y := intD _) (ed_ixL (el_ed (ed_var rfl)) (ed_var rfl) a1) (ed_ixL (el_ed (ed_var rfl)) (ed_I0 (g := fun a b => a - b) (ed_var rfl) ed_int) a2) rfl rfl rfl)) ?_, fun _ => ed_var rfl⟩
      show (!decide (V.int _ = V.int _)) = ((rnrs (whosM S n (machH S hl))).getD (((i + 1 : Nat) : Int)).toNat 0 != (rnrs (whosM S n (machH S hl))).getD ((((i + 1 : Nat) : Int)).toNat - 1) 0)
      rw [show (((i + 1 : Nat) : Int)).toNat = i + 1 by omega, Nat.add_sub_cancel]
      exact ne_int _ _
    · show PyData.int _ = PyData.int _
      rw [sw_eq]
end
end PT
namespace LW
open PySem PySem.Spec PyProof.Rows L2 DA DL
/-! ### draws -/
abbrev sStart : Stmt := PT.top 94
abbrev sDraw : Stmt := PT.top 95
/-- the numbers at nu, the counter: what the draws are made of -/
structure Drw (H : Hp) (d nu : Addr) : Prop where
  ex : ∃ (ns : List Int) (c : Int), H d = some (.lst [.ref nu, .int c]) ∧ H nu = some (.lst (ns.map V.int)) ∧ ns ≠ [] ∧ ns.length ≤ 63 ∧ 0 ≤ c
/-- all but the draws' own -/
structure Frm (T : List Addr) (d nu : Addr) (H H' : Hp) : Prop where
  at_ : ∀ b o, H b = some o → b ≠ d → b ≠ nu → b ∉ T → H' b = some o
  tab : ∀ P ∈ T, GxR.TabG H P → GxR.TabG H' P
  drw : Drw H' d nu
theorem scStart : FnScope ["_law_script"] ["_law_script"] (defScope sStart) := ⟨rfl, rfl, rfl, by decide +kernel, rfl, by decide +kernel, by decide +kernel⟩
theorem scDraw : FnScope ["_law_draws", "_law_limit", "_law_numbers", "_law_at", "_law_cell", "_law_mixed"] ["_law_draws", "_law_limit"] (defScope sDraw) := ⟨rfl, rfl, rfl, by decide +kernel, rfl, by decide +kernel, by decide +kernel⟩
theorem ints_lay (ns : List Int) : PyData.canLayAll0 (ns.map PyData.int) = true := by
  induction ns with
  | nil => rfl
  | cons n r ih => simp only [List.map_cons, PyData.canLayAll0, PyData.canLay0, ih, Bool.and_self]
theorem ints_depth (ns : List Int) : PyData.depthAll (ns.map PyData.int) = 0 := by
  induction ns with
  | nil => rfl
  | cons n r ih => simp only [List.map_cons, PyData.depthAll, PyData.depth, ih, Nat.max_self]
theorem ints_shaped (ns : List Int) : SeqAt.shaped (.list (ns.map PyData.int)) = true := by
  show (PyData.canLay0 (.list (ns.map .int)) && decide (PyData.depth (.list (ns.map .int)) ≤ 64)) = true
  simp only [PyData.canLay0, PyData.depth, ints_lay, ints_depth]
  decide
section
variable {P : Program} {w : World} {K : PySem.W.Frag} {mg : Str → Option Value} {base : Heap} {f : Addr} {fd : FuncData}
def spStart (K : PySem.W.Frag) : Sp := fun vs H Q _ => ∃ (a : Addr) (ns : List Int), vs = [.ref a] ∧ SqL K H a (ns.map V.int) ∧ ns.length ≤ 63 ∧ ∀ d nu H', Same H H' → H d = none → H nu = none → Drw H' d nu → Q (.ref d) H'
theorem ok_start (F : Fun K "_law_start" "_law_start" sStart f fd) (G : PT.Glob K mg) : FnOk P w K mg base CX0 1 f fd ["_law_script"] (spStart K) := by
  refine F.ok scStart (fun vs H Q E h => ?_) (fun cdv A outer s H vs Q E hr h => ?_)
  · obtain ⟨a, ns, rfl, _⟩ := h
    rfl
  · obtain ⟨a, ns, rfl, hS, hl, q⟩ := h
    refine ⟨_, pss_one (ps_ret (pe_lst (pa_cons (pe_ifExp (pt_cmpR (op_neD hr.units) (pv 0) (pe_lst pa_nil) (nomark _)) (pe_callTy call_list_of (by rfl) G.list (by decide +kernel) (pa_cons (pv 0) pa_nil)) (pe_lst (pa_cons pe_int pa_nil))) (pa_cons pe_int pa_nil)))), ?_⟩
    refine ⟨.ref a, rfl, Nat.zero_le _, fun p np => ?_⟩
    have s1 : Same H (upd H p (.lst [])) := same_new np
    refine ⟨.list (ns.map .int), .list [], .lst (s1.seq hS) (dps_ints ns), .lst (.of upd_same) .nil, ints_shaped ns, rfl, _, rfl, ite2 (fun e => ?_) fun e => ?_⟩
    · have hne : ns ≠ [] := fun z => by rw [z] at e; cases e
      refine ⟨_, rfl, a, ns.map V.int, rfl, .inl (s1.seq hS), fun l nl => ?_⟩
      refine ⟨by show 2 ≤ sizeLine; decide, fun d nd => ?_⟩
      have s2 := same_new (o := .lst (ns.map V.int)) nl
      have s3 := same_new (o := .lst [.ref l, .int 0]) nd
      refine q d l _ ((s1.trans s2).trans s3) ((s1.trans s2).free nd) (s1.free nl) ⟨ns, 0, upd_same, ?_, hne, hl, Int.le_refl _⟩
      exact s3 _ _ upd_same
    · refine ⟨by show 1 ≤ sizeLine; decide, fun l nl => ?_⟩
      refine ⟨by show 2 ≤ sizeLine; decide, fun d nd => ?_⟩
      have s2 := same_new (o := .lst [.int 0]) nl
      have s3 := same_new (o := .lst [.ref l, .int 0]) nd
      exact q d l _ ((s1.trans s2).trans s3) ((s1.trans s2).free nd) (s1.free nl) ⟨[0], 0, upd_same, s3 _ _ upd_same, by simp, by decide, Int.le_refl _⟩
def spDraw (T : List Addr) : Sp := fun vs H Q _ => ∃ (d nu : Addr) (lim : Int), vs = [.ref d, .int lim] ∧ 1 ≤ lim ∧ lim ≤ 1000 ∧ Drw H d nu ∧ ∀ (r : Int) H', 0 ≤ r → r < lim → Frm T d nu H H' → Q (.int r) H'
theorem ok_draw {T : List Addr} (F : Fun K "_law_draw" "_law_draw" sDraw f fd) (G : PT.Glob K mg) : FnOk P w K mg base CX0 1 f fd ["_law_draws", "_law_limit"] (spDraw T) := by
  refine F.ok scDraw (fun vs H Q E h => ?_) (fun cdv A outer s H vs Q E hr h => ?_)
  · obtain ⟨d, nu, lim, rfl, _⟩ := h
    rfl
  · obtain ⟨d, nu, lim, rfl, l1, l2, ⟨ns, c, hd, hnu, hne, hl, hc⟩, q⟩ := h
    have ndu : d ≠ nu := fun z => by
      rw [z, hnu] at hd
      cases ns with
      | nil => exact hne rfl
      | cons n r => cases hd
    have hpos : 0 < ns.length := List.length_pos_iff.mpr hne
    refine ⟨_, pss_cons (ps_set (i := 2) scDraw.nd rfl (.inl rfl) (pe_ix ix_list (pv 0) pe_int (fun _ _ => rfl)))
      (pss_cons (ps_asg (pe_op op_add (pe_ix ix_list (pv 0) pe_int (fun _ _ => rfl)) pe_int) (pg_sub (pv 0) pe_int set_list))
      (pss_cons (ps_set (i := 3) scDraw.nd rfl (.inl rfl) (pe_op op_mod (pe_ix ix_list (pv 0) pe_int (fun _ _ => rfl)) (pe_callB call_len_seq (by rfl) G.len PySem.boot_len (pa_cons (pv 2) pa_nil))))
      (pss_cons (ps_set (i := 4) scDraw.nd rfl (.inl rfl) (pe_ix ix_list (pv 2) (pv 3) (fun _ _ => rfl)))
      (pss_cons (ps_if (pt_cmpR op_ge (pv 4) pe_int (nomark _)) (pss_cons (ps_asg (pe_op op_fdiv (pv 4) (pv 1)) (pg_sub (pv 2) (pv 3) set_list)) (pss_one (ps_ret (pe_op op_mod (pv 4) (pv 1))))) pss_nil)
      (pss_cons (ps_set (i := 5) scDraw.nd rfl (.inl rfl) (pe_op op_mod (pe_op op_add (pv 4) (pe_op op_mul pe_int (pe_ix ix_list (pv 0) pe_int (fun _ _ => rfl)))) pe_int))
      (pss_cons (ps_set (i := 5) scDraw.nd rfl (.inl rfl) (pe_op op_mod (pe_op op_pow (pv 5) pe_int) pe_int))
      (pss_one (ps_ret (pe_op op_mod (pe_op op_fdiv (pe_op op_mod (pe_op op_add (pe_op op_mul (pe_op op_fdiv (pv 5) pe_int) pe_int) (pv 5)) pe_int) pe_int) (pv 1)))))))))), ?_⟩
    refine ⟨.ref d, rfl, d, _, 0, .ref nu, rfl, rfl, .of hd, rfl, ?_⟩
    refine ⟨.ref d, rfl, d, _, 1, .int c, rfl, rfl, .of hd, rfl, c, 1, rfl, rfl, .ref d, rfl, d, _, 1, 1, rfl, rfl, hd, rfl, ?_⟩
    have hd1 : (upd H d (.lst [.ref nu, .int (c + 1)])) d = some (.lst [.ref nu, .int (c + 1)]) := upd_same
    have hnu1 : (upd H d (.lst [.ref nu, .int (c + 1)])) nu = some (.lst (ns.map V.int)) := by rw [upd_ne ndu.symm]; exact hnu
    generalize hH1 : upd H d (.lst [.ref nu, .int (c + 1)]) = H1 at hd1 hnu1
    have hlen : ((ns.map V.int).length : Int) = ns.length := by rw [List.length_map]
    have hlp : (0 : Int) < (ns.map V.int).length := by rw [hlen]; omega
    generalize hj : (c + 1) % ((ns.map V.int).length : Int) = j
    have j0 : 0 ≤ j := by rw [← hj]; exact Int.emod_nonneg _ (by omega)
    have j1 : j < ns.length := by rw [← hj, ← hlen]; exact Int.emod_lt_of_pos _ hlp
    have hix : ixN (ns.map V.int).length j = some j.toNat := by
      unfold ixN
      rw [if_pos j0, if_pos (by rw [hlen]; exact j1)]
    have hjn : j.toNat < ns.length := by omega
    have hat : atI (ns.map V.int) j = some (.int (ns[j.toNat]'hjn)) := by
      unfold atI
      rw [hix]
      show (ns.map V.int)[j.toNat]? = _
      rw [List.getElem?_map, List.getElem?_eq_getElem hjn]
      rfl
    generalize hcell : ns[j.toNat]'hjn = cell at hat
    have frame1 : ∀ H2, (∀ b, b ≠ nu → H2 b = H1 b) → (∃ ms : List Int, H2 nu = some (.lst (ms.map V.int)) ∧ ms ≠ [] ∧ ms.length ≤ 63) → Frm T d nu H H2 := fun H2 e2 ⟨ms, e3, e4, e5⟩ => by
      refine ⟨fun b o e n1 n2 _ => ?_, fun P hP ⟨ps, e, ok⟩ => ⟨ps, ?_, ok⟩, ⟨ms, c + 1, ?_, e3, e4, e5, by omega⟩⟩
      · rw [e2 b n2, ← hH1, upd_ne n1]; exact e
      · have n1 : P ≠ d := fun z => by rw [z, hd] at e; cases e
        have n2 : P ≠ nu := fun z => by rw [z, hnu] at e; cases e
        rw [e2 P n2, ← hH1, upd_ne n1]; exact e
      · rw [e2 d ndu]; exact hd1
    have eH : upd H d (HO.lst ([V.ref nu, V.int c].set 1 ((fun i j => V.int (i + j)) c 1))) = H1 := hH1
    rw [eH]
    refine ⟨.ref d, rfl, d, _, 1, .int (c + 1), rfl, rfl, .of hd1, rfl, .ref nu, rfl, nu, _, rfl, .inl (.of hnu1), _, _, rfl, rfl, hlp, ?_⟩
    refine ⟨.ref nu, rfl, .int j, by show some (some (V.int ((c + 1) % ((ns.map V.int).length : Int)))) = _; rw [hj], nu, _, j, .int cell, rfl, rfl, .of hnu1, hat, ?_⟩
    refine ⟨.int cell, rfl, _, _, rfl, rfl, _, rfl, ite2 (fun e => ?_) fun e => ?_⟩
    · refine ⟨.int cell, rfl, .int lim, rfl, _, _, rfl, rfl, ⟨by omega, by omega⟩, .ref nu, rfl, .int j, by show some (some (V.int ((c + 1) % ((ns.map V.int).length : Int)))) = _; rw [hj], nu, _, j, j.toNat, rfl, rfl, hnu1, hix, ?_⟩
      refine ⟨.int cell, rfl, .int lim, rfl, _, _, rfl, rfl, by show (0 : Int) < lim; omega, ?_⟩
      refine q (cell % lim) _ (Int.emod_nonneg _ (by omega)) (Int.emod_lt_of_pos _ (by omega)) (frame1 _ (fun b hb => upd_ne hb) ⟨ns.set j.toNat (cell / lim), ?_, ?_, by rw [List.length_set]; exact hl⟩)
      · rw [upd_same, List.map_set]
      · intro z
        have := congrArg List.length z
        rw [List.length_set] at this
        simp at this
        exact hne this
    · refine ⟨.int cell, rfl, .ref d, rfl, d, _, 1, .int (c + 1), rfl, rfl, .of hd1, rfl, 104729, c + 1, rfl, rfl, .inl ⟨by decide, by decide⟩, _, _, rfl, rfl, _, _, rfl, rfl, by show (0 : Int) < 4294967291; decide, ?_⟩
      generalize hm : (cell + 104729 * (c + 1)) % 4294967291 = m
      have m0 : 0 ≤ m := by rw [← hm]; exact Int.emod_nonneg _ (by decide)
      have m1 : m < 4294967291 := by rw [← hm]; exact Int.emod_lt_of_pos _ (by decide)
      refine ⟨.int m, by show some (some (V.int ((cell + 104729 * (c + 1)) % 4294967291))) = _; rw [hm], m, 5, rfl, rfl, ⟨by decide, by decide, by omega⟩, _, _, rfl, rfl, by show (0 : Int) < 4294967279; decide, ?_⟩
      generalize hm2 : m ^ (5 : Int).toNat % 4294967279 = m2
      have n0 : 0 ≤ m2 := by rw [← hm2]; exact Int.emod_nonneg _ (by decide)
      have n1 : m2 < 4294967279 := by rw [← hm2]; exact Int.emod_lt_of_pos _ (by decide)
      refine ⟨.int m2, by show some (some (V.int (m ^ (5 : Int).toNat % 4294967279))) = _; rw [hm2], _, _, rfl, rfl, ⟨by decide, by decide⟩, _, _, rfl, rfl, .inr ⟨by decide, by decide⟩, .int m2, by show some (some (V.int (m ^ (5 : Int).toNat % 4294967279))) = _; rw [hm2], _, _, rfl, rfl, _, _, rfl, rfl, by show (0 : Int) < 4294967231; decide, _, _, rfl, rfl, ⟨by decide, by decide⟩, .int lim, rfl, _, _, rfl, rfl, by show (0 : Int) < lim; omega, ?_⟩
      exact q _ _ (Int.emod_nonneg _ (by omega)) (Int.emod_lt_of_pos _ (by omega)) (frame1 H1 (fun _ _ => rfl) ⟨ns, hnu1, hne, hl⟩)
end
/-! ### frames of draws -/
section
variable {K : PySem.W.Frag} {T : List Addr} {d nu : Addr} {H H1 H2 : Hp}
theorem Frm.refl (h : Drw H d nu) : Frm T d nu H H := ⟨fun _ _ e _ _ _ => e, fun _ _ e => e, h⟩
theorem Frm.trans (a : Frm T d nu H H1) (b : Frm T d nu H1 H2) : Frm T d nu H H2 := ⟨fun c o e n1 n2 n3 => b.at_ c o (a.at_ c o e n1 n2 n3) n1 n2 n3, fun P hP t => b.tab P hP (a.tab P hP t), b.drw⟩
theorem Frm.tabs (a : Frm T d nu H H1) (t : Tabs T H) : Tabs T H1 := fun P hP => a.tab P hP (t P hP)
theorem Drw.keep (h : Drw H d nu) (t : Tabs T H) (k : Keep T H H1) : Drw H1 d nu := by
  obtain ⟨ns, c, h1, h2, h3⟩ := h.ex
  exact ⟨⟨ns, c, k.lst t h1, k.lst t h2, h3⟩⟩
theorem Frm.keep (h : Drw H d nu) (t : Tabs T H) (k : Keep T H H1) : Frm T d nu H H1 := ⟨fun b o e _ _ n => k.at_ b o e n, k.tab, h.keep t k⟩
theorem Drw.ne (h : Drw H d nu) {p : Addr} (hp : H p = none) : p ≠ d ∧ p ≠ nu := by
  obtain ⟨ns, c, h1, h2, h3⟩ := h.ex
  exact ⟨fun z => (by rw [z, h1] at hp; cases hp), fun z => (by rw [z, h2] at hp; cases hp)⟩
theorem Drw.ne' (h : Drw H d nu) : d ≠ nu := fun z => by
  obtain ⟨ns, c, h1, h2, h3, _⟩ := h.ex
  rw [z, h2] at h1
  cases ns with
  | nil => exact h3 rfl
  | cons n r => cases h1
/-- a new object, or one that is none of the first heap's, is written -/
theorem Frm.own (k : Frm T d nu H H1) (h : Drw H d nu) (t : Tabs T H) {p : Addr} {o : HO} (hp : H p = none) : Frm T d nu H (upd H1 p o) := by
  obtain ⟨n1, n2⟩ := h.ne hp
  have nT : p ∉ T := fun m => by
    obtain ⟨ps, e, _⟩ := t p m
    rw [hp] at e; cases e
  refine ⟨fun b x e m1 m2 m3 => ?_, fun P hP tb => ?_, ?_⟩
  · rw [upd_ne (ne_of_none e hp)]
    exact k.at_ b x e m1 m2 m3
  · obtain ⟨ps, e, ok⟩ := k.tab P hP tb
    refine ⟨ps, ?_, ok⟩
    rw [upd_ne (fun z => nT (by rw [← z]; exact hP))]
    exact e
  · obtain ⟨ns, c, h1, h2, h3⟩ := k.drw.ex
    exact ⟨⟨ns, c, by rw [upd_ne n1.symm]; exact h1, by rw [upd_ne n2.symm]; exact h2, h3⟩⟩
theorem Frm.free (k : Frm T d nu H H1) (h : Drw H d nu) (t : Tabs T H) {p : Addr} (hp : H1 p = none) : H p = none := by
  cases e : H p with
  | none => rfl
  | some o =>
    obtain ⟨n1, n2⟩ := k.drw.ne hp
    by_cases m : p ∈ T
    · obtain ⟨ps, e', _⟩ := k.tabs t p m
      rw [hp] at e'; cases e'
    · have := k.at_ p o e n1 n2 m
      rw [hp] at this; cases this
theorem Frm.lst (k : Frm T d nu H H1) (t : Tabs T H) {a : Addr} {xs : List V} (h : H a = some (.lst xs)) (n1 : a ≠ d) (n2 : a ≠ nu) : H1 a = some (.lst xs) := k.at_ _ _ h n1 n2 (nT_of t h fun ps z => by cases z)
theorem Frm.sqT (k : Frm T d nu H H1) (h : Drw H d nu) (t : Tabs T H) {a : Addr} {xs : List V} (hs : SqT K H a xs) : SqT K H1 a xs := by
  obtain ⟨ns, c, h1, h2, h3⟩ := h.ex
  rcases hs with (hs | ⟨o, hs⟩) | hs
  · exact .inl (.inl (k.at_ _ _ hs (ne_of hs h1 (by intro z; cases z)) (ne_of hs h2 (by intro z; cases z)) (nT_of t hs fun ps z => by cases z)))
  · exact .inl (.inr ⟨o, k.at_ _ _ hs (ne_of hs h1 (by intro z; cases z)) (ne_of hs h2 (by intro z; cases z)) (nT_of t hs fun ps z => by cases z)⟩)
  · exact .inr hs
end
end LW
/-! draws beside plain data -/
namespace DL
open PySem PySem.Spec PyProof.Rows L2 DA
structure WC where
  K : PySem.W.Frag
  T : List Addr
  M : List Addr
  d : Addr
  nu : Addr
abbrev WC.at (k : WC) (H : Hp) : DC := ⟨k.K, k.T, k.M, H⟩
abbrev WC.mask (k : WC) (M : List Addr) : WC := ⟨k.K, k.T, M, k.d, k.nu⟩
structure SW (k : WC) (σ : L2.St) (H : Hp) (ρ : DEnv) : Prop where
  sr : SR ⟨k.K, k.T, k.M, H⟩ [] σ H ρ
  dr : LW.Drw H k.d k.nu
  hd : k.d ∈ k.M
  hn : k.nu ∈ k.M
theorem frm_hid {T M : List Addr} {d nu : Addr} {H H' : Hp} (hd : d ∈ M) (hn : nu ∈ M) (f : LW.Frm T d nu H H') : Keep T (hid M H) (hid M H') := by
  refine ⟨fun b o e nT => ?_, fun P hP tb => ?_⟩
  · obtain ⟨m, e⟩ := hid_inv e
    exact hid_of m (f.at_ b o e (fun z => m (by rw [z]; exact hd)) (fun z => m (by rw [z]; exact hn)) nT)
  · obtain ⟨ps, e, ok⟩ := tb
    obtain ⟨m, e⟩ := hid_inv e
    obtain ⟨ps', e', ok'⟩ := f.tab P hP ⟨ps, e, ok⟩
    exact ⟨ps', hid_of m e', ok'⟩
section
variable {k : WC} {σ : L2.St} {H H' H1 : Hp} {ρ : DEnv}
theorem SW.tabm (r : SW k σ H ρ) : Tabs k.T (hid k.M H) := tabs_hid r.sr.tab fun a h => (r.sr.msk a h).1
theorem SW.keepF (r : SW k σ H ρ) (f : Keep k.T H H') : LW.Frm k.T k.d k.nu H H' := LW.Frm.keep r.dr r.sr.tab f
theorem drw_none {T : List Addr} {d nu : Addr} {H H' : Hp} (f : LW.Frm T d nu H H') (t : Tabs T H) {a : Addr} (h : H a ≠ none) : H' a ≠ none := by
  obtain ⟨ns, c, h1, h2, _⟩ := f.drw.ex
  by_cases z : a = d
  · rw [z, h1]; intro z; cases z
  · by_cases y : a = nu
    · rw [y, h2]; intro z; cases z
    · cases e : H a with
      | none => exact absurd e h
      | some o =>
        by_cases m : a ∈ T
        · obtain ⟨ps, e', _⟩ := f.tabs t a m
          rw [e']; intro z; cases z
        · rw [f.at_ a o e z y m]; intro z; cases z
theorem SW.frm (r : SW k σ H ρ) (f : LW.Frm k.T k.d k.nu H H') : SW k σ H' ρ :=
  ⟨r.sr.reb (frm_hid r.hd r.hn f) (f.tabs r.sr.tab) fun a h => ⟨(r.sr.msk a h).1, drw_none f r.sr.tab (r.sr.msk a h).2⟩, f.drw, r.hd, r.hn⟩
theorem SW.more (r : SW k σ H ρ) (f : LW.Frm k.T k.d k.nu H H') {D : Addr} (hD : H D = none) (hD' : H' D ≠ none) (nT : D ∉ k.T) : SW (k.mask (D :: k.M)) σ H' ρ := by
  have h1 := frm_hid r.hd r.hn f
  have km : Keep k.T (hid k.M H) (hid (D :: k.M) H') := by
    refine ⟨fun b o e nb => ?_, fun P hP tb => ?_⟩
    · have e2 := h1.at_ b o e nb
      obtain ⟨m, e2⟩ := hid_inv e2
      refine hid_of (fun q => (List.mem_cons.mp q).elim (fun z => ?_) m) e2
      rw [z] at e
      rw [(hid_inv e).2] at hD
      cases hD
    · obtain ⟨ps, e, ok⟩ := h1.tab P hP tb
      obtain ⟨m, e⟩ := hid_inv e
      exact ⟨ps, hid_of (fun q => (List.mem_cons.mp q).elim (fun z => nT (by rw [← z]; exact hP)) m) e, ok⟩
  exact ⟨r.sr.reb km (f.tabs r.sr.tab) fun a h => (List.mem_cons.mp h).elim (fun z => by rw [z]; exact ⟨nT, hD'⟩) fun h => ⟨(r.sr.msk a h).1, drw_none f r.sr.tab (r.sr.msk a h).2⟩, f.drw, List.mem_cons_of_mem _ r.hd, List.mem_cons_of_mem _ r.hn⟩
theorem SW.wipe (r : SW k σ H ρ) (vs : List Nat) : SW k (L2.wipe σ vs) H (wipeD ρ vs) := ⟨r.sr.wipe vs, r.dr, r.hd, r.hn⟩
theorem SW.setD (r : SW k σ H ρ) (i : Nat) {v : V} {x : PD} (h : Dp k.K (hid k.M H) v x) : SW k (σ.set i (some v)) H (ρ.set i (.dat x)) := ⟨r.sr.setD i (by rw [List.append_nil]; exact h), r.dr, r.hd, r.hn⟩
end
def WE (k : WC) (te : TE) (ρ : DEnv) (P : PD → Prop) : Prop := ∀ σ H, SW k σ H ρ → ∀ Q : VK, (∀ v H' x, LW.Frm k.T k.d k.nu H H' → Dp k.K (hid k.M H') v x → P x → Q v H') → te σ H Q
def WA (k : WC) (ta : TA) (ρ : DEnv) (P : List DS → Prop) : Prop := ∀ σ H, SW k σ H ρ → ∀ Q : List V → Hp → Prop, (∀ vs H' ss, LW.Frm k.T k.d k.nu H H' → ArgsOk k.K (hid k.M H') vs ss → P ss → Q vs H') → ta σ H Q
def WL (k : WC) (te : TE) (ρ : DEnv) (P : List PD → Prop) : Prop := ∀ σ H, SW k σ H ρ → ∀ Q : VK, (∀ p xs H' ds, LW.Frm k.T k.d k.nu H H' → H p = none → H' p = some (.lst xs) → DpAll k.K (hid k.M H') xs ds → P ds → Q (.ref p) H') → te σ H Q
section
variable {k : WC} {ρ : DEnv} {te ta tb : TE} {tr : TA} {P R S : PD → Prop}
theorem we_ed {x : PD} (h : ∀ H, ED (k.at H) te ρ x) (hp : P x) : WE k te ρ P := fun σ H r Q q => h H [] σ H r.sr Q fun v H' k' h' => by
  rw [List.append_nil] at h'
  exact q v H' x (r.keepF k') h' hp
theorem we_is (h : WE k te ρ P) (hp : ∀ x, P x → R x) : WE k te ρ R := fun σ H r Q q => h σ H r Q fun v H' x f h' p => q v H' x f h' (hp x p)
theorem wa_nil {P : List DS → Prop} (h : P []) : WA k tNil ρ P := fun σ H r Q q => q [] H [] (.refl r.dr) .nil h
theorem wa_cons {P : PD → Prop} {R S : List DS → Prop} (h : WE k te ρ P) (hr : WA k tr ρ R) (hs : ∀ x ss, P x → R ss → S (.dat x :: ss)) : WA k (tCons te tr) ρ S := fun σ H r Q q =>
  h σ H r _ fun v H1 x f1 h1 p1 => hr σ H1 (r.frm f1) _ fun vs H2 ss f2 h2 p2 => q _ H2 _ (f1.trans f2) (.cons (ArgOk.keep (s := .dat x) (frm_hid r.hd r.hn f2) (r.frm f1).tabm h1) h2) (hs x ss p1 p2)
theorem wa_raw {i : Nat} {w : V} {R S : List DS → Prop} (h : ρ[i]? = some (.raw w)) (hr : WA k tr ρ R) (hs : ∀ ss, R ss → S (.raw w :: ss)) : WA k (tCons (tVar i) tr) ρ S := fun σ H r Q q => by
  obtain ⟨ov, h1, h2⟩ := r.sr.rel i _ h
  cases ov with
  | none => exact False.elim h2
  | some v =>
    have h2 : v = w := h2
    subst h2
    refine ⟨v, ?_, hr σ H r _ fun vs H2 ss f2 h3 p2 => q _ H2 _ f2 (.cons (show ArgOk k.K (hid k.M H2) v (.raw v) from rfl) h3) (hs ss p2)⟩
    rw [h1]
theorem we_draw {i : Nat} {E : XK} {n : Nat} (h : ρ[i]? = some (.raw (.ref k.d))) (hb : ∀ H, ED (k.at H) tb ρ (.int (n : Int))) (h1 : 1 ≤ n) (h2 : n ≤ 1000) : WE k (tCall (LW.spDraw k.T) [] E (tCons (tVar i) (tCons tb tNil))) ρ (fun x => ∃ r : Nat, r < n ∧ x = .int (r : Int)) := fun σ H r Q q =>
  wa_raw (R := fun ss => ss = [.dat (.int (n : Int))]) (S := fun ss => ss = [.raw (.ref k.d), .dat (.int (n : Int))]) h (wa_cons (we_ed (P := fun x => x = .int (n : Int)) hb rfl) (wa_nil (P := fun ss => ss = []) rfl) fun x ss e1 e2 => by rw [e1, e2]) (fun ss e => by rw [e]) σ H r _ fun vs H1 ss f1 h3 e => by
    subst e
    cases h3 with
    | cons a h3 =>
      have a : _ = V.ref k.d := a
      subst a
      obtain ⟨v, rfl, h4⟩ := args1 h3
      have h4 := dp_int h4
      subst h4
      refine ⟨k.d, k.nu, (n : Int), rfl, by omega, by omega, f1.drw, fun r H2 r0 r1 f2 => q (.int r) H2 (.int ((r.toNat : Nat) : Int)) (f1.trans f2) (by rw [Int.toNat_of_nonneg r0]; exact .int _) ⟨r.toNat, by omega, rfl⟩⟩
theorem we_I0 {g : Int → Int → Int} (ha : WE k ta ρ P) (hb : WE k tb ρ R) (hs : ∀ x y, P x → R y → ∃ i j, x = .int i ∧ y = .int j ∧ S (.int (g i j))) : WE k (tOp (rI0 fun i j => .int (g i j)) ta tb) ρ S := fun σ H r Q q =>
  ha σ H r _ fun v H1 x f1 h1 p1 => hb σ H1 (r.frm f1) _ fun w H2 y f2 h2 p2 => by
    obtain ⟨i, j, rfl, rfl, hs⟩ := hs x y p1 p2
    exact ⟨i, j, dp_int h1, dp_int h2, q _ H2 _ (f1.trans f2) (.int _) hs⟩
theorem we_tup {ta : TA} (h : WA k ta ρ fun ss => ∃ ds : List PD, ss = ds.map .dat ∧ ds.length ≤ 1000 ∧ P (.tuple ds)) : WE k (tTup ta) ρ P := fun σ H r Q q => h σ H r _ fun vs H1 ss f1 h1 ⟨ds, e, hl, hp⟩ => by
  subst e
  have h2 := args_dps h1
  refine ⟨by rw [dps_len h2]; exact Nat.le_of_lt (small1000 hl), fun p hp2 => ?_⟩
  have r1 := r.frm f1
  have kn : Keep k.T H1 (upd H1 p (.tup vs)) := .new hp2
  have pM : p ∉ k.M := fun m => (r1.sr.msk p m).2 hp2
  exact q _ _ _ (f1.trans (r1.keepF kn)) (.tup (.of (hid_of pM upd_same)) (dps_keep (hid_keep kn) r1.tabm h2)) hp
theorem wl_lst {ta : TA} {P : List PD → Prop} (h : WA k ta ρ fun ss => ∃ ds : List PD, ss = ds.map .dat ∧ ds.length ≤ 1000 ∧ P ds) : WL k (tLst ta) ρ P := fun σ H r Q q => h σ H r _ fun vs H1 ss f1 h1 ⟨ds, e, hl, hp⟩ => by
  subst e
  have h2 := args_dps h1
  refine ⟨by rw [dps_len h2]; exact Nat.le_of_lt (small1000 hl), fun p hp2 => ?_⟩
  have r1 := r.frm f1
  have kn : Keep k.T H1 (upd H1 p (.lst vs)) := .new hp2
  exact q p _ _ _ (f1.trans (r1.keepF kn)) (f1.free r.dr r.sr.tab hp2) upd_same (dps_keep (hid_keep kn) r1.tabm h2) hp
theorem wl_rep {P S : List PD → Prop} (ha : WL k ta ρ P) (hb : WE k tb ρ R) (hs : ∀ ds x, P ds → R x → ∃ n : Nat, x = .int (n : Int) ∧ ds.length * n ≤ 1000 ∧ n ≤ 1000000 ∧ S (List.replicate n ds).flatten) : WL k (tOp rRep ta tb) ρ S := fun σ H r Q q =>
  ha σ H r _ fun p xs H1 ds f1 hp e1 h1 p1 => hb σ H1 (r.frm f1) _ fun w H2 y f2 h2 p2 => by
    obtain ⟨n, rfl, hz, hn, hs⟩ := hs ds y p1 p2
    have r1 := r.frm f1
    have r2 := r1.frm f2
    obtain ⟨n1, n2⟩ := r.dr.ne hp
    have e2 : H2 p = some (.lst xs) := f2.lst r1.sr.tab e1 n1 n2
    have h3 := dps_keep (frm_hid r.hd r.hn f2) r1.tabm h1
    refine ⟨p, (n : Int), xs, rfl, dp_int h2, e2, by omega, by omega, ?_, fun z hz2 => ?_⟩
    · rw [Int.toNat_natCast, dps_len h1]
      exact Nat.le_of_lt (small1000 hz)
    · rw [Int.toNat_natCast]
      have kn : Keep k.T H2 (upd H2 z (.lst (List.replicate n xs).flatten)) := .new hz2
      exact q z _ _ _ ((f1.trans f2).trans (r2.keepF kn)) ((f1.trans f2).free r.dr r.sr.tab hz2) upd_same (dps_keep (hid_keep kn) r2.tabm (dps_rep n h3)) hs
theorem we_wl {P : List PD → Prop} (h : WL k te ρ P) (hp : ∀ ds, P ds → R (.list ds)) : WE k te ρ R := fun σ H r Q q => h σ H r _ fun p xs H1 ds f1 e0 e1 h1 p1 =>
  q _ H1 _ f1 (.lst (.of (hid_of (fun m => (r.sr.msk p m).2 e0) e1)) h1) (hp ds p1)
/-- [e for i in range(n)], e may draw -/
theorem wl_lcR {tn : TE} {i n : Nat} {vs : List Nat} (hi : i ∈ vs) (hn : ∀ H, ED (k.at H) tn ρ (.int (n : Int))) (hz : n ≤ 1000) (he : ∀ M j, j < n → WE (k.mask M) te ((wipeD ρ vs).set i (.dat (.int (j : Int)))) R) : WL k (tLc (iRng1 (tCons tn tNil)) (gName i) tYes te vs) ρ (fun ds => ds.length = n ∧ ∀ d ∈ ds, R d) := fun σ H r Q q =>
  hn H [] σ H r.sr _ fun v H1 k1 h1 => by
    have h1 := dp_int h1
    subst h1
    refine ⟨(n : Int), rfl, by omega, by omega, fun D hD => ?_⟩
    have r1 := r.frm (r.keepF k1)
    have nT : D ∉ k.T := fun m => by
      obtain ⟨ps, e, _⟩ := r1.sr.tab D m
      have e : H1 D = _ := e
      rw [hD] at e; cases e
    have f0 := r1.keepF (Keep.new (T := k.T) (o := .lst []) hD)
    obtain ⟨nd, nn⟩ := r1.dr.ne hD
    refine lc_range (lo := 0) (n := (n : Int).toNat) (fun j H2 => ∃ xs ds, LW.Frm k.T k.d k.nu H1 H2 ∧ H2 D = some (.lst xs) ∧ DpAll k.K (hid (D :: k.M) H2) xs ds ∧ ds.length = j ∧ ∀ d ∈ ds, R d) ⟨[], [], f0, upd_same, .nil, rfl, fun _ z => nomatch z⟩ ?_ ?_
    · rintro j H2 hj ⟨xs, ds, f2, e2, h2, hl, hR⟩
      have hj : j < n := by omega
      have r2 : SW (k.mask (D :: k.M)) σ H2 ρ := r1.more f2 hD (by rw [e2]; intro z; cases z) nT
      have r3 := (r2.wipe vs).setD i (v := .int (0 + (j : Int))) (x := .int (j : Int)) (by rw [Int.zero_add]; exact .int _)
      refine ⟨?_, ?_⟩
      · rw [wipe_set_in hi, wipe_wipe (fun _ h => h)]
      · refine he (D :: k.M) j hj _ H2 r3 _ fun y H3 x f3 h3 p3 => ?_
        have e3 : H3 D = some (.lst xs) := f3.lst r2.sr.tab e2 nd nn
        have h4 := dps_keep (frm_hid r2.hd r2.hn f3) r2.tabm h2
        have eh : hid (D :: k.M) (upd H3 D (.lst (xs ++ [y]))) = hid (D :: k.M) H3 := hid_in List.mem_cons_self
        refine ⟨xs, e3, ?_, xs ++ [y], ds ++ [x], (f2.trans f3).own r1.dr r1.sr.tab hD, upd_same, ?_, by rw [List.length_append, hl]; rfl, fun z hz2 => ?_⟩
        · rw [dps_len h2]
          exact small1000 (by omega)
        · rw [eh]
          exact dps_append h4 (.cons h3 .nil)
        · rcases List.mem_append.mp hz2 with m | m
          · exact hR z m
          · rw [List.mem_singleton.mp m]; exact p3
    · rintro H2 ⟨xs, ds, f2, e2, h2, hl, hR⟩
      exact q D xs H2 ds ((r.keepF k1).trans f2) ((r.keepF k1).free r.dr r.sr.tab hD) e2 (dps_same (hid_sub fun a m => List.mem_cons_of_mem _ m) h2) ⟨by omega, hR⟩
/-- x = e -/
theorem sw_set {i : Nat} {σ : L2.St} {H : Hp} {u : TS} {D : Ends} (r : SW k σ H ρ) (h : WE k te ρ P) (q : ∀ v H' x, P x → SW k (σ.set i (some v)) H' (ρ.set i (.dat x)) → u D (σ.set i (some v)) H') : tSeq (tAsg te (gName i)) u D σ H :=
  h σ H r _ fun v H' x f h' p => q v H' x p ((r.frm f).setD i h')
/-- draws begin -/
theorem sw_start {K : PySem.W.Frag} {T M : List Addr} {E : XK} {i j : Nat} {ns : List Int} {σ : L2.St} {H : Hp} {ρ : DEnv} {u : TS} {D : Ends} (r : SR ⟨K, T, M, H⟩ [] σ H ρ) (hj : ρ[j]? = some (.dat (.list (ns.map .int)))) (hl : ns.length ≤ 63)
    (q : ∀ d nu H', SW ⟨K, T, d :: nu :: M, d, nu⟩ (σ.set i (some (.ref d))) H' (ρ.set i (.raw (.ref d))) → u D (σ.set i (some (.ref d))) H') : tSeq (tAsg (tCall (LW.spStart K) [] E (tCons (tVar j) tNil)) (gName i)) u D σ H := by
  obtain ⟨ov, h1, h2⟩ := r.rel j _ hj
  cases ov with
  | none => exact False.elim h2
  | some v =>
    have h2 : Dp K (hid (M ++ []) H) v (.list (ns.map .int)) := h2
    obtain ⟨a, xs, rfl, h3, h4⟩ := dp_list h2
    have h4 := dps_flat h4 (by rw [List.all_map]; exact List.all_eq_true.mpr fun _ _ => rfl)
    rw [List.map_map] at h4
    subst h4
    refine ⟨.ref a, h1, a, ns, rfl, hid_same.seq h3, hl, fun d nu H' s hd hn dr => ?_⟩
    refine q d nu H' ⟨?_, dr, List.mem_cons_self, List.mem_cons_of_mem _ List.mem_cons_self⟩
    have t2 : Tabs T H' := (Keep.same s).tabs r.tab
    obtain ⟨ms, c, e1, e2, _⟩ := dr.ex
    have nT : ∀ {b : Addr} {zs : List V}, H' b = some (.lst zs) → b ∉ T := fun e m => by
      obtain ⟨ps, e', _⟩ := t2 _ m
      rw [e] at e'; cases e'
    have km : Keep T (hid M H) (hid (d :: nu :: M) H') := by
      have nm : ∀ {b : Addr} {o : HO}, H b = some o → b ∉ M → b ∉ d :: nu :: M := fun e m q => by
        rcases List.mem_cons.mp q with z | q
        · rw [z, hd] at e; cases e
        · rcases List.mem_cons.mp q with z | q
          · rw [z, hn] at e; cases e
          · exact m q
      refine ⟨fun b o e nb => ?_, fun P hP tb => ?_⟩
      · obtain ⟨m, e⟩ := hid_inv e
        exact hid_of (nm e m) (s b o e)
      · obtain ⟨ps, e, ok⟩ := tb
        obtain ⟨m, e⟩ := hid_inv e
        exact ⟨ps, hid_of (nm e m) (s P _ e), ok⟩
    have r2 : SR ⟨K, T, d :: nu :: M, H'⟩ [] σ H' ρ := r.reb km t2 fun b hb => by
      rcases List.mem_cons.mp hb with z | hb
      · rw [z]; exact ⟨nT e1, by rw [e1]; intro z; cases z⟩
      · rcases List.mem_cons.mp hb with z | hb
        · rw [z]; exact ⟨nT e2, by rw [e2]; intro z; cases z⟩
        · refine ⟨(r.msk b hb).1, ?_⟩
          cases e : H b with
          | none => exact absurd e (r.msk b hb).2
          | some o => rw [s b o e]; intro z; cases z
    exact r2.setS i (v := .ref d) (s := .raw (.ref d)) rfl (fun ds z => nomatch z)
end
end DL
/-! lists joined, turned round, sorted pairs, places, three new lists at once -/
namespace DL
open PySem PySem.Spec PyProof.Rows L2 DA TR
section
variable {X : Cx}
def rCatL (K : PySem.W.Frag) : R2 := fun x y H Q => ∃ l b xs zs, x = .ref l ∧ y = .ref b ∧ SqL K H l xs ∧ SqL K H b zs ∧ xs.length + zs.length ≤ sizeLine ∧ ∀ p, H p = none → Q (.ref p) (upd H p (.lst (xs ++ zs)))
theorem op_catL : OpR X (binaryOp .Add) (rCatL X.K) := by
  intro pins s σ H x y v u Q I rx ry h
  obtain ⟨l, b, xs, zs, rfl, rfl, hH, hB, hz, q⟩ := h
  cases rx
  cases ry
  obtain ⟨its, r, ⟨⟨cls, dd, data, sls⟩, n, e, hc, hdn, hdt⟩, hl⟩ := I.list hH
  obtain ⟨its2, r2, ⟨⟨cls2, dd2, data2, sls2⟩, n2, e2, hc2, hdn2, hdt2⟩, hl2⟩ := I.list hB
  simp only at hc hdt hdn hc2 hdt2 hdn2
  subst hc hdt hdn hc2 hdt2 hdn2
  have z1 := r.length
  have z2 := r2.length
  refine concat_meets ⟨_, e, rfl⟩ ⟨_, e2, rfl⟩ noFill_list_add seq_list_add PySem.F.slot_list_add PySem.F.entry_list_add (PySem.F.args_list_add_2 _ _) (list_addW l b its.toArray its2.toArray n n2 none none sls sls2 (by rw [List.size_toArray, List.size_toArray]; omega)) ⟨e, e2, ?_⟩
  have ea : its.toArray ++ its2.toArray = (its ++ its2).toArray := by simp
  rw [ea]
  exact ⟨.ref _, _, I.lnew (t' := s.toks) (r.append r2) (by rw [List.length_append]; omega), rfl, q _ I.fresh⟩
end
theorem lex_swo : SrtO.Swo SrtO.lexB := by
  refine ⟨fun x y h => ?_, fun x y z h1 h2 => ?_⟩
  · have a := SrtO.lexB_iff.mp h
    refine SrtO.lexB_no.mpr ?_
    omega
  · have a := SrtO.lexB_no.mp h1
    have b := SrtO.lexB_no.mp h2
    refine SrtO.lexB_no.mpr ?_
    omega
theorem lex_eqv (x y : Int × Int) : SrtO.eqv SrtO.lexB x y = (y == x) := by
  by_cases h : y = x
  · subst h
    rw [beq_self_eq_true]
    exact SrtO.eqv_iff.mpr ⟨lex_swo.refl y, lex_swo.refl y⟩
  · have h2 : (y == x) = false := by simpa using h
    rw [h2]
    cases e : SrtO.eqv SrtO.lexB x y with
    | false => rfl
    | true =>
      obtain ⟨q1, q2⟩ := SrtO.eqv_iff.mp e
      have a := SrtO.lexB_no.mp q1
      have b := SrtO.lexB_no.mp q2
      exact absurd (Prod.ext (by omega) (by omega)) h
theorem lex_uniq {l m : List (Int × Int)} (h1 : SrtO.Srtd SrtO.lexB l) (h2 : SrtO.Srtd SrtO.lexB m) (p : l.Perm m) : l = m := by
  refine SrtO.stb_uniq lex_swo h1 h2 ⟨p, fun x => ?_⟩
  rw [show SrtO.eqv SrtO.lexB x = fun y => y == x from funext fun y => lex_eqv x y, List.filter_beq, List.filter_beq, p.count_eq]
def pairD (p : Int × Int) : PD := .tuple [.int p.1, .int p.2]
theorem isPair_fn {h : Heap} {v : Value} {a b c d : Int} (p : Srt.IsPair h v a b) (q : Srt.IsPair h v c d) : a = c ∧ b = d := by
  obtain ⟨x, o, t, u, n, rfl, e, _, dd⟩ := p
  obtain ⟨y, o', t', u', n', e1, e', _, dd'⟩ := q
  cases e1
  rw [e] at e'
  cases e'
  rw [dd] at dd'
  cases dd'
  exact ⟨rfl, rfl⟩
section
variable {X : Cx}
/-- sorted(xs), xs a list of pairs of ints -/
def rSortedPD (K : PySem.W.Frag) : List V → Hp → VK → Prop := fun vs H Q => ∃ (a : Addr) (xs : List V) (ps : List (Int × Int)), vs = [V.ref a] ∧ SqL K H a xs ∧ DpAll K H xs (ps.map pairD) ∧
  ∀ ys qs p, (∀ H', DpAll K H' xs (ps.map pairD) → DpAll K H' ys (qs.map pairD)) → SrtO.Srtd SrtO.lexB qs → qs.Perm ps → H p = none → Q (.ref p) (upd H p (.lst ys))
theorem pair_at {pins : List (Addr × Obj)} {s : Shared} {σ : L2.St} {H : Hp} (I : L2.Inv X pins σ H s) : ∀ {xs : List V} {its : List Value} {ps : List (Int × Int)}, Vals xs its → DpAll X.K H xs (ps.map pairD) → (∀ v ∈ its, ∃ p : Int × Int, Srt.IsPair s.heap v p.1 p.2 ∧ ∃ t, v = .ref t ∧ Dp X.K H (.ref t) (pairD p)) ∧ (∀ f : Value → Int × Int, (∀ v ∈ its, ∀ p : Int × Int, Srt.IsPair s.heap v p.1 p.2 → f v = p) → its.map f = ps)
  | [], _, [], .nil, _ => ⟨(fun _ z => nomatch z), fun _ _ => rfl⟩
  | x :: xs, _ :: its, p :: ps, .cons r rv, .cons a h => by
    obtain ⟨ih1, ih2⟩ := pair_at I rv h
    obtain ⟨t, zs, rfl, h3, h4⟩ := dp_tup a
    have hz : zs = [.int p.1, .int p.2] := by
      cases h4 with
      | cons b1 h4 =>
        cases h4 with
        | cons b2 h4 => cases h4; rw [dp_int b1, dp_int b2]
    subst hz
    cases r
    obtain ⟨its2, r2, ⟨o, ho, hc, n, hd⟩, _⟩ := I.tuple h3
    obtain ⟨u1, u2, rfl, ri, rj⟩ := vals2 r2
    obtain ⟨t1, rfl⟩ := ri
    obtain ⟨t2, rfl⟩ := rj
    have hp : Srt.IsPair s.heap (.ref t) p.1 p.2 := ⟨t, o, t1, t2, n, rfl, ho, hc, hd⟩
    refine ⟨fun v hv => ?_, fun f hf => ?_⟩
    · rcases List.mem_cons.mp hv with rfl | hv
      · exact ⟨p, hp, t, rfl, a⟩
      · exact ih1 v hv
    · rw [List.map_cons, hf _ List.mem_cons_self p hp, ih2 f fun v hv => hf v (List.mem_cons_of_mem _ hv)]
theorem dps_mem {K : PySem.W.Frag} {H : Hp} : ∀ {xs : List V} {ps : List (Int × Int)}, DpAll K H xs (ps.map pairD) → ∀ {x : V}, x ∈ xs → ∃ (p : Int × Int) (t : Addr), x = .ref t
  | _, [], .nil, _, z => nomatch z
  | _, p :: ps, .cons a h, x, z => by
    rcases List.mem_cons.mp z with rfl | z
    · obtain ⟨t, zs, e, _⟩ := dp_tup a
      exact ⟨p, t, e⟩
    · exact dps_mem h z
theorem pair_all {K : PySem.W.Frag} {H : Hp} {k : Value → Int × Int} : ∀ {its : List Value}, DpAll K H (its.map backV) ((its.map k).map pairD) → ∀ v ∈ its, Dp K H (backV v) (pairD (k v))
  | [], _, _, z => nomatch z
  | _ :: _, .cons a h, v, z => by
    rcases List.mem_cons.mp z with rfl | z
    · exact a
    · exact pair_all h v z
theorem cr_sortedPD : CallR X (.builtin "sorted") (rSortedPD X.K) := by
  classical
  intro pins s σ H vs us Q I r h
  obtain ⟨a, xs, ps, rfl, hs, hx, q⟩ := h
  obtain ⟨its, rv, hl, hz⟩ := I.list hs
  obtain ⟨u, rfl, ru⟩ := vals1 r
  obtain rfl : u = Value.ref a := ru
  obtain ⟨g1, g2⟩ := pair_at I rv hx
  let k : Value → Int × Int := fun v => if h : ∃ p : Int × Int, Srt.IsPair s.heap v p.1 p.2 then h.choose else (0, 0)
  have hk : ∀ v (p : Int × Int), Srt.IsPair s.heap v p.1 p.2 → k v = p := fun v p hp => by
    have hex : ∃ p : Int × Int, Srt.IsPair s.heap v p.1 p.2 := ⟨p, hp⟩
    have e : k v = hex.choose := dif_pos hex
    rw [e]
    obtain ⟨q1, q2⟩ := isPair_fn hex.choose_spec hp
    exact Prod.ext q1 q2
  have hmap : its.map k = ps := g2 k fun v _ p hp => hk v p hp
  refine SrtO.sorted_pairsO (k := k) hl.isList (by rw [← rv.length]; exact hz) (fun v hv => ?_) fun h' d out h1 h2 kp hd hn => ?_
  · obtain ⟨p, hp, _⟩ := g1 v hv
    rw [hk v p hp]
    exact hp
  · have h3 : ∀ u ∈ out, ∃ a, u = Value.ref a := fun u hu => by
      obtain ⟨p, _, t, e, _⟩ := g1 u (h2.perm.mem_iff.mp hu)
      exact ⟨t, e⟩
    obtain ⟨n, hn⟩ := hn
    have hlen : out.length = its.length := h2.perm.length_eq
    have e1 : xs = its.map backV := (refs_back rv fun x m => by
      obtain ⟨d', t, e⟩ := dps_mem hx m
      exact ⟨t, e⟩).1
    have hD : ∀ H', DpAll X.K H' xs (ps.map pairD) → ∀ l : List Value, (∀ u ∈ l, u ∈ its) → DpAll X.K H' (l.map backV) ((l.map k).map pairD) := fun H' hx' l => by
      rw [e1, ← hmap] at hx'
      have g3 := pair_all hx'
      induction l with
      | nil => intro _; exact .nil
      | cons v l ih =>
        intro hm
        exact .cons (g3 v (hm v List.mem_cons_self)) (ih fun u hu => hm u (List.mem_cons_of_mem _ hu))
    refine ⟨.ref d, upd H d (.lst (out.map backV)), I.laid (t' := s.toks) kp hd ⟨?_, out, n, vals_back h3, hn⟩, rfl, q _ (out.map k) d (fun H' hx' => hD H' hx' out fun u hu => h2.perm.mem_iff.mp hu) (SrtO.srtd_map h1) (by rw [← hmap]; exact h2.perm.map k) (I.hok.fresh hd)⟩
    rw [List.length_map, hlen, ← rv.length]
    exact hz
end
section
variable {c : DC} {ρ : DEnv} {ta tb te : TE} {d : PD}
theorem dps_rev {K : PySem.W.Frag} {H : Hp} : ∀ {xs : List V} {ds : List PD}, DpAll K H xs ds → DpAll K H xs.reverse ds.reverse
  | _, _, .nil => .nil
  | _, _, .cons a r => by
    rw [List.reverse_cons, List.reverse_cons]
    exact dps_append (dps_rev r) (.cons a .nil)
theorem en_catL {xs ys : List PD} (ha : EL c ta ρ xs) (hb : EL c tb ρ ys) (hz : xs.length + ys.length ≤ 1000) : EN c (tOp (rCatL c.K) ta tb) ρ (xs ++ ys) := fun A σ H s Q q =>
  ha A σ H s _ fun a us H1 k1 g1 g2 => hb A σ H1 (s.move k1) _ fun b vs H2 k2 h1 h2 => by
    have g3 := dps_keep (hid_keep k2) (s.move k1).tabm g2
    refine ⟨a, b, us, vs, rfl, rfl, k2.sqL (s.move k1).tabs g1, h1, by rw [dps_len g2, dps_len h2]; exact Nat.le_of_lt (small1000 hz), fun p hp => ?_⟩
    refine q p _ _ ((k1.trans k2).trans (.new hp)) ((k1.trans k2).free s.tabs hp) upd_same ?_
    rw [hid_new hp]
    exact dps_append g3 h2
theorem en_revL {xs : List PD} (ha : EL c ta ρ xs) : EN c (tRevL c.K ta) ρ xs.reverse := fun A σ H s Q q => ha A σ H s _ fun a us H1 k1 g1 g2 => ⟨a, us, rfl, g1, fun p hp => by
  refine q p _ _ (k1.trans (.new hp)) (k1.free s.tabs hp) upd_same ?_
  rw [hid_new hp]
  exact dps_rev g2⟩
theorem en_sortP {ps qs : List (Int × Int)} (ha : EL c ta ρ (ps.map pairD)) (h1 : SrtO.Srtd SrtO.lexB qs) (h2 : qs.Perm ps) : EN c (tCB (rSortedPD c.K) (tCons ta tNil)) ρ (qs.map pairD) := fun A σ H s Q q => ha A σ H s _ fun a us H1 k1 g1 g2 => by
  refine ⟨a, us, ps, rfl, g1, dps_same hid_same g2, fun ys qs' p h3 h4 h5 hp => ?_⟩
  have e : qs' = qs := lex_uniq h4 h1 (h5.trans h2.symm)
  subst e
  refine q p ys _ (k1.trans (.new hp)) (k1.free s.tabs hp) upd_same ?_
  rw [hid_new hp]
  exact h3 _ g2
end
end DL
namespace DL
open PySem PySem.Spec PyProof.Rows L2 DA TR
section
variable {c : DC} {A : List Addr} {σ : L2.St} {H H' : Hp} {ρ : DEnv}
theorem SR.growK (r : SR c A σ H ρ) (k : Keep c.T H H') {p : Addr} {xs : List V} (hp : H p = none) (h1 : H' p = some (.lst xs)) : Keep c.T (hid (c.M ++ A) H) (hid (c.M ++ p :: A) H') := by
  refine ⟨fun b o e n => ?_, fun P hP tb => ?_⟩
  · obtain ⟨m, e⟩ := hid_inv e
    refine hid_of (fun q => ?_) (k.at_ b o e n)
    rcases List.mem_append.mp q with q | q
    · exact m (List.mem_append_left _ q)
    · rcases List.mem_cons.mp q with z | q
      · rw [z, hp] at e; cases e
      · exact m (List.mem_append_right _ q)
  · obtain ⟨ps, e, ok⟩ := tb
    obtain ⟨m, e⟩ := hid_inv e
    obtain ⟨ps', e', ok'⟩ := k.tab P hP ⟨ps, e, ok⟩
    refine ⟨ps', hid_of (fun q => ?_) e', ok'⟩
    rcases List.mem_append.mp q with q | q
    · exact m (List.mem_append_left _ q)
    · rcases List.mem_cons.mp q with z | q
      · rw [z, hp] at e; cases e
      · exact m (List.mem_append_right _ q)
theorem SR.setO (r : SR c A σ H ρ) (i : Nat) {p : Addr} {xs : List V} {ds : List PD} (hA : p ∈ A) (h1 : H p = some (.lst xs)) (h3 : DpAll c.K (hid (c.M ++ A) H) xs ds) (key : ∀ m gs, i ≠ m → ρ[m]? = some (.own gs) → σ[m]? = some (some (.ref p)) → False) : SR c A (σ.set i (some (.ref p))) H (ρ.set i (.own ds)) := by
  refine ⟨r.tab, r.keep, r.msk, r.new, by rw [List.length_set, List.length_set, r.len], fun j t e => ?_, fun j l es fs a hjl e1 e2 e3 e4 => ?_⟩
  · rcases get_set e with ⟨rfl, rfl⟩ | ⟨hne, e⟩
    · have hl : i < σ.length := by
        rw [r.len]
        have := (List.getElem?_eq_some_iff.mp e).1
        rwa [List.length_set] at this
      exact ⟨some (.ref p), by rw [List.getElem?_set, if_pos rfl, if_pos hl], (show ∃ a ys, V.ref p = .ref a ∧ a ∈ A ∧ H a = some (.lst ys) ∧ DpAll c.K (hid (c.M ++ A) H) ys ds from ⟨p, xs, rfl, hA, h1, h3⟩)⟩
    · obtain ⟨ov, g1, g2⟩ := r.rel j t e
      exact ⟨ov, by rw [List.getElem?_set_ne hne]; exact g1, g2⟩
  · rcases get_set e1 with ⟨rfl, _⟩ | ⟨n1, e1⟩
    · rcases get_set e2 with ⟨z, _⟩ | ⟨n2, e2⟩
      · exact hjl z
      · have hl : i < σ.length := by
          by_cases q : i < σ.length
          · exact q
          · rw [List.getElem?_eq_none (by rw [List.length_set]; omega)] at e3
            cases e3
        rw [List.getElem?_set, if_pos rfl, if_pos hl] at e3
        cases e3
        rw [List.getElem?_set_ne n2] at e4
        exact key l fs n2 e2 e4
    · rcases get_set e2 with ⟨rfl, _⟩ | ⟨n2, e2⟩
      · have hl : i < σ.length := by
          by_cases q : i < σ.length
          · exact q
          · rw [List.getElem?_eq_none (by rw [List.length_set]; omega)] at e4
            cases e4
        rw [List.getElem?_set, if_pos rfl, if_pos hl] at e4
        cases e4
        rw [List.getElem?_set_ne n1] at e3
        exact key j es n1 e1 e3
      · rw [List.getElem?_set_ne n1] at e3
        rw [List.getElem?_set_ne n2] at e4
        exact r.inj j l es fs a hjl e1 e2 e3 e4
/-- no own list stands at an address that was none -/
theorem SR.noOwn (r : SR c A σ H ρ) {p : Addr} (hp : H p = none) : ∀ (m : Nat) (gs : List PD), ρ[m]? = some (.own gs) → σ[m]? = some (some (.ref p)) → False := fun m gs e1 e2 => by
  obtain ⟨ov, z1, z2⟩ := r.rel m _ e1
  rw [e2] at z1
  cases z1
  obtain ⟨b, ys, z3, z4, z5, _⟩ := z2
  cases z3
  rw [hp] at z5
  cases z5
end
theorem noOwn_set {σ : L2.St} {ρ : DEnv} {i : Nat} {p q : Addr} {s : DS} (n : q ≠ p) (h : ∀ (m : Nat) (gs : List PD), ρ[m]? = some (.own gs) → σ[m]? = some (some (.ref p)) → False) : ∀ (m : Nat) (gs : List PD), (ρ.set i s)[m]? = some (.own gs) → (σ.set i (some (.ref q)))[m]? = some (some (.ref p)) → False := fun m gs e1 e2 => by
  by_cases z : i = m
  · subst z
    by_cases hl : i < σ.length
    · rw [List.getElem?_set, if_pos rfl, if_pos hl] at e2
      cases e2
      exact n rfl
    · rw [List.getElem?_eq_none (by rw [List.length_set]; omega)] at e2
      cases e2
  · rw [List.getElem?_set_ne z] at e1 e2
    exact h m gs e1 e2
section
variable {c : DC} {ρ : DEnv} {ta tb tc te : TE} {d : PD} {D : DEnds}
theorem sd_new3 {i j l : Nat} {xs ys zs : List PD} (hij : i ≠ j) (hil : i ≠ l) (hjl : j ≠ l) (ha : EN c ta ρ xs) (hb : EN c tb ρ ys) (hc : EN c tc ρ zs) (k : D.nx (((ρ.set i (.own xs)).set j (.own ys)).set l (.own zs))) :
    SD c (tAsg (tTup (tCons ta (tCons tb (tCons tc tNil)))) (gTup c.K 3 (gCons (gName i) (gCons (gName j) (gCons (gName l) gNil))))) D ρ := fun E L A σ H r =>
  ha A σ H r _ fun p1 us1 H1 k1 hp1 e1 g1 => by
    have r1 := r.grow k1 hp1 e1
    have g1 : DpAll c.K (hid (c.M ++ p1 :: A) H1) us1 xs := by
      rw [hid_cong (N := p1 :: (c.M ++ A)) (fun a => by simp [or_left_comm])]; exact g1
    refine hb _ σ H1 r1 _ fun p2 us2 H2 k2 hp2 e2 g2 => ?_
    have r2 := r1.grow k2 hp2 e2
    have g2 : DpAll c.K (hid (c.M ++ p2 :: p1 :: A) H2) us2 ys := by
      rw [hid_cong (N := p2 :: (c.M ++ p1 :: A)) (fun a => by simp [or_left_comm])]; exact g2
    have g1 := dps_keep (r1.growK k2 hp2 e2) r1.tabm g1
    have d21 : p1 ≠ p2 := fun z => by rw [← z, e1] at hp2; cases hp2
    have e1 := k2.at_ _ _ e1 (r1.nA List.mem_cons_self)
    refine hc _ σ H2 r2 _ fun p3 us3 H3 k3 hp3 e3 g3 => ?_
    have r3 := r2.grow k3 hp3 e3
    have g3 : DpAll c.K (hid (c.M ++ p3 :: p2 :: p1 :: A) H3) us3 zs := by
      rw [hid_cong (N := p3 :: (c.M ++ p2 :: p1 :: A)) (fun a => by simp [or_left_comm])]; exact g3
    have g1 := dps_keep (r2.growK k3 hp3 e3) r2.tabm g1
    have g2 := dps_keep (r2.growK k3 hp3 e3) r2.tabm g2
    have d31 : p1 ≠ p3 := fun z => by rw [← z, e1] at hp3; cases hp3
    have d32 : p2 ≠ p3 := fun z => by rw [← z, e2] at hp3; cases hp3
    have e1 := k3.at_ _ _ e1 (r2.nA (List.mem_cons_of_mem _ List.mem_cons_self))
    have e2 := k3.at_ _ _ e2 (r2.nA List.mem_cons_self)
    refine ⟨by show 3 ≤ sizeLine; decide, fun p hp => ?_⟩
    have kn : Keep c.T H3 (upd H3 p (.tup [.ref p1, .ref p2, .ref p3])) := .new hp
    have r4 := r3.move kn
    have g1 := dps_keep (hid_keep kn) r3.tabm g1
    have g2 := dps_keep (hid_keep kn) r3.tabm g2
    have g3 := dps_keep (hid_keep kn) r3.tabm g3
    have e1 := kn.at_ _ _ e1 (r3.nA (List.mem_cons_of_mem _ (List.mem_cons_of_mem _ List.mem_cons_self)))
    have e2 := kn.at_ _ _ e2 (r3.nA (List.mem_cons_of_mem _ List.mem_cons_self))
    have e3 := kn.at_ _ _ e3 (r3.nA List.mem_cons_self)
    have n1 := r.noOwn hp1
    have n2 := r1.noOwn hp2
    have n3 := r2.noOwn hp3
    have q1 := r4.setO i (List.mem_cons_of_mem _ (List.mem_cons_of_mem _ List.mem_cons_self)) e1 g1 fun m gs _ => n1 m gs
    have n2' := noOwn_set (i := i) (s := .own xs) d21 n2
    have q2 := q1.setO j (List.mem_cons_of_mem _ List.mem_cons_self) e2 g2 fun m gs _ => n2' m gs
    have n3' := noOwn_set (i := j) (s := .own ys) d32 (noOwn_set (i := i) (s := .own xs) d31 n3)
    have q3 := q2.setO l List.mem_cons_self e3 g3 fun m gs _ => n3' m gs
    exact ⟨p, _, rfl, .of upd_same, rfl, _, _, rfl, _, _, rfl, _, _, rfl, rfl, L.nx _ _ _ _ q3 k⟩
theorem fnok_or {P : Program} {w : World} {K : PySem.W.Frag} {mg : Str → Option Value} {base : Heap} {CX : CXT} {k : Nat} {f : Addr} {fd : FuncData} {ps : List Str} {T : List Addr} {R1 R2 : List DS → PD → Prop} (h1 : FnOk P w K mg base CX k f fd ps (spD K T R1)) (h2 : FnOk P w K mg base CX k f fd ps (spD K T R2)) :
    FnOk P w K mg base CX k f fd ps (spD K T fun ss d => R1 ss d ∨ R2 ss d) := by
  have sp : ∀ vs H Q E, spD K T (fun ss d => R1 ss d ∨ R2 ss d) vs H Q E → spD K T R1 vs H Q E ∨ spD K T R2 vs H Q E := fun vs H Q E ⟨M, ss, d, a, b, e, g, q⟩ => g.elim (fun g => .inl ⟨M, ss, d, a, b, e, g, q⟩) (fun g => .inr ⟨M, ss, d, a, b, e, g, q⟩)
  refine ⟨fun vs H Q E h => (sp vs H Q E h).elim (h1.len vs H Q E) (h2.len vs H Q E), fun A outer s H args us vs Q E hr he hb hv h => ?_⟩
  exact (sp vs H Q E h).elim (h1.run A outer s H args us vs Q E hr he hb hv) (h2.run A outer s H args us vs Q E hr he hb hv)
theorem ed_indexD {ds : List PD} {j : Nat} {z : PD} (ha : EL c te ρ ds) (hb : ED c tb ρ d) (hs : SeqAt.shaped (.list ds) = true) (hd : SeqAt.shaped d = true) (h1 : ds[j]? = some z) (h2 : PyData.eqv z d = true) (h3 : ∀ (m : Nat) (z' : PyData), m < j → ds[m]? = some z' → PyData.eqv z' d = false) : ED c (tBM c.K "list" (rIndexD c.K) te (tCons tb tNil)) ρ (.int (j : Int)) := fun A σ H s Q q =>
  ha A σ H s _ fun a xs H1 k1 g1 g2 => ⟨.inl ⟨rfl, xs, g1⟩, hb A σ H1 (s.move k1) _ fun w H2 k2 g3 => by
    have h4 := dps_keep (hid_keep k2) (s.move k1).tabm g2
    exact ⟨a, w, d, ds, j, z, rfl, rfl, .lst (k2.sqL (s.move k1).tabs g1) (dps_same hid_same h4), dp_same hid_same g3, hs, hd, h1, h2, h3, q _ H2 (k1.trans k2) (.int _)⟩⟩
theorem ed_max2 {i j : Int} (ha : ED c ta ρ (.int i)) (hb : ED c tb ρ (.int j)) : ED c (tCB (fun xs H Q => ∃ i j, xs = [.int i, .int j] ∧ Q (.int (if j > i then j else i)) H) (tCons ta (tCons tb tNil))) ρ (.int (max i j)) :=
  ed_CB2 (ea_d ha (ea_d hb ea_nil)) fun H v w K' H' h1 h2 Q q => by
    refine ⟨i, j, by rw [dp_int h1, dp_int h2], q _ fun K2 H2 => ?_⟩
    rw [show max i j = if j > i then j else i from by split <;> omega]
    exact .int _
end
end DL
namespace PT
open PySem PySem.Spec PyProof.Rows L2 DA DL TR
theorem eqv_refl_sh {d : PD} (h : SeqAt.shaped d = true) : PyData.eqv d d = true := SeqAt.eqv_refl d (SeqAt.canLay_of_shaped h)
abbrev schF : PD := .tuple [.str "first"]
abbrev schL : PD := .tuple [.str "last"]
def needsN (h : Hall) : List Nat := h.map fun x => (K11.lenD (x.2.map encDd)).toNat
def comesAt (h : Hall) (i : Nat) : Nat := (h.getD i (0, [])).1
structure AS where
  q : List Nat
  left : List Nat
def comersH (h : Hall) (t : Nat) : List Nat := (List.range h.length).filter fun i => comesAt h i == t
def laterH (h : Hall) (t : Nat) : List Nat := (List.range h.length).filter fun i => decide (t ≤ comesAt h i)
def pickA (z : Int) (q : List Nat) : Option Nat := if z = 0 then q.head? else q.getLast?
def joinA (h : Hall) (t : Nat) (a : AS) : List Nat := a.q ++ comersH h t
def stepA (z : Int) (h : Hall) (t : Nat) (a : AS) : AS := match pickA z (joinA h t a) with
  | none => ⟨joinA h t a, a.left⟩
  | some w => ⟨(joinA h t a).filter fun s => decide (0 < (a.left.set w (a.left.getD w 0 - 1)).getD s 0), a.left.set w (a.left.getD w 0 - 1)⟩
def goesA (h : Hall) (t : Nat) (a : AS) : Bool := !a.q.isEmpty || !(laterH h t).isEmpty
def atA (z : Int) (h : Hall) : Nat → AS
  | 0 => ⟨[], needsN h⟩
  | j + 1 => stepA z h j (atA z h j)
def outA (z : Int) (h : Hall) (j : Nat) : Option Nat := pickA z (joinA h j (atA z h j))
def lineStep (nd : List Nat) (L : List (Option Nat)) (p : Nat × Nat) : List (Option Nat) := L ++ List.replicate (p.1 - L.length) none ++ List.replicate (nd.getD p.2 0) (some p.2)
def castP (p : Nat × Nat) : Int × Int := ((p.1 : Int), (p.2 : Int))
def pairsH (h : Hall) : List (Nat × Nat) := (List.range h.length).map fun i => (comesAt h i, i)
/-- what the law asks of the halls it draws -/
structure LM (h : Hall) (qs : List (Nat × Nat)) (line : List (Option Nat)) (N : Nat) : Prop where
  len : 1 ≤ h.length ∧ h.length ≤ 4
  pr : ∀ x ∈ h, K11.progD (encPr x.2) = true
  oF : okRun (qSem 0) schF h 200
  oL : okRun (qSem (-1)) schL h 200
  need : ∀ n ∈ needsN h, 1 ≤ n ∧ n ≤ 11
  srt : SrtO.Srtd SrtO.lexB (qs.map castP)
  perm : qs.Perm (pairsH h)
  small : ∀ p ∈ qs, p.1 ≤ 8 ∧ p.2 < h.length
  eline : line = qs.foldl (lineStep (needsN h)) []
  run0 : whosM (qSem 0) 200 (machH (qSem 0) h) = line
  ends : endOf (runsM (qSem 0) 200 (machH (qSem 0) h)).2 = "ended"
  nN : N ≤ 100
  stop : goesA h N (atA (-1) h N) = false
  goes : ∀ j, j < N → goesA h j (atA (-1) h j) = true
  run1 : whosM (qSem (-1)) 200 (machH (qSem (-1)) h) = (List.range N).map (outA (-1) h)
  qlt : ∀ j, j ≤ N → ∀ s ∈ (atA (-1) h j).q, s < h.length
  qle : ∀ j, j ≤ N → (atA (-1) h j).q.length ≤ 4
  ll : ∀ j, j ≤ N → (atA (-1) h j).left.length = h.length
  pos : ∀ j, j < N → ∀ s ∈ joinA h j (atA (-1) h j), 1 ≤ (atA (-1) h j).left.getD s 0
  fin : ∀ s, s < h.length → ∃ v j, (runsM (qSem 0) 200 (machH (qSem 0) h)).2.finishes[s]? = some (some v) ∧ line.reverse[j]? = some (some s) ∧ (∀ m, m < j → line.reverse[m]? ≠ some (some s)) ∧ v = line.length - j
  srvF : ∀ i, i < h.length → (whosM (qSem 0) 200 (machH (qSem 0) h)).count (some i) = (needsN h).getD i 0
  srvL : ∀ i, i < h.length → (whosM (qSem (-1)) 200 (machH (qSem (-1)) h)).count (some i) = (needsN h).getD i 0
  logF : ∀ x ∈ logsM (qSem 0) 200 (machH (qSem 0) h), PyData.strOk x.2 = true ∧ x.2 ≠ "ask"
  logL : ∀ x ∈ logsM (qSem (-1)) 200 (machH (qSem (-1)) h), PyData.strOk x.2 = true ∧ x.2 ≠ "ask"
  bigF : (needsN h).sum ≤ (whosM (qSem 0) 200 (machH (qSem 0) h)).length
  bigL : (needsN h).sum ≤ (whosM (qSem (-1)) 200 (machH (qSem (-1)) h)).length
  sw : swN (rnrs line) = h.length - 1
def R2 {α β γ : Type} (A B : α → β → Prop) : α → β → Prop := fun a b => A a b ∨ B a b
abbrev R_run2 : List DS → PD → Prop := fun ss d => R_run (qSem 0) schF ss d ∨ R_run (qSem (-1)) schL ss d
abbrev R_served2 : List DS → PD → Prop := fun ss d => R_served (qSem 0) schF ss d ∨ R_served (qSem (-1)) schL ss d
abbrev R_idle2 : List DS → PD → Prop := fun ss d => R_idle (qSem 0) schF ss d ∨ R_idle (qSem (-1)) schL ss d
abbrev R_vain2 : List DS → PD → Prop := fun ss d => R_vain (qSem 0) schF ss d ∨ R_vain (qSem (-1)) schL ss d
def spLaw (K : PySem.W.Frag) (T : List Addr) : Sp := fun vs H Q _ => ∃ (a : Addr) (ns : List Int), vs = [.ref a] ∧ SqL K H a (ns.map V.int) ∧ ns.length ≤ 63 ∧ Tabs T H ∧ ∀ H', Q (.bl true) H'
/-- a process as the law draws it -/
def okX (x : Nat × List Deed) : Prop := x.1 ≤ 8 ∧ ∃ k n : Nat, 1 ≤ k ∧ k ≤ 5 ∧ n ≤ 2 ∧ x.2 = List.replicate n (("work" : Str), k)
def okD (d : PD) : Prop := ∃ c k n : Nat, c ≤ 8 ∧ 1 ≤ k ∧ k ≤ 5 ∧ n ≤ 2 ∧ d = .tuple [intD c, .list (List.replicate n (.tuple [.str "work", intD k]))]
theorem hall_of : ∀ ds : List PD, (∀ d ∈ ds, okD d) → ∃ h : Hall, ds = hallL h ∧ ∀ x ∈ h, okX x
  | [], _ => ⟨[], rfl, fun _ z => nomatch z⟩
  | d :: ds, hd => by
    obtain ⟨h, e, ok⟩ := hall_of ds fun x m => hd x (List.mem_cons_of_mem _ m)
    obtain ⟨c, k, n, h1, h2, h3, h4, rfl⟩ := hd _ List.mem_cons_self
    refine ⟨(c, List.replicate n ("work", k)) :: h, ?_, fun x m => ?_⟩
    · rw [e]
      show _ :: _ = PyData.tuple [intD c, PyData.list ((List.replicate n (("work" : Str), k)).map encDd)] :: _
      rw [List.map_replicate]
      rfl
    · rcases List.mem_cons.mp m with rfl | m
      · exact ⟨h1, k, n, h2, h3, h4, rfl⟩
      · exact ok x m
theorem line_enc (nd : List Nat) (L : List (Option Nat)) (c s : Nat) : L.map encO ++ (List.replicate (c - L.length) [PyData.none]).flatten ++ (List.replicate (nd.getD s 0) [intD s]).flatten = (lineStep nd L (c, s)).map encO := by
  unfold lineStep
  rw [rep_one, rep_one, List.map_append, List.map_append, List.map_replicate, List.map_replicate]
  rfl
theorem getD_at {xs : List Nat} {i : Nat} (h : i < xs.length) : (xs.map intD)[i]? = some (intD (xs.getD i 0)) := by
  rw [List.getElem?_map, List.getElem?_eq_getElem h, List.getD_eq_getElem?_getD, List.getElem?_eq_getElem h]
  rfl
theorem hall_at {h : Hall} {i : Nat} (hi : i < h.length) : ∃ p, (hallL h)[i]? = some (.tuple [intD (comesAt h i), p]) := by
  refine ⟨encPr h[i].2, ?_⟩
  rw [List.getElem?_map, List.getElem?_eq_getElem hi]
  unfold comesAt
  rw [List.getD_eq_getElem?_getD, List.getElem?_eq_getElem hi]
  rfl
theorem needs_len (h : Hall) : (needsN h).length = h.length := List.length_map ..
theorem lenD_nn {h : Hall} (hn : ∀ n ∈ needsN h, 1 ≤ n ∧ n ≤ 11) {x : Nat × List Deed} (hx : x ∈ h) : K11.lenD (x.2.map encDd) = (((K11.lenD (x.2.map encDd)).toNat : Nat) : Int) := by
  have := (hn _ (List.mem_map.mpr ⟨x, hx, rfl⟩)).1
  omega
theorem line_bd {nd : List Nat} (hn : ∀ n ∈ nd, n ≤ 11) : ∀ (qs : List (Nat × Nat)) (L : List (Option Nat)), (∀ p ∈ qs, p.1 ≤ 8) → (qs.foldl (lineStep nd) L).length ≤ L.length + 19 * qs.length
  | [], L, _ => by simp
  | p :: qs, L, h => by
    have h1 := line_bd hn qs (lineStep nd L p) fun q m => h q (List.mem_cons_of_mem _ m)
    have h2 := h p List.mem_cons_self
    have h3 : nd.getD p.2 0 ≤ 11 := by
      rw [List.getD_eq_getElem?_getD]
      cases e : nd[p.2]? with
      | none => simp
      | some n => exact hn n (List.mem_of_getElem? e)
    have h4 : (lineStep nd L p).length ≤ L.length + 19 := by
      unfold lineStep
      rw [List.length_append, List.length_append, List.length_replicate, List.length_replicate]
      omega
    rw [List.foldl_cons, List.length_cons]
    omega
theorem fold_take {α β : Type} (f : β → α → β) (b : β) (l : List α) {i : Nat} {x : α} (h : l[i]? = some x) : (l.take (i + 1)).foldl f b = f ((l.take i).foldl f b) x := by
  rw [List.take_succ, h, List.foldl_append]
  rfl
theorem ints_shp (xs : List Nat) : SeqAt.shaped (.list (xs.map intD)) = true := shaped_listOf (n := 1) (fun d hd => by
  obtain ⟨x, _, rfl⟩ := List.mem_map.mp hd
  exact ⟨by simp [intD, PyData.canLay0], by simp [intD, PyData.depth]⟩) (by omega)
theorem eqv_eq {d e : PD} (h : d = e) (hs : SeqAt.shaped d = true) : (!PyData.eqv d e) = false := by
  rw [← h, eqv_refl_sh hs]
  rfl
theorem eqv_nilL (xs : List Nat) : (!PyData.eqv (.list (xs.map intD)) (.list [])) = !xs.isEmpty := by cases xs <;> rfl
theorem en_slots {c : DC} {ρ : DEnv} {tt : TT} {n : Nat} (b : Nat → Bool) (h2 : ρ[2]? = some (.dat (intD n))) (hn : n ≤ 100) (h4 : 4 < ρ.length) (hs : ∀ i, i < n → ∀ H0, ET ⟨c.K, c.T, c.M, H0⟩ tt ((wipeD ρ [4]).set 4 (.dat (intD i))) (b i)) : EN c (tLc (iRng1 (tCons (tVar 2) tNil)) (gName 4) tt (tVar 4) [4]) ρ (((List.range n).filter b).map intD) := by
  refine en_is (en_lc (js := [4]) (fun d => match d with | .int i => b i.toNat | _ => false) (fun d => d) (id_rng1 (n := (n : Int)) (ea_d (ed_var h2) ea_nil)) (by rw [rngD_len]; omega) (by decide) (fun d hd H0 _ => ?_)) ?_
  · obtain ⟨i, hi⟩ := List.getElem?_of_mem hd
    obtain ⟨hi, rfl⟩ := rngD_get hi
    have e0 : (0 : Int) + (i : Int) = (i : Int) := by omega
    rw [e0]
    refine ⟨[intD i], tg_name, hs i (by omega) H0, fun _ => ed_var ?_⟩
    show (((ρ.set 4 .non).set 4 (.dat (intD i))))[4]? = _
    rw [List.getElem?_set, if_pos rfl, if_pos (by rw [List.length_set]; exact h4)]
    rfl
  · unfold rngD
    rw [List.map_id', List.filter_map]
    rw [show ((n : Int)).toNat = n by omega]
    refine (congrArg _ (List.filter_congr (q := b) fun i _ => ?_)).trans ?_
    · show b ((0 : Int) + (i : Int)).toNat = b i
      rw [show ((0 : Int) + (i : Int)).toNat = i by omega]
    · refine List.map_congr_left fun i _ => ?_
      show PyData.int _ = PyData.int _
      congr 1
      omega
theorem atI_last {q : List Nat} {w : Nat} (h : q.getLast? = some w) : atI (q.map intD) (-1) = some (intD w) := by
  have hl : 0 < q.length := by
    cases q with
    | nil => cases h
    | cons a q => simp
  unfold atI
  rw [show ixN (q.map intD).length (-1) = some (q.length - 1) from by
    unfold ixN
    rw [if_neg (by decide), List.length_map, if_pos (by omega)]
    congr 1
    omega]
  show (q.map intD)[q.length - 1]? = _
  rw [List.getLast?_eq_getElem?] at h
  rw [List.getElem?_map, h]
  rfl
theorem comersH_lt {h : Hall} {t : Nat} : ∀ s ∈ comersH h t, s < h.length := fun s hs => List.mem_range.mp (List.mem_filter.mp hs).1
theorem comersH_len {h : Hall} {t : Nat} : (comersH h t).length ≤ h.length := Nat.le_trans (List.length_filter_le _ _) (by rw [List.length_range]; exact Nat.le_refl _)
theorem flt_left (q : List Nat) (l : List Nat) : ((q.map intD).filter fun d => match d with | .int s => decide (0 < l.getD s.toNat 0) | _ => false).map (fun d => d) = (q.filter fun s => decide (0 < l.getD s 0)).map intD := by
  rw [List.map_id', List.filter_map]
  rfl
def nowOf (ρ : DEnv) : Nat := match (ρ[(9 : Nat)]? : Option DS) with
  | some (DS.dat (PyData.int t)) => 200 - t.toNat
  | _ => 0
theorem srv_eq {h : Hall} {xs : List (Option Nat)} (hs : ∀ i, i < h.length → xs.count (some i) = (needsN h).getD i 0) : ((List.range h.length).map fun i => intD (xs.count (some i))) = (needsN h).map intD := by
  apply List.ext_getElem?
  intro i
  rw [List.getElem?_map]
  by_cases hi : i < h.length
  · rw [List.getElem?_range hi, getD_at (by rw [needs_len]; exact hi), ← hs i hi]
    rfl
  · rw [List.getElem?_eq_none (by rw [List.length_range]; omega), List.getElem?_eq_none (by rw [List.length_map, needs_len]; omega)]
    rfl
theorem vain_eq {n : Nat} {xs : List (Option Nat × Str)} (hx : ∀ x ∈ xs, x.2 ≠ "ask") : ((List.range n).map fun i => intD (xs.count (some i, ("ask" : Str)))) = (List.replicate n [PyData.int 0]).flatten := by
  rw [rep_one, List.map_congr_left (g := fun _ => PyData.int 0) fun i _ => ?_]
  · rw [List.map_const', List.length_range]
  · rw [List.count_eq_zero.mpr fun m => hx _ m rfl]
    rfl
theorem work_eq : ∀ {h : Hall}, (∀ x ∈ h, K11.lenD (x.2.map encDd) = (((K11.lenD (x.2.map encDd)).toNat : Nat) : Int)) → ((hallL h).map workD).sum = (((needsN h).sum : Nat) : Int)
  | [], _ => rfl
  | x :: h, hx => by
    have ih := work_eq (h := h) fun y m => hx y (List.mem_cons_of_mem _ m)
    have h1 := hx x List.mem_cons_self
    show K11.lenD (x.2.map encDd) + ((hallL h).map workD).sum = (((K11.lenD (x.2.map encDd)).toNat + (needsN h).sum : Nat) : Int)
    rw [ih]
    omega

section
variable {P : Program} {w : World} {K : PySem.W.Frag} {mg : Str → Option Value} {base : Heap} {f : Addr} {fd : FuncData} {T : List Addr}
end
abbrev sLaw : Stmt := top 96
abbrev nLaw : List Str := ["_law_script", "_law_draws", "_law_size", "_law_hall", "_law_slot", "_law_needs", "_law_comes", "_law_program", "_law_line", "_law_now", "_law_stack", "_law_left", "_law_due", "_law_last_units", "_law_scheduler"]
theorem scLaw : FnScope nLaw ["_law_script"] (defScope sLaw) := ⟨rfl, rfl, rfl, by decide +kernel, rfl, by decide +kernel, by decide +kernel⟩
section
variable {P : Program} {w : World} {K : PySem.W.Frag} {mg : Str → Option Value} {base : Heap} {f : Addr} {fd : FuncData} {T : List Addr}
theorem ok_law (F : Fun K "law" "law" sLaw f fd) (G : Glob K mg) {f1 : Addr} {d1 : FuncData} (c__law_start : Cal P w K mg base "_law_start" 1 ["_law_script"] (LW.spStart K) f1 d1) {f2 : Addr} {d2 : FuncData} (c__law_draw : Cal P w K mg base "_law_draw" 1 ["_law_draws", "_law_limit"] (LW.spDraw T) f2 d2) {f3 : Addr} {d3 : FuncData} (c_length : Cal P w K mg base "length" 6 ["program"] (spD K T R_length) f3 d3) {f4 : Addr} {d4 : FuncData} (c_run : Cal P w K mg base "run" 15 ["scheduler", "hall", "most"] (spD K T R_run2) f4 d4) {f5 : Addr} {d5 : FuncData} (c_ends : Cal P w K mg base "ends" 15 ["scheduler", "hall", "most"] (spD K T (R_ends (qSem 0) schF)) f5 d5) {f6 : Addr} {d6 : FuncData} (c_served : Cal P w K mg base "served" 16 ["scheduler", "hall", "most"] (spD K T R_served2) f6 d6) {f7 : Addr} {d7 : FuncData} (c_finish : Cal P w K mg base "finish" 15 ["scheduler", "hall", "most", "slot"] (spD K T (R_finish (qSem 0) schF)) f7 d7) {f8 : Addr} {d8 : FuncData} (c_switches : Cal P w K mg base "switches" 16 ["scheduler", "hall", "most"] (spD K T (R_switches (qSem 0) schF)) f8 d8) {f9 : Addr} {d9 : FuncData} (c_idle_units : Cal P w K mg base "idle_units" 16 ["scheduler", "hall", "most"] (spD K T R_idle2) f9 d9) {f10 : Addr} {d10 : FuncData} (c_asked_in_vain : Cal P w K mg base "asked_in_vain" 16 ["scheduler", "hall", "most"] (spD K T R_vain2) f10 d10) {f11 : Addr} {d11 : FuncData} (c_whole_work : Cal P w K mg base "whole_work" 9 ["hall"] (spD K T R_whole_work) f11 d11)
    (lm : ∀ h : Hall, 1 ≤ h.length → h.length ≤ 4 → (∀ x ∈ h, okX x) → ∃ qs line N, LM h qs line N) : FnOk P w K mg base CX0 17 f fd ["_law_script"] (spLaw K T) := by
  refine F.ok scLaw (fun vs H Q E h => ?_) (fun cdv A outer s H vs Q E hr h => ?_)
  · obtain ⟨a, ns, rfl, _⟩ := h
    rfl
  · obtain ⟨a, ns, rfl, hS, hl63, ht, q⟩ := h
    refine ⟨_, (pss_cons (ps_set (i := 1) scLaw.nd rfl (.inr rfl) (pe_call c__law_start.ok (hr.mono (by decide)) (by rfl) c__law_start.g c__law_start.kp c__law_start.b .nil pass0 (pa_cons (pv 0) pa_nil)))
      (pss_cons (ps_set (i := 2) scLaw.nd rfl (.inl rfl) (pe_op op_add pe_int (pe_call c__law_draw.ok (hr.mono (by decide)) (by rfl) c__law_draw.g c__law_draw.kp c__law_draw.b .nil pass0 (pa_cons (pv 1) (pa_cons pe_int pa_nil)))))
      (pss_cons (ps_set (i := 3) scLaw.nd rfl (.inr rfl) (pe_lc (own := [("_law_slot", 4)]) (g := (gName 4)) (tt := tYes) (te := (tTup (tCons (tCall (LW.spDraw T) [] E0 (tCons (tVar 1) (tCons (tC (.int 9)) tNil))) (tCons (tOp rRep (tLst (tCons (tTup (tCons (tC (.str "work")) (tCons (tOp (rI0 fun i j => .int (i + j)) (tC (.int 1)) (tCall (LW.spDraw T) [] E0 (tCons (tVar 1) (tCons (tC (.int 5)) tNil)))) tNil))) tNil)) (tCall (LW.spDraw T) [] E0 (tCons (tVar 1) (tCons (tC (.int 3)) tNil)))) tNil)))) rfl scLaw.nd (pi_range1 (by rfl) G.range (pa_cons (pv 2) pa_nil)) (blkOk_by (N := nLaw) (sc := defScope sLaw) (by decide +kernel)) (fun _ _ _ _ _ => (pg_name (i := 4) scLaw.nd rfl (.inl rfl))) (fun _ _ _ _ _ => pts_nil) (fun _ _ _ _ _ => (pe_tup (pa_cons (pe_call c__law_draw.ok (hr.mono (by decide)) (by rfl) c__law_draw.g c__law_draw.kp c__law_draw.b .nil pass0 (pa_cons (pv 1) (pa_cons pe_int pa_nil))) (pa_cons (pe_op op_rep (pe_lst (pa_cons (pe_tup (pa_cons pe_str (pa_cons (pe_op op_add pe_int (pe_call c__law_draw.ok (hr.mono (by decide)) (by rfl) c__law_draw.g c__law_draw.kp c__law_draw.b .nil pass0 (pa_cons (pv 1) (pa_cons pe_int pa_nil)))) pa_nil))) pa_nil)) (pe_call c__law_draw.ok (hr.mono (by decide)) (by rfl) c__law_draw.g c__law_draw.kp c__law_draw.b .nil pass0 (pa_cons (pv 1) (pa_cons pe_int pa_nil)))) pa_nil))))))
      (pss_cons (ps_setLc (i := 5) (own := [("_law_comes", 6), ("_law_program", 7)]) (g := (gTup K 2 (gCons (gName 6) (gCons (gName 7) gNil)))) (tt := tYes) (te := (tCall (spD K T R_length) [] E0 (tCons (tVar 7) tNil))) rfl scLaw.nd rfl rfl (sw_true rfl rfl rfl (by decide +kernel)) (pi_list (pv 3)) (blkOk_by (N := nLaw) (sc := defScope sLaw) (by decide +kernel)) (fun _ _ _ _ _ => (pg_tup (by rfl) (pgs_cons (pg_name (i := 6) scLaw.nd rfl (.inl rfl)) (pgs_cons (pg_name (i := 7) scLaw.nd rfl (.inl rfl)) pgs_nil)))) (fun _ _ _ _ _ => pts_nil) (fun _ _ _ _ _ => (pe_call c_length.ok (hr.mono (by decide)) (by rfl) c_length.g c_length.kp c_length.b .nil pass0 (pa_cons (pv 7) pa_nil))))
      (pss_cons (ps_asg (pe_tup (pa_cons (pe_lst pa_nil) (pa_cons pe_int pa_nil))) (pg_tup (by rfl) (pgs_cons (pg_name (i := 8) scLaw.nd rfl (.inr rfl)) (pgs_cons (pg_name (i := 9) scLaw.nd rfl (.inr rfl)) pgs_nil))))
      (pss_cons (ps_for PassesOwn.never rfl (pi_list (pe_callB cr_sortedPD (by rfl) G.sorted (by decide +kernel) (pa_cons (pe_lc (own := [("_law_slot", 4)]) (g := (gName 4)) (tt := tYes) (te := (tTup (tCons (tOp (rIxT K) (tOp (rIxL K) (tVar 3) (tVar 4)) (tC (.int 0))) (tCons (tVar 4) tNil)))) rfl scLaw.nd (pi_range1 (by rfl) G.range (pa_cons (pv 2) pa_nil)) (blkOk_by (N := nLaw) (sc := defScope sLaw) (by decide +kernel)) (fun _ _ _ _ _ => (pg_name (i := 4) scLaw.nd rfl (.inl rfl))) (fun _ _ _ _ _ => pts_nil) (fun _ _ _ _ _ => (pe_tup (pa_cons (pe_ix ix_tup (pe_ix ix_list (pv 3) (pv 4) (fun _ _ => rfl)) pe_int (fun _ _ => rfl)) (pa_cons (pv 4) pa_nil))))) pa_nil))) (pg_tup (by rfl) (pgs_cons (pg_name (i := 6) scLaw.nd rfl (.inl rfl)) (pgs_cons (pg_name (i := 4) scLaw.nd rfl (.inl rfl)) pgs_nil))) (pss_one (ps_set (i := 8) scLaw.nd rfl (.inr rfl) (pe_op op_catL (pe_op op_catL (pv 8) (pe_op op_rep (pe_lst (pa_cons pe_non pa_nil)) (pe_callB (call_max2 rfl) (by rfl) G.max (by decide +kernel) (pa_cons pe_int (pa_cons (pe_op op_sub (pv 6) (pe_callB call_len_seq (by rfl) G.len PySem.boot_len (pa_cons (pv 8) pa_nil))) pa_nil))))) (pe_op op_rep (pe_lst (pa_cons (pv 4) pa_nil)) (pe_ix ix_list (pv 5) (pv 4) (fun _ _ => rfl)))))))
      (pss_cons (ps_if (PW.pt (pw_or (pt_cmpR (op_neD hr.units) (pe_call c_run.ok (hr.mono (by decide)) (by rfl) c_run.g c_run.kp c_run.b .nil pass0 (pa_cons (pe_tup (pa_cons pe_str pa_nil)) (pa_cons (pv 3) (pa_cons pe_int pa_nil)))) (pv 8) (nomark _)) (pw_or1 (pt_cmpR op_ne (pe_call c_ends.ok (hr.mono (by decide)) (by rfl) c_ends.g c_ends.kp c_ends.b .nil pass0 (pa_cons (pe_tup (pa_cons pe_str pa_nil)) (pa_cons (pv 3) (pa_cons pe_int pa_nil)))) pe_str (nomark _))))) (pss_one (ps_ret pe_bl)) pss_nil)
      (pss_cons (ps_asg (pe_tup (pa_cons (pe_lst pa_nil) (pa_cons (pe_callTy call_list_of (by rfl) G.list (by decide +kernel) (pa_cons (pv 5) pa_nil)) (pa_cons (pe_lst pa_nil) pa_nil)))) (pg_tup (by rfl) (pgs_cons (pg_name (i := 10) scLaw.nd rfl (.inl rfl)) (pgs_cons (pg_name (i := 11) scLaw.nd rfl (.inr rfl)) (pgs_cons (pg_name (i := 12) scLaw.nd rfl (.inl rfl)) pgs_nil)))))
      (pss_cons (ps_while PassesOwn.never (PW.pt (pw_or (pt_cmpR (op_neD hr.units) (pv 10) (pe_lst pa_nil) (nomark _)) (pw_or1 (pt_cmpR (op_neD hr.units) (pe_lc (own := [("_law_slot", 4)]) (g := (gName 4)) (tt := (tTest (tOp (rI0 fun i j => .bl (decide (j ≤ i))) (tOp (rIxT K) (tOp (rIxL K) (tVar 3) (tVar 4)) (tC (.int 0))) (tVar 9)))) (te := (tVar 4)) rfl scLaw.nd (pi_range1 (by rfl) G.range (pa_cons (pv 2) pa_nil)) (blkOk_by (N := nLaw) (sc := defScope sLaw) (by decide +kernel)) (fun _ _ _ _ _ => (pg_name (i := 4) scLaw.nd rfl (.inl rfl))) (fun _ _ _ _ _ => (pts_one (pt_cmpR op_ge (pe_ix ix_tup (pe_ix ix_list (pv 3) (pv 4) (fun _ _ => rfl)) pe_int (fun _ _ => rfl)) (pv 9) (nomark _)))) (fun _ _ _ _ _ => (pv 4))) (pe_lst pa_nil) (nomark _))))) (pss_cons (ps_set (i := 10) scLaw.nd rfl (.inl rfl) (pe_op op_catL (pv 10) (pe_lc (own := [("_law_slot", 4)]) (g := (gName 4)) (tt := (tTest (tOp rEq (tOp (rIxT K) (tOp (rIxL K) (tVar 3) (tVar 4)) (tC (.int 0))) (tVar 9)))) (te := (tVar 4)) rfl scLaw.nd (pi_range1 (by rfl) G.range (pa_cons (pv 2) pa_nil)) (blkOk_by (N := nLaw) (sc := defScope sLaw) (by decide +kernel)) (fun _ _ _ _ _ => (pg_name (i := 4) scLaw.nd rfl (.inl rfl))) (fun _ _ _ _ _ => (pts_one (pt_cmpR op_eq (pe_ix ix_tup (pe_ix ix_list (pv 3) (pv 4) (fun _ _ => rfl)) pe_int (fun _ _ => rfl)) (pv 9) (nomark _)))) (fun _ _ _ _ _ => (pv 4)))))
      (pss_cons (ps_expr (pe_bm PySem.F.plainAttrs_list PySem.F.slot_list_append PySem.F.type_list_append mt_append (pv 12) (pa_cons (pe_ifExp (pt_cmpR (op_neD hr.units) (pv 10) (pe_lst pa_nil) (nomark _)) (pe_ix ix_list (pv 10) (pe_un un_neg pe_int) (fun _ _ => rfl)) pe_non) pa_nil)))
      (pss_cons (ps_if (pt_cmpR (op_neD hr.units) (pv 10) (pe_lst pa_nil) (nomark _)) (pss_cons (ps_asg (pe_op op_sub (pe_ix ix_list (pv 11) (pe_ix ix_list (pv 10) (pe_un un_neg pe_int) (fun _ _ => rfl)) (fun _ _ => rfl)) pe_int) (pg_sub (pv 11) (pe_ix ix_list (pv 10) (pe_un un_neg pe_int) (fun _ _ => rfl)) set_list))
      (pss_one (ps_setLc (i := 10) (own := [("_law_slot", 4)]) (g := (gName 4)) (tt := (tTest (tOp (rI0 fun i j => .bl (decide (j < i))) (tOp (rIxL K) (tVar 11) (tVar 4)) (tC (.int 0))))) (te := (tVar 4)) rfl scLaw.nd rfl rfl (sw_true rfl rfl rfl (by decide +kernel)) (pi_list (pv 10)) (blkOk_by (N := nLaw) (sc := defScope sLaw) (by decide +kernel)) (fun _ _ _ _ _ => (pg_name (i := 4) scLaw.nd rfl (.inl rfl))) (fun _ _ _ _ _ => (pts_one (pt_cmpR op_gt (pe_ix ix_list (pv 11) (pv 4) (fun _ _ => rfl)) pe_int (nomark _)))) (fun _ _ _ _ _ => (pv 4))))) pss_nil)
      (pss_one (ps_set (i := 9) scLaw.nd rfl (.inr rfl) (pe_op op_add (pv 9) pe_int)))))))
      (pss_cons (ps_if (pt_cmpR (op_neD hr.units) (pe_call c_run.ok (hr.mono (by decide)) (by rfl) c_run.g c_run.kp c_run.b .nil pass0 (pa_cons (pe_tup (pa_cons pe_str pa_nil)) (pa_cons (pv 3) (pa_cons pe_int pa_nil)))) (pv 12) (nomark _)) (pss_one (ps_ret pe_bl)) pss_nil)
      (pss_cons (ps_setLc (i := 13) (own := [("_law_slot", 4)]) (g := (gName 4)) (tt := tYes) (te := (tOp (rI0 fun i j => .int (i - j)) (tCB (lenR K) (tCons (tVar 8) tNil)) (tBM K "list" (rIndexD K) (tRevL K (tVar 8)) (tCons (tVar 4) tNil)))) rfl scLaw.nd rfl rfl (sw_true rfl rfl rfl (by decide +kernel)) (pi_range1 (by rfl) G.range (pa_cons (pv 2) pa_nil)) (blkOk_by (N := nLaw) (sc := defScope sLaw) (by decide +kernel)) (fun _ _ _ _ _ => (pg_name (i := 4) scLaw.nd rfl (.inl rfl))) (fun _ _ _ _ _ => pts_nil) (fun _ _ _ _ _ => (pe_op op_sub (pe_callB call_len_seq (by rfl) G.len PySem.boot_len (pa_cons (pv 8) pa_nil)) (pe_bm PySem.F.plainAttrs_list PySem.F.slot_list_index PySem.F.type_list_index (mt_indexD (hu65 hr)) (pe_revL (pv 8)) (pa_cons (pv 4) pa_nil)))))
      (pss_cons (ps_if (pt_cmpR (op_neD hr.units) (pe_lc (own := [("_law_slot", 4)]) (g := (gName 4)) (tt := tYes) (te := (tCall (spD K T (R_finish (qSem 0) schF)) [] E0 (tCons (tTup (tCons (tC (.str "first")) tNil)) (tCons (tVar 3) (tCons (tC (.int 200)) (tCons (tVar 4) tNil)))))) rfl scLaw.nd (pi_range1 (by rfl) G.range (pa_cons (pv 2) pa_nil)) (blkOk_by (N := nLaw) (sc := defScope sLaw) (by decide +kernel)) (fun _ _ _ _ _ => (pg_name (i := 4) scLaw.nd rfl (.inl rfl))) (fun _ _ _ _ _ => pts_nil) (fun _ _ _ _ _ => (pe_call c_finish.ok (hr.mono (by decide)) (by rfl) c_finish.g c_finish.kp c_finish.b .nil pass0 (pa_cons (pe_tup (pa_cons pe_str pa_nil)) (pa_cons (pv 3) (pa_cons pe_int (pa_cons (pv 4) pa_nil))))))) (pv 13) (nomark _)) (pss_one (ps_ret pe_bl)) pss_nil)
      (pss_cons (ps_for PassesOwn.never rfl (pi_list (pe_lst (pa_cons (pe_tup (pa_cons pe_str pa_nil)) (pa_cons (pe_tup (pa_cons pe_str pa_nil)) pa_nil)))) (pg_name (i := 14) scLaw.nd rfl (.inl rfl)) (pss_cons (ps_if (PW.pt (pw_or (pt_cmpR (op_neD hr.units) (pe_call c_served.ok (hr.mono (by decide)) (by rfl) c_served.g c_served.kp c_served.b .nil pass0 (pa_cons (pv 14) (pa_cons (pv 3) (pa_cons pe_int pa_nil)))) (pv 5) (nomark _)) (pw_or1 (pt_cmpR op_ne (pe_call c_idle_units.ok (hr.mono (by decide)) (by rfl) c_idle_units.g c_idle_units.kp c_idle_units.b .nil pass0 (pa_cons (pv 14) (pa_cons (pv 3) (pa_cons pe_int pa_nil)))) (pe_bm PySem.F.plainAttrs_list PySem.F.slot_list_count PySem.F.type_list_count (mt_countD (hu65 hr)) (pe_call c_run.ok (hr.mono (by decide)) (by rfl) c_run.g c_run.kp c_run.b .nil pass0 (pa_cons (pv 14) (pa_cons (pv 3) (pa_cons pe_int pa_nil)))) (pa_cons pe_non pa_nil)) (nomark _))))) (pss_one (ps_ret pe_bl)) pss_nil)
      (pss_one (ps_if (PW.pt (pw_or (pt_cmpR (op_neD hr.units) (pe_call c_asked_in_vain.ok (hr.mono (by decide)) (by rfl) c_asked_in_vain.g c_asked_in_vain.kp c_asked_in_vain.b .nil pass0 (pa_cons (pv 14) (pa_cons (pv 3) (pa_cons pe_int pa_nil)))) (pe_op op_rep (pe_lst (pa_cons pe_int pa_nil)) (pv 2)) (nomark _)) (pw_or1 (pt_cmpR op_lt (pe_callB call_len_seq (by rfl) G.len PySem.boot_len (pa_cons (pe_call c_run.ok (hr.mono (by decide)) (by rfl) c_run.g c_run.kp c_run.b .nil pass0 (pa_cons (pv 14) (pa_cons (pv 3) (pa_cons pe_int pa_nil)))) pa_nil)) (pe_call c_whole_work.ok (hr.mono (by decide)) (by rfl) c_whole_work.g c_whole_work.kp c_whole_work.b .nil pass0 (pa_cons (pv 3) pa_nil)) (nomark _))))) (pss_one (ps_ret pe_bl)) pss_nil))))
      (pss_one (ps_ret (pe_cmpR op_eq (pe_call c_switches.ok (hr.mono (by decide)) (by rfl) c_switches.g c_switches.kp c_switches.b .nil pass0 (pa_cons (pe_tup (pa_cons pe_str pa_nil)) (pa_cons (pv 3) (pa_cons pe_int pa_nil)))) (pe_op op_sub (pv 2) pe_int) (nomark _))))))))))))))))), ?_⟩
    have r0 : SR ⟨K, T, [], H⟩ [] (L2.start nLaw [.ref a]) H (startD nLaw [.dat (.list (ns.map .int))]) := start_sr (fun _ z => nomatch z) ht (by rw [hid_nil]; exact .cons (show ArgOk K H (.ref a) (.dat (.list (ns.map .int))) from .lst hS (dps_ints ns)) .nil)
    refine sw_start (j := 0) (i := 1) r0 rfl hl63 fun dr nu H1 w1 => ?_
    refine sw_set (i := 2) w1 (we_I0 (g := fun a b => a + b) (P := fun x => x = .int 1) (S := fun x => ∃ n : Nat, 1 ≤ n ∧ n ≤ 4 ∧ x = intD n) (we_ed (fun _ => ed_int) rfl) (we_draw (n := 4) rfl (fun _ => ed_int) (by decide) (by decide)) ?_) fun v2 H2 x2 hx2 w2 => ?_
    · rintro x y rfl ⟨r, h4, rfl⟩
      exact ⟨1, r, rfl, rfl, r + 1, by omega, by omega, by show PyData.int _ = PyData.int _; congr 1; omega⟩
    obtain ⟨n, n1, n4, rfl⟩ := hx2
    refine sw_set (i := 3) w2 (we_wl (R := fun x => ∃ ds : List PD, x = .list ds ∧ ds.length = n ∧ ∀ d ∈ ds, okD d) (wl_lcR (n := n) (R := okD) (by decide) (fun _ => ed_var rfl) (by omega) fun M j hj => ?_) fun ds hds => ⟨ds, rfl, hds⟩) fun v3 H3 x3 hx3 w3 => ?_
    · refine we_tup (wa_cons (P := fun x => ∃ r : Nat, r < 9 ∧ x = .int (r : Int)) (R := fun ss => ∃ (k m : Nat), 1 ≤ k ∧ k ≤ 5 ∧ m ≤ 2 ∧ ss = [.dat (.list (List.replicate m (.tuple [.str "work", intD k])))]) (we_draw (n := 9) rfl (fun _ => ed_int) (by decide) (by decide)) (wa_cons (P := fun x => ∃ (k m : Nat), 1 ≤ k ∧ k ≤ 5 ∧ m ≤ 2 ∧ x = .list (List.replicate m (.tuple [.str "work", intD k]))) (R := fun ss => ss = []) (we_wl (P := fun ds => ∃ (k m : Nat), 1 ≤ k ∧ k ≤ 5 ∧ m ≤ 2 ∧ ds = List.replicate m (.tuple [.str "work", intD k])) (wl_rep (P := fun ds => ∃ k : Nat, 1 ≤ k ∧ k ≤ 5 ∧ ds = [.tuple [.str "work", intD k]]) (R := fun x => ∃ r : Nat, r < 3 ∧ x = .int (r : Int)) (wl_lst (wa_cons (P := fun x => ∃ k : Nat, 1 ≤ k ∧ k ≤ 5 ∧ x = .tuple [.str "work", intD k]) (R := fun ss => ss = []) (we_tup (wa_cons (P := fun x => x = .str "work") (R := fun ss => ∃ k : Nat, 1 ≤ k ∧ k ≤ 5 ∧ ss = [.dat (intD k)]) (we_ed (fun _ => ed_str) rfl) (wa_cons (P := fun x => ∃ k : Nat, 1 ≤ k ∧ k ≤ 5 ∧ x = intD k) (R := fun ss => ss = []) (we_I0 (g := fun a b => a + b) (P := fun x => x = .int 1) (we_ed (fun _ => ed_int) rfl) (we_draw (n := 5) rfl (fun _ => ed_int) (by decide) (by decide)) ?_) (wa_nil rfl) ?_) ?_)) (wa_nil rfl) ?_)) (we_draw (n := 3) rfl (fun _ => ed_int) (by decide) (by decide)) ?_) ?_) (wa_nil rfl) ?_) ?_)
      · rintro x y rfl ⟨r, h4, rfl⟩
        exact ⟨1, r, rfl, rfl, r + 1, by omega, by omega, by show PyData.int _ = PyData.int _; congr 1; omega⟩
      · rintro x ss ⟨k, k1, k5, rfl⟩ rfl
        exact ⟨k, k1, k5, rfl⟩
      · rintro x ss rfl ⟨k, k1, k5, rfl⟩
        exact ⟨[.str "work", intD k], rfl, by simp, k, k1, k5, rfl⟩
      · rintro x ss ⟨k, k1, k5, rfl⟩ rfl
        exact ⟨[.tuple [.str "work", intD k]], rfl, by simp, k, k1, k5, rfl⟩
      · rintro ds x ⟨k, k1, k5, rfl⟩ ⟨r, h4, rfl⟩
        exact ⟨r, rfl, by simp; omega, by omega, k, r, k1, k5, by omega, rep_one _ _⟩
      · rintro ds ⟨k, r, k1, k5, hr, rfl⟩
        exact ⟨k, r, k1, k5, hr, rfl⟩
      · rintro x ss ⟨k, r, k1, k5, hr, rfl⟩ rfl
        exact ⟨k, r, k1, k5, hr, rfl⟩
      · rintro x ss ⟨c, hc, rfl⟩ ⟨k, r, k1, k5, hr, rfl⟩
        exact ⟨[.int (c : Int), .list (List.replicate r (.tuple [.str "work", intD k]))], rfl, by simp, c, k, r, by omega, k1, k5, hr, rfl⟩
    obtain ⟨ds, rfl, hlen, hok⟩ := hx3
    obtain ⟨h, rfl, hX⟩ := hall_of ds hok
    rw [List.length_map] at hlen
    subst hlen
    obtain ⟨qs, line, N, m⟩ := lm h n1 n4 hX
    refine (?_ : SD ⟨K, T, [dr, nu], H3⟩ _ ⟨fun _ => False, fun x => x = .bool true, fun _ => False, fun _ => False⟩ _) _ ⟨fun _ _ _ _ _ z => z.elim, fun v H' x _ h6 e => ?_, fun _ _ _ _ _ z => z.elim, fun _ _ _ _ _ z => z.elim⟩ [] _ H3 w3.sr
    rotate_left
    · have e : x = .bool true := e
      subst e
      rw [dp_bool h6]
      exact q H'
    have hn := m.need
    have hl := m.len
    refine sd_seq (sd_set (d := .list ((needsN h).map intD)) (ed_en (en_is (en_lc (js := [6, 7]) (fun _ => true) (fun d => match d with | .tuple [_, .list p] => .int (K11.lenD p) | _ => .none) (id_list (ed_var (d := .list (hallL h)) rfl)) (by rw [List.length_map]; omega) (by decide) (fun d hd H0 _ => ?_)) ?_)) ?_)
    · obtain ⟨x, hx, rfl⟩ := List.mem_map.mp hd
      exact ⟨[intD x.1, encPr x.2], tg_tup2, et_yes, fun _ => ed_call (R := R_length) (ea_d (ed_var (d := encPr x.2) rfl) ea_nil) ⟨x.2.map encDd, m.pr x hx, rfl, rfl⟩⟩
    · rw [List.filter_eq_self.mpr fun _ _ => rfl, List.map_map]
      unfold needsN
      rw [List.map_map]
      refine List.map_congr_left fun x hx => ?_
      show PyData.int (K11.lenD (x.2.map encDd)) = PyData.int _
      congr 1
      exact lenD_nn hn hx
    refine sd_seq (sd_unp2 (i := 8) (j := 9) (ed_tup (ds := [.list [], .int 0]) (ea_d (ed_en (en_lst (ds := []) ea_nil (by simp))) (ea_d ed_int ea_nil)) (by simp)) ?_)
    have hql : qs.length = h.length := by rw [m.perm.length_eq]; unfold pairsH; rw [List.length_map, List.length_range]
    refine sd_seq (sd_for (js := [6, 4]) (id_list (ed_en (en_sortP (ps := (pairsH h).map castP) (qs := qs.map castP) (en_el (en_is (en_lc (js := [4]) (fun _ => true) (fun d => match d with | .int i => pairD ((comesAt h i.toNat : Int), i) | _ => .none) (id_rng1 (n := (h.length : Int)) (ea_d (ed_var rfl) ea_nil)) (by rw [rngD_len]; omega) (by decide) (fun d hd H0 _ => ?_)) ?_)) m.srt (m.perm.map castP))))
      (fun i ρ' => ∃ s4 s6, ρ' = [.dat (.list (ns.map .int)), .raw (.ref dr), .dat (intD h.length), .dat (encHall h), s4, .dat (.list ((needsN h).map intD)), s6, .non, .dat (.list (((qs.take i).foldl (lineStep (needsN h)) []).map encO)), .dat (.int 0), .non, .non, .non, .non, .non]) ⟨.non, .non, rfl⟩ ?_ ?_)
    · obtain ⟨i, hi⟩ := List.getElem?_of_mem hd
      obtain ⟨hi, rfl⟩ := rngD_get hi
      have e0 : (0 : Int) + (i : Int) = (i : Int) := by omega
      rw [e0]
      obtain ⟨p, hp⟩ := hall_at (h := h) (i := i) (by omega)
      exact ⟨[intD i], tg_name, et_yes, fun _ => ed_tup (ds := [intD (comesAt h i), intD i]) (ea_d (ed_ixT (ds := [intD (comesAt h i), p]) (i := 0) (ed_ixL (el_ed (ed_var (d := .list (hallL h)) rfl)) (ed_var rfl) (atI_at hp)) ed_int rfl) (ea_d (ed_var rfl) ea_nil)) (by simp)⟩
    · rw [List.filter_eq_self.mpr fun _ _ => rfl]
      unfold rngD pairsH
      rw [List.map_map, List.map_map, List.map_map]
      refine List.map_congr_left fun i _ => ?_
      show DL.pairD _ = DL.pairD _
      rw [show ((0 : Int) + (i : Int)) = (i : Int) by omega]
      rfl
    · rintro i d ρ' H0 hd ⟨s4, s6, rfl⟩
      rw [List.getElem?_map, List.getElem?_map] at hd
      cases hq : qs[i]? with
      | none => rw [hq] at hd; cases hd
      | some p =>
        rw [hq] at hd
        cases hd
        obtain ⟨p8, ph⟩ := m.small p (List.mem_of_getElem? hq)
        have hb := line_bd (nd := needsN h) (fun n hm => (hn n hm).2) (qs.take i) [] fun q hm => (m.small q (List.mem_of_mem_take hm)).1
        have htk : (qs.take i).length ≤ 4 := by rw [List.length_take]; omega
        rw [List.length_nil] at hb
        have h11 : (needsN h).getD p.2 0 ≤ 11 := by
          rw [List.getD_eq_getElem?_getD]
          cases e : (needsN h)[p.2]? with
          | none => simp
          | some n => exact (hn n (List.mem_of_getElem? e)).2
        refine ⟨[intD p.1, intD p.2], tg_tup2, ?_⟩
        have ef := fold_take (lineStep (needsN h)) [] qs hq
        generalize (qs.take i).foldl (lineStep (needsN h)) [] = L at hb ef
        refine sd_set (d := .list ((lineStep (needsN h) L p).map encO)) (ed_en (en_is (en_catL (en_el (en_catL (xs := L.map encO) (el_ed (ed_var rfl)) (en_el (en_rep (k := p.1 - L.length) (en_lst (ds := [.none]) (ea_d ed_non ea_nil) (by simp)) (ed_is (ed_max2 (i := 0) (j := (p.1 : Int) - ((L.map encO).length : Int)) ed_int (ed_I0 (g := fun a b => a - b) (ed_var rfl) (ed_lenL (el_ed (ed_var rfl))))) ?_) (by simp; omega) (by omega))) ?_)) (en_el (en_rep (k := (needsN h).getD p.2 0) (en_lst (ds := [intD p.2]) (ea_d (ed_var rfl) ea_nil) (by simp)) (ed_ixL (el_ed (ed_var rfl)) (ed_var rfl) (atI_at (getD_at (by rw [needs_len]; exact ph)))) (by rw [List.length_singleton]; omega) (by omega))) ?_) (line_enc _ _ _ _))) ⟨.dat (intD p.2), .dat (intD p.1), ?_⟩
        · rw [List.length_map]
          congr 1
          omega
        · rw [rep_one, List.length_map, List.length_replicate]
          omega
        · rw [rep_one, rep_one, List.length_append, List.length_map, List.length_replicate, List.length_replicate]
          omega
        · rw [ef]
          rfl
    rintro ρ' ⟨s4, s6, rfl⟩
    rw [List.length_map, List.length_map, List.take_length, ← m.eline]
    have wl0 := whos_len (qSem 0) 200 (machH (qSem 0) h)
    rw [m.run0] at wl0
    refine sd_seq (sd_when (b := false) (et_is (et_or (et_test (ed_neD (x := .list (line.map encO)) (y := .list (line.map encO)) (ed_call (R := R_run2) (ea_d (ed_tup (ds := [.str "first"]) (ea_d ed_str ea_nil) (by simp)) (ea_d (ed_var rfl) (ea_d ed_int ea_nil))) (.inl ⟨h, 200, m.oF, rfl, by rw [m.run0]⟩)) (ed_var rfl) (whos_shaped _) (whos_shaped _))) fun _ => et_test (ed_ne (x := .str "ended") (y := .str "ended") (ed_call (R := R_ends (qSem 0) schF) (ea_d (ed_tup (ds := [.str "first"]) (ea_d ed_str ea_nil) (by simp)) (ea_d (ed_var rfl) (ea_d ed_int ea_nil))) ⟨h, 200, m.oF, rfl, by rw [m.ends]⟩) ed_str rfl rfl rfl)) (by rw [eqv_refl_sh (whos_shaped _)]; simp)) (fun z => nomatch z) fun _ => ?_)
    refine sd_seq (sd_new3 (i := 10) (j := 11) (l := 12) (by decide) (by decide) (by decide) (en_lst (ds := []) ea_nil (by simp)) (en_listL (ds := (needsN h).map intD) (el_ed (ed_var rfl))) (en_lst (ds := []) ea_nil (by simp)) ?_)
    refine sd_freeze 10 (ds := []) rfl ?_
    have hN := m.nN
    refine sd_seq (sd_while (fun ρ' => ∃ j s4', j ≤ N ∧ ρ' = [.dat (.list (ns.map .int)), .raw (.ref dr), .dat (intD h.length), .dat (encHall h), s4', .dat (.list ((needsN h).map intD)), s6, .non, .dat (.list (line.map encO)), .dat (intD j), .dat (.list ((atA (-1) h j).q.map intD)), .own ((atA (-1) h j).left.map intD), .own (((List.range j).map (outA (-1) h)).map encO), .non, .non]) nowOf ⟨0, s4, Nat.zero_le _, rfl⟩ ?_)
    · rintro ρ' H0 ⟨j, s4', hj, rfl⟩
      have hallD' : ∀ {ρ' : DEnv} {i : Nat}, i < h.length → ρ'[3]? = some (.dat (encHall h)) → ρ'[4]? = some (.dat (intD i)) → ∀ H0, ED ⟨K, T, [dr, nu], H0⟩ (tOp (rIxT K) (tOp (rIxL K) (tVar 3) (tVar 4)) (tC (.int 0))) ρ' (intD (comesAt h i)) := fun {ρ' i} hi h3 h4 H0 => by
        obtain ⟨p, hp⟩ := hall_at (h := h) (i := i) hi
        exact ed_ixT (ds := [intD (comesAt h i), p]) (i := 0) (ed_ixL (el_ed (ed_var (d := .list (hallL h)) h3)) (ed_var h4) (atI_at hp)) ed_int rfl
      have stk : ∀ {c : DC} {ρ' : DEnv} {q : List Nat}, ρ'[10]? = some (.dat (.list (q.map intD))) → ET c (tTest (tOp (rNeD c.K) (tVar 10) (tLst tNil))) ρ' (!q.isEmpty) := fun {c ρ' q} h10 => et_is (et_test (ed_neD (ed_var h10) (ed_en (en_lst (ds := []) ea_nil (by simp))) (ints_shp _) (by rfl))) (eqv_nilL q)
      refine ⟨goesA h j (atA (-1) h j), et_or (stk rfl) fun _ => et_is (et_test (ed_neD (x := .list ((laterH h j).map intD)) (ed_en (en_slots (n := h.length) (fun i => decide (j ≤ comesAt h i)) rfl (by omega) (by simp) fun i hi H1 => et_is (et_test (ed_IB (g := fun a b => decide (b ≤ a)) (hallD' hi rfl rfl H1) (ed_var rfl))) (decide_eq_decide.mpr (by omega)))) (ed_en (en_lst (ds := []) ea_nil (by simp))) (ints_shp _) (by rfl))) (eqv_nilL _), fun hb => ?_, fun hb => ?_⟩
      · have hj : j < N := by
          rcases Nat.lt_or_ge j N with z | z
          · exact z
          · have e : j = N := by omega
            rw [e, m.stop] at hb
            cases hb
        have ql := m.qlt j (by omega)
        have qe := m.qle j (by omega)
        have ll := m.ll j (by omega)
        have ps := m.pos j hj
        have cl := comersH_len (h := h) (t := j)
        have jl : ∀ s ∈ joinA h j (atA (-1) h j), s < h.length := fun s hs => (List.mem_append.mp hs).elim (ql s) (comersH_lt s)
        have eo : outA (-1) h j = (joinA h j (atA (-1) h j)).getLast? := rfl
        have es : atA (-1) h (j + 1) = match (joinA h j (atA (-1) h j)).getLast? with
          | none => ⟨joinA h j (atA (-1) h j), (atA (-1) h j).left⟩
          | some w => ⟨(joinA h j (atA (-1) h j)).filter fun s => decide (0 < ((atA (-1) h j).left.set w ((atA (-1) h j).left.getD w 0 - 1)).getD s 0), (atA (-1) h j).left.set w ((atA (-1) h j).left.getD w 0 - 1)⟩ := rfl
        have er : (List.range (j + 1)).map (outA (-1) h) = (List.range j).map (outA (-1) h) ++ [(joinA h j (atA (-1) h j)).getLast?] := by rw [List.range_succ, List.map_append]; rfl
        have ejl : (joinA h j (atA (-1) h j)).length ≤ 8 := by unfold joinA; rw [List.length_append]; omega
        refine sd_seq (sd_set (d := .list ((joinA h j (atA (-1) h j)).map intD)) (ed_en (en_is (en_catL (xs := (atA (-1) h j).q.map intD) (el_ed (ed_var rfl)) (en_el (en_slots (n := h.length) (fun i => comesAt h i == j) rfl (by omega) (by simp) fun i hi H1 => et_is (et_test (ed_eq (x := intD _) (y := intD _) (hallD' hi rfl rfl H1) (ed_var rfl) rfl rfl rfl)) ?_)) (by rw [List.length_map]; show _ + ((comersH h j).map intD).length ≤ _; rw [List.length_map]; omega)) (by unfold joinA; rw [List.map_append]; rfl))) ?_)
        · have := congrArg (fun b => !b) (ne_int (comesAt h i) j)
          simpa [bne, intD, vOf] using this
        generalize hq : joinA h j (atA (-1) h j) = q at ps jl eo es er ejl
        cases hw : q.getLast? with
        | none =>
          have hqe : q = [] := List.getLast?_eq_none_iff.mp hw
          rw [hw] at es er
          refine sd_seq (sd_app (i := 12) (d := .none) (ds := ((List.range j).map (outA (-1) h)).map encO) rfl (ed_if (b := !q.isEmpty) (stk rfl) (fun z => (by rw [hqe] at z; cases z)) fun _ => ed_non) (by rw [List.length_map, List.length_map, List.length_range]; omega) ?_)
          refine sd_seq (sd_when (b := !q.isEmpty) (stk rfl) (fun z => (by rw [hqe] at z; cases z)) fun _ => ?_)
          refine sd_set (d := intD (j + 1)) (ed_is (ed_I0 (g := fun a b => a + b) (ed_var (d := intD j) rfl) ed_int) rfl) ⟨⟨j + 1, s4', hj, ?_⟩, ?_⟩
          · rw [es, er, List.map_append]
            rfl
          · show 200 - (((j + 1 : Nat) : Int)).toNat < 200 - ((j : Int)).toNat
            omega
        | some w =>
          have hwq : w ∈ q := List.mem_of_getLast? hw
          have hqn : (!q.isEmpty) = true := by
            cases q with
            | nil => cases hw
            | cons a r => rfl
          have hwl := jl w hwq
          have hps := ps w hwq
          rw [hw] at es er
          have es : atA (-1) h (j + 1) = ⟨q.filter fun s => decide (0 < ((atA (-1) h j).left.set w ((atA (-1) h j).left.getD w 0 - 1)).getD s 0), (atA (-1) h j).left.set w ((atA (-1) h j).left.getD w 0 - 1)⟩ := es
          have el : atI ((atA (-1) h j).left.map intD) (w : Int) = some (intD ((atA (-1) h j).left.getD w 0)) := atI_at (getD_at (by rw [ll]; exact hwl))
          refine sd_seq (sd_app (i := 12) (d := intD w) (ds := ((List.range j).map (outA (-1) h)).map encO) rfl (ed_if (b := !q.isEmpty) (stk rfl) (fun _ => ed_ixL (el_ed (ed_var rfl)) (ed_un_neg ed_int) (atI_last hw)) fun z => (by rw [hqn] at z; cases z)) (by rw [List.length_map, List.length_map, List.length_range]; omega) ?_)
          refine sd_seq (sd_if (b := !q.isEmpty) (stk rfl) (fun _ => ?_) fun z => (by rw [hqn] at z; cases z))
          refine sd_seq (sd_setL (i := 11) (n := (w : Int)) (j := w) (ds := (atA (-1) h j).left.map intD) (d := intD ((atA (-1) h j).left.getD w 0 - 1)) rfl (ed_is (ed_I0 (g := fun a b => a - b) (ed_ixL (el_own rfl) (ed_ixL (el_ed (ed_var rfl)) (ed_un_neg ed_int) (atI_last hw)) el) ed_int) ?_) (ed_ixL (el_ed (ed_var rfl)) (ed_un_neg ed_int) (atI_last hw)) ?_ ?_)
          · show PyData.int _ = PyData.int _
            congr 1
            omega
          · unfold ixN
            rw [if_pos (by omega), List.length_map, if_pos (by omega)]
            rfl
          rw [← List.map_set]
          generalize hle : (atA (-1) h j).left.set w ((atA (-1) h j).left.getD w 0 - 1) = l' at es
          have ll' : l'.length = h.length := by rw [← hle, List.length_set]; exact ll
          refine sd_set (d := .list ((q.filter fun s => decide (0 < l'.getD s 0)).map intD)) (ed_en (en_is (en_lc (js := [4]) (fun d => match d with | .int s => decide (0 < l'.getD s.toNat 0) | _ => false) (fun d => d) (id_list (ed_var rfl)) (by rw [List.length_map]; omega) (by decide) (fun d hd H1 _ => ?_)) (flt_left q l'))) ?_
          · obtain ⟨s, hs, rfl⟩ := List.mem_map.mp hd
            refine ⟨[intD s], tg_name, et_is (et_test (ed_IB (g := fun a b => decide (b < a)) (ed_ixL (el_own rfl) (ed_var rfl) (atI_at (getD_at (by rw [ll']; exact jl s hs)))) ed_int)) ?_, fun _ => ed_var rfl⟩
            show decide ((0 : Int) < ((l'.getD s 0 : Nat) : Int)) = decide (0 < l'.getD s 0)
            exact decide_eq_decide.mpr (by omega)
          · refine sd_set (d := intD (j + 1)) (ed_is (ed_I0 (g := fun a b => a + b) (ed_var (d := intD j) rfl) ed_int) rfl) ⟨⟨j + 1, s4', hj, ?_⟩, ?_⟩
            · rw [es, er, List.map_append]
              rfl
            · show 200 - (((j + 1 : Nat) : Int)).toNat < 200 - ((j : Int)).toNat
              omega
      · have hj : j = N := by
          rcases Nat.lt_or_ge j N with z | z
          · rw [m.goes j z] at hb; cases hb
          · omega
        subst hj
        have hF : ∀ {c : DC} {ρ' : DEnv}, c.K = K → ρ'[3]? = some (.dat (encHall h)) → EA c (tCons (tTup (tCons (tC (.str "first")) tNil)) (tCons (tVar 3) (tCons (tC (.int 200)) tNil))) ρ' [.dat schF, .dat (encHall h), .dat (intD 200)] := fun {c ρ'} _ h3 => ea_d (ed_tup (ds := [.str "first"]) (ea_d ed_str ea_nil) (by simp)) (ea_d (ed_var h3) (ea_d ed_int ea_nil))
        have hL : ∀ {c : DC} {ρ' : DEnv}, c.K = K → ρ'[3]? = some (.dat (encHall h)) → EA c (tCons (tTup (tCons (tC (.str "last")) tNil)) (tCons (tVar 3) (tCons (tC (.int 200)) tNil))) ρ' [.dat schL, .dat (encHall h), .dat (intD 200)] := fun {c ρ'} _ h3 => ea_d (ed_tup (ds := [.str "last"]) (ea_d ed_str ea_nil) (by simp)) (ea_d (ed_var h3) (ea_d ed_int ea_nil))
        have len1 : ((List.range j).map (outA (-1) h)).length = j := by rw [List.length_map, List.length_range]
        refine sd_freeze 12 (ds := ((List.range j).map (outA (-1) h)).map encO) rfl ?_
        refine sd_seq (sd_when (b := false) (et_is (et_test (ed_neD (x := .list (((List.range j).map (outA (-1) h)).map encO)) (y := .list (((List.range j).map (outA (-1) h)).map encO)) (ed_call (R := R_run2) (hL rfl rfl) (.inr ⟨h, 200, m.oL, rfl, by rw [m.run1]⟩)) (ed_var rfl) (whos_shaped _) (whos_shaped _))) (eqv_eq rfl (whos_shaped _))) (fun z => nomatch z) fun _ => ?_)
        -- the last units
        have lineL : line.length ≤ 200 := by rw [← m.run0]; exact whos_len _ _ _
        have last : ∃ vs : List Nat, vs.length = h.length ∧ ∀ i, i < h.length → (∃ jj, line.reverse[jj]? = some (some i) ∧ (∀ mm, mm < jj → line.reverse[mm]? ≠ some (some i)) ∧ vs.getD i 0 = line.length - jj) ∧ (runsM (qSem 0) 200 (machH (qSem 0) h)).2.finishes[i]? = some (some (vs.getD i 0)) := by
          classical
          refine ⟨(List.range h.length).map fun i => if hi : i < h.length then (m.fin i hi).choose else 0, by rw [List.length_map, List.length_range], fun i hi => ?_⟩
          have e : ((List.range h.length).map fun i => if hi : i < h.length then (m.fin i hi).choose else 0).getD i 0 = (m.fin i hi).choose := by
            rw [List.getD_eq_getElem?_getD, List.getElem?_map, List.getElem?_range hi]
            show (if hi : i < h.length then (m.fin i hi).choose else 0) = _
            rw [dif_pos hi]
          rw [e]
          obtain ⟨jj, a1, a2, a3, a4⟩ := (m.fin i hi).choose_spec
          exact ⟨⟨jj, a2, a3, a4⟩, a1⟩
        obtain ⟨vs, vl, hv⟩ := last
        refine sd_seq (sd_set (d := .list (vs.map intD)) (ed_en (en_is (en_lc (js := [4]) (fun _ => true) (fun d => match d with | .int i => intD (vs.getD i.toNat 0) | _ => .none) (id_rng1 (n := (h.length : Int)) (ea_d (ed_var rfl) ea_nil)) (by rw [rngD_len]; omega) (by decide) (fun d hd H1 _ => ?_)) ?_)) ?_)
        · obtain ⟨i, hi⟩ := List.getElem?_of_mem hd
          obtain ⟨hi, rfl⟩ := rngD_get hi
          rw [show (0 : Int) + (i : Int) = (i : Int) by omega]
          obtain ⟨⟨jj, q1, q2, q3⟩, _⟩ := hv i (by omega)
          have jjl : jj < line.length := by
            have := (List.getElem?_eq_some_iff.mp q1).1
            rwa [List.length_reverse] at this
          refine ⟨[intD i], tg_name, et_yes, fun _ => ed_is (ed_I0 (g := fun a b => a - b) (i := (line.length : Int)) (j := (jj : Int)) (ed_is (ed_lenL (ds := line.map encO) (el_ed (ed_var rfl))) (by rw [List.length_map])) (ed_indexD (ds := (line.map encO).reverse) (d := intD i) (z := encO (some i)) (en_el (en_revL (el_ed (ed_var rfl)))) (ed_var rfl) (by rw [← List.map_reverse]; exact whos_shaped _) (by rfl) (by rw [← List.map_reverse, List.getElem?_map, q1]; rfl) (by rw [show intD i = encO (some i) from rfl, eqv_encO]; simp) fun mm z' hm hz' => ?_)) ?_⟩
          · rw [← List.map_reverse, List.getElem?_map] at hz'
            cases hx : line.reverse[mm]? with
            | none => rw [hx] at hz'; cases hz'
            | some y =>
              rw [hx] at hz'
              cases hz'
              rw [show intD i = encO (some i) from rfl, eqv_encO]
              have := q2 mm hm
              rw [hx] at this
              simpa using fun z => this (by rw [z])
          · show PyData.int _ = PyData.int _
            congr 1
            rw [Int.toNat_natCast, q3]
            omega
        · rw [List.filter_eq_self.mpr fun _ _ => rfl]
          unfold rngD
          rw [List.map_map, Int.toNat_natCast]
          apply List.ext_getElem?
          intro i
          rw [List.getElem?_map, List.getElem?_map]
          by_cases hi : i < h.length
          · rw [List.getElem?_range hi, List.getElem?_eq_getElem (by rw [vl]; exact hi)]
            show some (intD (vs.getD ((0 : Int) + (i : Int)).toNat 0)) = some (intD vs[i])
            rw [show ((0 : Int) + (i : Int)).toNat = i by omega, List.getD_eq_getElem?_getD, List.getElem?_eq_getElem (by rw [vl]; exact hi)]
            rfl
          · rw [List.getElem?_eq_none (by rw [List.length_range]; omega), List.getElem?_eq_none (by rw [vl]; omega)]
            rfl
        refine sd_seq (sd_when (b := false) (et_is (et_test (ed_neD (x := .list (vs.map intD)) (y := .list (vs.map intD)) (ed_en (en_is (en_lc (js := [4]) (fun _ => true) (fun d => match d with | .int i => intD (vs.getD i.toNat 0) | _ => .none) (id_rng1 (n := (h.length : Int)) (ea_d (ed_var rfl) ea_nil)) (by rw [rngD_len]; omega) (by decide) (fun d hd H1 _ => ?_)) ?_)) (ed_var rfl) (ints_shp _) (ints_shp _))) (eqv_eq rfl (ints_shp _))) (fun z => nomatch z) fun _ => ?_)
        · obtain ⟨i, hi⟩ := List.getElem?_of_mem hd
          obtain ⟨hi, rfl⟩ := rngD_get hi
          rw [show (0 : Int) + (i : Int) = (i : Int) by omega]
          obtain ⟨_, hfi⟩ := hv i (by omega)
          refine ⟨[intD i], tg_name, et_yes, fun _ => ed_call (R := R_finish (qSem 0) schF) (ss := [.dat schF, .dat (encHall h), .dat (intD 200), .dat (intD i)]) (ea_d (ed_tup (ds := [.str "first"]) (ea_d ed_str ea_nil) (by simp)) (ea_d (ed_var rfl) (ea_d ed_int (ea_d (ed_var rfl) ea_nil)))) ⟨h, 200, i, vs.getD i 0, m.oF, by omega, hfi, rfl, ?_⟩⟩
          show intD (vs.getD ((i : Int)).toNat 0) = _
          rw [Int.toNat_natCast]
        · rw [List.filter_eq_self.mpr fun _ _ => rfl]
          unfold rngD
          rw [List.map_map, Int.toNat_natCast]
          apply List.ext_getElem?
          intro i
          rw [List.getElem?_map, List.getElem?_map]
          by_cases hi : i < h.length
          · rw [List.getElem?_range hi, List.getElem?_eq_getElem (by rw [vl]; exact hi)]
            show some (intD (vs.getD ((0 : Int) + (i : Int)).toNat 0)) = some (intD vs[i])
            rw [show ((0 : Int) + (i : Int)).toNat = i by omega, List.getD_eq_getElem?_getD, List.getElem?_eq_getElem (by rw [vl]; exact hi)]
            rfl
          · rw [List.getElem?_eq_none (by rw [List.length_range]; omega), List.getElem?_eq_none (by rw [vl]; omega)]
            rfl
        have wsum := work_eq (h := h) fun x hx => lenD_nn hn hx
        have body : ∀ (z : Int) (sch : PD) (ρ' : DEnv) (H0 : Hp), ((z = 0 ∧ sch = schF) ∨ (z = -1 ∧ sch = schL)) → ρ'[14]? = some (.dat sch) → ρ'[3]? = some (.dat (encHall h)) → ρ'[5]? = some (.dat (.list ((needsN h).map intD))) → ρ'[2]? = some (.dat (intD h.length)) →
            ET ⟨K, T, [dr, nu], H0⟩ (tOr (tTest (tOp (rNeD K) (tCall (spD K T R_served2) [] E (tCons (tVar 14) (tCons (tVar 3) (tCons (tC (.int 200)) tNil)))) (tVar 5))) (tTest (tOp rNe (tCall (spD K T R_idle2) [] E (tCons (tVar 14) (tCons (tVar 3) (tCons (tC (.int 200)) tNil)))) (tBM K "list" (rCntD K) (tCall (spD K T R_run2) [] E (tCons (tVar 14) (tCons (tVar 3) (tCons (tC (.int 200)) tNil)))) (tCons (tC .non) tNil))))) ρ' false
            ∧ ET ⟨K, T, [dr, nu], H0⟩ (tOr (tTest (tOp (rNeD K) (tCall (spD K T R_vain2) [] E (tCons (tVar 14) (tCons (tVar 3) (tCons (tC (.int 200)) tNil)))) (tOp rRep (tLst (tCons (tC (.int 0)) tNil)) (tVar 2)))) (tTest (tOp (rI0 fun i j => .bl (decide (i < j))) (tCB (lenR K) (tCons (tCall (spD K T R_run2) [] E (tCons (tVar 14) (tCons (tVar 3) (tCons (tC (.int 200)) tNil)))) tNil)) (tCall (spD K T R_whole_work) [] E (tCons (tVar 3) tNil))))) ρ' false := by
          intro z sch ρ' H0 hz h14 h3 h5 h2
          have ea : EA ⟨K, T, [dr, nu], H0⟩ (tCons (tVar 14) (tCons (tVar 3) (tCons (tC (.int 200)) tNil))) ρ' [.dat sch, .dat (encHall h), .dat (intD 200)] := ea_d (ed_var h14) (ea_d (ed_var h3) (ea_d ed_int ea_nil))
          have sv : R_served2 [.dat sch, .dat (encHall h), .dat (intD 200)] (.list ((needsN h).map intD)) := by
            rcases hz with ⟨rfl, rfl⟩ | ⟨rfl, rfl⟩
            · exact .inl ⟨h, 200, m.oF, rfl, by rw [srv_eq m.srvF]⟩
            · exact .inr ⟨h, 200, m.oL, rfl, by rw [srv_eq m.srvL]⟩
          have rn : R_run2 [.dat sch, .dat (encHall h), .dat (intD 200)] (.list ((whosM (qSem z) 200 (machH (qSem z) h)).map encO)) := by
            rcases hz with ⟨rfl, rfl⟩ | ⟨rfl, rfl⟩
            · exact .inl ⟨h, 200, m.oF, rfl, rfl⟩
            · exact .inr ⟨h, 200, m.oL, rfl, rfl⟩
          have idl : R_idle2 [.dat sch, .dat (encHall h), .dat (intD 200)] (intD ((whosM (qSem z) 200 (machH (qSem z) h)).count none)) := by
            rcases hz with ⟨rfl, rfl⟩ | ⟨rfl, rfl⟩
            · exact .inl ⟨h, 200, m.oF, rfl, rfl⟩
            · exact .inr ⟨h, 200, m.oL, rfl, rfl⟩
          have vn : R_vain2 [.dat sch, .dat (encHall h), .dat (intD 200)] (.list (List.replicate h.length [PyData.int 0]).flatten) := by
            rcases hz with ⟨rfl, rfl⟩ | ⟨rfl, rfl⟩
            · exact .inl ⟨h, 200, m.oF, fun x hx => (m.logF x hx).1, rfl, by rw [vain_eq fun x hx => (m.logF x hx).2]⟩
            · exact .inr ⟨h, 200, m.oL, fun x hx => (m.logL x hx).1, rfl, by rw [vain_eq fun x hx => (m.logL x hx).2]⟩
          have bg : (needsN h).sum ≤ (whosM (qSem z) 200 (machH (qSem z) h)).length := by
            rcases hz with ⟨rfl, rfl⟩ | ⟨rfl, rfl⟩
            · exact m.bigF
            · exact m.bigL
          have rs : SeqAt.shaped (.list (List.replicate h.length [PyData.int 0]).flatten) = true := by
            rw [rep_one]
            exact shaped_listOf (n := 1) (fun d hd => by rw [List.eq_of_mem_replicate hd]; exact ⟨by simp [PyData.canLay0], by simp [PyData.depth]⟩) (by omega)
          refine ⟨et_is (et_or (et_test (ed_neD (ed_call (R := R_served2) ea sv) (ed_var h5) (ints_shp _) (ints_shp _))) fun _ => et_test (ed_ne (x := intD _) (y := intD ((whosM (qSem z) 200 (machH (qSem z) h)).count none)) (ed_call (R := R_idle2) ea idl) (ed_is (ed_countD (d := .none) (el_ed (ed_call (R := R_run2) ea rn)) ed_non (whos_shaped _) (by rfl)) ?_) rfl rfl rfl)) (by rw [eqv_refl_sh (ints_shp _)]; simp), et_is (et_or (et_test (ed_neD (ed_call (R := R_vain2) ea vn) (ed_en (en_rep (k := h.length) (en_lst (ds := [.int 0]) (ea_d ed_int ea_nil) (by simp)) (ed_var h2) (by rw [List.length_singleton]; omega) (by omega))) rs rs)) fun _ => et_test (ed_IB (g := fun a b => decide (a < b)) (ed_is (ed_lenL (el_ed (ed_call (R := R_run2) ea rn))) (by rw [List.length_map])) (ed_call (R := R_whole_work) (ea_d (ed_var h3) ea_nil) ⟨hallL h, m.oF.vh, rfl, rfl⟩))) ?_⟩
          · rw [show (fun z => PyData.eqv z PyData.none) = fun z => PyData.eqv z (encO none) from rfl, count_enc]
            rfl
          · rw [eqv_refl_sh rs, wsum]
            show (false || decide _) = false
            rw [Bool.false_or]
            exact decide_eq_false (by omega)
        refine sd_seq (sd_for (js := [14]) (id_list (ed_en (en_lst (ds := [schF, schL]) (ea_d (ed_tup (ds := [.str "first"]) (ea_d ed_str ea_nil) (by simp)) (ea_d (ed_tup (ds := [.str "last"]) (ea_d ed_str ea_nil) (by simp)) ea_nil)) (by simp)))) (fun i ρ' => ρ'[3]? = some (.dat (encHall h)) ∧ ρ'[5]? = some (.dat (.list ((needsN h).map intD))) ∧ ρ'[2]? = some (.dat (intD h.length)) ∧ 14 < ρ'.length) ⟨rfl, rfl, rfl, by simp⟩ ?_ ?_)
        · rintro i d ρ' H0 hd ⟨h3, h5, h2, h14⟩
          refine ⟨[d], tg_name, ?_⟩
          have hz : ∃ z : Int, (z = 0 ∧ d = schF) ∨ (z = -1 ∧ d = schL) := by
            match i, hd with
            | 0, hd => exact ⟨0, .inl ⟨rfl, (Option.some.inj hd).symm⟩⟩
            | 1, hd => exact ⟨-1, .inr ⟨rfl, (Option.some.inj hd).symm⟩⟩
          obtain ⟨z, hz⟩ := hz
          have e3 : (ρ'.set 14 (.dat d))[3]? = some (.dat (encHall h)) := by rw [List.getElem?_set_ne (by decide)]; exact h3
          have e5 : (ρ'.set 14 (.dat d))[5]? = some (.dat (.list ((needsN h).map intD))) := by rw [List.getElem?_set_ne (by decide)]; exact h5
          have e2 : (ρ'.set 14 (.dat d))[2]? = some (.dat (intD h.length)) := by rw [List.getElem?_set_ne (by decide)]; exact h2
          have e14 : (ρ'.set 14 (.dat d))[14]? = some (.dat d) := by rw [List.getElem?_set, if_pos rfl, if_pos h14]
          obtain ⟨b1, b2⟩ := body z d (ρ'.set 14 (.dat d)) H0 hz e14 e3 e5 e2
          exact sd_seq (sd_when (b := false) b1 (fun z => nomatch z) fun _ => sd_when (b := false) b2 (fun z => nomatch z) fun _ => ⟨e3, e5, e2, (show 14 < (ρ'.set 14 (.dat d)).length by rw [List.length_set]; exact h14)⟩)
        · rintro ρ' ⟨h3, h5, h2, h14⟩
          refine sd_ret (ed_is (ed_eq (x := intD (h.length - 1)) (y := intD (h.length - 1)) (ed_call (R := R_switches (qSem 0) schF) (hF rfl h3) ⟨h, 200, m.oF, rfl, by rw [m.run0, m.sw]⟩) (ed_is (ed_I0 (g := fun a b => a - b) (ed_var h2) ed_int) ?_) rfl rfl rfl) (by simp)) rfl
          show PyData.int _ = PyData.int _
          congr 1
          omega

end
end PT
/-! the mathematics of the queues: a machine over a queue and the plain simulation -/
namespace PT
open PySem PySem.Spec PyProof.Rows L2 DA DL
/-! lists of numbers -/
theorem sum_set : ∀ {l : List Nat} {w : Nat}, w < l.length → 1 ≤ l.getD w 0 → (l.set w (l.getD w 0 - 1)).sum + 1 = l.sum
  | [], _, h, _ => absurd h (Nat.not_lt_zero _)
  | a :: l, 0, _, h => by
    have h : 1 ≤ a := h
    show (a - 1) + l.sum + 1 = a + l.sum
    omega
  | a :: l, w + 1, h, h1 => by
    have ih := sum_set (l := l) (w := w) (Nat.lt_of_succ_lt_succ h) h1
    show a + (l.set w (l.getD w 0 - 1)).sum + 1 = a + l.sum
    omega
theorem getD_set {α : Type} {l : List α} {w i : Nat} {x d : α} (h : w < l.length) : (l.set w x).getD i d = if i = w then x else l.getD i d := by
  rw [List.getD_eq_getElem?_getD, List.getD_eq_getElem?_getD, List.getElem?_set]
  by_cases e : i = w
  · subst e
    rw [if_pos rfl, if_pos rfl, if_pos h]
    rfl
  · rw [if_neg e, if_neg (fun z => e z.symm)]
theorem getD_set' {α : Type} {l : List α} {w i : Nat} {x d : α} (h : i ≠ w) : (l.set w x).getD i d = l.getD i d := by
  rw [List.getD_eq_getElem?_getD, List.getD_eq_getElem?_getD, List.getElem?_set, if_neg (fun z => h z.symm)]
theorem come_at : ∀ (cs ps : List Nat), (∀ c ∈ cs, c < ps.length) → ∀ i, (come ps cs).getD i 0 = if i ∈ cs then 1 else ps.getD i 0
  | [], ps, _, i => by rw [if_neg (by simp)]; rfl
  | c :: cs, ps, hc, i => by
    show (come (ps.set c 1) cs).getD i 0 = _
    rw [come_at cs (ps.set c 1) (fun x m => by rw [List.length_set]; exact hc x (List.mem_cons_of_mem _ m)) i, getD_set (hc c List.mem_cons_self)]
    by_cases m : i ∈ cs
    · rw [if_pos m, if_pos (List.mem_cons_of_mem _ m)]
    · rw [if_neg m]
      by_cases e : i = c
      · rw [if_pos e, if_pos (by rw [e]; exact List.mem_cons_self)]
      · rw [if_neg e, if_neg (fun z => (List.mem_cons.mp z).elim e m)]
theorem clear_at : ∀ (cs : List Nat) (l : List (Option Nat)), (∀ c ∈ cs, c < l.length) → ∀ i, (clearAll l cs).getD i none = if i ∈ cs then none else l.getD i none
  | [], l, _, i => by rw [if_neg (by simp)]; rfl
  | c :: cs, l, hc, i => by
    show (clearAll (l.set c none) cs).getD i none = _
    rw [clear_at cs (l.set c none) (fun x m => by rw [List.length_set]; exact hc x (List.mem_cons_of_mem _ m)) i, getD_set (hc c List.mem_cons_self)]
    by_cases m : i ∈ cs
    · rw [if_pos m, if_pos (List.mem_cons_of_mem _ m)]
    · rw [if_neg m]
      by_cases e : i = c
      · rw [if_pos e, if_pos (by rw [e]; exact List.mem_cons_self)]
      · rw [if_neg e, if_neg (fun z => (List.mem_cons.mp z).elim e m)]
theorem comersH_nd {h : Hall} {t : Nat} : (comersH h t).Nodup := List.Pairwise.filter _ List.nodup_range
theorem comersH_mem {h : Hall} {t i : Nat} : i ∈ comersH h t ↔ i < h.length ∧ comesAt h i = t := by
  unfold comersH
  rw [List.mem_filter, List.mem_range, beq_iff_eq]
theorem laterH_mem {h : Hall} {t i : Nat} : i ∈ laterH h t ↔ i < h.length ∧ t ≤ comesAt h i := by
  unfold laterH
  rw [List.mem_filter, List.mem_range, decide_eq_true_eq]
theorem pick_mem {z : Int} {q : List Nat} {w : Nat} (h : pickA z q = some w) : w ∈ q := by
  unfold pickA at h
  split at h
  · exact List.mem_of_head? h
  · exact List.mem_of_getLast? h
theorem pick_none {z : Int} {q : List Nat} (h : pickA z q = none) : q = [] := by
  unfold pickA at h
  split at h
  · exact List.head?_eq_none_iff.mp h
  · exact List.getLast?_eq_none_iff.mp h
/-- a process of the law: work only -/
structure Pgm (h : Hall) (i : Nat) (k n : Nat) : Prop where
  k1 : 1 ≤ k
  k5 : k ≤ 5
  n2 : n ≤ 2
  pr : (h.map (·.2)).getD i [] = List.replicate n (("work" : Str), k)
  nd : (needsN h).getD i 0 = n * k + 1
structure OkH (h : Hall) : Prop where
  len : 1 ≤ h.length ∧ h.length ≤ 4
  ok : ∀ x ∈ h, okX x
theorem units_sum (k : Nat) : ∀ n : Nat, (((List.replicate n (("work" : Str), k)).map encDd).map K11.unitsD).sum = ((n * k : Nat) : Int)
  | 0 => by simp
  | n + 1 => by
    have ih := units_sum k n
    rw [List.replicate_succ, List.map_cons, List.map_cons, List.sum_cons, ih]
    show K11.unitsD (.tuple [.str "work", .int (k : Int)]) + _ = _
    have e : K11.unitsD (.tuple [.str "work", .int (k : Int)]) = (k : Int) := by
      show (if (("work" : Str)) = "work" then (k : Int) else 1) = _
      rw [if_pos rfl]
    rw [e, Nat.succ_mul]
    omega
theorem OkH.pgm {h : Hall} (o : OkH h) {i : Nat} (hi : i < h.length) : ∃ k n, Pgm h i k n := by
  obtain ⟨h8, k, n, k1, k5, n2, e⟩ := o.ok h[i] (List.getElem_mem hi)
  refine ⟨k, n, k1, k5, n2, ?_, ?_⟩
  · rw [List.getD_eq_getElem?_getD, List.getElem?_map, List.getElem?_eq_getElem hi]
    exact e
  · unfold needsN
    rw [List.getD_eq_getElem?_getD, List.getElem?_map, List.getElem?_eq_getElem hi]
    show (K11.lenD (h[i].2.map encDd)).toNat = _
    rw [e]
    unfold K11.lenD
    rw [units_sum]
    omega
theorem OkH.c8 {h : Hall} (o : OkH h) {i : Nat} (hi : i < h.length) : comesAt h i ≤ 8 := by
  unfold comesAt
  rw [List.getD_eq_getElem?_getD, List.getElem?_eq_getElem hi]
  exact (o.ok h[i] (List.getElem_mem hi)).1
theorem OkH.need {h : Hall} (o : OkH h) : ∀ n ∈ needsN h, 1 ≤ n ∧ n ≤ 11 := fun n hn => by
  obtain ⟨i, hi, e⟩ := List.mem_iff_getElem.mp hn
  have hi' : i < h.length := by rw [needs_len] at hi; exact hi
  obtain ⟨k, m, p⟩ := o.pgm hi'
  have := p.nd
  rw [List.getD_eq_getElem?_getD, List.getElem?_eq_getElem hi] at this
  have e2 : n = m * k + 1 := by rw [← e]; exact this
  have h1 := p.k5
  have h2 := p.n2
  have : m * k ≤ 2 * 5 := Nat.mul_le_mul h2 h1
  omega
/-- the machine after t units, as the simulation has it -/
structure Rel (z : Int) (h : Hall) (t : Nat) (x : Mach (List Nat)) : Prop where
  clock : x.clock = t
  m : x.m = (atA z h t).q
  hs : x.hs = [none, none]
  progs : x.progs = h.map (·.2)
  lp : x.ps.length = h.length
  lr : x.reached.length = h.length
  lw : x.worked.length = h.length
  lc : x.comings.length = h.length
  lf : x.finishes.length = h.length
  ps : ∀ i, i < h.length → x.ps.getD i 0 = if i ∈ (atA z h t).q then 1 else 0
  co : ∀ i, i < h.length → x.comings.getD i none = if t ≤ comesAt h i then some (comesAt h i) else none
  qn : (atA z h t).q.Nodup
  ql : ∀ s ∈ (atA z h t).q, s < h.length ∧ comesAt h s < t
  ll : (atA z h t).left.length = h.length
  pg : ∀ i, i < h.length → i ∈ (atA z h t).q ∨ t ≤ comesAt h i → ∀ k n, Pgm h i k n → x.reached.getD i 0 ≤ n ∧ (x.reached.getD i 0 = n → x.worked.getD i 0 = 0) ∧ x.worked.getD i 0 < k ∧ x.reached.getD i 0 * k + x.worked.getD i 0 + (atA z h t).left.getD i 0 = n * k + 1
  new : ∀ i, i < h.length → t ≤ comesAt h i → (atA z h t).left.getD i 0 = (needsN h).getD i 0
  cnt : ∀ i, i < h.length → ((List.range t).map (outA z h)).count (some i) + (atA z h t).left.getD i 0 = (needsN h).getD i 0
  gone : ∀ i, i < h.length → i ∉ (atA z h t).q → comesAt h i < t → (atA z h t).left.getD i 0 = 0 ∧ ∃ v, x.finishes.getD i none = some v ∧ 1 ≤ v ∧ v ≤ t ∧ outA z h (v - 1) = some i ∧ ∀ j, v ≤ j → j < t → outA z h j ≠ some i
  bd : t + (atA z h t).left.sum ≤ 8 + (needsN h).sum
  bl : (needsN h).sum ≤ t + (atA z h t).left.sum
theorem rel_pos {z : Int} {h : Hall} {t : Nat} {x : Mach (List Nat)} (o : OkH h) (r : Rel z h t x) {i : Nat} (hi : i < h.length) (ha : i ∈ (atA z h t).q ∨ t ≤ comesAt h i) : 1 ≤ (atA z h t).left.getD i 0 := by
  obtain ⟨k, n, p⟩ := o.pgm hi
  obtain ⟨h1, h2, h3, h4⟩ := r.pg i hi ha k n p
  rcases Nat.lt_or_ge (x.reached.getD i 0) n with e | e
  · have : (x.reached.getD i 0 + 1) * k ≤ n * k := Nat.mul_le_mul_right k e
    rw [Nat.succ_mul] at this
    omega
  · have e : x.reached.getD i 0 = n := by omega
    have := h2 e
    rw [e] at h4
    omega
theorem rel_init {z : Int} {h : Hall} (o : OkH h) (hz : (qSem z).fresh = []) : Rel z h 0 (machH (qSem z) h) := by
  have rep : ∀ {α : Type} (n i : Nat) (a d : α), i < n → (List.replicate n a).getD i d = a := fun n i a d hi => by
    rw [List.getD_eq_getElem?_getD, List.getElem?_replicate, if_pos hi]
    rfl
  refine ⟨rfl, rfl, rfl, rfl, List.length_replicate, List.length_replicate, List.length_replicate, List.length_map .., List.length_replicate, fun i hi => ?_, fun i hi => ?_, .nil, (fun _ m => nomatch m), needs_len h, fun i hi _ k n p => ?_, fun _ _ _ => rfl, fun i hi => ?_, fun i hi _ c => absurd c (Nat.not_lt_zero _), (show 0 + (needsN h).sum ≤ 8 + (needsN h).sum by omega), (show (needsN h).sum ≤ 0 + (needsN h).sum by omega)⟩
  · rw [if_neg (fun m => nomatch m)]
    exact rep _ _ _ _ hi
  · rw [if_pos (Nat.zero_le _)]
    show (h.map fun x => some x.1).getD i none = _
    unfold comesAt
    rw [List.getD_eq_getElem?_getD, List.getElem?_map, List.getElem?_eq_getElem hi, List.getD_eq_getElem?_getD, List.getElem?_eq_getElem hi]
    rfl
  · have e1 : (machH (qSem z) h).reached.getD i 0 = 0 := rep _ _ _ _ hi
    have e2 : (machH (qSem z) h).worked.getD i 0 = 0 := rep _ _ _ _ hi
    rw [e1, e2]
    refine ⟨Nat.zero_le _, fun _ => rfl, p.k1, ?_⟩
    show 0 * k + 0 + (needsN h).getD i 0 = _
    rw [p.nd]
    omega
  · show 0 + (needsN h).getD i 0 = _
    omega
theorem nd_len : ∀ (n : Nat) (l : List Nat), l.Nodup → (∀ i ∈ l, i < n) → l.length ≤ n
  | 0, [], _, _ => Nat.le_refl _
  | 0, a :: l, _, h => absurd (h a List.mem_cons_self) (Nat.not_lt_zero _)
  | n + 1, l, nd, h => by
    by_cases m : n ∈ l
    · have ih := nd_len n (l.erase n) (nd.erase n) fun i hi => by
        have h1 := h i (List.mem_of_mem_erase hi)
        have h2 : i ≠ n := fun z => by
          rw [z] at hi
          exact (nd.mem_erase_iff.mp hi).1 rfl
        omega
      rw [List.length_erase_of_mem m] at ih
      omega
    · have ih := nd_len n l nd fun i hi => by
        have h1 := h i hi
        have h2 : i ≠ n := fun z => m (by rw [← z]; exact hi)
        omega
      omega
theorem rel_comers {z : Int} {h : Hall} {t : Nat} {x : Mach (List Nat)} (r : Rel z h t x) : comersOf x = comersH h t := by
  unfold comersOf comersH
  rw [r.lc]
  refine List.filter_congr fun i hi => ?_
  have hi := List.mem_range.mp hi
  rw [r.co i hi, r.clock]
  by_cases e : comesAt h i = t
  · rw [if_pos (by omega), e]
    simp
  · by_cases g : t ≤ comesAt h i
    · rw [if_pos g]
      have : (comesAt h i == t) = false := by simpa using e
      rw [this]
      exact decide_eq_false fun y => e (Option.some.inj y)
    · rw [if_neg g]
      have : (comesAt h i == t) = false := by simpa using e
      rw [this]
      exact decide_eq_false fun y => nomatch y
theorem join_mem {z : Int} {h : Hall} {t : Nat} {i : Nat} : i ∈ joinA h t (atA z h t) ↔ i ∈ (atA z h t).q ∨ (i < h.length ∧ comesAt h i = t) := by
  unfold joinA
  rw [List.mem_append, comersH_mem]
structure Jn (z : Int) (h : Hall) (t : Nat) (x : Mach (List Nat)) : Prop where
  lt : ∀ i ∈ joinA h t (atA z h t), i < h.length
  le : ∀ i ∈ joinA h t (atA z h t), comesAt h i ≤ t
  nd : (joinA h t (atA z h t)).Nodup
  act : ∀ i ∈ joinA h t (atA z h t), i ∈ (atA z h t).q ∨ t ≤ comesAt h i
  pl : (come x.ps (comersH h t)).length = h.length
  ps : ∀ i, i < h.length → (come x.ps (comersH h t)).getD i 0 = if i ∈ joinA h t (atA z h t) then 1 else 0
  cl : (clearAll x.comings (comersH h t)).length = h.length
  co : ∀ i, i < h.length → (clearAll x.comings (comersH h t)).getD i none = if t + 1 ≤ comesAt h i then some (comesAt h i) else none
  jl : (joinA h t (atA z h t)).length ≤ 100
theorem rel_jn {z : Int} {h : Hall} {t : Nat} {x : Mach (List Nat)} (o : OkH h) (r : Rel z h t x) : Jn z h t x := by
  have lt : ∀ i ∈ joinA h t (atA z h t), i < h.length := fun i hi => (join_mem.mp hi).elim (fun m => (r.ql i m).1) (·.1)
  have nd : (joinA h t (atA z h t)).Nodup := by
    unfold joinA
    refine List.nodup_append.mpr ⟨r.qn, comersH_nd, fun a ha b hb e => ?_⟩
    subst e
    have h1 := (r.ql a ha).2
    have h2 := (comersH_mem.mp hb).2
    omega
  refine ⟨lt, fun i hi => (join_mem.mp hi).elim (fun m => Nat.le_of_lt (r.ql i m).2) (fun m => Nat.le_of_eq m.2), nd, fun i hi => (join_mem.mp hi).elim .inl fun m => .inr (by omega), by rw [come_len]; exact r.lp, fun i hi => ?_, by rw [clear_len]; exact r.lc, fun i hi => ?_, ?_⟩
  · rw [come_at _ _ (fun c hc => by rw [r.lp]; exact comersH_lt c hc), r.ps i hi]
    show _ = if i ∈ (atA z h t).q ++ comersH h t then 1 else 0
    by_cases m : i ∈ comersH h t
    · rw [if_pos m, if_pos (List.mem_append_right _ m)]
    · rw [if_neg m]
      by_cases g : i ∈ (atA z h t).q
      · rw [if_pos g, if_pos (List.mem_append_left _ g)]
      · rw [if_neg g, if_neg fun y => (List.mem_append.mp y).elim g m]
  · rw [clear_at _ _ (fun c hc => by rw [r.lc]; exact comersH_lt c hc), r.co i hi]
    by_cases e : comesAt h i = t
    · rw [if_pos (comersH_mem.mpr ⟨hi, e⟩), if_neg (by omega)]
    · rw [if_neg fun m => e (comersH_mem.mp m).2]
      by_cases g : t ≤ comesAt h i
      · rw [if_pos g, if_pos (by omega)]
      · rw [if_neg g, if_neg (by omega)]
  · have := o.len.2
    have h1 := nd_len h.length _ nd lt
    omega
theorem deedM_work (ps : List Nat) (hs : List (Option Nat)) (w k : Nat) : deedM ps hs w "work" k = ⟨ps, hs, "work", []⟩ := by
  unfold deedM
  rw [if_neg (by decide), if_neg (by decide), if_neg (by decide)]
theorem deedM_end (ps : List Nat) (hs : List (Option Nat)) (w k : Nat) : deedM ps hs w "end" k = ⟨ps.set w 0, hs, "leave", []⟩ := by
  unfold deedM
  rw [if_neg (by decide), if_neg (by decide), if_pos (by decide)]
theorem range_count (f : Nat → Option Nat) (t i : Nat) : ((List.range (t + 1)).map f).count (some i) = ((List.range t).map f).count (some i) + (if f t = some i then 1 else 0) := by
  rw [List.range_succ, List.map_append, List.count_append]
  congr 1
  show [f t].count (some i) = _
  rw [List.count_singleton]
  by_cases e : f t = some i
  · rw [if_pos e, e]; simp
  · rw [if_neg e]
    have : (f t == some i) = false := by simpa using e
    simp [this]
def qAft (z : Int) (h : Hall) (t w : Nat) : List Nat := (joinA h t (atA z h t)).filter fun s => decide (0 < ((atA z h t).left.set w ((atA z h t).left.getD w 0 - 1)).getD s 0)
theorem at_some {z : Int} {h : Hall} {t w : Nat} (hw : outA z h t = some w) : atA z h (t + 1) = ⟨qAft z h t w, (atA z h t).left.set w ((atA z h t).left.getD w 0 - 1)⟩ := by
  show stepA z h t (atA z h t) = _
  unfold stepA
  rw [show pickA z (joinA h t (atA z h t)) = some w from hw]
  rfl
theorem at_none {z : Int} {h : Hall} {t : Nat} (hw : outA z h t = none) : atA z h (t + 1) = ⟨joinA h t (atA z h t), (atA z h t).left⟩ := by
  show stepA z h t (atA z h t) = _
  unfold stepA
  rw [show pickA z (joinA h t (atA z h t)) = none from hw]
theorem rel_next {z : Int} {h : Hall} {t w : Nat} {x y : Mach (List Nat)} (o : OkH h) (r : Rel z h t x) (hw : outA z h t = some w) (clock : y.clock = t + 1) (m : y.m = qAft z h t w) (hs : y.hs = [none, none]) (progs : y.progs = h.map (·.2))
    (lp : y.ps.length = h.length) (lr : y.reached.length = h.length) (lw : y.worked.length = h.length) (lc : y.comings.length = h.length) (lf : y.finishes.length = h.length)
    (ps : ∀ i, i < h.length → y.ps.getD i 0 = if i ∈ qAft z h t w then 1 else 0) (co : ∀ i, i < h.length → y.comings.getD i none = if t + 1 ≤ comesAt h i then some (comesAt h i) else none)
    (re : ∀ i, i ≠ w → y.reached.getD i 0 = x.reached.getD i 0) (wo : ∀ i, i ≠ w → y.worked.getD i 0 = x.worked.getD i 0) (fi : ∀ i, i ≠ w → y.finishes.getD i none = x.finishes.getD i none)
    (pgw : w ∈ qAft z h t w → ∀ k n, Pgm h w k n → y.reached.getD w 0 ≤ n ∧ (y.reached.getD w 0 = n → y.worked.getD w 0 = 0) ∧ y.worked.getD w 0 < k ∧ y.reached.getD w 0 * k + y.worked.getD w 0 + ((atA z h t).left.getD w 0 - 1) = n * k + 1)
    (fiw : w ∉ qAft z h t w → y.finishes.getD w none = some (t + 1)) : Rel z h (t + 1) y := by
  have j := rel_jn o r
  have wj : w ∈ joinA h t (atA z h t) := pick_mem hw
  have wl := j.lt w wj
  have wc := j.le w wj
  have wp := rel_pos o r wl (j.act w wj)
  have ea := at_some hw
  have wll : w < (atA z h t).left.length := by rw [r.ll]; exact wl
  have lo : ∀ i, i ≠ w → (atA z h (t + 1)).left.getD i 0 = (atA z h t).left.getD i 0 := fun i hi => by rw [ea]; exact getD_set' hi
  have lw' : (atA z h (t + 1)).left.getD w 0 = (atA z h t).left.getD w 0 - 1 := by rw [ea]; show (List.set _ _ _).getD w 0 = _; rw [getD_set wll, if_pos rfl]
  have eq : (atA z h (t + 1)).q = qAft z h t w := by rw [ea]
  have qm : ∀ i, i ∈ qAft z h t w ↔ i ∈ joinA h t (atA z h t) ∧ 0 < (atA z h (t + 1)).left.getD i 0 := fun i => by
    unfold qAft
    rw [List.mem_filter, decide_eq_true_eq, ea]
  refine ⟨clock, by rw [eq]; exact m, hs, progs, lp, lr, lw, lc, lf, fun i hi => by rw [eq]; exact ps i hi, co, by rw [eq]; exact j.nd.filter _, fun s hs => ?_, by rw [ea]; show (List.set _ _ _).length = _; rw [List.length_set]; exact r.ll, fun i hi ha k n p => ?_, fun i hi hc => ?_, fun i hi => ?_, fun i hi hn hc => ?_, ?_, ?_⟩
  · rw [eq] at hs
    have h1 := ((qm s).mp hs).1
    exact ⟨j.lt s h1, Nat.lt_succ_of_le (j.le s h1)⟩
  · by_cases e : i = w
    · subst e
      rw [lw']
      rw [eq] at ha
      exact pgw (ha.elim id fun c => absurd c (by omega)) k n p
    · rw [re i e, wo i e, lo i e]
      refine r.pg i hi ?_ k n p
      rw [eq] at ha
      rcases ha with ha | ha
      · exact j.act i ((qm i).mp ha).1
      · exact .inr (by omega)
  · have e : i ≠ w := fun y => by rw [y] at hc; omega
    rw [lo i e]
    exact r.new i hi (by omega)
  · have hc := r.cnt i hi
    rw [range_count, hw]
    by_cases e : i = w
    · subst e
      rw [if_pos rfl, lw']
      omega
    · rw [if_neg (fun y => e (Option.some.inj y).symm), lo i e]
      omega
  · by_cases e : i = w
    · subst e
      rw [eq] at hn
      have l0 : (atA z h (t + 1)).left.getD i 0 = 0 := by
        rcases Nat.eq_zero_or_pos ((atA z h (t + 1)).left.getD i 0) with y | y
        · exact y
        · exact absurd ((qm i).mpr ⟨wj, y⟩) hn
      exact ⟨l0, t + 1, fiw hn, by omega, Nat.le_refl _, hw, fun q a b => absurd b (by omega)⟩
    · have nj : i ∉ joinA h t (atA z h t) := fun y => hn (by
        rw [eq]
        exact (qm i).mpr ⟨y, by rw [lo i e]; exact rel_pos o r hi (j.act i y)⟩)
      have nq : i ∉ (atA z h t).q := fun y => nj (join_mem.mpr (.inl y))
      have nc : comesAt h i ≠ t := fun y => nj (join_mem.mpr (.inr ⟨hi, y⟩))
      obtain ⟨g1, v, g2, g3, g4, g5, g6⟩ := r.gone i hi nq (by omega)
      refine ⟨by rw [lo i e]; exact g1, v, by rw [fi i e]; exact g2, g3, by omega, g5, fun q a b => ?_⟩
      rcases Nat.lt_or_ge q t with y | y
      · exact g6 q a y
      · have : q = t := by omega
        rw [this, hw]
        exact fun y => e (Option.some.inj y).symm
  · rw [ea]
    show t + 1 + (List.set _ _ _).sum ≤ _
    have := sum_set wll wp
    have := r.bd
    omega
  · rw [ea]
    show _ ≤ t + 1 + (List.set _ _ _).sum
    have := sum_set wll wp
    have := r.bl
    omega
end PT
namespace PT
open PySem PySem.Spec PyProof.Rows L2 DA DL
theorem sum_le : ∀ {a b : List Nat}, a.length = b.length → (∀ i, i < a.length → a.getD i 0 ≤ b.getD i 0) → a.sum ≤ b.sum
  | [], [], _, _ => Nat.le_refl _
  | x :: a, y :: b, h, hi => by
    have ih := sum_le (a := a) (b := b) (Nat.succ.inj h) fun i hl => hi (i + 1) (Nat.succ_lt_succ hl)
    have h0 : x ≤ y := hi 0 (Nat.zero_lt_succ _)
    show x + a.sum ≤ y + b.sum
    omega
theorem rel_who {z : Int} {h : Hall} {t : Nat} {x : Mach (List Nat)} (r : Rel z h t x) : whoM (qSem z) x = outA z h t := by
  unfold whoM
  rw [rel_comers r]
  show pickA z (x.m ++ comersH h t) = _
  rw [r.m]
  rfl
theorem rel_nextM {z : Int} {h : Hall} {t w k n : Nat} {x : Mach (List Nat)} (r : Rel z h t x) (p : Pgm h w k n) : nextM x w = if x.reached.getD w 0 < n then (("work" : Str), k) else (("end" : Str), 0) := by
  unfold nextM
  rw [r.progs, p.pr, List.getElem?_replicate]
  split <;> rfl
theorem okPs_rel {z : Int} {h : Hall} {t : Nat} {x : Mach (List Nat)} (o : OkH h) (r : Rel z h t x) : okPs x.ps ∧ x.comings.length ≤ 100 := by
  have hl := o.len
  refine ⟨⟨fun n hn => ?_, by rw [r.lp]; omega⟩, by rw [r.lc]; omega⟩
  obtain ⟨i, hi, e⟩ := List.mem_iff_getElem.mp hn
  have h1 := r.ps i (by rw [← r.lp]; exact hi)
  rw [List.getD_eq_getElem?_getD, List.getElem?_eq_getElem hi] at h1
  have h1 : x.ps[i] = _ := h1
  rw [← e, h1]
  split <;> omega
theorem rel_goes {z : Int} {h : Hall} {t : Nat} {x : Mach (List Nat)} (r : Rel z h t x) : goesB x = goesA h t (atA z h t) := by
  have e1 : (slotsOf x.ps).isEmpty = (atA z h t).q.isEmpty := by
    rw [Bool.eq_iff_iff, List.isEmpty_iff, List.isEmpty_iff]
    unfold slotsOf
    rw [List.filter_eq_nil_iff]
    constructor
    · intro hn
      refine List.eq_nil_iff_forall_not_mem.mpr fun s hs => ?_
      have hl := (r.ql s hs).1
      refine hn s (List.mem_range.mpr (by rw [r.lp]; exact hl)) ?_
      rw [r.ps s hl, if_pos hs]
      rfl
    · intro hn i hi hr
      have hl : i < h.length := by rw [← r.lp]; exact List.mem_range.mp hi
      rw [r.ps i hl, hn, if_neg (fun y => nomatch y)] at hr
      cases hr
  have e2 : x.comings.any (·.isSome) = !(laterH h t).isEmpty := by
    rw [Bool.eq_iff_iff, List.any_eq_true]
    constructor
    · rintro ⟨c, hc, hs⟩
      obtain ⟨i, hi, e⟩ := List.mem_iff_getElem.mp hc
      have hl : i < h.length := by rw [← r.lc]; exact hi
      have h1 := r.co i hl
      rw [List.getD_eq_getElem?_getD, List.getElem?_eq_getElem hi] at h1
      have h1 : x.comings[i] = _ := h1
      rw [e] at h1
      by_cases g : t ≤ comesAt h i
      · have : i ∈ laterH h t := laterH_mem.mpr ⟨hl, g⟩
        cases q : laterH h t with
        | nil => rw [q] at this; cases this
        | cons a b => rfl
      · rw [if_neg g] at h1
        rw [h1] at hs
        cases hs
    · intro hn
      cases q : laterH h t with
      | nil => rw [q] at hn; cases hn
      | cons i b =>
        have hm : i ∈ laterH h t := by rw [q]; exact List.mem_cons_self
        obtain ⟨hl, g⟩ := laterH_mem.mp hm
        have hi : i < x.comings.length := by rw [r.lc]; exact hl
        have h1 := r.co i hl
        rw [List.getD_eq_getElem?_getD, List.getElem?_eq_getElem hi, if_pos g] at h1
        have h1 : x.comings[i] = _ := h1
        exact ⟨x.comings[i], List.getElem_mem hi, by rw [h1]; rfl⟩
  unfold goesB goesA
  rw [e1, e2]
theorem pgm_eq {h : Hall} {w k n k' n' : Nat} (p : Pgm h w k n) (p' : Pgm h w k' n') (hn : 0 < n) : k = k' ∧ n = n' := by
  have e := p.pr.symm.trans p'.pr
  have e1 : n = n' := by
    have := congrArg List.length e
    rwa [List.length_replicate, List.length_replicate] at this
  subst e1
  obtain ⟨m, rfl⟩ : ∃ m, n = m + 1 := ⟨n - 1, by omega⟩
  rw [List.replicate_succ, List.replicate_succ] at e
  have := (List.cons.inj e).1
  exact ⟨(Prod.mk.inj this).2, rfl⟩
theorem rel_step {z : Int} (hz : z = 0 ∨ z = -1) {h : Hall} {t : Nat} {x : Mach (List Nat)} (o : OkH h) (r : Rel z h t x) (hg : goesA h t (atA z h t) = true) :
    okTick (qSem z) x ∧ ((resX (qSem z) x).word = "work" ∨ (resX (qSem z) x).word = "leave" ∨ (resX (qSem z) x).word = "none") ∧ Rel z h (t + 1) (tickM (qSem z) x) := by
  have ec := rel_comers r
  have j := rel_jn o r
  have ew := rel_who r
  have hl := o.len
  have em : (qSem z).joined x.m (comersOf x) = joinA h t (atA z h t) := by
    rw [ec]
    show x.m ++ comersH h t = _
    rw [r.m]
    rfl
  have ok := okPs_rel o r
  have jl := j.jl
  have cl := comersH_len (h := h) (t := t)
  have ql := nd_len h.length _ r.qn fun i hi => (r.ql i hi).1
  have sz : okSz x := ⟨by rw [r.lr, r.lp], by rw [r.lw, r.lp], by rw [r.lc, r.lp], by rw [r.lf, r.lp], by rw [r.progs, List.length_map, r.lp], by rw [r.hs]; rfl⟩
  have okj : (qSem z).okJ x.m (comersOf x) := ⟨by rw [r.m]; omega, by rw [ec]; omega⟩
  have okp : (qSem z).okP ((qSem z).joined x.m (comersOf x)) (come x.ps (comersOf x)) x.hs := ⟨by rw [em]; exact jl, hz⟩
  cases hw : outA z h t with
  | none =>
    have q0 : joinA h t (atA z h t) = [] := pick_none hw
    have ed : deedX (qSem z) x = none := by unfold deedX; rw [ew, hw]; rfl
    have er : resX (qSem z) x = ⟨come x.ps (comersH h t), x.hs, "none", []⟩ := by unfold resX; rw [ed, ec]; rfl
    have ea := at_none hw
    have et : tickM (qSem z) x = { x with ps := come x.ps (comersH h t), hs := x.hs, m := [], comings := clearAll x.comings (comersH h t), clock := x.clock + 1 } := by
      unfold tickM advX
      rw [ew, hw]
      unfold midX
      rw [er, em, ec, q0, ew, hw]
      rfl
    have q00 : (atA z h t).q = [] := (List.append_eq_nil_iff.mp q0).1
    have c00 : comersH h t = [] := (List.append_eq_nil_iff.mp q0).2
    refine ⟨⟨ok.1, sz, okj, okp, fun w hw' => (by rw [ew, hw] at hw'; cases hw'), ⟨by rw [em]; exact jl, by rw [er]; exact Nat.zero_le _, fun y => (by rw [er] at y; exact absurd y (show ¬ goneB ("none" : Str) = true by decide))⟩⟩, .inr (.inr (by rw [er])), ?_⟩
    rw [et]
    have e1 : (atA z h (t + 1)).q = [] := by rw [ea]; exact q0
    have e2 : (atA z h (t + 1)).left = (atA z h t).left := by rw [ea]
    have nt : ∀ i, i < h.length → comesAt h i ≠ t := fun i hi e => by
      have : i ∈ comersH h t := comersH_mem.mpr ⟨hi, e⟩
      rw [c00] at this
      cases this
    refine ⟨by show x.clock + 1 = t + 1; rw [r.clock], by show [] = _; rw [e1], r.hs, r.progs, j.pl, r.lr, r.lw, j.cl, r.lf, fun i hi => ?_, j.co, by rw [e1]; exact .nil, fun s hs => (by rw [e1] at hs; cases hs), by rw [e2]; exact r.ll, fun i hi ha k n p => ?_, fun i hi hc => ?_, fun i hi => ?_, fun i hi hn hc => ?_, ?_, (by rw [e2]; have := r.bl; omega)⟩
    · show (come x.ps (comersH h t)).getD i 0 = _
      rw [j.ps i hi, q0, e1]
    · rw [e1] at ha
      rw [e2]
      exact r.pg i hi (ha.elim (fun y => nomatch y) fun y => .inr (by omega)) k n p
    · rw [e2]
      exact r.new i hi (by omega)
    · rw [range_count, hw, if_neg (fun y => nomatch y), e2]
      have := r.cnt i hi
      omega
    · have := nt i hi
      obtain ⟨g1, v, g2, g3, g4, g5, g6⟩ := r.gone i hi (by rw [q00]; exact fun y => nomatch y) (by omega)
      refine ⟨by rw [e2]; exact g1, v, g2, g3, by omega, g5, fun q a b => ?_⟩
      rcases Nat.lt_or_ge q t with y | y
      · exact g6 q a y
      · have : q = t := by omega
        rw [this, hw]
        exact fun y => nomatch y
    · rw [e2]
      -- somebody is still to come
      have hla : laterH h t ≠ [] := fun y => by
        unfold goesA at hg
        rw [q00, y] at hg
        cases hg
      obtain ⟨i, hi⟩ := List.exists_mem_of_ne_nil _ hla
      obtain ⟨h1, h2⟩ := laterH_mem.mp hi
      have h3 := o.c8 h1
      have h4 := nt i h1
      have h5 : (atA z h t).left.sum ≤ (needsN h).sum := sum_le (by rw [r.ll, needs_len]) fun i hi => by
        have := r.cnt i (by rw [← r.ll]; exact hi)
        omega
      omega
  | some w =>
    have wj : w ∈ joinA h t (atA z h t) := pick_mem hw
    have wl := j.lt w wj
    have wp := rel_pos o r wl (j.act w wj)
    have wll : w < (atA z h t).left.length := by rw [r.ll]; exact wl
    obtain ⟨k, n, p⟩ := o.pgm wl
    obtain ⟨p1, p2, p3, p4⟩ := r.pg w wl (j.act w wj) k n p
    have nx := rel_nextM r p
    have un : ∀ k' n', Pgm h w k' n' → n' * k' + 1 = n * k + 1 := fun k' n' p' => by rw [← p'.nd, ← p.nd]
    by_cases lt : x.reached.getD w 0 < n
    · rw [if_pos lt] at nx
      have ed : deedX (qSem z) x = some (w, ("work" : Str), k) := by unfold deedX; rw [ew, hw]; show some (w, (nextM x w).1, (nextM x w).2) = _; rw [nx]
      have er : resX (qSem z) x = ⟨come x.ps (comersH h t), x.hs, "work", []⟩ := by unfold resX; rw [ed, ec]; exact deedM_work _ _ _ _
      have l2 : 2 ≤ (atA z h t).left.getD w 0 := by
        have : (x.reached.getD w 0 + 1) * k ≤ n * k := Nat.mul_le_mul_right k lt
        rw [Nat.succ_mul] at this
        omega
      have qa : qAft z h t w = joinA h t (atA z h t) := by
        unfold qAft
        refine List.filter_eq_self.mpr fun s hs => decide_eq_true ?_
        rw [getD_set wll]
        split
        · omega
        · exact rel_pos o r (j.lt s hs) (j.act s hs)
      have key : ∀ (re wo : List Nat), re.length = h.length → wo.length = h.length → (∀ i, i ≠ w → re.getD i 0 = x.reached.getD i 0) → (∀ i, i ≠ w → wo.getD i 0 = x.worked.getD i 0) → (∀ k n, Pgm h w k n → re.getD w 0 ≤ n ∧ (re.getD w 0 = n → wo.getD w 0 = 0) ∧ wo.getD w 0 < k ∧ re.getD w 0 * k + wo.getD w 0 + ((atA z h t).left.getD w 0 - 1) = n * k + 1) →
          Rel z h (t + 1) { x with ps := come x.ps (comersH h t), m := joinA h t (atA z h t), comings := clearAll x.comings (comersH h t), clock := x.clock + 1, reached := re, worked := wo } := fun re wo h1 h2 h3 h4 h5 =>
        rel_next o r hw (by show x.clock + 1 = _; rw [r.clock]) (by rw [qa]) r.hs r.progs j.pl h1 h2 j.cl r.lf (fun i hi => by rw [qa]; exact j.ps i hi) j.co h3 h4 (fun _ _ => rfl) (fun _ k n p => h5 k n p) (fun y => absurd (by rw [qa]; exact wj) y)
      have ad : advX (qSem z) x = advM (midX (qSem z) x) w (("work" : Str), k) := by
        unfold advX
        rw [ew, hw]
        show (if (resX (qSem z) x).word = "ask" then _ else _) = _
        rw [if_neg (by rw [er]; exact (show ¬ (("work" : Str) = "ask") by decide)), nx]
      have mi : midX (qSem z) x = { x with ps := come x.ps (comersH h t), m := joinA h t (atA z h t), comings := clearAll x.comings (comersH h t) } := by
        unfold midX
        rw [er, em, ec]
        show Mach.mk _ _ ((if goneB ("work" : Str) = true then _ else joinA h t (atA z h t)) ++ []) _ _ _ _ _ _ = _
        rw [if_neg (by decide), List.append_nil]
      refine ⟨⟨ok.1, sz, okj, okp, fun w' hw' => ?_, ⟨by rw [em]; exact jl, by rw [er]; exact Nat.zero_le _, fun y => (by rw [er] at y; exact absurd y (show ¬ goneB ("work" : Str) = true by decide))⟩⟩, .inl (by rw [er]), ?_⟩
      · rw [ew, hw] at hw'
        cases hw'
        refine ⟨by rw [r.lp]; exact wl, fun y => ?_⟩
        rw [nx] at y
        exact absurd y (show ¬ (("work" : Str) = "take" ∨ ("work" : Str) = "give") by decide)
      · unfold tickM
        rw [ad, mi]
        unfold advM
        rw [if_neg (show ¬ (("work" : Str) = "end") by decide), if_pos rfl]
        split
        · next hlt =>
          have hlt : x.worked.getD w 0 + 1 < k := hlt
          refine key x.reached (x.worked.set w (x.worked.getD w 0 + 1)) r.lr (by rw [List.length_set]; exact r.lw) (fun _ _ => rfl) (fun i hi => getD_set' hi) fun k' n' p' => ?_
          obtain ⟨rfl, rfl⟩ := pgm_eq p p' (by omega)
          rw [getD_set (by rw [r.lw]; exact wl), if_pos rfl]
          exact ⟨p1, fun y => absurd y (by omega), hlt, by omega⟩
        · next hlt =>
          have hlt : ¬ x.worked.getD w 0 + 1 < k := hlt
          refine key (x.reached.set w (x.reached.getD w 0 + 1)) (x.worked.set w 0) (by rw [List.length_set]; exact r.lr) (by rw [List.length_set]; exact r.lw) (fun i hi => getD_set' hi) (fun i hi => getD_set' hi) fun k' n' p' => ?_
          obtain ⟨rfl, rfl⟩ := pgm_eq p p' (by omega)
          rw [getD_set (by rw [r.lr]; exact wl), if_pos rfl, getD_set (by rw [r.lw]; exact wl), if_pos rfl, Nat.succ_mul]
          exact ⟨by omega, fun _ => rfl, p.k1, by omega⟩
    · rw [if_neg lt] at nx
      have rn : x.reached.getD w 0 = n := by omega
      have w0 := p2 rn
      have l1 : (atA z h t).left.getD w 0 = 1 := by
        rw [rn, w0] at p4
        omega
      have ed : deedX (qSem z) x = some (w, ("end" : Str), 0) := by unfold deedX; rw [ew, hw]; show some (w, (nextM x w).1, (nextM x w).2) = _; rw [nx]
      have er : resX (qSem z) x = ⟨(come x.ps (comersH h t)).set w 0, x.hs, "leave", []⟩ := by unfold resX; rw [ed, ec]; exact deedM_end _ _ _ _
      have qa : qAft z h t w = (joinA h t (atA z h t)).filter fun s => decide (some s ≠ some w) := by
        unfold qAft
        refine List.filter_congr fun s hs => ?_
        rw [getD_set wll]
        by_cases e : s = w
        · rw [if_pos e, l1, e]
          simp
        · rw [if_neg e, decide_eq_true (show 0 < (atA z h t).left.getD s 0 from rel_pos o r (j.lt s hs) (j.act s hs))]
          exact (decide_eq_true (show some s ≠ some w from fun y => e (Option.some.inj y))).symm
      have qm : ∀ i, i ∈ qAft z h t w ↔ i ∈ joinA h t (atA z h t) ∧ i ≠ w := fun i => by
        rw [qa, List.mem_filter, decide_eq_true_eq]
        exact ⟨fun ⟨a, b⟩ => ⟨a, fun y => b (by rw [y])⟩, fun ⟨a, b⟩ => ⟨a, fun y => b (Option.some.inj y)⟩⟩
      have ad : advX (qSem z) x = advM (midX (qSem z) x) w (("end" : Str), 0) := by
        unfold advX
        rw [ew, hw]
        show (if (resX (qSem z) x).word = "ask" then _ else _) = _
        rw [if_neg (by rw [er]; exact (show ¬ (("leave" : Str) = "ask") by decide)), nx]
      have mi : midX (qSem z) x = { x with ps := (come x.ps (comersH h t)).set w 0, m := qAft z h t w, comings := clearAll x.comings (comersH h t) } := by
        unfold midX
        rw [er, em, ec, ew, hw, qa]
        show Mach.mk _ _ ((if goneB ("leave" : Str) = true then (joinA h t (atA z h t)).filter (fun s => decide (some s ≠ some w)) else _) ++ []) _ _ _ _ _ _ = _
        rw [if_pos (by decide), List.append_nil]
      refine ⟨⟨ok.1, sz, okj, okp, fun w' hw' => ?_, ⟨by rw [em]; exact jl, by rw [er]; exact Nat.zero_le _, fun _ => by rw [ew, hw]; exact fun y => nomatch y⟩⟩, .inr (.inl (by rw [er])), ?_⟩
      · rw [ew, hw] at hw'
        cases hw'
        refine ⟨by rw [r.lp]; exact wl, fun y => ?_⟩
        rw [nx] at y
        exact absurd y (show ¬ (("end" : Str) = "take" ∨ ("end" : Str) = "give") by decide)
      · unfold tickM
        rw [ad, mi]
        unfold advM
        rw [if_pos rfl]
        refine rel_next o r hw (by show x.clock + 1 = _; rw [r.clock]) rfl r.hs r.progs (by show (List.set _ _ _).length = _; rw [List.length_set]; exact j.pl) r.lr r.lw j.cl (by show (List.set _ _ _).length = _; rw [List.length_set]; exact r.lf) (fun i hi => ?_) j.co (fun _ _ => rfl) (fun _ _ => rfl) (fun i hi => getD_set' hi) (fun y => absurd rfl ((qm w).mp y).2) (fun _ => ?_)
        · show ((come x.ps (comersH h t)).set w 0).getD i 0 = _
          rw [getD_set (by rw [j.pl]; exact wl)]
          by_cases e : i = w
          · rw [if_pos e, if_neg (fun y => ((qm i).mp y).2 e)]
          · rw [if_neg e, j.ps i hi]
            by_cases g : i ∈ joinA h t (atA z h t)
            · rw [if_pos g, if_pos ((qm i).mpr ⟨g, e⟩)]
            · rw [if_neg g, if_neg (fun y => g ((qm i).mp y).1)]
        · show (x.finishes.set w (some (x.clock + 1))).getD w none = _
          rw [getD_set (by rw [r.lf]; exact wl), if_pos rfl, r.clock]
theorem run_rel {z : Int} (hz : z = 0 ∨ z = -1) {h : Hall} (o : OkH h) : ∀ (n t : Nat) (x : Mach (List Nat)), Rel z h t x → okRuns (qSem z) n x ∧ ∃ N, t ≤ N ∧ N ≤ t + n ∧ Rel z h N (runsM (qSem z) n x).2 ∧ whosM (qSem z) n x = (List.range' t (N - t)).map (outA z h) ∧ (∀ j, t ≤ j → j < N → goesA h j (atA z h j) = true) ∧ (N < t + n → goesA h N (atA z h N) = false) ∧ ∀ y ∈ logsM (qSem z) n x, y.2 = "work" ∨ y.2 = "leave" ∨ y.2 = "none"
  | 0, t, x, r => ⟨okPs_rel o r, t, Nat.le_refl _, Nat.le_refl _, r, by rw [Nat.sub_self]; rfl, fun j a b => absurd b (by omega), fun y => absurd y (by omega), fun y m => nomatch m⟩
  | n + 1, t, x, r => by
    have hgo := rel_goes r
    by_cases hb : goesB x = true
    · have hg : goesA h t (atA z h t) = true := by rw [← hgo]; exact hb
      obtain ⟨s1, s2, s3⟩ := rel_step hz o r hg
      obtain ⟨i1, N, a1, a2, a3, a4, a5, a6, a7⟩ := run_rel hz o n (t + 1) _ s3
      have e1 : runsM (qSem z) (n + 1) x = (rowD (qSem z) x :: (runsM (qSem z) n (tickM (qSem z) x)).1, (runsM (qSem z) n (tickM (qSem z) x)).2) := if_pos hb
      have e2 : whosM (qSem z) (n + 1) x = whoM (qSem z) x :: whosM (qSem z) n (tickM (qSem z) x) := if_pos hb
      have e3 : logsM (qSem z) (n + 1) x = (whoM (qSem z) x, (resX (qSem z) x).word) :: logsM (qSem z) n (tickM (qSem z) x) := if_pos hb
      obtain ⟨ok1, ok2⟩ := okPs_rel o r
      refine ⟨⟨ok1, ok2, fun _ => ⟨s1, i1⟩⟩, N, by omega, by omega, by rw [e1]; exact a3, ?_, fun j p q => ?_, fun y => a6 (by omega), fun y hy => ?_⟩
      · rw [e2, a4, rel_who r, show N - t = (N - (t + 1)) + 1 by omega, List.range'_succ]
        rfl
      · rcases Nat.lt_or_ge t j with y | y
        · exact a5 j y q
        · have : j = t := by omega
          rw [this]
          exact hg
      · rw [e3] at hy
        rcases List.mem_cons.mp hy with rfl | hy
        · exact s2
        · exact a7 y hy
    · have hf : goesA h t (atA z h t) = false := by rw [← hgo]; exact Bool.eq_false_iff.mpr hb
      have e1 : runsM (qSem z) (n + 1) x = ([], x) := if_neg hb
      have e2 : whosM (qSem z) (n + 1) x = [] := if_neg hb
      have e3 : logsM (qSem z) (n + 1) x = [] := if_neg hb
      obtain ⟨ok1, ok2⟩ := okPs_rel o r
      refine ⟨⟨ok1, ok2, fun y => absurd y hb⟩, t, Nat.le_refl _, by omega, by rw [e1]; exact r, by rw [e2, Nat.sub_self]; rfl, fun j a b => absurd b (by omega), fun _ => hf, fun y hy => (by rw [e3] at hy; cases hy)⟩
/-- the whole run of 200 units -/
structure Whole (z : Int) (h : Hall) (N : Nat) : Prop where
  ok : okRuns (qSem z) 200 (machH (qSem z) h)
  nN : N ≤ 52
  rel : Rel z h N (runsM (qSem z) 200 (machH (qSem z) h)).2
  whos : whosM (qSem z) 200 (machH (qSem z) h) = (List.range N).map (outA z h)
  goes : ∀ j, j < N → goesA h j (atA z h j) = true
  stop : goesA h N (atA z h N) = false
  logs : ∀ y ∈ logsM (qSem z) 200 (machH (qSem z) h), y.2 = "work" ∨ y.2 = "leave" ∨ y.2 = "none"
theorem sum_bd : ∀ {l : List Nat}, (∀ n ∈ l, n ≤ 11) → l.sum ≤ 11 * l.length
  | [], _ => Nat.le_refl _
  | a :: l, h => by
    have ih := sum_bd (l := l) fun n m => h n (List.mem_cons_of_mem _ m)
    have := h a List.mem_cons_self
    rw [List.sum_cons, List.length_cons]
    omega
theorem whole {z : Int} (hz : z = 0 ∨ z = -1) {h : Hall} (o : OkH h) : ∃ N, Whole z h N := by
  obtain ⟨i1, N, a1, a2, a3, a4, a5, a6, a7⟩ := run_rel hz o 200 0 _ (rel_init (z := z) o rfl)
  have hb := a3.bd
  have hs := sum_bd (l := needsN h) fun n m => (o.need n m).2
  rw [needs_len] at hs
  have hl := o.len
  rw [Nat.sub_zero, ← List.range_eq_range'] at a4
  exact ⟨N, i1, by omega, a3, a4, fun j hj => a5 j (Nat.zero_le _) hj, a6 (by omega), a7⟩
end PT
namespace PT
open PySem PySem.Spec PyProof.Rows L2 DA DL
section
variable {z : Int} {h : Hall} {N : Nat}
theorem rel_all (hz : z = 0 ∨ z = -1) (o : OkH h) : ∀ j, (∀ i, i < j → goesA h i (atA z h i) = true) → ∃ x, Rel z h j x
  | 0, _ => ⟨_, rel_init o rfl⟩
  | j + 1, hg => by
    obtain ⟨x, r⟩ := rel_all hz o j fun i hi => hg i (by omega)
    exact ⟨_, (rel_step hz o r (hg j (by omega))).2.2⟩
theorem Whole.q0 (w : Whole z h N) : (atA z h N).q = [] := by
  have := w.stop
  unfold goesA at this
  cases e : (atA z h N).q with
  | nil => rfl
  | cons a b => rw [e] at this; cases this
theorem Whole.past (w : Whole z h N) {i : Nat} (hi : i < h.length) : comesAt h i < N := by
  have := w.stop
  unfold goesA at this
  rcases Nat.lt_or_ge (comesAt h i) N with y | y
  · exact y
  · have m : i ∈ laterH h N := laterH_mem.mpr ⟨hi, y⟩
    cases e : laterH h N with
    | nil => rw [e] at m; cases m
    | cons a b => rw [e, w.q0] at this; cases this
theorem Whole.left0 (w : Whole z h N) {i : Nat} (hi : i < h.length) : (atA z h N).left.getD i 0 = 0 := (w.rel.gone i hi (by rw [w.q0]; exact fun y => nomatch y) (w.past hi)).1
theorem Whole.srv (w : Whole z h N) (i : Nat) (hi : i < h.length) : (whosM (qSem z) 200 (machH (qSem z) h)).count (some i) = (needsN h).getD i 0 := by
  have := w.rel.cnt i hi
  rw [w.left0 hi] at this
  rw [w.whos]
  exact this
theorem sum0 : ∀ {l : List Nat}, (∀ i, i < l.length → l.getD i 0 = 0) → l.sum = 0
  | [], _ => rfl
  | a :: l, h => by
    have ih := sum0 (l := l) fun i hi => h (i + 1) (Nat.succ_lt_succ hi)
    have h0 : a = 0 := h 0 (Nat.zero_lt_succ _)
    rw [List.sum_cons, ih, h0]
theorem Whole.big (w : Whole z h N) : (needsN h).sum ≤ (whosM (qSem z) 200 (machH (qSem z) h)).length := by
  have h1 := w.rel.bl
  rw [sum0 (l := (atA z h N).left) fun i hi => w.left0 (by rw [← w.rel.ll]; exact hi)] at h1
  rw [w.whos, List.length_map, List.length_range]
  omega
theorem Whole.log (w : Whole z h N) : ∀ x ∈ logsM (qSem z) 200 (machH (qSem z) h), PyData.strOk x.2 = true ∧ x.2 ≠ "ask" := fun x hx => by
  rcases w.logs x hx with e | e | e <;> rw [e] <;> exact ⟨by decide +kernel, by decide⟩
theorem Whole.ended (w : Whole z h N) : endOf (runsM (qSem z) 200 (machH (qSem z) h)).2 = "ended" := by
  have hg : goesB (runsM (qSem z) 200 (machH (qSem z) h)).2 = false := by rw [rel_goes w.rel]; exact w.stop
  unfold endOf
  rw [if_neg (by rw [hg]; decide)]
  have hp : ∀ n ∈ (runsM (qSem z) 200 (machH (qSem z) h)).2.ps, n = 0 := fun n hn => by
    obtain ⟨i, hi, e⟩ := List.mem_iff_getElem.mp hn
    have h1 := w.rel.ps i (by rw [← w.rel.lp]; exact hi)
    rw [List.getD_eq_getElem?_getD, List.getElem?_eq_getElem hi, w.q0, if_neg (fun y => nomatch y)] at h1
    have h1 : (runsM (qSem z) 200 (machH (qSem z) h)).2.ps[i] = 0 := h1
    rw [← e, h1]
  rw [if_neg]
  intro y
  unfold inV at y
  rw [List.any_eq_true] at y
  obtain ⟨v, hv, e⟩ := y
  obtain ⟨n, hn, rfl⟩ := List.mem_map.mp hv
  rw [hp n hn] at e
  exact absurd e (by decide +kernel)
theorem Whole.fin (w : Whole z h N) (s : Nat) (hs : s < h.length) : ∃ v j, (runsM (qSem z) 200 (machH (qSem z) h)).2.finishes[s]? = some (some v) ∧ ((List.range N).map (outA z h)).reverse[j]? = some (some s) ∧ (∀ m, m < j → ((List.range N).map (outA z h)).reverse[m]? ≠ some (some s)) ∧ v = ((List.range N).map (outA z h)).length - j := by
  obtain ⟨_, v, g2, g3, g4, g5, g6⟩ := w.rel.gone s hs (by rw [w.q0]; exact fun y => nomatch y) (w.past hs)
  have at_ : ∀ m, m < N → ((List.range N).map (outA z h)).reverse[m]? = some (outA z h (N - 1 - m)) := fun m hm => by
    rw [List.getElem?_reverse (by rw [List.length_map, List.length_range]; exact hm), List.getElem?_map, List.length_map, List.length_range, List.getElem?_range (by omega)]
    rfl
  refine ⟨v, N - v, ?_, ?_, fun m hm => ?_, by rw [List.length_map, List.length_range]; omega⟩
  · have hl : s < (runsM (qSem z) 200 (machH (qSem z) h)).2.finishes.length := by rw [w.rel.lf]; exact hs
    rw [List.getD_eq_getElem?_getD, List.getElem?_eq_getElem hl] at g2
    have g2 : (runsM (qSem z) 200 (machH (qSem z) h)).2.finishes[s] = some v := g2
    rw [List.getElem?_eq_getElem hl, g2]
  · rw [at_ _ (by omega), show N - 1 - (N - v) = v - 1 by omega, g5]
  · rw [at_ _ (by omega)]
    intro y
    exact g6 (N - 1 - m) (by omega) (by omega) (Option.some.inj y)
end
theorem pr_all : ∀ n : Nat, n < 3 → ∀ k : Nat, k < 6 → 1 ≤ k → K11.progD (.list ((List.replicate n (("work" : Str), k)).map encDd)) = true := by decide +kernel
theorem sch_all : ∀ n : Nat, n < 5 → 1 ≤ n → K13.schedD schF (.int (n : Int)) = true ∧ K13.schedD schL (.int (n : Int)) = true := by decide +kernel
theorem OkH.prog {h : Hall} (o : OkH h) : ∀ x ∈ h, K11.progD (encPr x.2) = true := fun x hx => by
  obtain ⟨_, k, n, k1, k5, n2, e⟩ := o.ok x hx
  unfold encPr
  rw [e]
  exact pr_all n (by omega) k (by omega) k1
theorem OkH.hall {h : Hall} (o : OkH h) : hallD (encHall h) = true := by
  have hl := o.len
  show (decide (1 ≤ (hallL h).length) && decide ((hallL h).length ≤ 4) && (hallL h).all procD) = true
  rw [Bool.and_eq_true, Bool.and_eq_true, List.length_map]
  refine ⟨⟨decide_eq_true hl.1, decide_eq_true hl.2⟩, List.all_eq_true.mpr fun d hd => ?_⟩
  obtain ⟨x, hx, rfl⟩ := List.mem_map.mp hd
  show (K11.numD (intD x.1) 0 99 && K11.progD (encPr x.2)) = true
  rw [Bool.and_eq_true]
  refine ⟨?_, o.prog x hx⟩
  have := (o.ok x hx).1
  show (decide ((0 : Int) ≤ (x.1 : Int)) && decide ((x.1 : Int) ≤ 99)) = true
  rw [Bool.and_eq_true]
  exact ⟨decide_eq_true (by omega), decide_eq_true (by omega)⟩
end PT
namespace PT
open PySem PySem.Spec PyProof.Rows L2 DA DL
def comeQ (h : Hall) (u : Nat) : List (Nat × Nat) := (comersH h u).map fun i => (u, i)
def restQ (h : Hall) (t : Nat) : List (Nat × Nat) := (List.range' t (9 - t)).flatMap (comeQ h)
theorem rest_mem {h : Hall} {t : Nat} {p : Nat × Nat} : p ∈ restQ h t ↔ t ≤ p.1 ∧ p.1 < 9 ∧ p.2 < h.length ∧ comesAt h p.2 = p.1 := by
  unfold restQ comeQ
  rw [List.mem_flatMap]
  constructor
  · rintro ⟨u, hu, hp⟩
    obtain ⟨i, hi, rfl⟩ := List.mem_map.mp hp
    obtain ⟨h1, h2⟩ := comersH_mem.mp hi
    have hu := List.mem_range'_1.mp hu
    exact ⟨hu.1, by show u < 9; omega, h1, h2⟩
  · rintro ⟨h1, h2, h3, h4⟩
    exact ⟨p.1, List.mem_range'_1.mpr ⟨h1, by omega⟩, List.mem_map.mpr ⟨p.2, comersH_mem.mpr ⟨h3, h4⟩, rfl⟩⟩
theorem rest_lt {h : Hall} {t : Nat} : (restQ h t).Pairwise fun p q => SrtO.lexB (castP p) (castP q) = true := by
  unfold restQ
  rw [List.pairwise_flatMap]
  refine ⟨fun u _ => ?_, ?_⟩
  · unfold comeQ comersH
    rw [List.pairwise_map]
    refine List.Pairwise.filter _ (List.Pairwise.imp ?_ List.pairwise_lt_range)
    intro a b hab
    exact SrtO.lexB_iff.mpr (.inr ⟨rfl, by show (a : Int) < b; omega⟩)
  · refine List.Pairwise.imp ?_ (List.pairwise_lt_range' (step := 1) (by decide))
    intro a b hab p hp q hq
    obtain ⟨i, _, rfl⟩ := List.mem_map.mp hp
    obtain ⟨j, _, rfl⟩ := List.mem_map.mp hq
    exact SrtO.lexB_iff.mpr (.inl (by show (a : Int) < b; omega))
theorem rest_srt {h : Hall} : SrtO.Srtd SrtO.lexB ((restQ h 0).map castP) := by
  refine List.pairwise_map.mpr ?_
  refine List.Pairwise.imp ?_ rest_lt
  intro p q hpq
  have a := SrtO.lexB_iff.mp hpq
  exact SrtO.lexB_no.mpr (by omega)
theorem rest_nd {h : Hall} : (restQ h 0).Nodup := by
  refine List.Pairwise.imp ?_ rest_lt
  intro p q hpq e
  subst e
  have a := SrtO.lexB_iff.mp hpq
  omega
theorem rest_perm {h : Hall} (o : OkH h) : (restQ h 0).Perm (pairsH h) := by
  refine (List.perm_ext_iff_of_nodup rest_nd ?_).mpr fun p => ?_
  · unfold pairsH
    refine List.Pairwise.map _ ?_ (List.nodup_range (n := h.length))
    intro a b hab e
    exact hab (Prod.mk.inj e).2
  · rw [rest_mem]
    unfold pairsH
    rw [List.mem_map]
    constructor
    · rintro ⟨_, _, h3, h4⟩
      exact ⟨p.2, List.mem_range.mpr h3, by rw [h4]⟩
    · rintro ⟨i, hi, rfl⟩
      have hi := List.mem_range.mp hi
      have := o.c8 hi
      exact ⟨Nat.zero_le _, by show comesAt h i < 9; omega, hi, rfl⟩
theorem rest_succ {h : Hall} (o : OkH h) (t : Nat) : restQ h t = comeQ h t ++ restQ h (t + 1) := by
  unfold restQ
  rcases Nat.lt_or_ge t 9 with y | y
  · rw [show 9 - t = (9 - (t + 1)) + 1 by omega, List.range'_succ, List.flatMap_cons]
  · have : comeQ h t = [] := by
      unfold comeQ
      rw [List.map_eq_nil_iff]
      refine List.eq_nil_iff_forall_not_mem.mpr fun i hi => ?_
      obtain ⟨h1, h2⟩ := comersH_mem.mp hi
      have := o.c8 h1
      omega
    rw [this, show 9 - t = 0 by omega, show 9 - (t + 1) = 0 by omega]
    rfl
def blk (l : List Nat) (q : List Nat) : List (Option Nat) := q.flatMap fun s => List.replicate (l.getD s 0) (some s)
theorem fold_come (nd : List Nat) (t : Nat) : ∀ (cs : List Nat) (acc : List (Option Nat)), t ≤ acc.length → (cs.map fun i => (t, i)).foldl (lineStep nd) acc = acc ++ blk nd cs
  | [], acc, _ => by unfold blk; simp
  | c :: cs, acc, h => by
    show (cs.map fun i => (t, i)).foldl (lineStep nd) (lineStep nd acc (t, c)) = _
    have e : lineStep nd acc (t, c) = acc ++ List.replicate (nd.getD c 0) (some c) := by
      unfold lineStep
      rw [show t - acc.length = 0 by omega]
      simp
    rw [e, fold_come nd t cs _ (by rw [List.length_append]; omega)]
    unfold blk
    rw [List.flatMap_cons, List.append_assoc]
theorem blk_congr {l l' : List Nat} : ∀ {q : List Nat}, (∀ s ∈ q, l.getD s 0 = l'.getD s 0) → blk l q = blk l' q
  | [], _ => rfl
  | s :: q, h => by
    have ih := blk_congr (l := l) (l' := l') (q := q) fun s m => h s (List.mem_cons_of_mem _ m)
    unfold blk at ih ⊢
    rw [List.flatMap_cons, List.flatMap_cons, ih, h s List.mem_cons_self]
theorem blk_flt (l : List Nat) : ∀ q : List Nat, blk l (q.filter fun s => decide (0 < l.getD s 0)) = blk l q
  | [] => rfl
  | s :: q => by
    have ih := blk_flt l q
    rw [List.filter_cons]
    split
    · unfold blk at ih ⊢
      rw [List.flatMap_cons, List.flatMap_cons, ih]
    · next hn =>
      have : l.getD s 0 = 0 := by
        have : ¬ 0 < l.getD s 0 := fun y => hn (decide_eq_true y)
        omega
      rw [ih]
      unfold blk
      rw [List.flatMap_cons, this]
      rfl
theorem blk_app (l a b : List Nat) : blk l (a ++ b) = blk l a ++ blk l b := List.flatMap_append
theorem step_none {nd : List Nat} {acc : List (Option Nat)} {p : Nat × Nat} (h : acc.length + 1 ≤ p.1) : lineStep nd acc p = lineStep nd (acc ++ [none]) p := by
  unfold lineStep
  rw [List.length_append, List.length_singleton, show p.1 - acc.length = (p.1 - (acc.length + 1)) + 1 by omega, List.replicate_succ]
  simp
def outs (h : Hall) (t : Nat) : List (Option Nat) := (List.range t).map (outA 0 h)
theorem outs_succ (h : Hall) (t : Nat) : outs h (t + 1) = outs h t ++ [outA 0 h t] := by
  unfold outs
  rw [List.range_succ, List.map_append]
  rfl
theorem outs_len (h : Hall) (t : Nat) : (outs h t).length = t := by unfold outs; rw [List.length_map, List.length_range]
theorem line_at {h : Hall} (o : OkH h) : ∀ t, (∀ i, i < t → goesA h i (atA 0 h i) = true) → (restQ h 0).foldl (lineStep (needsN h)) [] = (restQ h t).foldl (lineStep (needsN h)) (outs h t ++ blk (atA 0 h t).left (atA 0 h t).q)
  | 0, _ => rfl
  | t + 1, hg => by
    rw [line_at o t fun i hi => hg i (by omega)]
    obtain ⟨x, r⟩ := rel_all (.inl rfl) o t fun i hi => hg i (by omega)
    have j := rel_jn o r
    have hgt := hg t (by omega)
    rw [rest_succ o t, List.foldl_append]
    have e1 : (comeQ h t).foldl (lineStep (needsN h)) (outs h t ++ blk (atA 0 h t).left (atA 0 h t).q) = outs h t ++ blk (atA 0 h t).left (joinA h t (atA 0 h t)) := by
      unfold comeQ
      rw [fold_come _ _ _ _ (by rw [List.length_append, outs_len]; omega)]
      unfold joinA
      rw [blk_app, List.append_assoc]
      congr 2
      refine blk_congr fun s hs => ?_
      obtain ⟨h1, h2⟩ := comersH_mem.mp hs
      exact (r.new s h1 (by omega)).symm
    rw [e1, outs_succ]
    cases hw : outA 0 h t with
    | none =>
      have q0 : joinA h t (atA 0 h t) = [] := pick_none (z := 0) hw
      have ea := at_none hw
      rw [ea, q0]
      show (restQ h (t + 1)).foldl _ (outs h t ++ []) = (restQ h (t + 1)).foldl _ (outs h t ++ [none] ++ [])
      rw [List.append_nil, List.append_nil]
      cases e : restQ h (t + 1) with
      | nil =>
        -- somebody is still to come
        exfalso
        have q00 : (atA 0 h t).q = [] := (List.append_eq_nil_iff.mp q0).1
        have c00 : comersH h t = [] := (List.append_eq_nil_iff.mp q0).2
        have hla : laterH h t ≠ [] := fun y => by
          unfold goesA at hgt
          rw [q00, y] at hgt
          cases hgt
        obtain ⟨i, hi⟩ := List.exists_mem_of_ne_nil _ hla
        obtain ⟨h1, h2⟩ := laterH_mem.mp hi
        have h3 := o.c8 h1
        have h4 : comesAt h i ≠ t := fun y => by
          have : i ∈ comersH h t := comersH_mem.mpr ⟨h1, y⟩
          rw [c00] at this
          cases this
        have : (comesAt h i, i) ∈ restQ h (t + 1) := rest_mem.mpr ⟨by show t + 1 ≤ comesAt h i; omega, by show comesAt h i < 9; omega, h1, rfl⟩
        rw [e] at this
        cases this
      | cons p ps =>
        have hp : p ∈ restQ h (t + 1) := by rw [e]; exact List.mem_cons_self
        rw [List.foldl_cons, List.foldl_cons, ← step_none (by rw [outs_len]; exact (rest_mem.mp hp).1)]
    | some w =>
      have ea := at_some hw
      have wj : w ∈ joinA h t (atA 0 h t) := pick_mem (z := 0) hw
      have wl := j.lt w wj
      have wp := rel_pos o r wl (j.act w wj)
      have wll : w < (atA 0 h t).left.length := by rw [r.ll]; exact wl
      have hh : (joinA h t (atA 0 h t)).head? = some w := hw
      have nd := j.nd
      rw [ea]
      unfold qAft
      rw [blk_flt]
      cases ej : joinA h t (atA 0 h t) with
      | nil => rw [ej] at hh; cases hh
      | cons a q =>
        rw [ej] at hh nd
        cases hh
        have hn := (List.nodup_cons.mp nd).1
        have e2 : blk (atA 0 h t).left (w :: q) = some w :: blk ((atA 0 h t).left.set w ((atA 0 h t).left.getD w 0 - 1)) (w :: q) := by
          unfold blk
          rw [List.flatMap_cons, List.flatMap_cons, getD_set wll, if_pos rfl]
          have e3 : List.replicate ((atA 0 h t).left.getD w 0) (some w) = some w :: List.replicate ((atA 0 h t).left.getD w 0 - 1) (some w) := by
            rw [← List.replicate_succ]
            congr 1
            omega
          rw [e3]
          show some w :: _ = some w :: _
          congr 2
          exact blk_congr fun s hs => (getD_set' fun y => hn (by rw [← y]; exact hs)).symm
        rw [e2]
        simp
theorem line_end {h : Hall} {N : Nat} (o : OkH h) (w : Whole 0 h N) : (restQ h 0).foldl (lineStep (needsN h)) [] = outs h N := by
  rw [line_at o N fun i hi => w.goes i hi, w.q0]
  have : restQ h N = [] := List.eq_nil_iff_forall_not_mem.mpr fun p hp => by
    obtain ⟨h1, _, h3, h4⟩ := rest_mem.mp hp
    have := w.past h3
    omega
  rw [this]
  show outs h N ++ [] = _
  rw [List.append_nil]
end PT
namespace PT
open PySem PySem.Spec PyProof.Rows L2 DA DL
theorem sw_one (a : Nat) : swN [a] = 0 := rfl
theorem sw_cons (a b : Nat) (r : List Nat) : swN (a :: b :: r) = (if b != a then 1 else 0) + swN (b :: r) := by
  unfold swN
  rw [show (a :: b :: r).length - 1 = r.length + 1 by simp, show (b :: r).length - 1 = r.length by simp, List.range_succ_eq_map, List.filter_cons, List.filter_map]
  have e : ((List.range r.length).filter ((fun i => (a :: b :: r).getD (i + 1) 0 != (a :: b :: r).getD i 0) ∘ Nat.succ)) = (List.range r.length).filter fun i => (b :: r).getD (i + 1) 0 != (b :: r).getD i 0 := List.filter_congr fun i _ => rfl
  rw [e]
  show List.length (if (b != a) = true then _ else _) = _
  split
  · rw [List.length_cons, List.length_map]; omega
  · rw [List.length_map]; omega
theorem sw_rep (a : Nat) : ∀ (m : Nat) (r : List Nat), swN (List.replicate (m + 1) a ++ r) = swN (a :: r)
  | 0, r => rfl
  | m + 1, r => by
    rw [List.replicate_succ, List.replicate_succ]
    show swN (a :: a :: (List.replicate m a ++ r)) = _
    rw [sw_cons]
    have ih := sw_rep a m r
    rw [List.replicate_succ] at ih
    rw [show (a != a) = false by simp]
    simp only [Bool.false_eq_true, if_false, Nat.zero_add]
    exact ih
theorem sw_blocks (nd : List Nat) : ∀ (ss : List Nat), ss.Nodup → (∀ s ∈ ss, 1 ≤ nd.getD s 0) → swN (ss.flatMap fun s => List.replicate (nd.getD s 0) s) = ss.length - 1
  | [], _, _ => rfl
  | [s], _, h => by
    have := h s List.mem_cons_self
    rw [List.flatMap_cons, show nd.getD s 0 = (nd.getD s 0 - 1) + 1 by omega, sw_rep]
    rfl
  | s :: s' :: ss, nodup, h => by
    have h1 := h s List.mem_cons_self
    have h2 := h s' (List.mem_cons_of_mem _ List.mem_cons_self)
    have ih := sw_blocks nd (s' :: ss) (List.nodup_cons.mp nodup).2 fun x m => h x (List.mem_cons_of_mem _ m)
    rw [List.flatMap_cons] at ih
    rw [List.flatMap_cons, List.flatMap_cons]
    obtain ⟨c, hc⟩ : ∃ c, nd.getD s 0 = c + 1 := ⟨nd.getD s 0 - 1, by omega⟩
    obtain ⟨c', hc'⟩ : ∃ c, nd.getD s' 0 = c + 1 := ⟨nd.getD s' 0 - 1, by omega⟩
    rw [hc'] at ih ⊢
    rw [hc, sw_rep, List.replicate_succ]
    rw [List.replicate_succ] at ih
    show swN (s :: s' :: (List.replicate c' s' ++ _)) = _
    rw [sw_cons]
    have ne : s' ≠ s := fun y => (List.nodup_cons.mp nodup).1 (by rw [← y]; exact List.mem_cons_self)
    rw [if_pos (by simpa using ne)]
    have ih : swN (s' :: (List.replicate c' s' ++ List.flatMap (fun s => List.replicate (nd.getD s 0) s) ss)) = _ := ih
    rw [ih]
    simp only [List.length_cons]
    omega
theorem rnrs_step (nd : List Nat) (L : List (Option Nat)) (p : Nat × Nat) : rnrs (lineStep nd L p) = rnrs L ++ List.replicate (nd.getD p.2 0) p.2 := by
  unfold rnrs lineStep
  rw [List.filterMap_append, List.filterMap_append, List.filterMap_replicate_of_none rfl, List.filterMap_replicate_of_some (f := id) (a := some p.2) (b := p.2) rfl, List.append_nil]
theorem rnrs_fold (nd : List Nat) : ∀ (qs : List (Nat × Nat)) (L : List (Option Nat)), rnrs (qs.foldl (lineStep nd) L) = rnrs L ++ (qs.map (·.2)).flatMap fun s => List.replicate (nd.getD s 0) s
  | [], L => by simp
  | p :: qs, L => by
    rw [List.foldl_cons, rnrs_fold nd qs, rnrs_step, List.map_cons, List.flatMap_cons, List.append_assoc]
theorem sw_line {h : Hall} (o : OkH h) : swN (rnrs ((restQ h 0).foldl (lineStep (needsN h)) [])) = h.length - 1 := by
  have p := rest_perm o
  have e : (pairsH h).map (·.2) = List.range h.length := by
    unfold pairsH
    rw [List.map_map]
    exact List.map_id' _
  have pm : ((restQ h 0).map (·.2)).Perm (List.range h.length) := by rw [← e]; exact p.map _
  rw [rnrs_fold]
  show swN ([] ++ _) = _
  rw [List.nil_append, sw_blocks]
  · rw [pm.length_eq, List.length_range]
  · exact (pm.nodup_iff).mpr List.nodup_range
  · intro s hs
    have hs := List.mem_range.mp (pm.mem_iff.mp hs)
    have hl : s < (needsN h).length := by rw [needs_len]; exact hs
    rw [List.getD_eq_getElem?_getD, List.getElem?_eq_getElem hl]
    exact (o.need _ (List.getElem_mem hl)).1
theorem the_lm (h : Hall) (h1 : 1 ≤ h.length) (h4 : h.length ≤ 4) (hX : ∀ x ∈ h, okX x) : ∃ qs line N, LM h qs line N := by
  have o : OkH h := ⟨⟨h1, h4⟩, hX⟩
  obtain ⟨N0, w0⟩ := whole (z := 0) (.inl rfl) o
  obtain ⟨N, w⟩ := whole (z := -1) (.inr rfl) o
  have el := line_end o w0
  have sc := sch_all h.length (by omega) h1
  have rj : ∀ j, j ≤ N → ∃ x, Rel (-1) h j x := fun j hj => rel_all (.inr rfl) o j fun i hi => w.goes i (by omega)
  refine ⟨restQ h 0, outs h N0, N, ?_⟩
  exact {
    len := ⟨h1, h4⟩
    pr := o.prog
    oF := ⟨o.hall, sc.1, by decide, w0.ok⟩
    oL := ⟨o.hall, sc.2, by decide, w.ok⟩
    need := o.need
    srt := rest_srt
    perm := rest_perm o
    small := fun p hp => by
      obtain ⟨_, h2, h3, _⟩ := rest_mem.mp hp
      exact ⟨by omega, h3⟩
    eline := el.symm
    run0 := w0.whos
    ends := w0.ended
    nN := by have := w.nN; omega
    stop := w.stop
    goes := w.goes
    run1 := w.whos
    qlt := fun j hj s hs => by
      obtain ⟨x, r⟩ := rj j hj
      exact (r.ql s hs).1
    qle := fun j hj => by
      obtain ⟨x, r⟩ := rj j hj
      have := nd_len h.length _ r.qn fun i hi => (r.ql i hi).1
      omega
    ll := fun j hj => by
      obtain ⟨x, r⟩ := rj j hj
      exact r.ll
    pos := fun j hj s hs => by
      obtain ⟨x, r⟩ := rj j (by omega)
      have jn := rel_jn o r
      exact rel_pos o r (jn.lt s hs) (jn.act s hs)
    fin := w0.fin
    srvF := w0.srv
    srvL := w.srv
    logF := w0.log
    logL := w.log
    bigF := w0.big
    bigL := w.big
    sw := by rw [← el]; exact sw_line o }
end PT
namespace PT
open PySem PySem.Spec PyProof.Rows L2 DA DL
open HD (fa2 fn2 ts2 tf2 ex2 hD hM)
theorem funD_fun {K : PySem.W.Frag} {x q : Str} {st : Stmt} {f : Addr} {fd : FuncData} (F : FunD K x q (defArgs st) (defBody st) (defScope st) [] [] f fd) : Fun K x q st f fd := by
  obtain ⟨oc, od, dV, kV, doc, pm, an, cdv, ct, osl, h1, h2, h3, h4, h5⟩ := F.ex
  rcases h4 with ⟨_, rfl⟩ | ⟨e, _⟩
  · exact ⟨⟨oc, od, kV, doc, pm, an, cdv, ct, osl, h1, h2, h3⟩, F.kp⟩
  · exact absurd rfl e
theorem funD_funC {K : PySem.W.Frag} {x : Str} {st : Stmt} {fd : FuncData} (F : FunD K x x (defArgs st) (defBody st) (defScope st) [] [] (He.fAd K (x, none)) fd) : FunC K x x st (He.fAd K (x, none)) fd (He.codeOf K (x, none)) := by
  obtain ⟨oc, od, dV, kV, doc, pm, an, cdv, ct, osl, h1, h2, h3, h4, h5⟩ := F.ex
  rcases h4 with ⟨_, rfl⟩ | ⟨e, _⟩
  · obtain ⟨c, rfl⟩ := He.codeIn_ref h3
    have ec : He.codeOf K (x, none) = c := He.codeOf_eq h2 (by rw [h1])
    rw [ec]
    exact ⟨⟨oc, od, kV, doc, pm, an, ct, osl, h1, h2, h3⟩, F.kp⟩
  · exact absurd rfl e
theorem triples_nil : TriplesOk (#[] : Array Value).toList := by first | trivial | exact True.intro | (unfold TriplesOk; trivial) | constructor
theorem dict_at {K : PySem.W.Frag} {w : World} {a : Addr} {ks : List Str} (h : He.dicW K a = some (He.keysIn w.params ks)) : ∃ es n, KDict K w a es n ∧ es.toList.map He.keyOf = He.keysIn w.params ks := by
  obtain ⟨es, n, D⟩ := He.dicW_ok h
  refine ⟨es, n, D, ?_⟩
  unfold He.dicW at h
  rw [D.at_] at h
  have e : (decide (("dict" : String) = "dict") && ((#[] : Array (Option Value)).isEmpty && !(a == sysModules))) = true := by
    rw [D.low]; rfl
  have h2 : (match decide (("dict" : String) = "dict") && ((#[] : Array (Option Value)).isEmpty && !(a == sysModules)) with
    | true => some (es.toList.map He.keyOf)
    | false => none) = some (He.keysIn w.params ks) := h
  rw [e] at h2
  exact Option.some.inj h2
theorem tup_strs {K : PySem.W.Frag} {H : Hp} : ∀ (xs : List Str), DpAll K H (xs.map V.str) (xs.map PyData.str)
  | [] => .nil
  | x :: xs => .cons (.str x) (tup_strs xs)
theorem q_hno (z : Int) : ∀ m ∈ (["fresh", "joined", "pick", "settled"] : List Str), (qFs z).lookup m = none := by
  intro m hm
  simp only [List.mem_cons, List.not_mem_nil, or_false] at hm
  rcases hm with rfl | rfl | rfl | rfl <;> rfl
theorem law_at {w : World} {K : PySem.W.Frag} {h : Heap} {mg : Str → Option Value} {fl : Addr} (X : K.In h) (Gm : h.Ns mainGlobals mg) (hfa : mg ("law" : Str) = some (.ref fl)) (c : He.SaysX fa2 fn2 ts2 tf2 ex2 w h K) :
    LamX.LawAtS PySem.Challenge.rw_processturns_k02_whole_queues w K CX0 17 63 "_law_script" mg fl h := by
  have cd : He.SaysD fa2 fn2 K := c.t.d
  have cx := c.more
  unfold ex2 at cx
  obtain ⟨x0, cx⟩ := He.ba cx
  obtain ⟨x1, cx⟩ := He.ba cx
  obtain ⟨x2, cx⟩ := He.ba cx
  obtain ⟨x3, cx⟩ := He.ba cx
  obtain ⟨x4, cx⟩ := He.ba cx
  obtain ⟨x5, cx⟩ := He.ba cx
  obtain ⟨x6, cx⟩ := He.ba cx
  obtain ⟨x7, cx⟩ := He.ba cx
  obtain ⟨x8, cx⟩ := He.ba cx
  obtain ⟨x9, cx⟩ := He.ba cx
  obtain ⟨x10, cx⟩ := He.ba cx
  have x11 := cx
  obtain ⟨d_is_number, D_is_number⟩ := cd.def_ 0 (d := hD "is_number" 9) rfl
  have D_is_number : FunD K "is_number" "is_number" (defArgs (top 9)) (defBody (top 9)) (defScope (top 9)) [] [] (He.fAd K ("is_number", none)) d_is_number := D_is_number
  have g_is_number : mg "is_number" = some (.ref (He.fAd K ("is_number", none))) := He.glo_ok X Gm (cd.fact 0 (f := .glo "is_number") rfl)
  have F_is_number := funD_fun (st := top 9) D_is_number
  have b_is_number : Binds K d_is_number ["value", "least", "greatest"] [] := D_is_number.bindsN fun _ _ _ _ _ _ us hl => match us, hl with | [_, _, _], _ => rfl
  obtain ⟨d_is_row, D_is_row⟩ := cd.def_ 1 (d := hD "is_row" 10) rfl
  have D_is_row : FunD K "is_row" "is_row" (defArgs (top 10)) (defBody (top 10)) (defScope (top 10)) [] [] (He.fAd K ("is_row", none)) d_is_row := D_is_row
  have g_is_row : mg "is_row" = some (.ref (He.fAd K ("is_row", none))) := He.glo_ok X Gm (cd.fact 1 (f := .glo "is_row") rfl)
  have F_is_row := funD_funC (st := top 10) D_is_row
  have b_is_row : Binds K d_is_row ["value", "many", "least", "greatest"] [] := D_is_row.bindsN fun _ _ _ _ _ _ us hl => match us, hl with | [_, _, _, _], _ => rfl
  obtain ⟨d_check_number, D_check_number⟩ := cd.def_ 2 (d := hD "check_number" 11) rfl
  have D_check_number : FunD K "check_number" "check_number" (defArgs (top 11)) (defBody (top 11)) (defScope (top 11)) [] [] (He.fAd K ("check_number", none)) d_check_number := D_check_number
  have g_check_number : mg "check_number" = some (.ref (He.fAd K ("check_number", none))) := He.glo_ok X Gm (cd.fact 2 (f := .glo "check_number") rfl)
  have F_check_number := funD_fun (st := top 11) D_check_number
  have b_check_number : Binds K d_check_number ["value", "least", "greatest"] [] := D_check_number.bindsN fun _ _ _ _ _ _ us hl => match us, hl with | [_, _, _], _ => rfl
  obtain ⟨d_is_ready, D_is_ready⟩ := cd.def_ 3 (d := hD "is_ready" 19) rfl
  have D_is_ready : FunD K "is_ready" "is_ready" (defArgs (top 19)) (defBody (top 19)) (defScope (top 19)) [] [] (He.fAd K ("is_ready", none)) d_is_ready := D_is_ready
  have g_is_ready : mg "is_ready" = some (.ref (He.fAd K ("is_ready", none))) := He.glo_ok X Gm (cd.fact 3 (f := .glo "is_ready") rfl)
  have F_is_ready := funD_fun (st := top 19) D_is_ready
  have b_is_ready : Binds K d_is_ready ["post"] [] := D_is_ready.bindsN fun _ _ _ _ _ _ us hl => match us, hl with | [_], _ => rfl
  obtain ⟨d_ready_slots, D_ready_slots⟩ := cd.def_ 4 (d := hD "ready_slots" 20) rfl
  have D_ready_slots : FunD K "ready_slots" "ready_slots" (defArgs (top 20)) (defBody (top 20)) (defScope (top 20)) [] [] (He.fAd K ("ready_slots", none)) d_ready_slots := D_ready_slots
  have g_ready_slots : mg "ready_slots" = some (.ref (He.fAd K ("ready_slots", none))) := He.glo_ok X Gm (cd.fact 4 (f := .glo "ready_slots") rfl)
  have F_ready_slots := funD_fun (st := top 20) D_ready_slots
  have b_ready_slots : Binds K d_ready_slots ["posts"] [] := D_ready_slots.bindsN fun _ _ _ _ _ _ us hl => match us, hl with | [_], _ => rfl
  obtain ⟨d_with_item, D_with_item⟩ := cd.def_ 5 (d := hD "with_item" 21) rfl
  have D_with_item : FunD K "with_item" "with_item" (defArgs (top 21)) (defBody (top 21)) (defScope (top 21)) [] [] (He.fAd K ("with_item", none)) d_with_item := D_with_item
  have g_with_item : mg "with_item" = some (.ref (He.fAd K ("with_item", none))) := He.glo_ok X Gm (cd.fact 5 (f := .glo "with_item") rfl)
  have F_with_item := funD_fun (st := top 21) D_with_item
  have b_with_item : Binds K d_with_item ["row", "place", "item"] [] := D_with_item.bindsN fun _ _ _ _ _ _ us hl => match us, hl with | [_, _, _], _ => rfl
  obtain ⟨d_with_comers, D_with_comers⟩ := cd.def_ 6 (d := hD "with_comers" 22) rfl
  have D_with_comers : FunD K "with_comers" "with_comers" (defArgs (top 22)) (defBody (top 22)) (defScope (top 22)) [] [] (He.fAd K ("with_comers", none)) d_with_comers := D_with_comers
  have g_with_comers : mg "with_comers" = some (.ref (He.fAd K ("with_comers", none))) := He.glo_ok X Gm (cd.fact 6 (f := .glo "with_comers") rfl)
  have F_with_comers := funD_fun (st := top 22) D_with_comers
  have b_with_comers : Binds K d_with_comers ["posts", "comers"] [] := D_with_comers.bindsN fun _ _ _ _ _ _ us hl => match us, hl with | [_, _], _ => rfl
  obtain ⟨d_after_deed, D_after_deed⟩ := cd.def_ 7 (d := hD "after_deed" 23) rfl
  have D_after_deed : FunD K "after_deed" "after_deed" (defArgs (top 23)) (defBody (top 23)) (defScope (top 23)) [] [] (He.fAd K ("after_deed", none)) d_after_deed := D_after_deed
  have g_after_deed : mg "after_deed" = some (.ref (He.fAd K ("after_deed", none))) := He.glo_ok X Gm (cd.fact 7 (f := .glo "after_deed") rfl)
  have F_after_deed := funD_fun (st := top 23) D_after_deed
  have b_after_deed : Binds K d_after_deed ["posts", "holders", "who", "deed"] [] := D_after_deed.bindsN fun _ _ _ _ _ _ us hl => match us, hl with | [_, _, _, _], _ => rfl
  obtain ⟨d__after_asking, D__after_asking⟩ := cd.def_ 8 (d := hD "_after_asking" 24) rfl
  have D__after_asking : FunD K "_after_asking" "_after_asking" (defArgs (top 24)) (defBody (top 24)) (defScope (top 24)) [] [] (He.fAd K ("_after_asking", none)) d__after_asking := D__after_asking
  have g__after_asking : mg "_after_asking" = some (.ref (He.fAd K ("_after_asking", none))) := He.glo_ok X Gm (cd.fact 8 (f := .glo "_after_asking") rfl)
  have F__after_asking := funD_fun (st := top 24) D__after_asking
  have b__after_asking : Binds K d__after_asking ["posts", "holders", "who", "lock"] [] := D__after_asking.bindsN fun _ _ _ _ _ _ us hl => match us, hl with | [_, _, _, _], _ => rfl
  obtain ⟨d__after_giving, D__after_giving⟩ := cd.def_ 9 (d := hD "_after_giving" 25) rfl
  have D__after_giving : FunD K "_after_giving" "_after_giving" (defArgs (top 25)) (defBody (top 25)) (defScope (top 25)) [] [] (He.fAd K ("_after_giving", none)) d__after_giving := D__after_giving
  have g__after_giving : mg "_after_giving" = some (.ref (He.fAd K ("_after_giving", none))) := He.glo_ok X Gm (cd.fact 9 (f := .glo "_after_giving") rfl)
  have F__after_giving := funD_fun (st := top 25) D__after_giving
  have b__after_giving : Binds K d__after_giving ["posts", "holders", "lock"] [] := D__after_giving.bindsN fun _ _ _ _ _ _ us hl => match us, hl with | [_, _, _], _ => rfl
  obtain ⟨d_chooser_for, D_chooser_for⟩ := cd.def_ 10 (d := hD "chooser_for" 38) rfl
  have D_chooser_for : FunD K "chooser_for" "chooser_for" (defArgs (top 38)) (defBody (top 38)) (defScope (top 38)) [] [] (He.fAd K ("chooser_for", none)) d_chooser_for := D_chooser_for
  have g_chooser_for : mg "chooser_for" = some (.ref (He.fAd K ("chooser_for", none))) := He.glo_ok X Gm (cd.fact 10 (f := .glo "chooser_for") rfl)
  have F_chooser_for := funD_fun (st := top 38) D_chooser_for
  have b_chooser_for : Binds K d_chooser_for ["scheduler"] [] := D_chooser_for.bindsN fun _ _ _ _ _ _ us hl => match us, hl with | [_], _ => rfl
  obtain ⟨d_first_state, D_first_state⟩ := cd.def_ 11 (d := hD "first_state" 40) rfl
  have D_first_state : FunD K "first_state" "first_state" (defArgs (top 40)) (defBody (top 40)) (defScope (top 40)) [] [] (He.fAd K ("first_state", none)) d_first_state := D_first_state
  have g_first_state : mg "first_state" = some (.ref (He.fAd K ("first_state", none))) := He.glo_ok X Gm (cd.fact 11 (f := .glo "first_state") rfl)
  have F_first_state := funD_fun (st := top 40) D_first_state
  have b_first_state : Binds K d_first_state ["chooser", "size"] [] := D_first_state.bindsN fun _ _ _ _ _ _ us hl => match us, hl with | [_, _], _ => rfl
  obtain ⟨d_begun, D_begun⟩ := cd.def_ 12 (d := hD "begun" 41) rfl
  have D_begun : FunD K "begun" "begun" (defArgs (top 41)) (defBody (top 41)) (defScope (top 41)) [] [] (He.fAd K ("begun", none)) d_begun := D_begun
  have g_begun : mg "begun" = some (.ref (He.fAd K ("begun", none))) := He.glo_ok X Gm (cd.fact 12 (f := .glo "begun") rfl)
  have F_begun := funD_fun (st := top 41) D_begun
  have b_begun : Binds K d_begun ["chooser", "state", "comers"] [] := D_begun.bindsN fun _ _ _ _ _ _ us hl => match us, hl with | [_, _, _], _ => rfl
  obtain ⟨d_done, D_done⟩ := cd.def_ 13 (d := hD "done" 42) rfl
  have D_done : FunD K "done" "done" (defArgs (top 42)) (defBody (top 42)) (defScope (top 42)) [] [] (He.fAd K ("done", none)) d_done := D_done
  have g_done : mg "done" = some (.ref (He.fAd K ("done", none))) := He.glo_ok X Gm (cd.fact 13 (f := .glo "done") rfl)
  have F_done := funD_fun (st := top 42) D_done
  have b_done : Binds K d_done ["chooser", "state", "who", "deed"] [] := D_done.bindsN fun _ _ _ _ _ _ us hl => match us, hl with | [_, _, _, _], _ => rfl
  obtain ⟨d_machine_for, D_machine_for⟩ := cd.def_ 14 (d := hD "machine_for" 45) rfl
  have D_machine_for : FunD K "machine_for" "machine_for" (defArgs (top 45)) (defBody (top 45)) (defScope (top 45)) [] [] (He.fAd K ("machine_for", none)) d_machine_for := D_machine_for
  have g_machine_for : mg "machine_for" = some (.ref (He.fAd K ("machine_for", none))) := He.glo_ok X Gm (cd.fact 14 (f := .glo "machine_for") rfl)
  have F_machine_for := funD_fun (st := top 45) D_machine_for
  have b_machine_for : Binds K d_machine_for ["scheduler", "hall"] [] := D_machine_for.bindsN fun _ _ _ _ _ _ us hl => match us, hl with | [_, _], _ => rfl
  obtain ⟨d_is_deed, D_is_deed⟩ := cd.def_ 15 (d := hD "is_deed" 49) rfl
  have D_is_deed : FunD K "is_deed" "is_deed" (defArgs (top 49)) (defBody (top 49)) (defScope (top 49)) [] [] (He.fAd K ("is_deed", none)) d_is_deed := D_is_deed
  have g_is_deed : mg "is_deed" = some (.ref (He.fAd K ("is_deed", none))) := He.glo_ok X Gm (cd.fact 15 (f := .glo "is_deed") rfl)
  have F_is_deed := funD_fun (st := top 49) D_is_deed
  have b_is_deed : Binds K d_is_deed ["value"] [] := D_is_deed.bindsN fun _ _ _ _ _ _ us hl => match us, hl with | [_], _ => rfl
  obtain ⟨d_is_program, D_is_program⟩ := cd.def_ 16 (d := hD "is_program" 50) rfl
  have D_is_program : FunD K "is_program" "is_program" (defArgs (top 50)) (defBody (top 50)) (defScope (top 50)) [] [] (He.fAd K ("is_program", none)) d_is_program := D_is_program
  have g_is_program : mg "is_program" = some (.ref (He.fAd K ("is_program", none))) := He.glo_ok X Gm (cd.fact 16 (f := .glo "is_program") rfl)
  have F_is_program := funD_funC (st := top 50) D_is_program
  have b_is_program : Binds K d_is_program ["value"] [] := D_is_program.bindsN fun _ _ _ _ _ _ us hl => match us, hl with | [_], _ => rfl
  obtain ⟨d__locks_fit, D__locks_fit⟩ := cd.def_ 17 (d := hD "_locks_fit" 51) rfl
  have D__locks_fit : FunD K "_locks_fit" "_locks_fit" (defArgs (top 51)) (defBody (top 51)) (defScope (top 51)) [] [] (He.fAd K ("_locks_fit", none)) d__locks_fit := D__locks_fit
  have g__locks_fit : mg "_locks_fit" = some (.ref (He.fAd K ("_locks_fit", none))) := He.glo_ok X Gm (cd.fact 17 (f := .glo "_locks_fit") rfl)
  have F__locks_fit := funD_fun (st := top 51) D__locks_fit
  have b__locks_fit : Binds K d__locks_fit ["deeds"] [] := D__locks_fit.bindsN fun _ _ _ _ _ _ us hl => match us, hl with | [_], _ => rfl
  obtain ⟨d_check_program, D_check_program⟩ := cd.def_ 18 (d := hD "check_program" 52) rfl
  have D_check_program : FunD K "check_program" "check_program" (defArgs (top 52)) (defBody (top 52)) (defScope (top 52)) [] [] (He.fAd K ("check_program", none)) d_check_program := D_check_program
  have g_check_program : mg "check_program" = some (.ref (He.fAd K ("check_program", none))) := He.glo_ok X Gm (cd.fact 18 (f := .glo "check_program") rfl)
  have F_check_program := funD_fun (st := top 52) D_check_program
  have b_check_program : Binds K d_check_program ["value"] [] := D_check_program.bindsN fun _ _ _ _ _ _ us hl => match us, hl with | [_], _ => rfl
  obtain ⟨d_length, D_length⟩ := cd.def_ 19 (d := hD "length" 53) rfl
  have D_length : FunD K "length" "length" (defArgs (top 53)) (defBody (top 53)) (defScope (top 53)) [] [] (He.fAd K ("length", none)) d_length := D_length
  have g_length : mg "length" = some (.ref (He.fAd K ("length", none))) := He.glo_ok X Gm (cd.fact 19 (f := .glo "length") rfl)
  have F_length := funD_funC (st := top 53) D_length
  have b_length : Binds K d_length ["program"] [] := D_length.bindsN fun _ _ _ _ _ _ us hl => match us, hl with | [_], _ => rfl
  obtain ⟨d__units, D__units⟩ := cd.def_ 20 (d := hD "_units" 54) rfl
  have D__units : FunD K "_units" "_units" (defArgs (top 54)) (defBody (top 54)) (defScope (top 54)) [] [] (He.fAd K ("_units", none)) d__units := D__units
  have g__units : mg "_units" = some (.ref (He.fAd K ("_units", none))) := He.glo_ok X Gm (cd.fact 20 (f := .glo "_units") rfl)
  have F__units := funD_fun (st := top 54) D__units
  have b__units : Binds K d__units ["deed"] [] := D__units.bindsN fun _ _ _ _ _ _ us hl => match us, hl with | [_], _ => rfl
  obtain ⟨d_is_hall, D_is_hall⟩ := cd.def_ 21 (d := hD "is_hall" 58) rfl
  have D_is_hall : FunD K "is_hall" "is_hall" (defArgs (top 58)) (defBody (top 58)) (defScope (top 58)) [] [] (He.fAd K ("is_hall", none)) d_is_hall := D_is_hall
  have g_is_hall : mg "is_hall" = some (.ref (He.fAd K ("is_hall", none))) := He.glo_ok X Gm (cd.fact 21 (f := .glo "is_hall") rfl)
  have F_is_hall := funD_funC (st := top 58) D_is_hall
  have b_is_hall : Binds K d_is_hall ["value"] [] := D_is_hall.bindsN fun _ _ _ _ _ _ us hl => match us, hl with | [_], _ => rfl
  obtain ⟨d__is_process, D__is_process⟩ := cd.def_ 22 (d := hD "_is_process" 59) rfl
  have D__is_process : FunD K "_is_process" "_is_process" (defArgs (top 59)) (defBody (top 59)) (defScope (top 59)) [] [] (He.fAd K ("_is_process", none)) d__is_process := D__is_process
  have g__is_process : mg "_is_process" = some (.ref (He.fAd K ("_is_process", none))) := He.glo_ok X Gm (cd.fact 22 (f := .glo "_is_process") rfl)
  have F__is_process := funD_fun (st := top 59) D__is_process
  have b__is_process : Binds K d__is_process ["value"] [] := D__is_process.bindsN fun _ _ _ _ _ _ us hl => match us, hl with | [_], _ => rfl
  obtain ⟨d_check_hall, D_check_hall⟩ := cd.def_ 23 (d := hD "check_hall" 60) rfl
  have D_check_hall : FunD K "check_hall" "check_hall" (defArgs (top 60)) (defBody (top 60)) (defScope (top 60)) [] [] (He.fAd K ("check_hall", none)) d_check_hall := D_check_hall
  have g_check_hall : mg "check_hall" = some (.ref (He.fAd K ("check_hall", none))) := He.glo_ok X Gm (cd.fact 23 (f := .glo "check_hall") rfl)
  have F_check_hall := funD_fun (st := top 60) D_check_hall
  have b_check_hall : Binds K d_check_hall ["value"] [] := D_check_hall.bindsN fun _ _ _ _ _ _ us hl => match us, hl with | [_], _ => rfl
  obtain ⟨d_whole_work, D_whole_work⟩ := cd.def_ 24 (d := hD "whole_work" 61) rfl
  have D_whole_work : FunD K "whole_work" "whole_work" (defArgs (top 61)) (defBody (top 61)) (defScope (top 61)) [] [] (He.fAd K ("whole_work", none)) d_whole_work := D_whole_work
  have g_whole_work : mg "whole_work" = some (.ref (He.fAd K ("whole_work", none))) := He.glo_ok X Gm (cd.fact 24 (f := .glo "whole_work") rfl)
  have F_whole_work := funD_funC (st := top 61) D_whole_work
  have b_whole_work : Binds K d_whole_work ["hall"] [] := D_whole_work.bindsN fun _ _ _ _ _ _ us hl => match us, hl with | [_], _ => rfl
  obtain ⟨d__first_word, D__first_word⟩ := cd.def_ 25 (d := hD "_first_word" 63) rfl
  have D__first_word : FunD K "_first_word" "_first_word" (defArgs (top 63)) (defBody (top 63)) (defScope (top 63)) [] [] (He.fAd K ("_first_word", none)) d__first_word := D__first_word
  have g__first_word : mg "_first_word" = some (.ref (He.fAd K ("_first_word", none))) := He.glo_ok X Gm (cd.fact 25 (f := .glo "_first_word") rfl)
  have F__first_word := funD_fun (st := top 63) D__first_word
  have b__first_word : Binds K d__first_word ["value"] [] := D__first_word.bindsN fun _ _ _ _ _ _ us hl => match us, hl with | [_], _ => rfl
  obtain ⟨d__is_order, D__is_order⟩ := cd.def_ 26 (d := hD "_is_order" 64) rfl
  have D__is_order : FunD K "_is_order" "_is_order" (defArgs (top 64)) (defBody (top 64)) (defScope (top 64)) [] [] (He.fAd K ("_is_order", none)) d__is_order := D__is_order
  have g__is_order : mg "_is_order" = some (.ref (He.fAd K ("_is_order", none))) := He.glo_ok X Gm (cd.fact 26 (f := .glo "_is_order") rfl)
  have F__is_order := funD_fun (st := top 64) D__is_order
  have b__is_order : Binds K d__is_order ["value", "size"] [] := D__is_order.bindsN fun _ _ _ _ _ _ us hl => match us, hl with | [_, _], _ => rfl
  obtain ⟨d__is_rule, D__is_rule⟩ := cd.def_ 27 (d := hD "_is_rule" 65) rfl
  have D__is_rule : FunD K "_is_rule" "_is_rule" (defArgs (top 65)) (defBody (top 65)) (defScope (top 65)) [] [] (He.fAd K ("_is_rule", none)) d__is_rule := D__is_rule
  have g__is_rule : mg "_is_rule" = some (.ref (He.fAd K ("_is_rule", none))) := He.glo_ok X Gm (cd.fact 27 (f := .glo "_is_rule") rfl)
  have F__is_rule := funD_fun (st := top 65) D__is_rule
  have b__is_rule : Binds K d__is_rule ["value", "size"] [] := D__is_rule.bindsN fun _ _ _ _ _ _ us hl => match us, hl with | [_, _], _ => rfl
  obtain ⟨d__is_bare, D__is_bare⟩ := cd.def_ 28 (d := hD "_is_bare" 66) rfl
  have D__is_bare : FunD K "_is_bare" "_is_bare" (defArgs (top 66)) (defBody (top 66)) (defScope (top 66)) [] [] (He.fAd K ("_is_bare", none)) d__is_bare := D__is_bare
  have g__is_bare : mg "_is_bare" = some (.ref (He.fAd K ("_is_bare", none))) := He.glo_ok X Gm (cd.fact 28 (f := .glo "_is_bare") rfl)
  have F__is_bare := funD_fun (st := top 66) D__is_bare
  have b__is_bare : Binds K d__is_bare ["value", "size"] [] := D__is_bare.bindsN fun _ _ _ _ _ _ us hl => match us, hl with | [_, _], _ => rfl
  obtain ⟨d__is_by_order, D__is_by_order⟩ := cd.def_ 29 (d := hD "_is_by_order" 67) rfl
  have D__is_by_order : FunD K "_is_by_order" "_is_by_order" (defArgs (top 67)) (defBody (top 67)) (defScope (top 67)) [] [] (He.fAd K ("_is_by_order", none)) d__is_by_order := D__is_by_order
  have g__is_by_order : mg "_is_by_order" = some (.ref (He.fAd K ("_is_by_order", none))) := He.glo_ok X Gm (cd.fact 29 (f := .glo "_is_by_order") rfl)
  have F__is_by_order := funD_fun (st := top 67) D__is_by_order
  have b__is_by_order : Binds K d__is_by_order ["value", "size"] [] := D__is_by_order.bindsN fun _ _ _ _ _ _ us hl => match us, hl with | [_, _], _ => rfl
  obtain ⟨d__is_by_rounds, D__is_by_rounds⟩ := cd.def_ 30 (d := hD "_is_by_rounds" 68) rfl
  have D__is_by_rounds : FunD K "_is_by_rounds" "_is_by_rounds" (defArgs (top 68)) (defBody (top 68)) (defScope (top 68)) [] [] (He.fAd K ("_is_by_rounds", none)) d__is_by_rounds := D__is_by_rounds
  have g__is_by_rounds : mg "_is_by_rounds" = some (.ref (He.fAd K ("_is_by_rounds", none))) := He.glo_ok X Gm (cd.fact 30 (f := .glo "_is_by_rounds") rfl)
  have F__is_by_rounds := funD_fun (st := top 68) D__is_by_rounds
  have b__is_by_rounds : Binds K d__is_by_rounds ["value", "size"] [] := D__is_by_rounds.bindsN fun _ _ _ _ _ _ us hl => match us, hl with | [_, _], _ => rfl
  obtain ⟨d__is_by_levels, D__is_by_levels⟩ := cd.def_ 31 (d := hD "_is_by_levels" 69) rfl
  have D__is_by_levels : FunD K "_is_by_levels" "_is_by_levels" (defArgs (top 69)) (defBody (top 69)) (defScope (top 69)) [] [] (He.fAd K ("_is_by_levels", none)) d__is_by_levels := D__is_by_levels
  have g__is_by_levels : mg "_is_by_levels" = some (.ref (He.fAd K ("_is_by_levels", none))) := He.glo_ok X Gm (cd.fact 31 (f := .glo "_is_by_levels") rfl)
  have F__is_by_levels := funD_funC (st := top 69) D__is_by_levels
  have b__is_by_levels : Binds K d__is_by_levels ["value", "size"] [] := D__is_by_levels.bindsN fun _ _ _ _ _ _ us hl => match us, hl with | [_, _], _ => rfl
  obtain ⟨d__is_by_age, D__is_by_age⟩ := cd.def_ 32 (d := hD "_is_by_age" 70) rfl
  have D__is_by_age : FunD K "_is_by_age" "_is_by_age" (defArgs (top 70)) (defBody (top 70)) (defScope (top 70)) [] [] (He.fAd K ("_is_by_age", none)) d__is_by_age := D__is_by_age
  have g__is_by_age : mg "_is_by_age" = some (.ref (He.fAd K ("_is_by_age", none))) := He.glo_ok X Gm (cd.fact 32 (f := .glo "_is_by_age") rfl)
  have F__is_by_age := funD_fun (st := top 70) D__is_by_age
  have b__is_by_age : Binds K d__is_by_age ["value", "size"] [] := D__is_by_age.bindsN fun _ _ _ _ _ _ us hl => match us, hl with | [_, _], _ => rfl
  obtain ⟨d__is_by_limits, D__is_by_limits⟩ := cd.def_ 33 (d := hD "_is_by_limits" 71) rfl
  have D__is_by_limits : FunD K "_is_by_limits" "_is_by_limits" (defArgs (top 71)) (defBody (top 71)) (defScope (top 71)) [] [] (He.fAd K ("_is_by_limits", none)) d__is_by_limits := D__is_by_limits
  have g__is_by_limits : mg "_is_by_limits" = some (.ref (He.fAd K ("_is_by_limits", none))) := He.glo_ok X Gm (cd.fact 33 (f := .glo "_is_by_limits") rfl)
  have F__is_by_limits := funD_fun (st := top 71) D__is_by_limits
  have b__is_by_limits : Binds K d__is_by_limits ["value", "size"] [] := D__is_by_limits.bindsN fun _ _ _ _ _ _ us hl => match us, hl with | [_, _], _ => rfl
  obtain ⟨d__is_by_weights, D__is_by_weights⟩ := cd.def_ 34 (d := hD "_is_by_weights" 72) rfl
  have D__is_by_weights : FunD K "_is_by_weights" "_is_by_weights" (defArgs (top 72)) (defBody (top 72)) (defScope (top 72)) [] [] (He.fAd K ("_is_by_weights", none)) d__is_by_weights := D__is_by_weights
  have g__is_by_weights : mg "_is_by_weights" = some (.ref (He.fAd K ("_is_by_weights", none))) := He.glo_ok X Gm (cd.fact 34 (f := .glo "_is_by_weights") rfl)
  have F__is_by_weights := funD_fun (st := top 72) D__is_by_weights
  have b__is_by_weights : Binds K d__is_by_weights ["value", "size"] [] := D__is_by_weights.bindsN fun _ _ _ _ _ _ us hl => match us, hl with | [_, _], _ => rfl
  obtain ⟨d_is_scheduler, D_is_scheduler⟩ := cd.def_ 35 (d := hD "is_scheduler" 74) rfl
  have D_is_scheduler : FunD K "is_scheduler" "is_scheduler" (defArgs (top 74)) (defBody (top 74)) (defScope (top 74)) [] [] (He.fAd K ("is_scheduler", none)) d_is_scheduler := D_is_scheduler
  have g_is_scheduler : mg "is_scheduler" = some (.ref (He.fAd K ("is_scheduler", none))) := He.glo_ok X Gm (cd.fact 35 (f := .glo "is_scheduler") rfl)
  have F_is_scheduler := funD_fun (st := top 74) D_is_scheduler
  have b_is_scheduler : Binds K d_is_scheduler ["value", "size"] [] := D_is_scheduler.bindsN fun _ _ _ _ _ _ us hl => match us, hl with | [_, _], _ => rfl
  obtain ⟨d_check_scheduler, D_check_scheduler⟩ := cd.def_ 36 (d := hD "check_scheduler" 75) rfl
  have D_check_scheduler : FunD K "check_scheduler" "check_scheduler" (defArgs (top 75)) (defBody (top 75)) (defScope (top 75)) [] [] (He.fAd K ("check_scheduler", none)) d_check_scheduler := D_check_scheduler
  have g_check_scheduler : mg "check_scheduler" = some (.ref (He.fAd K ("check_scheduler", none))) := He.glo_ok X Gm (cd.fact 36 (f := .glo "check_scheduler") rfl)
  have F_check_scheduler := funD_fun (st := top 75) D_check_scheduler
  have b_check_scheduler : Binds K d_check_scheduler ["value", "size"] [] := D_check_scheduler.bindsN fun _ _ _ _ _ _ us hl => match us, hl with | [_, _], _ => rfl
  obtain ⟨d_check_units, D_check_units⟩ := cd.def_ 37 (d := hD "check_units" 78) rfl
  have D_check_units : FunD K "check_units" "check_units" (defArgs (top 78)) (defBody (top 78)) (defScope (top 78)) [] [] (He.fAd K ("check_units", none)) d_check_units := D_check_units
  have g_check_units : mg "check_units" = some (.ref (He.fAd K ("check_units", none))) := He.glo_ok X Gm (cd.fact 37 (f := .glo "check_units") rfl)
  have F_check_units := funD_fun (st := top 78) D_check_units
  have b_check_units : Binds K d_check_units ["value"] [] := D_check_units.bindsN fun _ _ _ _ _ _ us hl => match us, hl with | [_], _ => rfl
  obtain ⟨d_check_run, D_check_run⟩ := cd.def_ 38 (d := hD "check_run" 79) rfl
  have D_check_run : FunD K "check_run" "check_run" (defArgs (top 79)) (defBody (top 79)) (defScope (top 79)) [] [] (He.fAd K ("check_run", none)) d_check_run := D_check_run
  have g_check_run : mg "check_run" = some (.ref (He.fAd K ("check_run", none))) := He.glo_ok X Gm (cd.fact 38 (f := .glo "check_run") rfl)
  have F_check_run := funD_fun (st := top 79) D_check_run
  have b_check_run : Binds K d_check_run ["scheduler", "hall", "most"] [] := D_check_run.bindsN fun _ _ _ _ _ _ us hl => match us, hl with | [_, _, _], _ => rfl
  obtain ⟨d_rows_told, D_rows_told⟩ := cd.def_ 39 (d := hD "rows_told" 80) rfl
  have D_rows_told : FunD K "rows_told" "rows_told" (defArgs (top 80)) (defBody (top 80)) (defScope (top 80)) [] [] (He.fAd K ("rows_told", none)) d_rows_told := D_rows_told
  have g_rows_told : mg "rows_told" = some (.ref (He.fAd K ("rows_told", none))) := He.glo_ok X Gm (cd.fact 39 (f := .glo "rows_told") rfl)
  have F_rows_told := funD_fun (st := top 80) D_rows_told
  have b_rows_told : Binds K d_rows_told ["machine", "most"] [] := D_rows_told.bindsN fun _ _ _ _ _ _ us hl => match us, hl with | [_, _], _ => rfl
  obtain ⟨d_rows_of, D_rows_of⟩ := cd.def_ 40 (d := hD "rows_of" 81) rfl
  have D_rows_of : FunD K "rows_of" "rows_of" (defArgs (top 81)) (defBody (top 81)) (defScope (top 81)) [] [] (He.fAd K ("rows_of", none)) d_rows_of := D_rows_of
  have g_rows_of : mg "rows_of" = some (.ref (He.fAd K ("rows_of", none))) := He.glo_ok X Gm (cd.fact 40 (f := .glo "rows_of") rfl)
  have F_rows_of := funD_fun (st := top 81) D_rows_of
  have b_rows_of : Binds K d_rows_of ["scheduler", "hall", "most"] [] := D_rows_of.bindsN fun _ _ _ _ _ _ us hl => match us, hl with | [_, _, _], _ => rfl
  obtain ⟨d_run_of, D_run_of⟩ := cd.def_ 41 (d := hD "run_of" 82) rfl
  have D_run_of : FunD K "run_of" "run_of" (defArgs (top 82)) (defBody (top 82)) (defScope (top 82)) [] [] (He.fAd K ("run_of", none)) d_run_of := D_run_of
  have g_run_of : mg "run_of" = some (.ref (He.fAd K ("run_of", none))) := He.glo_ok X Gm (cd.fact 41 (f := .glo "run_of") rfl)
  have F_run_of := funD_fun (st := top 82) D_run_of
  have b_run_of : Binds K d_run_of ["scheduler", "hall", "most"] [] := D_run_of.bindsN fun _ _ _ _ _ _ us hl => match us, hl with | [_, _, _], _ => rfl
  obtain ⟨d_run, D_run⟩ := cd.def_ 42 (d := hD "run" 83) rfl
  have D_run : FunD K "run" "run" (defArgs (top 83)) (defBody (top 83)) (defScope (top 83)) [] [] (He.fAd K ("run", none)) d_run := D_run
  have g_run : mg "run" = some (.ref (He.fAd K ("run", none))) := He.glo_ok X Gm (cd.fact 42 (f := .glo "run") rfl)
  have F_run := funD_fun (st := top 83) D_run
  have b_run : Binds K d_run ["scheduler", "hall", "most"] [] := D_run.bindsN fun _ _ _ _ _ _ us hl => match us, hl with | [_, _, _], _ => rfl
  obtain ⟨d_log, D_log⟩ := cd.def_ 43 (d := hD "log" 84) rfl
  have D_log : FunD K "log" "log" (defArgs (top 84)) (defBody (top 84)) (defScope (top 84)) [] [] (He.fAd K ("log", none)) d_log := D_log
  have g_log : mg "log" = some (.ref (He.fAd K ("log", none))) := He.glo_ok X Gm (cd.fact 43 (f := .glo "log") rfl)
  have F_log := funD_fun (st := top 84) D_log
  have b_log : Binds K d_log ["scheduler", "hall", "most"] [] := D_log.bindsN fun _ _ _ _ _ _ us hl => match us, hl with | [_, _, _], _ => rfl
  obtain ⟨d_ends, D_ends⟩ := cd.def_ 44 (d := hD "ends" 85) rfl
  have D_ends : FunD K "ends" "ends" (defArgs (top 85)) (defBody (top 85)) (defScope (top 85)) [] [] (He.fAd K ("ends", none)) d_ends := D_ends
  have g_ends : mg "ends" = some (.ref (He.fAd K ("ends", none))) := He.glo_ok X Gm (cd.fact 44 (f := .glo "ends") rfl)
  have F_ends := funD_fun (st := top 85) D_ends
  have b_ends : Binds K d_ends ["scheduler", "hall", "most"] [] := D_ends.bindsN fun _ _ _ _ _ _ us hl => match us, hl with | [_, _, _], _ => rfl
  obtain ⟨d__check_all, D__check_all⟩ := cd.def_ 45 (d := hD "_check_all" 87) rfl
  have D__check_all : FunD K "_check_all" "_check_all" (defArgs (top 87)) (defBody (top 87)) (defScope (top 87)) [] [] (He.fAd K ("_check_all", none)) d__check_all := D__check_all
  have g__check_all : mg "_check_all" = some (.ref (He.fAd K ("_check_all", none))) := He.glo_ok X Gm (cd.fact 45 (f := .glo "_check_all") rfl)
  have F__check_all := funD_fun (st := top 87) D__check_all
  have b__check_all : Binds K d__check_all ["scheduler", "hall", "most", "slot"] [] := D__check_all.bindsN fun _ _ _ _ _ _ us hl => match us, hl with | [_, _, _, _], _ => rfl
  obtain ⟨d_served, D_served⟩ := cd.def_ 46 (d := hD "served" 88) rfl
  have D_served : FunD K "served" "served" (defArgs (top 88)) (defBody (top 88)) (defScope (top 88)) [] [] (He.fAd K ("served", none)) d_served := D_served
  have g_served : mg "served" = some (.ref (He.fAd K ("served", none))) := He.glo_ok X Gm (cd.fact 46 (f := .glo "served") rfl)
  have F_served := funD_fun (st := top 88) D_served
  have b_served : Binds K d_served ["scheduler", "hall", "most"] [] := D_served.bindsN fun _ _ _ _ _ _ us hl => match us, hl with | [_, _, _], _ => rfl
  obtain ⟨d_finish, D_finish⟩ := cd.def_ 47 (d := hD "finish" 89) rfl
  have D_finish : FunD K "finish" "finish" (defArgs (top 89)) (defBody (top 89)) (defScope (top 89)) [] [] (He.fAd K ("finish", none)) d_finish := D_finish
  have g_finish : mg "finish" = some (.ref (He.fAd K ("finish", none))) := He.glo_ok X Gm (cd.fact 47 (f := .glo "finish") rfl)
  have F_finish := funD_fun (st := top 89) D_finish
  have b_finish : Binds K d_finish ["scheduler", "hall", "most", "slot"] [] := D_finish.bindsN fun _ _ _ _ _ _ us hl => match us, hl with | [_, _, _, _], _ => rfl
  obtain ⟨d_switches, D_switches⟩ := cd.def_ 48 (d := hD "switches" 90) rfl
  have D_switches : FunD K "switches" "switches" (defArgs (top 90)) (defBody (top 90)) (defScope (top 90)) [] [] (He.fAd K ("switches", none)) d_switches := D_switches
  have g_switches : mg "switches" = some (.ref (He.fAd K ("switches", none))) := He.glo_ok X Gm (cd.fact 48 (f := .glo "switches") rfl)
  have F_switches := funD_fun (st := top 90) D_switches
  have b_switches : Binds K d_switches ["scheduler", "hall", "most"] [] := D_switches.bindsN fun _ _ _ _ _ _ us hl => match us, hl with | [_, _, _], _ => rfl
  obtain ⟨d_idle_units, D_idle_units⟩ := cd.def_ 49 (d := hD "idle_units" 91) rfl
  have D_idle_units : FunD K "idle_units" "idle_units" (defArgs (top 91)) (defBody (top 91)) (defScope (top 91)) [] [] (He.fAd K ("idle_units", none)) d_idle_units := D_idle_units
  have g_idle_units : mg "idle_units" = some (.ref (He.fAd K ("idle_units", none))) := He.glo_ok X Gm (cd.fact 49 (f := .glo "idle_units") rfl)
  have F_idle_units := funD_fun (st := top 91) D_idle_units
  have b_idle_units : Binds K d_idle_units ["scheduler", "hall", "most"] [] := D_idle_units.bindsN fun _ _ _ _ _ _ us hl => match us, hl with | [_, _, _], _ => rfl
  obtain ⟨d_asked_in_vain, D_asked_in_vain⟩ := cd.def_ 50 (d := hD "asked_in_vain" 92) rfl
  have D_asked_in_vain : FunD K "asked_in_vain" "asked_in_vain" (defArgs (top 92)) (defBody (top 92)) (defScope (top 92)) [] [] (He.fAd K ("asked_in_vain", none)) d_asked_in_vain := D_asked_in_vain
  have g_asked_in_vain : mg "asked_in_vain" = some (.ref (He.fAd K ("asked_in_vain", none))) := He.glo_ok X Gm (cd.fact 50 (f := .glo "asked_in_vain") rfl)
  have F_asked_in_vain := funD_fun (st := top 92) D_asked_in_vain
  have b_asked_in_vain : Binds K d_asked_in_vain ["scheduler", "hall", "most"] [] := D_asked_in_vain.bindsN fun _ _ _ _ _ _ us hl => match us, hl with | [_, _, _], _ => rfl
  obtain ⟨d__law_start, D__law_start⟩ := cd.def_ 51 (d := hD "_law_start" 94) rfl
  have D__law_start : FunD K "_law_start" "_law_start" (defArgs (top 94)) (defBody (top 94)) (defScope (top 94)) [] [] (He.fAd K ("_law_start", none)) d__law_start := D__law_start
  have g__law_start : mg "_law_start" = some (.ref (He.fAd K ("_law_start", none))) := He.glo_ok X Gm (cd.fact 51 (f := .glo "_law_start") rfl)
  have F__law_start := funD_fun (st := top 94) D__law_start
  have b__law_start : Binds K d__law_start ["_law_script"] [] := D__law_start.bindsN fun _ _ _ _ _ _ us hl => match us, hl with | [_], _ => rfl
  obtain ⟨d__law_draw, D__law_draw⟩ := cd.def_ 52 (d := hD "_law_draw" 95) rfl
  have D__law_draw : FunD K "_law_draw" "_law_draw" (defArgs (top 95)) (defBody (top 95)) (defScope (top 95)) [] [] (He.fAd K ("_law_draw", none)) d__law_draw := D__law_draw
  have g__law_draw : mg "_law_draw" = some (.ref (He.fAd K ("_law_draw", none))) := He.glo_ok X Gm (cd.fact 52 (f := .glo "_law_draw") rfl)
  have F__law_draw := funD_fun (st := top 95) D__law_draw
  have b__law_draw : Binds K d__law_draw ["_law_draws", "_law_limit"] [] := D__law_draw.bindsN fun _ _ _ _ _ _ us hl => match us, hl with | [_, _], _ => rfl
  obtain ⟨d_law, D_law⟩ := cd.def_ 53 (d := hD "law" 96) rfl
  have D_law : FunD K "law" "law" (defArgs (top 96)) (defBody (top 96)) (defScope (top 96)) [] [] (He.fAd K ("law", none)) d_law := D_law
  have g_law : mg "law" = some (.ref (He.fAd K ("law", none))) := He.glo_ok X Gm (cd.fact 53 (f := .glo "law") rfl)
  have F_law := funD_fun (st := top 96) D_law
  have b_law : Binds K d_law ["_law_script"] [] := D_law.bindsN fun _ _ _ _ _ _ us hl => match us, hl with | [_], _ => rfl
  obtain ⟨d_Q_init, D_Q_init⟩ := cd.def_ 54 (d := hM "QueueChooser" "__init__" "QueueChooser.__init__" 34 0) rfl
  have D_Q_init : FunD K "__init__" "QueueChooser.__init__" (defArgs (inClass (top 34) 0)) (defBody (inClass (top 34) 0)) (defScope (inClass (top 34) 0)) [] [] (He.fAd K ("QueueChooser", some "__init__")) d_Q_init := D_Q_init
  have F_Q_init := funD_fun (st := inClass (top 34) 0) D_Q_init
  have b_Q_init : Binds K d_Q_init ["self", "place"] [] := D_Q_init.bindsN fun _ _ _ _ _ _ us hl => match us, hl with | [_, _], _ => rfl
  obtain ⟨d_Q_fresh, D_Q_fresh⟩ := cd.def_ 55 (d := hM "QueueChooser" "fresh" "QueueChooser.fresh" 34 1) rfl
  have D_Q_fresh : FunD K "fresh" "QueueChooser.fresh" (defArgs (inClass (top 34) 1)) (defBody (inClass (top 34) 1)) (defScope (inClass (top 34) 1)) [] [] (He.fAd K ("QueueChooser", some "fresh")) d_Q_fresh := D_Q_fresh
  have F_Q_fresh := funD_fun (st := inClass (top 34) 1) D_Q_fresh
  have b_Q_fresh : Binds K d_Q_fresh ["self"] [] := D_Q_fresh.bindsN fun _ _ _ _ _ _ us hl => match us, hl with | [_], _ => rfl
  have h_Q_fresh : Meth K (He.ga K "QueueChooser") "fresh" (He.fAd K ("QueueChooser", some "fresh")) := He.meth_ok (cd.fact 97 (f := .meth "QueueChooser" "fresh") rfl)
  obtain ⟨d_Q_joined, D_Q_joined⟩ := cd.def_ 56 (d := hM "QueueChooser" "joined" "QueueChooser.joined" 34 2) rfl
  have D_Q_joined : FunD K "joined" "QueueChooser.joined" (defArgs (inClass (top 34) 2)) (defBody (inClass (top 34) 2)) (defScope (inClass (top 34) 2)) [] [] (He.fAd K ("QueueChooser", some "joined")) d_Q_joined := D_Q_joined
  have F_Q_joined := funD_fun (st := inClass (top 34) 2) D_Q_joined
  have b_Q_joined : Binds K d_Q_joined ["self", "memory", "comers"] [] := D_Q_joined.bindsN fun _ _ _ _ _ _ us hl => match us, hl with | [_, _, _], _ => rfl
  have h_Q_joined : Meth K (He.ga K "QueueChooser") "joined" (He.fAd K ("QueueChooser", some "joined")) := He.meth_ok (cd.fact 98 (f := .meth "QueueChooser" "joined") rfl)
  obtain ⟨d_Q_pick, D_Q_pick⟩ := cd.def_ 57 (d := hM "QueueChooser" "pick" "QueueChooser.pick" 34 3) rfl
  have D_Q_pick : FunD K "pick" "QueueChooser.pick" (defArgs (inClass (top 34) 3)) (defBody (inClass (top 34) 3)) (defScope (inClass (top 34) 3)) [] [] (He.fAd K ("QueueChooser", some "pick")) d_Q_pick := D_Q_pick
  have F_Q_pick := funD_fun (st := inClass (top 34) 3) D_Q_pick
  have b_Q_pick : Binds K d_Q_pick ["self", "memory", "posts", "holders"] [] := D_Q_pick.bindsN fun _ _ _ _ _ _ us hl => match us, hl with | [_, _, _, _], _ => rfl
  have h_Q_pick : Meth K (He.ga K "QueueChooser") "pick" (He.fAd K ("QueueChooser", some "pick")) := He.meth_ok (cd.fact 99 (f := .meth "QueueChooser" "pick") rfl)
  obtain ⟨d_Q_settled, D_Q_settled⟩ := cd.def_ 58 (d := hM "QueueChooser" "settled" "QueueChooser.settled" 34 4) rfl
  have D_Q_settled : FunD K "settled" "QueueChooser.settled" (defArgs (inClass (top 34) 4)) (defBody (inClass (top 34) 4)) (defScope (inClass (top 34) 4)) [] [] (He.fAd K ("QueueChooser", some "settled")) d_Q_settled := D_Q_settled
  have F_Q_settled := funD_fun (st := inClass (top 34) 4) D_Q_settled
  have b_Q_settled : Binds K d_Q_settled ["self", "memory", "who", "word", "woken"] [] := D_Q_settled.bindsN fun _ _ _ _ _ _ us hl => match us, hl with | [_, _, _, _, _], _ => rfl
  have h_Q_settled : Meth K (He.ga K "QueueChooser") "settled" (He.fAd K ("QueueChooser", some "settled")) := He.meth_ok (cd.fact 100 (f := .meth "QueueChooser" "settled") rfl)
  obtain ⟨d_M_init, D_M_init⟩ := cd.def_ 59 (d := hM "Machine" "__init__" "Machine.__init__" 44 0) rfl
  have D_M_init : FunD K "__init__" "Machine.__init__" (defArgs (inClass (top 44) 0)) (defBody (inClass (top 44) 0)) (defScope (inClass (top 44) 0)) [] [] (He.fAd K ("Machine", some "__init__")) d_M_init := D_M_init
  have F_M_init := funD_fun (st := inClass (top 44) 0) D_M_init
  have b_M_init : Binds K d_M_init ["self", "scheduler", "size"] [] := D_M_init.bindsN fun _ _ _ _ _ _ us hl => match us, hl with | [_, _, _], _ => rfl
  obtain ⟨d_M_load, D_M_load⟩ := cd.def_ 60 (d := hM "Machine" "load" "Machine.load" 44 1) rfl
  have D_M_load : FunD K "load" "Machine.load" (defArgs (inClass (top 44) 1)) (defBody (inClass (top 44) 1)) (defScope (inClass (top 44) 1)) [] [] (He.fAd K ("Machine", some "load")) d_M_load := D_M_load
  have F_M_load := funD_fun (st := inClass (top 44) 1) D_M_load
  have b_M_load : Binds K d_M_load ["self", "slot", "program", "comes"] [] := D_M_load.bindsN fun _ _ _ _ _ _ us hl => match us, hl with | [_, _, _, _], _ => rfl
  have h_M_load : Meth K (He.ga K "Machine") "load" (He.fAd K ("Machine", some "load")) := He.meth_ok (cd.fact 101 (f := .meth "Machine" "load") rfl)
  obtain ⟨d_M_words, D_M_words⟩ := cd.def_ 61 (d := hM "Machine" "words" "Machine.words" 44 5) rfl
  have D_M_words : FunD K "words" "Machine.words" (defArgs (inClass (top 44) 5)) (defBody (inClass (top 44) 5)) (defScope (inClass (top 44) 5)) [] [] (He.fAd K ("Machine", some "words")) d_M_words := D_M_words
  have F_M_words := funD_fun (st := inClass (top 44) 5) D_M_words
  have b_M_words : Binds K d_M_words ["self"] [] := D_M_words.bindsN fun _ _ _ _ _ _ us hl => match us, hl with | [_], _ => rfl
  have h_M_words : Meth K (He.ga K "Machine") "words" (He.fAd K ("Machine", some "words")) := He.meth_ok (cd.fact 102 (f := .meth "Machine" "words") rfl)
  obtain ⟨d_M_goes_on, D_M_goes_on⟩ := cd.def_ 62 (d := hM "Machine" "goes_on" "Machine.goes_on" 44 6) rfl
  have D_M_goes_on : FunD K "goes_on" "Machine.goes_on" (defArgs (inClass (top 44) 6)) (defBody (inClass (top 44) 6)) (defScope (inClass (top 44) 6)) [] [] (He.fAd K ("Machine", some "goes_on")) d_M_goes_on := D_M_goes_on
  have F_M_goes_on := funD_fun (st := inClass (top 44) 6) D_M_goes_on
  have b_M_goes_on : Binds K d_M_goes_on ["self"] [] := D_M_goes_on.bindsN fun _ _ _ _ _ _ us hl => match us, hl with | [_], _ => rfl
  have h_M_goes_on : Meth K (He.ga K "Machine") "goes_on" (He.fAd K ("Machine", some "goes_on")) := He.meth_ok (cd.fact 103 (f := .meth "Machine" "goes_on") rfl)
  obtain ⟨d_M_tick, D_M_tick⟩ := cd.def_ 63 (d := hM "Machine" "tick" "Machine.tick" 44 7) rfl
  have D_M_tick : FunD K "tick" "Machine.tick" (defArgs (inClass (top 44) 7)) (defBody (inClass (top 44) 7)) (defScope (inClass (top 44) 7)) [] [] (He.fAd K ("Machine", some "tick")) d_M_tick := D_M_tick
  have F_M_tick := funD_fun (st := inClass (top 44) 7) D_M_tick
  have b_M_tick : Binds K d_M_tick ["self"] [] := D_M_tick.bindsN fun _ _ _ _ _ _ us hl => match us, hl with | [_], _ => rfl
  have h_M_tick : Meth K (He.ga K "Machine") "tick" (He.fAd K ("Machine", some "tick")) := He.meth_ok (cd.fact 104 (f := .meth "Machine" "tick") rfl)
  obtain ⟨d_M_next_deed, D_M_next_deed⟩ := cd.def_ 64 (d := hM "Machine" "_next_deed" "Machine._next_deed" 44 8) rfl
  have D_M_next_deed : FunD K "_next_deed" "Machine._next_deed" (defArgs (inClass (top 44) 8)) (defBody (inClass (top 44) 8)) (defScope (inClass (top 44) 8)) [] [] (He.fAd K ("Machine", some "_next_deed")) d_M_next_deed := D_M_next_deed
  have F_M_next_deed := funD_fun (st := inClass (top 44) 8) D_M_next_deed
  have b_M_next_deed : Binds K d_M_next_deed ["self", "slot"] [] := D_M_next_deed.bindsN fun _ _ _ _ _ _ us hl => match us, hl with | [_, _], _ => rfl
  have h_M_next_deed : Meth K (He.ga K "Machine") "_next_deed" (He.fAd K ("Machine", some "_next_deed")) := He.meth_ok (cd.fact 105 (f := .meth "Machine" "_next_deed") rfl)
  obtain ⟨d_M_advance, D_M_advance⟩ := cd.def_ 65 (d := hM "Machine" "_advance" "Machine._advance" 44 9) rfl
  have D_M_advance : FunD K "_advance" "Machine._advance" (defArgs (inClass (top 44) 9)) (defBody (inClass (top 44) 9)) (defScope (inClass (top 44) 9)) [] [] (He.fAd K ("Machine", some "_advance")) d_M_advance := D_M_advance
  have F_M_advance := funD_fun (st := inClass (top 44) 9) D_M_advance
  have b_M_advance : Binds K d_M_advance ["self", "slot", "deed"] [] := D_M_advance.bindsN fun _ _ _ _ _ _ us hl => match us, hl with | [_, _, _], _ => rfl
  have h_M_advance : Meth K (He.ga K "Machine") "_advance" (He.fAd K ("Machine", some "_advance")) := He.meth_ok (cd.fact 106 (f := .meth "Machine" "_advance") rfl)
  obtain ⟨t_AWAY, i_AWAY⟩ := He.int_ok X Gm (cd.fact 77 (f := .int "AWAY" 0) rfl)
  obtain ⟨t_READY, i_READY⟩ := He.int_ok X Gm (cd.fact 78 (f := .int "READY" 1) rfl)
  obtain ⟨t_MOST_PROCESSES, i_MOST_PROCESSES⟩ := He.int_ok X Gm (cd.fact 79 (f := .int "MOST_PROCESSES" 4) rfl)
  obtain ⟨t_LAST_TIME, i_LAST_TIME⟩ := He.int_ok X Gm (cd.fact 80 (f := .int "LAST_TIME" 99) rfl)
  obtain ⟨t_MOST_UNITS_running, i_MOST_UNITS_running⟩ := He.int_ok X Gm (cd.fact 81 (f := .int "MOST_UNITS_running" 200) rfl)
  obtain ⟨t_MOST_DEEDS, i_MOST_DEEDS⟩ := He.int_ok X Gm (cd.fact 82 (f := .int "MOST_DEEDS" 40) rfl)
  obtain ⟨t_MOST_UNITS_programs, i_MOST_UNITS_programs⟩ := He.int_ok X Gm (cd.fact 83 (f := .int "MOST_UNITS_programs" 99) rfl)
  have g_WORDS : mg "WORDS" = some (.ref (He.ga K "WORDS")) := He.glo_ok X Gm (cd.fact 57 (f := .glo "WORDS") rfl)
  have g_GONE : mg "GONE" = some (.ref (He.ga K "GONE")) := He.glo_ok X Gm (cd.fact 58 (f := .glo "GONE") rfl)
  have g_WAITS : mg "WAITS" = some (.ref (He.ga K "WAITS")) := He.glo_ok X Gm (cd.fact 59 (f := .glo "WAITS") rfl)
  have g_AGAIN : mg "AGAIN" = some (.ref (He.ga K "AGAIN")) := He.glo_ok X Gm (cd.fact 60 (f := .glo "AGAIN") rfl)
  have dW : ∀ H, Dp K H (.ref (He.ga K "WORDS")) PT.WORDS := fun H => .tup (He.tupB_ok x0 H) (.cons (.str _) (.cons (.str _) (.cons (.str _) (.cons (.str _) (.cons (.str _) (.cons (.str _) .nil))))))
  have dG : ∀ H, Dp K H (.ref (He.ga K "GONE")) PT.GONE := fun H => .tup (He.tupB_ok x1 H) (.cons (.str _) (.cons (.str _) .nil))
  have dA : ∀ H, Dp K H (.ref (He.ga K "WAITS")) PT.WAITS := fun H => .tup (He.tupB_ok x2 H) (.cons (.int _) (.cons (.int _) .nil))
  have dB : ∀ H, Dp K H (.ref (He.ga K "AGAIN")) PT.AGAIN := fun H => .tup (He.tupB_ok x3 H) (.cons (.int _) (.cons (.int _) .nil))
  have G : Glob K mg := ⟨He.free_ok X Gm (cd.fact 61 (f := .free "isinstance") rfl), He.free_ok X Gm (cd.fact 62 (f := .free "int") rfl), He.free_ok X Gm (cd.fact 63 (f := .free "bool") rfl), He.free_ok X Gm (cd.fact 64 (f := .free "tuple") rfl), He.free_ok X Gm (cd.fact 65 (f := .free "list") rfl), He.free_ok X Gm (cd.fact 66 (f := .free "str") rfl), He.free_ok X Gm (cd.fact 67 (f := .free "len") rfl), He.free_ok X Gm (cd.fact 68 (f := .free "all") rfl), He.free_ok X Gm (cd.fact 69 (f := .free "any") rfl), He.free_ok X Gm (cd.fact 70 (f := .free "sorted") rfl), He.free_ok X Gm (cd.fact 71 (f := .free "range") rfl), He.free_ok X Gm (cd.fact 72 (f := .free "enumerate") rfl), He.free_ok X Gm (cd.fact 73 (f := .free "sum") rfl), He.free_ok X Gm (cd.fact 74 (f := .free "max") rfl), He.free_ok X Gm (cd.fact 75 (f := .free "min") rfl), t_AWAY, i_AWAY, t_READY, i_READY, _, g_WORDS, dW, _, g_GONE, dG, _, g_WAITS, dA, _, g_AGAIN, dB⟩
  have GC : GlobC K mg := ⟨t_MOST_PROCESSES, i_MOST_PROCESSES, t_LAST_TIME, i_LAST_TIME, t_MOST_UNITS_running, i_MOST_UNITS_running⟩
  have G11 : K11.Glob mg := ⟨He.free_ok X Gm (cd.fact 61 (f := .free "isinstance") rfl), He.free_ok X Gm (cd.fact 62 (f := .free "int") rfl), He.free_ok X Gm (cd.fact 63 (f := .free "bool") rfl), He.free_ok X Gm (cd.fact 64 (f := .free "tuple") rfl), He.free_ok X Gm (cd.fact 65 (f := .free "list") rfl), He.free_ok X Gm (cd.fact 66 (f := .free "str") rfl), He.free_ok X Gm (cd.fact 67 (f := .free "len") rfl), He.free_ok X Gm (cd.fact 68 (f := .free "all") rfl), He.free_ok X Gm (cd.fact 73 (f := .free "sum") rfl), He.free_ok X Gm (cd.fact 76 (f := .free "set") rfl), He.free_ok X Gm (cd.fact 70 (f := .free "sorted") rfl), He.free_ok X Gm (cd.fact 74 (f := .free "max") rfl), He.free_ok X Gm (cd.fact 71 (f := .free "range") rfl)⟩
  have G13 : K13.Glob mg := ⟨He.free_ok X Gm (cd.fact 61 (f := .free "isinstance") rfl), He.free_ok X Gm (cd.fact 62 (f := .free "int") rfl), He.free_ok X Gm (cd.fact 63 (f := .free "bool") rfl), He.free_ok X Gm (cd.fact 64 (f := .free "tuple") rfl), He.free_ok X Gm (cd.fact 65 (f := .free "list") rfl), He.free_ok X Gm (cd.fact 66 (f := .free "str") rfl), He.free_ok X Gm (cd.fact 67 (f := .free "len") rfl), He.free_ok X Gm (cd.fact 68 (f := .free "all") rfl), He.free_ok X Gm (cd.fact 69 (f := .free "any") rfl), He.free_ok X Gm (cd.fact 70 (f := .free "sorted") rfl), He.free_ok X Gm (cd.fact 71 (f := .free "range") rfl)⟩
  have gk : mg "KINDS" = some (.ref (He.ga K "KINDS")) := He.glo_ok X Gm (cd.fact 56 (f := .glo "KINDS") rfl)
  have hts : He.dicW K (He.ga K "KINDS") = some (He.keysIn w.params K13.kindNames) := by
    have e : [He.dicW K (He.ga K "KINDS")] = [some (He.keysIn w.params K13.kindNames)] := congrArg (fun z : He.AlT => z.2) c.t
    exact List.head_eq_of_cons_eq e
  have KT : K13.KindsAt K w (He.ga K "KINDS") (He.ga K "_is_bare") (He.ga K "_is_by_order") (He.ga K "_is_by_rounds") (He.ga K "_is_by_levels") (He.ga K "_is_by_age") (He.ga K "_is_by_limits") (He.ga K "_is_by_weights") :=
    ⟨dict_at hts, He.eqO_ok x4, He.eqO_ok x5, He.eqO_ok x6, He.eqO_ok x7, He.eqO_ok x8, He.eqO_ok x9, He.eqO_ok x10, He.eqO_ok x11⟩
  have clQ : Cls K (He.ga K "QueueChooser") := He.cls_ok (cd.fact 84 (f := .cls "QueueChooser") rfl)
  have clM : Cls K (He.ga K "Machine") := He.cls_ok (cd.fact 85 (f := .cls "Machine") rfl)
  have mkQ : Mk K (He.ga K "QueueChooser") (He.fAd K ("QueueChooser", some "__init__")) := He.mkr_ok (cd.fact 86 (f := .mkr "QueueChooser") rfl)
  have mkM : Mk K (He.ga K "Machine") (He.fAd K ("Machine", some "__init__")) := He.mkr_ok (cd.fact 87 (f := .mkr "Machine") rfl)
  have naP : NoAttr K (He.ga K "QueueChooser") "place" := He.noat_ok (cd.fact 88 (f := .noat "QueueChooser" "place") rfl)
  have mc : MC K (He.ga K "Machine") := ⟨clM, He.noat_ok (cd.fact 89 (f := .noat "Machine" "chooser") rfl), He.noat_ok (cd.fact 90 (f := .noat "Machine" "state") rfl), He.noat_ok (cd.fact 91 (f := .noat "Machine" "clock") rfl), He.noat_ok (cd.fact 92 (f := .noat "Machine" "programs") rfl), He.noat_ok (cd.fact 93 (f := .noat "Machine" "reached") rfl), He.noat_ok (cd.fact 94 (f := .noat "Machine" "worked") rfl), He.noat_ok (cd.fact 95 (f := .noat "Machine" "comings") rfl), He.noat_ok (cd.fact 96 (f := .noat "Machine" "finishes") rfl)⟩
  have g_QueueChooser : mg "QueueChooser" = some (.ref (He.ga K "QueueChooser")) := He.glo_ok X Gm (cd.fact 54 (f := .glo "QueueChooser") rfl)
  have g_Machine : mg "Machine" = some (.ref (He.ga K "Machine")) := He.glo_ok X Gm (cd.fact 55 (f := .glo "Machine") rfl)
  have el := hfa.symm.trans g_law
  cases el
  refine ⟨d_law, tf2.map (He.cT K), spLaw K (tf2.map fun d => He.tabOf K (He.codeOf K d)), fun p hp => ?_, fun p hp => ?_, fun p hp => ?_, fun s u => FunD.bindsA (ps := ["_law_script"]) D_law (fun _ _ _ _ _ _ us hl => match us, hl with | [_], _ => rfl) s [u] rfl, fun H a ns hl _ hT hS => ⟨a, ns, rfl, hS, hl, fun P hP => ?_, fun _ => rfl⟩, fun base hK hN hTB => ?_⟩
  · obtain ⟨d, hd, rfl⟩ := List.mem_map.mp hp
    exact c.empty _ hd
  · obtain ⟨d, hd, rfl⟩ := List.mem_map.mp hp
    exact c.out _ hd
  · obtain ⟨d, hd, rfl⟩ := List.mem_map.mp hp
    exact PySem.W.codeHd_of_K X (c.hd _ hd)
  · obtain ⟨d, hd, rfl⟩ := List.mem_map.mp hP
    exact ⟨#[], hT _ (List.mem_map.mpr ⟨d, hd, rfl⟩), triples_nil⟩
  · have TBs : ∀ d ∈ tf2, GxR.TabB base mg (He.codeOf K d) (He.tabOf K (He.codeOf K d)) := fun d hd => by
      have tb := hTB (He.cT K d) (List.mem_map.mpr ⟨d, hd, rfl⟩)
      exact ⟨tb.code, tb.bm, tb.gP⟩
    have hPs : ∀ d ∈ tf2, He.tabOf K (He.codeOf K d) ∈ tf2.map fun d => He.tabOf K (He.codeOf K d) := fun d hd => List.mem_map.mpr ⟨d, hd, rfl⟩
    generalize hT : (tf2.map fun d => He.tabOf K (He.codeOf K d)) = T at hPs
    have m_is_row : (("is_row", none) : He.Defn) ∈ tf2 := List.mem_cons_self
    have TB_is_row := TBs _ m_is_row
    have P_is_row := hPs _ m_is_row
    have m__is_by_levels : (("_is_by_levels", none) : He.Defn) ∈ tf2 := (List.mem_cons_of_mem _ List.mem_cons_self)
    have TB__is_by_levels := TBs _ m__is_by_levels
    have P__is_by_levels := hPs _ m__is_by_levels
    have m_is_program : (("is_program", none) : He.Defn) ∈ tf2 := (List.mem_cons_of_mem _ (List.mem_cons_of_mem _ List.mem_cons_self))
    have TB_is_program := TBs _ m_is_program
    have P_is_program := hPs _ m_is_program
    have m_length : (("length", none) : He.Defn) ∈ tf2 := (List.mem_cons_of_mem _ (List.mem_cons_of_mem _ (List.mem_cons_of_mem _ List.mem_cons_self)))
    have TB_length := TBs _ m_length
    have P_length := hPs _ m_length
    have m_is_hall : (("is_hall", none) : He.Defn) ∈ tf2 := (List.mem_cons_of_mem _ (List.mem_cons_of_mem _ (List.mem_cons_of_mem _ (List.mem_cons_of_mem _ List.mem_cons_self))))
    have TB_is_hall := TBs _ m_is_hall
    have P_is_hall := hPs _ m_is_hall
    have m_whole_work : (("whole_work", none) : He.Defn) ∈ tf2 := (List.mem_cons_of_mem _ (List.mem_cons_of_mem _ (List.mem_cons_of_mem _ (List.mem_cons_of_mem _ (List.mem_cons_of_mem _ List.mem_cons_self)))))
    have TB_whole_work := TBs _ m_whole_work
    have P_whole_work := hPs _ m_whole_work
    have q_is_number : K13.Cal PySem.Challenge.pw_processturns_k02_whole_queues w K mg base "is_number" 1 ["value", "least", "greatest"] (K13.spNum K) _ _ := ⟨g_is_number, F_is_number.kp, b_is_number, K13.ok_num F_is_number G13⟩
    have q_is_row : K13.Cal PySem.Challenge.pw_processturns_k02_whole_queues w K mg base "is_row" 3 ["value", "many", "least", "greatest"] (K13.spRow K T) _ _ := ⟨g_is_row, F_is_row.fun.kp, b_is_row, K13.ok_row F_is_row TB_is_row P_is_row G13 q_is_number⟩
    have q__first_word : K13.Cal PySem.Challenge.pw_processturns_k02_whole_queues w K mg base "_first_word" 1 ["value"] (K13.spFirst K) _ _ := ⟨g__first_word, F__first_word.kp, b__first_word, K13.ok_first F__first_word G13⟩
    have q__is_order : K13.Cal PySem.Challenge.pw_processturns_k02_whole_queues w K mg base "_is_order" 4 ["value", "size"] (K13.spOrder K T) _ _ := ⟨g__is_order, F__is_order.kp, b__is_order, K13.ok_order F__is_order G13 q_is_row⟩
    have q__is_rule : K13.Cal PySem.Challenge.pw_processturns_k02_whole_queues w K mg base "_is_rule" 4 ["value", "size"] (K13.spRule K T) _ _ := ⟨g__is_rule, F__is_rule.kp, b__is_rule, K13.ok_rule F__is_rule G13 q__first_word q_is_row⟩
    have kB : Held PySem.Challenge.pw_processturns_k02_whole_queues w K mg base 5 _ (K13.spKind K T K13.bareM) := ⟨_, _, (K13.ok_bare F__is_bare G13).mono (by decide), F__is_bare.kp, b__is_bare⟩
    have kO : Held PySem.Challenge.pw_processturns_k02_whole_queues w K mg base 5 _ (K13.spKind K T K13.byOrderM) := ⟨_, _, K13.ok_byOrder F__is_by_order G13 q__is_order q_is_number q__is_rule, F__is_by_order.kp, b__is_by_order⟩
    have kR : Held PySem.Challenge.pw_processturns_k02_whole_queues w K mg base 5 _ (K13.spKind K T K13.roundsM) := ⟨_, _, (K13.ok_rounds F__is_by_rounds G13 q_is_number).mono (by decide), F__is_by_rounds.kp, b__is_by_rounds⟩
    have kL : Held PySem.Challenge.pw_processturns_k02_whole_queues w K mg base 5 _ (K13.spKind K T K13.levelsM) := ⟨_, _, K13.ok_levels F__is_by_levels TB__is_by_levels P__is_by_levels G13 q_is_number q_is_row, F__is_by_levels.fun.kp, b__is_by_levels⟩
    have kA : Held PySem.Challenge.pw_processturns_k02_whole_queues w K mg base 5 _ (K13.spKind K T K13.ageM) := ⟨_, _, K13.ok_age F__is_by_age G13 q__is_order q_is_number, F__is_by_age.kp, b__is_by_age⟩
    have kD : Held PySem.Challenge.pw_processturns_k02_whole_queues w K mg base 5 _ (K13.spKind K T K13.limitsM) := ⟨_, _, (K13.ok_limits F__is_by_limits G13 q_is_row).mono (by decide), F__is_by_limits.kp, b__is_by_limits⟩
    have kW : Held PySem.Challenge.pw_processturns_k02_whole_queues w K mg base 5 _ (K13.spKind K T K13.weightsM) := ⟨_, _, (K13.ok_weights F__is_by_weights G13 q_is_row).mono (by decide), F__is_by_weights.kp, b__is_by_weights⟩
    have s13 := K13.ok_sched F_is_scheduler q_is_number q__first_word gk KT kB kO kR kL kA kD kW (K13.Named.of F__is_bare) (K13.Named.of F__is_by_order) (K13.Named.of F__is_by_rounds) (K13.Named.of F__is_by_levels.fun) (K13.Named.of F__is_by_age) (K13.Named.of F__is_by_limits) (K13.Named.of F__is_by_weights)
    have c_is_scheduler : Cal PySem.Challenge.pw_processturns_k02_whole_queues w K mg base "is_scheduler" 6 ["value", "size"] (spD K T R_is_scheduler) _ _ := ⟨g_is_scheduler, F_is_scheduler.kp, b_is_scheduler, is_scheduler_D s13⟩
    have p11 := K11.ok_prog (P := PySem.Challenge.pw_processturns_k02_whole_queues) (w := w) (base := base) (T := T) F_is_program TB_is_program P_is_program G11 F_is_deed b_is_deed g_is_deed F_is_number b_is_number g_is_number F__locks_fit b__locks_fit g__locks_fit i_MOST_DEEDS i_MOST_UNITS_programs
    have k11 := K11.ok_chk F_check_program F_is_program p11 b_is_program g_is_program
    have l11 := K11.ok_len F_length TB_length P_length G11 F_check_program k11 b_check_program g_check_program F__units b__units g__units
    have c_is_number : Cal PySem.Challenge.pw_processturns_k02_whole_queues w K mg base "is_number" 1 ["value", "least", "greatest"] (spD K T R_is_number) _ _ := ⟨g_is_number, F_is_number.kp, b_is_number, is_number_D (K11.ok_num F_is_number G11)⟩
    have c_is_program : Cal PySem.Challenge.pw_processturns_k02_whole_queues w K mg base "is_program" 4 ["value"] (spD K T R_is_program) _ _ := ⟨g_is_program, F_is_program.fun.kp, b_is_program, is_program_D p11⟩
    have c_length : Cal PySem.Challenge.pw_processturns_k02_whole_queues w K mg base "length" 6 ["program"] (spD K T R_length) _ _ := ⟨g_length, F_length.fun.kp, b_length, length_D l11⟩
    have c__is_process : Cal PySem.Challenge.pw_processturns_k02_whole_queues w K mg base "_is_process" 5 ["value"] (spD K T R__is_process) _ _ := ⟨g__is_process, F__is_process.kp, b__is_process, ok__is_process F__is_process G GC c_is_number c_is_program⟩
    have c_is_hall : Cal PySem.Challenge.pw_processturns_k02_whole_queues w K mg base "is_hall" 7 ["value"] (spD K T R_is_hall) _ _ := ⟨g_is_hall, F_is_hall.fun.kp, b_is_hall, ok_is_hall F_is_hall G GC TB_is_hall P_is_hall c__is_process⟩
    have c_check_number : Cal PySem.Challenge.pw_processturns_k02_whole_queues w K mg base "check_number" 2 ["value", "least", "greatest"] (spD K T R_check_number) _ _ := ⟨g_check_number, F_check_number.kp, b_check_number, ok_check_number F_check_number G c_is_number⟩
    have c_check_hall : Cal PySem.Challenge.pw_processturns_k02_whole_queues w K mg base "check_hall" 8 ["value"] (spD K T R_check_hall) _ _ := ⟨g_check_hall, F_check_hall.kp, b_check_hall, ok_check_hall F_check_hall G c_is_hall⟩
    have c_check_scheduler : Cal PySem.Challenge.pw_processturns_k02_whole_queues w K mg base "check_scheduler" 7 ["value", "size"] (spD K T R_check_scheduler) _ _ := ⟨g_check_scheduler, F_check_scheduler.kp, b_check_scheduler, ok_check_scheduler F_check_scheduler G c_is_scheduler⟩
    have c_check_units : Cal PySem.Challenge.pw_processturns_k02_whole_queues w K mg base "check_units" 3 ["value"] (spD K T R_check_units) _ _ := ⟨g_check_units, F_check_units.kp, b_check_units, ok_check_units F_check_units G GC c_check_number⟩
    have c_check_run : Cal PySem.Challenge.pw_processturns_k02_whole_queues w K mg base "check_run" 9 ["scheduler", "hall", "most"] (spD K T R_check_run) _ _ := ⟨g_check_run, F_check_run.kp, b_check_run, ok_check_run F_check_run G c_check_hall c_check_scheduler c_check_units⟩
    have c__check_all : Cal PySem.Challenge.pw_processturns_k02_whole_queues w K mg base "_check_all" 10 ["scheduler", "hall", "most", "slot"] (spD K T R__check_all) _ _ := ⟨g__check_all, F__check_all.kp, b__check_all, ok__check_all F__check_all G c_check_run c_check_number⟩
    have c_whole_work : Cal PySem.Challenge.pw_processturns_k02_whole_queues w K mg base "whole_work" 9 ["hall"] (spD K T R_whole_work) _ _ := ⟨g_whole_work, F_whole_work.fun.kp, b_whole_work, ok_whole_work F_whole_work G TB_whole_work P_whole_work c_check_hall c_length⟩
    have c_is_ready : Cal PySem.Challenge.pw_processturns_k02_whole_queues w K mg base "is_ready" 1 ["post"] (spD K T R_is_ready) _ _ := ⟨g_is_ready, F_is_ready.kp, b_is_ready, ok_is_ready F_is_ready G⟩
    have c_ready_slots : Cal PySem.Challenge.pw_processturns_k02_whole_queues w K mg base "ready_slots" 2 ["posts"] (spD K T R_ready_slots) _ _ := ⟨g_ready_slots, F_ready_slots.kp, b_ready_slots, ok_ready_slots F_ready_slots G c_is_ready⟩
    have c_with_item : Cal PySem.Challenge.pw_processturns_k02_whole_queues w K mg base "with_item" 1 ["row", "place", "item"] (spD K T R_with_item) _ _ := ⟨g_with_item, F_with_item.kp, b_with_item, ok_with_item F_with_item G⟩
    have c_with_comers : Cal PySem.Challenge.pw_processturns_k02_whole_queues w K mg base "with_comers" 2 ["posts", "comers"] (spD K T R_with_comers) _ _ := ⟨g_with_comers, F_with_comers.kp, b_with_comers, ok_with_comers F_with_comers G c_with_item⟩
    have c__after_asking : Cal PySem.Challenge.pw_processturns_k02_whole_queues w K mg base "_after_asking" 2 ["posts", "holders", "who", "lock"] (spD K T R__after_asking) _ _ := ⟨g__after_asking, F__after_asking.kp, b__after_asking, ok__after_asking F__after_asking G c_with_item⟩
    have c__after_giving : Cal PySem.Challenge.pw_processturns_k02_whole_queues w K mg base "_after_giving" 2 ["posts", "holders", "lock"] (spD K T R__after_giving) _ _ := ⟨g__after_giving, F__after_giving.kp, b__after_giving, ok__after_giving F__after_giving G c_with_item⟩
    have c_after_deed : Cal PySem.Challenge.pw_processturns_k02_whole_queues w K mg base "after_deed" 3 ["posts", "holders", "who", "deed"] (spD K T R_after_deed) _ _ := ⟨g_after_deed, F_after_deed.kp, b_after_deed, ok_after_deed F_after_deed G c_with_item c__after_asking c__after_giving⟩
    have k_Q : Kls PySem.Challenge.pw_processturns_k02_whole_queues w K mg base "QueueChooser" 1 ["self", "place"] (spQI (He.ga K "QueueChooser")) (He.ga K "QueueChooser") _ _ := ⟨g_QueueChooser, mkQ, b_Q_init, ok_QueueChooser___init__ F_Q_init clQ naP⟩
    have c_chooser_for : Cal PySem.Challenge.pw_processturns_k02_whole_queues w K mg base "chooser_for" 3 ["scheduler"] (spO K T (R_chooser_for (He.ga K "QueueChooser"))) _ _ := ⟨g_chooser_for, F_chooser_for.kp, b_chooser_for, ok_chooser_for F_chooser_for G k_Q⟩
    have chain : ∀ (z : Int) (sch : PD), R_chooser_for (He.ga K "QueueChooser") [.dat sch] (.ob (He.ga K "QueueChooser") (qFs z)) →
        FnOk PySem.Challenge.pw_processturns_k02_whole_queues w K mg base CX0 15 (He.fAd K ("run", none)) d_run ["scheduler", "hall", "most"] (spD K T (R_run (qSem z) sch)) ∧ FnOk PySem.Challenge.pw_processturns_k02_whole_queues w K mg base CX0 15 (He.fAd K ("log", none)) d_log ["scheduler", "hall", "most"] (spD K T (R_log (qSem z) sch))
        ∧ FnOk PySem.Challenge.pw_processturns_k02_whole_queues w K mg base CX0 15 (He.fAd K ("ends", none)) d_ends ["scheduler", "hall", "most"] (spD K T (R_ends (qSem z) sch)) ∧ FnOk PySem.Challenge.pw_processturns_k02_whole_queues w K mg base CX0 15 (He.fAd K ("finish", none)) d_finish ["scheduler", "hall", "most", "slot"] (spD K T (R_finish (qSem z) sch)) := by
      intro z sch hcf
      have m_Q_fresh : Met PySem.Challenge.pw_processturns_k02_whole_queues w K mg base (He.ga K "QueueChooser") "fresh" 8 ["self"] (spD K T (RF (qSem z) (He.ga K "QueueChooser") (qFs z))) _ _ := ⟨clQ, h_Q_fresh, b_Q_fresh, (ok_QueueChooser_fresh F_Q_fresh G).mono (by decide)⟩
      have m_Q_joined : Met PySem.Challenge.pw_processturns_k02_whole_queues w K mg base (He.ga K "QueueChooser") "joined" 8 ["self", "memory", "comers"] (spD K T (RJ (qSem z) (He.ga K "QueueChooser") (qFs z))) _ _ := ⟨clQ, h_Q_joined, b_Q_joined, (ok_QueueChooser_joined F_Q_joined G).mono (by decide)⟩
      have m_Q_pick : Met PySem.Challenge.pw_processturns_k02_whole_queues w K mg base (He.ga K "QueueChooser") "pick" 8 ["self", "memory", "posts", "holders"] (spD K T (RP (qSem z) (He.ga K "QueueChooser") (qFs z))) _ _ := ⟨clQ, h_Q_pick, b_Q_pick, (ok_QueueChooser_pick F_Q_pick G clQ naP).mono (by decide)⟩
      have m_Q_settled : Met PySem.Challenge.pw_processturns_k02_whole_queues w K mg base (He.ga K "QueueChooser") "settled" 8 ["self", "memory", "who", "word", "woken"] (spD K T (RS (qSem z) (He.ga K "QueueChooser") (qFs z))) _ _ := ⟨clQ, h_Q_settled, b_Q_settled, (ok_QueueChooser_settled F_Q_settled G).mono (by decide)⟩
      have c_first_state : Cal PySem.Challenge.pw_processturns_k02_whole_queues w K mg base "first_state" 9 ["chooser", "size"] (spD K T (R_first_state (qSem z) (He.ga K "QueueChooser") (qFs z))) _ _ := ⟨g_first_state, F_first_state.kp, b_first_state, ok_first_state F_first_state G (q_hno z) m_Q_fresh⟩
      have c_begun : Cal PySem.Challenge.pw_processturns_k02_whole_queues w K mg base "begun" 9 ["chooser", "state", "comers"] (spD K T (R_begun (qSem z) (He.ga K "QueueChooser") (qFs z))) _ _ := ⟨g_begun, F_begun.kp, b_begun, ok_begun F_begun G (q_hno z) c_with_comers m_Q_joined m_Q_pick⟩
      have c_done : Cal PySem.Challenge.pw_processturns_k02_whole_queues w K mg base "done" 9 ["chooser", "state", "who", "deed"] (spD K T (R_done (qSem z) (He.ga K "QueueChooser") (qFs z))) _ _ := ⟨g_done, F_done.kp, b_done, ok_done F_done G (q_hno z) c_after_deed m_Q_settled⟩
      have m_M_words : Met PySem.Challenge.pw_processturns_k02_whole_queues w K mg base (He.ga K "Machine") "words" 1 ["self"] (spM K T (He.ga K "Machine") (R_words (qSem z) (He.ga K "QueueChooser") (qFs z))) _ _ := ⟨clM, h_M_words, b_M_words, ok_Machine_words F_M_words G mc⟩
      have m_M_goes_on : Met PySem.Challenge.pw_processturns_k02_whole_queues w K mg base (He.ga K "Machine") "goes_on" 3 ["self"] (spM K T (He.ga K "Machine") (R_goes (qSem z) (He.ga K "QueueChooser") (qFs z))) _ _ := ⟨clM, h_M_goes_on, b_M_goes_on, ok_Machine_goes_on F_M_goes_on G mc c_ready_slots⟩
      have m_M_next_deed : Met PySem.Challenge.pw_processturns_k02_whole_queues w K mg base (He.ga K "Machine") "_next_deed" 1 ["self", "slot"] (spM K T (He.ga K "Machine") (R_next (qSem z) (He.ga K "QueueChooser") (qFs z))) _ _ := ⟨clM, h_M_next_deed, b_M_next_deed, ok_Machine__next_deed F_M_next_deed G mc⟩
      have m_M_advance : Met PySem.Challenge.pw_processturns_k02_whole_queues w K mg base (He.ga K "Machine") "_advance" 1 ["self", "slot", "deed"] (spM K T (He.ga K "Machine") (R_adv (qSem z) (He.ga K "QueueChooser") (qFs z))) _ _ := ⟨clM, h_M_advance, b_M_advance, ok_Machine__advance F_M_advance G mc⟩
      have m_M_load : Met PySem.Challenge.pw_processturns_k02_whole_queues w K mg base (He.ga K "Machine") "load" 1 ["self", "slot", "program", "comes"] (spM K T (He.ga K "Machine") (R_load (qSem z) (He.ga K "QueueChooser") (qFs z))) _ _ := ⟨clM, h_M_load, b_M_load, ok_Machine_load F_M_load G mc⟩
      have m_M_tick : Met PySem.Challenge.pw_processturns_k02_whole_queues w K mg base (He.ga K "Machine") "tick" 10 ["self"] (spM K T (He.ga K "Machine") (R_tick (qSem z) (He.ga K "QueueChooser") (qFs z))) _ _ := ⟨clM, h_M_tick, b_M_tick, ok_Machine_tick F_M_tick G mc (q_hno z) c_begun c_done m_M_words m_M_next_deed m_M_advance⟩
      have k_M : Kls PySem.Challenge.pw_processturns_k02_whole_queues w K mg base "Machine" 10 ["self", "scheduler", "size"] (spMI K T (He.ga K "Machine") (R_Machine (qSem z) (He.ga K "QueueChooser") (qFs z) sch)) (He.ga K "Machine") _ _ := ⟨g_Machine, mkM, b_M_init, ok_Machine___init__ F_M_init G mc hcf c_chooser_for c_first_state⟩
      have c_machine_for : Cal PySem.Challenge.pw_processturns_k02_whole_queues w K mg base "machine_for" 12 ["scheduler", "hall"] (spMF K T (He.ga K "Machine") (R_machine_for (qSem z) (He.ga K "QueueChooser") (qFs z) sch)) _ _ := ⟨g_machine_for, F_machine_for.kp, b_machine_for, ok_machine_for F_machine_for G mc k_M m_M_load⟩
      have c_rows_told : Cal PySem.Challenge.pw_processturns_k02_whole_queues w K mg base "rows_told" 11 ["machine", "most"] (spM K T (He.ga K "Machine") (R_rows_told (qSem z) (He.ga K "QueueChooser") (qFs z))) _ _ := ⟨g_rows_told, F_rows_told.kp, b_rows_told, ok_rows_told F_rows_told G m_M_goes_on m_M_tick⟩
      have c_rows_of : Cal PySem.Challenge.pw_processturns_k02_whole_queues w K mg base "rows_of" 13 ["scheduler", "hall", "most"] (spD K T (R_rows_of (qSem z) sch)) _ _ := ⟨g_rows_of, F_rows_of.kp, b_rows_of, ok_rows_of F_rows_of G c_machine_for c_rows_told⟩
      have c_run_of : Cal PySem.Challenge.pw_processturns_k02_whole_queues w K mg base "run_of" 14 ["scheduler", "hall", "most"] (spD K T (R_run_of (qSem z) sch)) _ _ := ⟨g_run_of, F_run_of.kp, b_run_of, ok_run_of F_run_of G c_rows_of⟩
      exact ⟨ok_run F_run G c_check_run c_run_of, ok_log F_log G c_check_run c_rows_of, ok_ends F_ends G mc c_check_run c_machine_for c_rows_told m_M_goes_on m_M_words, ok_finish (fg := He.ga K "run") (fw := He.ga K "run") (dg := d_run) (dw := d_run) F_finish G mc c__check_all c_machine_for c_rows_told⟩
    obtain ⟨rF, lF, eF, fF⟩ := chain 0 schF (.inl ⟨rfl, rfl⟩)
    obtain ⟨rL, lL, _, _⟩ := chain (-1) schL (.inr ⟨rfl, rfl⟩)
    have c_runF : Cal PySem.Challenge.pw_processturns_k02_whole_queues w K mg base "run" 15 ["scheduler", "hall", "most"] (spD K T (R_run (qSem 0) schF)) _ _ := ⟨g_run, F_run.kp, b_run, rF⟩
    have c_logF : Cal PySem.Challenge.pw_processturns_k02_whole_queues w K mg base "log" 15 ["scheduler", "hall", "most"] (spD K T (R_log (qSem 0) schF)) _ _ := ⟨g_log, F_log.kp, b_log, lF⟩
    have c_runL : Cal PySem.Challenge.pw_processturns_k02_whole_queues w K mg base "run" 15 ["scheduler", "hall", "most"] (spD K T (R_run (qSem (-1)) schL)) _ _ := ⟨g_run, F_run.kp, b_run, rL⟩
    have c_logL : Cal PySem.Challenge.pw_processturns_k02_whole_queues w K mg base "log" 15 ["scheduler", "hall", "most"] (spD K T (R_log (qSem (-1)) schL)) _ _ := ⟨g_log, F_log.kp, b_log, lL⟩
    have c_run : Cal PySem.Challenge.pw_processturns_k02_whole_queues w K mg base "run" 15 ["scheduler", "hall", "most"] (spD K T R_run2) _ _ := ⟨g_run, F_run.kp, b_run, fnok_or rF rL⟩
    have c_ends : Cal PySem.Challenge.pw_processturns_k02_whole_queues w K mg base "ends" 15 ["scheduler", "hall", "most"] (spD K T (R_ends (qSem 0) schF)) _ _ := ⟨g_ends, F_ends.kp, b_ends, eF⟩
    have c_finish : Cal PySem.Challenge.pw_processturns_k02_whole_queues w K mg base "finish" 15 ["scheduler", "hall", "most", "slot"] (spD K T (R_finish (qSem 0) schF)) _ _ := ⟨g_finish, F_finish.kp, b_finish, fF⟩
    have c_served : Cal PySem.Challenge.pw_processturns_k02_whole_queues w K mg base "served" 16 ["scheduler", "hall", "most"] (spD K T R_served2) _ _ := ⟨g_served, F_served.kp, b_served, fnok_or (ok_served F_served G c_runF) (ok_served F_served G c_runL)⟩
    have c_idle_units : Cal PySem.Challenge.pw_processturns_k02_whole_queues w K mg base "idle_units" 16 ["scheduler", "hall", "most"] (spD K T R_idle2) _ _ := ⟨g_idle_units, F_idle_units.kp, b_idle_units, fnok_or (ok_idle_units F_idle_units G c_runF) (ok_idle_units F_idle_units G c_runL)⟩
    have c_asked_in_vain : Cal PySem.Challenge.pw_processturns_k02_whole_queues w K mg base "asked_in_vain" 16 ["scheduler", "hall", "most"] (spD K T R_vain2) _ _ := ⟨g_asked_in_vain, F_asked_in_vain.kp, b_asked_in_vain, fnok_or (ok_asked_in_vain F_asked_in_vain G c_logF) (ok_asked_in_vain F_asked_in_vain G c_logL)⟩
    have c_switches : Cal PySem.Challenge.pw_processturns_k02_whole_queues w K mg base "switches" 16 ["scheduler", "hall", "most"] (spD K T (R_switches (qSem 0) schF)) _ _ := ⟨g_switches, F_switches.kp, b_switches, ok_switches F_switches G c_runF⟩
    have c__law_start : Cal PySem.Challenge.pw_processturns_k02_whole_queues w K mg base "_law_start" 1 ["_law_script"] (LW.spStart K) _ _ := ⟨g__law_start, F__law_start.kp, b__law_start, LW.ok_start F__law_start G⟩
    have c__law_draw : Cal PySem.Challenge.pw_processturns_k02_whole_queues w K mg base "_law_draw" 1 ["_law_draws", "_law_limit"] (LW.spDraw T) _ _ := ⟨g__law_draw, F__law_draw.kp, b__law_draw, LW.ok_draw F__law_draw G⟩
    exact ok_law F_law G c__law_start c__law_draw c_length c_run c_ends c_served c_finish c_switches c_idle_units c_asked_in_vain c_whole_work the_lm
end PT
open PySem PySem.W PySem.Calls PyProof.Rows
theorem PySem.Challenge.cw_processturns_k02_whole_queues_holds : PySem.Challenge.rw_processturns_k02_whole_queues.Holds := by
  w_on; o_law
  refine HandSHeadRun.head_any (r := HD.R2w) (q := view HD.R2w.prog [96]) (H := HD.hk2) (ob := HD.ob2) (M := 8000) (loose := HD.loose2) (d := HandSHeadRun.topDef HD.R2w.prog 96) (kwd := []) HD.ob2_eq
    (by kernel_rfl) (fun s => by kernel_rfl) HD.run2 (by kernel_rfl) (by kernel_rfl) (by kernel_rfl) (by rfl) (by first | assumption | decide +kernel) (by decide +kernel) ⟨rfl, rfl, rfl, rfl, rfl, by decide +kernel⟩ ?hw ?hc
  case hw => w_witness2
  case hc =>
    refine LamX.walk_ofTsE (l := PySem.Challenge.rw_processturns_k02_whole_queues) (n := 63) (k := 17) (x := "_law_script") (CX := fun _ => L2.CX0) rfl (by decide) (by kernel_rfl) ⟨rfl, by decide, by decide⟩ ?F (fun _ _ _ _ _ z => z)
    intro w mg fa h Y G hmg0
    obtain ⟨K, KX, c⟩ := Y
    have hmg : mg ("law" : PySem.Str) = some (.ref fa) := by
      have e : (HandSHeadRun.topDef HD.R2w.prog 96).name = ("law" : PySem.Str) := by kernel_rfl
      rw [← e]
      exact hmg0
    exact ⟨K, KX, PT.law_at KX G hmg c⟩
