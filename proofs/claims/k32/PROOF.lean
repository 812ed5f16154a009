import PyProof.Rows.All
import Wide.All
import OpenK.AllK
import Wide.FinOn
import PySem.Challenge.RW_processturns_k32_whole_texts
import HandS.Codes
import HandS.Words
import HandS.Head0
import HandS.Head1
import HandS.Head2
import HandS.HeadEnd
import HandS.HeadHook1
import HandS.HeadHook2
import HandS.HeadHook3
import HandS.HeadHook4
import HandS.HeadWalk
import HandS.Defaults
import HandS.ExcIs
import HandS.ForMost
import HandS.TupAny
import HandS.Flow
import HandS.Style
import HandS.IsInst
import HandS.Deep
import HandS.Conv
import HandS.AnyAll
import HandS.Walk
import KE.GoesEnum
import HandS.ForExc
import HandS.ExcValue
import HandS.FStr
import HandS.Text
import HandS.SetFor
import HandS.EndTab
import HandS.GenList
import HandS.List
import HandS.TupMul
import HandS.SortRule
import HandS.More
set_option Elab.async false
set_option linter.all false
set_option maxRecDepth 100000
set_option maxHeartbeats 0
namespace HD
open PySem PySem.Spec PyProof.Rows L2
def top (i : Nat) : Stmt := PySem.Challenge.pw_processturns_k32_whole_texts.main.body.getD i (.Pass ⟨0, 0, 0, 0⟩)
def hD (x : Str) (i : Nat) : He.DefD := ⟨(x, none), x, x, defArgs (top i), defBody (top i), defScope (top i), [], []⟩
def fn2 : List He.DefD := [hD "is_number" 10, hD "is_deed" 14, hD "is_program" 15, hD "_locks_fit" 16, hD "check_program" 17, hD "is_hall" 21, hD "_is_process" 22, hD "check_hall" 23, hD "format_program" 25, hD "format_hall" 26, hD "_check_text" 27, hD "_number" 28, hD "parse_program" 29, hD "_program_told" 30, hD "parse_hall" 31, hD "_law_start" 33, hD "_law_draw" 34, hD "_law_pick" 35, hD "_law_error" 36, hD "_law_program" 37, hD "_law_words" 38, hD "_law_written" 39, hD "_law_parsed" 40, hD "_law_rejected" 41, hD "law" 42]
def fa2 : List He.Fa := [.glo "is_number", .glo "is_deed", .glo "is_program", .glo "_locks_fit", .glo "check_program", .glo "is_hall", .glo "_is_process", .glo "check_hall", .glo "format_program", .glo "format_hall", .glo "_check_text", .glo "_number", .glo "parse_program", .glo "_program_told", .glo "parse_hall", .glo "_law_start", .glo "_law_draw", .glo "_law_pick", .glo "_law_error", .glo "_law_program", .glo "_law_words", .glo "_law_written", .glo "_law_parsed", .glo "_law_rejected", .glo "law", .glo "TurnError", .glo "BadProgram", .glo "BadHall", .glo "BadScheduler", .glo "BadNumber", .glo "BadRecord", .glo "BadText", .glo "NotFound", .free "isinstance", .free "int", .free "bool", .free "tuple", .free "list", .free "str", .free "len", .free "all", .free "any", .free "range", .free "ValueError", .free "sum", .free "set", .free "sorted", .free "max", .int "MOST_DEEDS" 40, .int "MOST_UNITS" 99, .int "MOST_PROCESSES" 4, .int "LAST_TIME" 99, .exc "BadText", .exm "BadText" "TurnError" true]
def tf2 : List He.Defn := [("is_program", none), ("is_hall", none)]
def ts2 : List He.Tab := []
def ex2 (K : PySem.W.Frag) : Bool := (decide (PySem.W.findIn K (.ref (He.ga K "BadText")) "__getattribute__" = some (some (.builtin "BaseException.__getattribute__"))) && (decide (PySem.W.findIn K (.ref (He.ga K "BadText")) "__getattr__" = some none) && (decide (PySem.W.subIn K (.ref (He.ga K "BadText")) (.type "BaseException") = some true) && (decide (PySem.W.hasDictIn K (He.ga K "BadText") = true) && (decide (PySem.W.findIn K (.ref (He.ga K "BadText")) "__class__" = some (some (.builtin "object.__class__"))) && (decide (PySem.W.specialIn K (.builtin "object.__class__") "__get__" = some (some (.builtin "getset_descriptor.__get__"))) && (decide (PySem.W.takesIn K (.builtin "object.__class__") = some true) && (decide (PySem.W.mroIn K (He.ga K "BadText") (.type "object") = some true) && (decide (PySem.W.kitOne K (.ref (He.ga K "BadText")) (.ref (He.ga K "BadProgram")) = some false) && (decide (PySem.W.kitOne K (.ref (He.ga K "BadText")) (.ref (He.ga K "BadHall")) = some false) && (decide (PySem.W.kitOne K (.ref (He.ga K "BadText")) (.ref (He.ga K "BadScheduler")) = some false) && (decide (PySem.W.kitOne K (.ref (He.ga K "BadText")) (.ref (He.ga K "BadNumber")) = some false) && (decide (PySem.W.kitOne K (.ref (He.ga K "BadText")) (.ref (He.ga K "BadRecord")) = some false) && (decide (PySem.W.kitOne K (.ref (He.ga K "BadText")) (.ref (He.ga K "BadText")) = some true) && (decide (PySem.W.kitOne K (.ref (He.ga K "BadText")) (.ref (He.ga K "NotFound")) = some false) && (decide (PySem.W.kitOne K (.ref (He.ga K "BadText")) (.ref (He.ga K "TurnError")) = some true) && decide (PySem.W.kitOne K (.ref (He.ga K "BadText")) (.type "ValueError") = some true)))))))))))))))))
def loose2 : List Str := (["TurnError", "BadProgram", "BadHall", "BadScheduler", "BadNumber", "BadRecord", "BadText", "NotFound", "is_number", "MOST_DEEDS", "MOST_UNITS", "is_deed", "is_program", "_locks_fit", "check_program", "MOST_PROCESSES", "LAST_TIME", "is_hall", "_is_process", "check_hall"] : List Str) ++ (["format_program", "format_hall", "_check_text", "_number", "parse_program", "_program_told", "parse_hall", "_law_start", "_law_draw", "_law_pick", "_law_error", "_law_program", "_law_words", "_law_written", "_law_parsed", "_law_rejected"] : List Str)
abbrev R2w : PySem.W.OpenRow := PySem.W.OpenLaw.row PySem.Challenge.rw_processturns_k32_whole_texts
abbrev hk2 : PySem.W.Hook := He.hookX 4 fa2 fn2 ts2 tf2 ex2
def ob2 (s : PySem.W.SharedT) : He.AlX := He.obsX 4 fa2 fn2 ts2 tf2 ex2 (HandSHeadRun.getT s)
theorem ob2_eq (s : PySem.W.SharedT) : ob2 s = hk2.obs s.abs := He.obsX_eq (HandSHeadRun.getT_eq s)
end HD
namespace HD
open PySem PySem.W PySem.Calls PyProof.Rows
theorem run2 (w : World) : HandSHeadRun.RunEq R2w (PySem.W.view R2w.prog [42]) hk2 ob2 8000 loose2 w := by
  intro os
  kernel_rfl
end HD
/-! data in the heap: what keeps it, what a pure def promises -/
namespace DA
open PySem PySem.Spec PyProof.Rows L2
abbrev PD := PyData

/-! ### heaps that keep all but tables -/
def Tabs (T : List Addr) (H : Hp) : Prop := ∀ P ∈ T, GxR.TabG H P
structure Keep (T : List Addr) (H H' : Hp) : Prop where
  at_ : ∀ b o, H b = some o → b ∉ T → H' b = some o
  tab : ∀ P ∈ T, GxR.TabG H P → GxR.TabG H' P
theorem Keep.refl {T : List Addr} {H : Hp} : Keep T H H := ⟨fun _ _ e _ => e, fun _ _ e => e⟩
theorem Keep.trans {T : List Addr} {H H1 H2 : Hp} (a : Keep T H H1) (b : Keep T H1 H2) : Keep T H H2 := ⟨fun c o e n => b.at_ c o (a.at_ c o e n) n, fun P hP t => b.tab P hP (a.tab P hP t)⟩
theorem Keep.tabs {T : List Addr} {H H1 : Hp} (a : Keep T H H1) (t : Tabs T H) : Tabs T H1 := fun P hP => a.tab P hP (t P hP)
theorem Keep.same {T : List Addr} {H H1 : Hp} (s : Same H H1) : Keep T H H1 := ⟨fun b o e _ => s b o e, fun P _ ⟨ps, e, ok⟩ => ⟨ps, s _ _ e, ok⟩⟩
theorem same_new {H : Hp} {p : Addr} {o : HO} (h : H p = none) : Same H (upd H p o) := fun b x e => by
  rw [upd_ne (ne_of_none e h)]
  exact e
theorem Keep.new {T : List Addr} {H : Hp} {p : Addr} {o : HO} (h : H p = none) : Keep T H (upd H p o) := .same (same_new h)
/-- an object that is none of the first heap's is written -/
theorem Keep.own {T : List Addr} {H H1 : Hp} {p : Addr} {o : HO} (k : Keep T H H1) (t : Tabs T H) (h : H p = none) : Keep T H (upd H1 p o) := by
  have nT : p ∉ T := fun m => by
    obtain ⟨ps, e, _⟩ := t p m
    rw [h] at e; cases e
  refine ⟨fun b x e n => ?_, fun P hP tb => ?_⟩
  · rw [upd_ne (ne_of_none e h)]
    exact k.at_ b x e n
  · obtain ⟨ps, e, ok⟩ := k.tab P hP tb
    refine ⟨ps, ?_, ok⟩
    rw [upd_ne (fun z => nT (by rw [← z]; exact hP))]
    exact e
theorem Keep.tabbed {T : List Addr} {P : Addr} {H H1 : Hp} (hP : P ∈ T) (t : GxR.Tabbed P H H1) : Keep T H H1 := by
  refine ⟨fun b o e n => ?_, fun R hR tb => ?_⟩
  · rw [t.2 b (fun z => n (by rw [z]; exact hP))]
    exact e
  · by_cases z : R = P
    · rw [z]; exact t.1
    · obtain ⟨ps, e, ok⟩ := tb
      exact ⟨ps, by rw [t.2 R z]; exact e, ok⟩
theorem nT_of {T : List Addr} {H : Hp} {a : Addr} {o : HO} (t : Tabs T H) (e : H a = some o) (hn : ∀ ps, o ≠ .tbl ps) : a ∉ T := fun m => by
  obtain ⟨ps, e', _⟩ := t a m
  rw [e] at e'
  exact hn ps (Option.some.inj e')
theorem Keep.free {T : List Addr} {H H1 : Hp} (k : Keep T H H1) (t : Tabs T H) {p : Addr} (h : H1 p = none) : H p = none := by
  cases e : H p with
  | none => rfl
  | some o =>
    by_cases m : p ∈ T
    · obtain ⟨ps, e', _⟩ := k.tabs t p m
      rw [h] at e'; cases e'
    · have := k.at_ p o e m
      rw [h] at this; cases this
section
variable {K : PySem.W.Frag} {T : List Addr} {H H1 : Hp}
theorem Keep.sqL {a : Addr} {xs : List V} (k : Keep T H H1) (t : Tabs T H) (h : SqL K H a xs) : SqL K H1 a xs := by
  rcases h with (h | ⟨o, h⟩) | h
  · exact .inl (.inl (k.at_ _ _ h (nT_of t h fun ps z => by cases z)))
  · exact .inl (.inr ⟨o, k.at_ _ _ h (nT_of t h fun ps z => by cases z)⟩)
  · exact .inr h
theorem Keep.sqT {a : Addr} {xs : List V} (k : Keep T H H1) (t : Tabs T H) (h : SqT K H a xs) : SqT K H1 a xs := by
  rcases h with (h | ⟨o, h⟩) | h
  · exact .inl (.inl (k.at_ _ _ h (nT_of t h fun ps z => by cases z)))
  · exact .inl (.inr ⟨o, k.at_ _ _ h (nT_of t h fun ps z => by cases z)⟩)
  · exact .inr h
theorem Keep.lst {a : Addr} {xs : List V} (k : Keep T H H1) (t : Tabs T H) (h : H a = some (.lst xs)) : H1 a = some (.lst xs) := k.at_ _ _ h (nT_of t h fun ps z => by cases z)
mutual
theorem dp_keep (k : Keep T H H1) (t : Tabs T H) : ∀ {d : PD} {v : V}, Dp K H v d → Dp K H1 v d
  | _, _, .non => .non
  | _, _, .bl b => .bl b
  | _, _, .int i => .int i
  | _, _, .str x => .str x
  | _, _, .lst h a => .lst (k.sqL t h) (dps_keep k t a)
  | _, _, .tup h a => .tup (k.sqT t h) (dps_keep k t a)
theorem dps_keep (k : Keep T H H1) (t : Tabs T H) : ∀ {ds : List PD} {vs : List V}, DpAll K H vs ds → DpAll K H1 vs ds
  | _, _, .nil => .nil
  | _, _, .cons a r => .cons (dp_keep k t a) (dps_keep k t r)
end
theorem dp_bool {v : V} {b : Bool} (h : Dp K H v (.bool b)) : v = .bl b := by cases h; rfl
theorem dp_int {v : V} {b : Int} (h : Dp K H v (.int b)) : v = .int b := by cases h; rfl
theorem dp_str {v : V} {b : Str} (h : Dp K H v (.str b)) : v = .str b := by cases h; rfl
theorem dp_none {v : V} (h : Dp K H v .none) : v = .non := by cases h; rfl
theorem dp_list {v : V} {ds : List PD} (h : Dp K H v (.list ds)) : ∃ a xs, v = .ref a ∧ SqL K H a xs ∧ DpAll K H xs ds := by
  cases h with
  | lst h a => exact ⟨_, _, rfl, h, a⟩
theorem dp_tup {v : V} {ds : List PD} (h : Dp K H v (.tuple ds)) : ∃ a xs, v = .ref a ∧ SqT K H a xs ∧ DpAll K H xs ds := by
  cases h with
  | tup h a => exact ⟨_, _, rfl, h, a⟩
theorem dps_len : ∀ {xs : List V} {ds : List PD}, DpAll K H xs ds → xs.length = ds.length
  | _, _, .nil => rfl
  | _, _, .cons _ r => by rw [List.length_cons, List.length_cons, dps_len r]
theorem dps_get : ∀ {xs : List V} {ds : List PD} {i : Nat} {d : PD}, DpAll K H xs ds → ds[i]? = some d → ∃ x, xs[i]? = some x ∧ Dp K H x d
  | _, _, _, _, .nil, e => by simp at e
  | _, _, 0, _, .cons a _, e => by simp at e; subst e; exact ⟨_, rfl, a⟩
  | _, _, i + 1, d, .cons _ r, e => by
    obtain ⟨x, h1, h2⟩ := dps_get (i := i) (d := d) r (by simpa using e)
    exact ⟨x, by simpa using h1, h2⟩
theorem dps_at : ∀ {xs : List V} {ds : List PD} {i : Nat} {x : V}, DpAll K H xs ds → xs[i]? = some x → ∃ d, ds[i]? = some d ∧ Dp K H x d
  | _, _, _, _, .nil, e => by simp at e
  | _, _, 0, _, .cons a _, e => by simp at e; subst e; exact ⟨_, rfl, a⟩
  | _, _, i + 1, d, .cons _ r, e => by
    obtain ⟨x, h1, h2⟩ := dps_at (i := i) (x := d) r (by simpa using e)
    exact ⟨x, by simpa using h1, h2⟩
theorem dps_append : ∀ {xs ys : List V} {ds es : List PD}, DpAll K H xs ds → DpAll K H ys es → DpAll K H (xs ++ ys) (ds ++ es)
  | _, _, _, _, .nil, b => b
  | _, _, _, _, .cons a r, b => .cons a (dps_append r b)
theorem dps_set : ∀ {xs : List V} {ds : List PD} (i : Nat) {x : V} {d : PD}, DpAll K H xs ds → Dp K H x d → DpAll K H (xs.set i x) (ds.set i d)
  | _, _, _, _, _, .nil, _ => .nil
  | _, _, 0, _, _, .cons _ r, a => .cons a r
  | _, _, i + 1, _, _, .cons a r, b => .cons a (dps_set i r b)
theorem dps_take : ∀ {xs : List V} {ds : List PD} (n : Nat), DpAll K H xs ds → DpAll K H (xs.take n) (ds.take n)
  | _, _, 0, _ => .nil
  | _, _, _ + 1, .nil => .nil
  | _, _, n + 1, .cons a r => .cons a (dps_take n r)
theorem dps_drop : ∀ {xs : List V} {ds : List PD} (n : Nat), DpAll K H xs ds → DpAll K H (xs.drop n) (ds.drop n)
  | _, _, 0, r => r
  | _, _, _ + 1, .nil => .nil
  | _, _, n + 1, .cons _ r => dps_drop n r
theorem dps_ints : ∀ (ns : List Int), DpAll K H (ns.map V.int) (ns.map PyData.int)
  | [] => .nil
  | n :: ns => .cons (.int n) (dps_ints ns)
theorem dps_ints_inv : ∀ {ns : List Int} {xs : List V}, DpAll K H xs (ns.map PyData.int) → xs = ns.map V.int
  | [], _, .nil => rfl
  | n :: ns, _, .cons a r => by rw [dp_int a, dps_ints_inv r]; rfl
theorem dps_of {f : PD → V} : ∀ {ds : List PD}, (∀ d ∈ ds, Dp K H (f d) d) → DpAll K H (ds.map f) ds
  | [], _ => .nil
  | d :: ds, h => .cons (h d List.mem_cons_self) (dps_of fun e he => h e (List.mem_cons_of_mem _ he))
end

/-! ### a pure def over data -/
def spF (K : PySem.W.Frag) (T : List Addr) (ok : List PD → Prop) (F : List PD → PD) : Sp := fun vs H Q _ => ∃ ds, DpAll K H vs ds ∧ ok ds ∧ Tabs T H ∧ ∀ v H', Dp K H' v (F ds) → Keep T H H' → Q v H'

/-! ### isinstance -/
def clsD : PD → String
  | .none => "NoneType" | .bool _ => "bool" | .int _ => "int" | .str _ => "str" | .list _ => "list" | .tuple _ => "tuple" | .dict _ => "dict"
theorem dp_ty {K : PySem.W.Frag} {H : Hp} {v : V} {d : PD} (h : Dp K H v d) : TyX K H v (.type (clsD d)) := by
  cases h with
  | non => exact .base .non
  | bl b => exact .base (.bl b)
  | int i => exact .base (.int i)
  | str x => exact .base (.str x)
  | lst h a =>
    rcases h with (h | ⟨o, h⟩) | ⟨o, its, n, e, c, _⟩
    · exact .base (.lst h)
    · exact .base (.frz h)
    · exact .kList e c
  | tup h a =>
    rcases h with (h | ⟨o, h⟩) | ⟨o, its, n, e, c, _⟩
    · exact .base (.tup h)
    · exact .fTuple h
    · exact .kTuple e c
def isInt : PD → Bool | .int _ => true | .bool _ => true | _ => false
def isBool : PD → Bool | .bool _ => true | _ => false
def isTup : PD → Bool | .tuple _ => true | _ => false
def isList : PD → Bool | .list _ => true | _ => false
def isStr : PD → Bool | .str _ => true | _ => false
theorem kit_int {K : PySem.W.Frag} {H : Hp} {v : V} {d : PD} (h : Dp K H v d) : PySem.W.kitOne K (.type (clsD d)) (.type "int") = some (isInt d) := by
  cases h <;> (simp only [clsD, isInt]; exact kit_ty (by decide +kernel))
theorem kit_bool {K : PySem.W.Frag} {H : Hp} {v : V} {d : PD} (h : Dp K H v d) : PySem.W.kitOne K (.type (clsD d)) (.type "bool") = some (isBool d) := by
  cases h <;> (simp only [clsD, isBool]; exact kit_ty (by decide +kernel))
theorem kit_tup {K : PySem.W.Frag} {H : Hp} {v : V} {d : PD} (h : Dp K H v d) : PySem.W.kitOne K (.type (clsD d)) (.type "tuple") = some (isTup d) := by
  cases h <;> (simp only [clsD, isTup]; exact kit_ty (by decide +kernel))
theorem kit_list {K : PySem.W.Frag} {H : Hp} {v : V} {d : PD} (h : Dp K H v d) : PySem.W.kitOne K (.type (clsD d)) (.type "list") = some (isList d) := by
  cases h <;> (simp only [clsD, isList]; exact kit_ty (by decide +kernel))
theorem kit_str {K : PySem.W.Frag} {H : Hp} {v : V} {d : PD} (h : Dp K H v d) : PySem.W.kitOne K (.type (clsD d)) (.type "str") = some (isStr d) := by
  cases h <;> (simp only [clsD, isStr]; exact kit_ty (by decide +kernel))

/-! ### a def whose code object is known -/
structure FunC (K : PySem.W.Frag) (x qual : Str) (st : Stmt) (f : Addr) (fd : FuncData) (c : Addr) : Prop where
  ex : ∃ (oc : Value) (od : Option Addr) (kV doc pm : Value) (an : Option Addr) (ct : Value) (osl : Array (Option Value)),
    fd = PySem.W.fnOf x qual (defArgs st) (defBody st) (defScope st) .none kV doc pm an (.ref c) ct ∧ K.lookup f = some ⟨oc, od, .func fd, osl⟩ ∧ PySem.W.codeIn K (.ref c) qual = true
  kp : PySem.W.keepIn K (.ref f) = true
theorem FunC.fun {K : PySem.W.Frag} {x qual : Str} {st : Stmt} {f : Addr} {fd : FuncData} {c : Addr} (F : FunC K x qual st f fd c) : Fun K x qual st f fd := by
  obtain ⟨oc, od, kV, doc, pm, an, ct, osl, h⟩ := F.ex
  exact ⟨⟨oc, od, kV, doc, pm, an, .ref c, ct, osl, h⟩, F.kp⟩
theorem FunC.ok {P : Program} {w : World} {K : PySem.W.Frag} {mg : Str → Option Value} {base : Heap} {x qual : Str} {st : Stmt} {f : Addr} {fd : FuncData} {c : Addr} {N ps : List Str} {k : Nat} {sp : Sp} (F : FunC K x qual st f fd c) (S : FnScope N ps (defScope st)) (len : ∀ vs H Q E, sp vs H Q E → vs.length = ps.length)
    (hbody : ∀ (A : Around) (outer : List Env) (s : Shared) (H : Hp) (vs : List V) (Q : VK) (E : XK), Room k (A.deeper (envOfC qual (defScope st) s.heap.objs.size f (.ref c))) → sp vs H Q E →
      ∃ t, PSs (cxOf CX0 P w K mg base N qual (defScope st) f (.ref c) A outer s H E).nox (defBody st) t ∧ t { nx := fun _ H' => Q .non H', rt := Q } (start N vs) H) : FnOk P w K mg base CX0 (k + 1) f fd ps sp := by
  obtain ⟨oc, od, kV, doc, pm, an, ct, osl, rfl, lk, hcd⟩ := F.ex
  refine fn_of lk hcd S len fun A outer s H vs Q E hr hsp => ?_
  obtain ⟨t, h, q⟩ := hbody A outer s H vs Q E hr hsp
  exact ⟨t, h.nox, q⟩
end DA
/-! data in slots: what expressions and statements do to plain data, own lists, and objects that stand still -/
namespace DL
open PySem PySem.Spec PyProof.Rows L2 DA

/-! ### a heap without some addresses -/
def hid (M : List Addr) (H : Hp) : Hp := fun b => if b ∈ M then none else H b
theorem hid_of {M : List Addr} {H : Hp} {b : Addr} {o : HO} (n : b ∉ M) (h : H b = some o) : hid M H b = some o := by
  unfold hid
  rw [if_neg n]
  exact h
theorem hid_inv {M : List Addr} {H : Hp} {b : Addr} {o : HO} (h : hid M H b = some o) : b ∉ M ∧ H b = some o := by
  unfold hid at h
  split at h
  · cases h
  · next n => exact ⟨n, h⟩
theorem hid_same {M : List Addr} {H : Hp} : Same (hid M H) H := fun b o h => (hid_inv h).2
theorem hid_sub {M N : List Addr} {H : Hp} (s : ∀ a ∈ M, a ∈ N) : Same (hid N H) (hid M H) := fun b o h => by
  obtain ⟨n, e⟩ := hid_inv h
  exact hid_of (fun m => n (s b m)) e
theorem hid_nil {H : Hp} : hid [] H = H := by
  funext b
  unfold hid
  rw [if_neg (by simp)]
theorem hid_keep {T M : List Addr} {H H' : Hp} (k : Keep T H H') : Keep T (hid M H) (hid M H') := by
  refine ⟨fun b o e n => ?_, fun P hP tb => ?_⟩
  · obtain ⟨m, e⟩ := hid_inv e
    exact hid_of m (k.at_ b o e n)
  · obtain ⟨ps, e, ok⟩ := tb
    obtain ⟨m, e⟩ := hid_inv e
    obtain ⟨ps', e', ok'⟩ := k.tab P hP ⟨ps, e, ok⟩
    exact ⟨ps', hid_of m e', ok'⟩
theorem hid_in {M : List Addr} {H : Hp} {a : Addr} {o : HO} (h : a ∈ M) : hid M (upd H a o) = hid M H := by
  funext b
  unfold hid
  split
  · rfl
  · next n => rw [upd_ne (fun z => n (by rw [z]; exact h))]
theorem hid_new {M : List Addr} {H : Hp} {p : Addr} {o : HO} (h : H p = none) : hid (p :: M) (upd H p o) = hid M H := by
  funext b
  unfold hid
  by_cases z : b = p
  · subst z
    rw [if_pos List.mem_cons_self, h]
    split <;> rfl
  · by_cases m : b ∈ M
    · rw [if_pos (List.mem_cons_of_mem _ m), if_pos m]
    · rw [if_neg (fun q => (List.mem_cons.mp q).elim z m), if_neg m, upd_ne z]
theorem dp_same {K : PySem.W.Frag} {H H1 : Hp} {v : V} {d : PD} (s : Same H H1) (h : Dp K H v d) : Dp K H1 v d := dp_keep (T := []) (.same s) (fun _ z => nomatch z) h
theorem dps_same {K : PySem.W.Frag} {H H1 : Hp} {vs : List V} {ds : List PD} (s : Same H H1) (h : DpAll K H vs ds) : DpAll K H1 vs ds := dps_keep (T := []) (.same s) (fun _ z => nomatch z) h

/-! ### what stands in a slot -/
inductive DS where
  | non | dat (d : PD) | own (ds : List PD) | ob (C : Addr) (fs : List (Str × PD)) | raw (w : V)
abbrev DEnv := List DS
inductive FsD (K : PySem.W.Frag) (H : Hp) : List (Str × V) → List (Str × PD) → Prop where
  | nil : FsD K H [] []
  | cons {f : Str} {v : V} {d : PD} {vs ds} : Dp K H v d → FsD K H vs ds → FsD K H ((f, v) :: vs) ((f, d) :: ds)
def ObD (K : PySem.W.Frag) (H : Hp) (v : V) (C : Addr) (fs : List (Str × PD)) : Prop := ∃ p dx xs, v = .ref p ∧ H p = some (.ins C dx xs) ∧ FsD K H xs fs
theorem FsD.look {K : PySem.W.Frag} {H : Hp} : ∀ {xs : List (Str × V)} {fs : List (Str × PD)} {f : Str} {d : PD}, FsD K H xs fs → fs.lookup f = some d → ∃ v, xs.lookup f = some v ∧ Dp K H v d
  | _, _, f, d, .nil, h => by cases h
  | _, _, f, d, .cons (f := g) (v := w) (vs := ws) a r, h => by
    rw [List.lookup_cons] at h ⊢
    cases e : f == g with
    | true => rw [e] at h; cases h; exact ⟨_, rfl, a⟩
    | false => rw [e] at h; exact r.look h
theorem FsD.none {K : PySem.W.Frag} {H : Hp} : ∀ {xs : List (Str × V)} {fs : List (Str × PD)} {f : Str}, FsD K H xs fs → fs.lookup f = none → xs.lookup f = none
  | _, _, f, .nil, h => rfl
  | _, _, f, .cons (f := g) a r, h => by
    rw [List.lookup_cons] at h ⊢
    cases e : f == g with
    | true => rw [e] at h; cases h
    | false => rw [e] at h; exact r.none h
theorem FsD.keep {K : PySem.W.Frag} {T : List Addr} {H H1 : Hp} (k : Keep T H H1) (t : Tabs T H) : ∀ {xs : List (Str × V)} {fs : List (Str × PD)}, FsD K H xs fs → FsD K H1 xs fs
  | _, _, .nil => .nil
  | _, _, .cons a r => .cons (dp_keep k t a) (r.keep k t)
theorem ObD.keep {K : PySem.W.Frag} {T : List Addr} {H H1 : Hp} {v : V} {C : Addr} {fs : List (Str × PD)} (k : Keep T H H1) (t : Tabs T H) (h : ObD K H v C fs) : ObD K H1 v C fs := by
  obtain ⟨p, dx, xs, h1, h2, h3⟩ := h
  exact ⟨p, dx, xs, h1, k.at_ _ _ h2 (nT_of t h2 fun ps z => by cases z), h3.keep k t⟩
theorem ObD.same {K : PySem.W.Frag} {H H1 : Hp} {v : V} {C : Addr} {fs : List (Str × PD)} (s : Same H H1) (h : ObD K H v C fs) : ObD K H1 v C fs := h.keep (T := []) (.same s) (fun _ z => nomatch z)
/-- the slot's value, over the heap without the own lists (Hm) and the whole one -/
def SlotOk (K : PySem.W.Frag) (Hm H : Hp) (A : List Addr) : Option V → DS → Prop
  | _, .non => True
  | some v, .dat d => Dp K Hm v d
  | some v, .own ds => ∃ a xs, v = .ref a ∧ a ∈ A ∧ H a = some (.lst xs) ∧ DpAll K Hm xs ds
  | some v, .ob C fs => ObD K Hm v C fs
  | some v, .raw w => v = w
  | none, _ => False
/-- an argument of a call: data, or an object that stands still -/
def ArgOk (K : PySem.W.Frag) (Hm : Hp) (v : V) : DS → Prop
  | .dat d => Dp K Hm v d
  | .ob C fs => ObD K Hm v C fs
  | .raw w => v = w
  | _ => False
inductive ArgsOk (K : PySem.W.Frag) (Hm : Hp) : List V → List DS → Prop where
  | nil : ArgsOk K Hm [] []
  | cons {v : V} {s : DS} {vs ss} : ArgOk K Hm v s → ArgsOk K Hm vs ss → ArgsOk K Hm (v :: vs) (s :: ss)
theorem ArgOk.keep {K : PySem.W.Frag} {T : List Addr} {H H1 : Hp} (k : Keep T H H1) (t : Tabs T H) {v : V} {s : DS} (h : ArgOk K H v s) : ArgOk K H1 v s := by
  cases s with
  | dat d => exact dp_keep k t h
  | ob C fs => exact ObD.keep k t h
  | non => exact h
  | own ds => exact h
  | raw w => exact h
theorem ArgsOk.keep {K : PySem.W.Frag} {T : List Addr} {H H1 : Hp} (k : Keep T H H1) (t : Tabs T H) : ∀ {vs : List V} {ss : List DS}, ArgsOk K H vs ss → ArgsOk K H1 vs ss
  | _, _, .nil => .nil
  | _, _, .cons a r => .cons (a.keep k t) (r.keep k t)
theorem ArgsOk.len {K : PySem.W.Frag} {H : Hp} : ∀ {vs : List V} {ss : List DS}, ArgsOk K H vs ss → vs.length = ss.length
  | _, _, .nil => rfl
  | _, _, .cons _ r => by rw [List.length_cons, List.length_cons, r.len]

/-! ### where one stands -/
structure DC where
  K : PySem.W.Frag
  T : List Addr
  M : List Addr
  H0 : Hp
structure SR (c : DC) (A : List Addr) (σ : L2.St) (H : Hp) (ρ : DEnv) : Prop where
  tab : Tabs c.T c.H0
  keep : Keep c.T c.H0 H
  msk : ∀ a ∈ c.M, a ∉ c.T ∧ c.H0 a ≠ none
  new : ∀ a ∈ A, c.H0 a = none ∧ ∃ xs, H a = some (.lst xs)
  len : σ.length = ρ.length
  rel : ∀ (i : Nat) (s : DS), ρ[i]? = some s → ∃ ov, σ[i]? = some ov ∧ SlotOk c.K (hid (c.M ++ A) H) H A ov s
  inj : ∀ (i j : Nat) (ds es : List PD) (a : Addr), i ≠ j → ρ[i]? = some (.own ds) → ρ[j]? = some (.own es) → σ[i]? = some (some (.ref a)) → σ[j]? = some (some (.ref a)) → False
section
variable {c : DC} {A : List Addr} {σ : L2.St} {H H' : Hp} {ρ : DEnv}
theorem SR.tabs (r : SR c A σ H ρ) : Tabs c.T H := r.keep.tabs r.tab
theorem SR.nA (r : SR c A σ H ρ) {a : Addr} (h : a ∈ A) : a ∉ c.T := fun m => by
  obtain ⟨ps, e, _⟩ := r.tab a m
  rw [(r.new a h).1] at e
  cases e
theorem SR.nM (r : SR c A σ H ρ) : ∀ a ∈ c.M ++ A, a ∉ c.T ∧ H a ≠ none := fun a h => by
  rcases List.mem_append.mp h with h | h
  · obtain ⟨h1, h2⟩ := r.msk a h
    refine ⟨h1, fun z => h2 ?_⟩
    cases e : c.H0 a with
    | none => rfl
    | some o =>
      have := r.keep.at_ a o e h1
      rw [z] at this
      cases this
  · obtain ⟨_, xs, e⟩ := r.new a h
    exact ⟨r.nA h, by rw [e]; intro z; cases z⟩
theorem tabs_hid {T M : List Addr} (t : Tabs T H) (h : ∀ a ∈ M, a ∉ T) : Tabs T (hid M H) := fun P hP => by
  obtain ⟨ps, e, ok⟩ := t P hP
  exact ⟨ps, hid_of (fun m => h P m hP) e, ok⟩
theorem SR.tabm (r : SR c A σ H ρ) : Tabs c.T (hid (c.M ++ A) H) := tabs_hid r.tabs fun a h => (r.nM a h).1
theorem SR.move (r : SR c A σ H ρ) (k : Keep c.T H H') : SR c A σ H' ρ := by
  refine ⟨r.tab, r.keep.trans k, r.msk, fun a h => ?_, r.len, fun i s e => ?_, r.inj⟩
  · obtain ⟨h1, xs, e⟩ := r.new a h
    exact ⟨h1, xs, k.at_ _ _ e (r.nA h)⟩
  · obtain ⟨ov, h1, h2⟩ := r.rel i s e
    refine ⟨ov, h1, ?_⟩
    have km : Keep c.T (hid (c.M ++ A) H) (hid (c.M ++ A) H') := hid_keep k
    cases s with
    | non => cases ov <;> trivial
    | dat d =>
      cases ov with
      | none => exact h2
      | some v => exact dp_keep km r.tabm h2
    | own ds =>
      cases ov with
      | none => exact h2
      | some v =>
        obtain ⟨a, xs, q1, q2, q3, q4⟩ := h2
        exact ⟨a, xs, q1, q2, k.at_ _ _ q3 (r.nA q2), dps_keep km r.tabm q4⟩
    | ob C fs =>
      cases ov with
      | none => exact h2
      | some v => exact ObD.keep km r.tabm h2
    | raw w =>
      cases ov with
      | none => exact h2
      | some v => exact h2
end

/-! ### what evaluates to what -/
def ED (c : DC) (te : TE) (ρ : DEnv) (d : PD) : Prop := ∀ A σ H, SR c A σ H ρ → ∀ Q : VK, (∀ v H', Keep c.T H H' → Dp c.K (hid (c.M ++ A) H') v d → Q v H') → te σ H Q
/-- a list to be read: plain data, or an own one -/
def EL (c : DC) (te : TE) (ρ : DEnv) (ds : List PD) : Prop := ∀ A σ H, SR c A σ H ρ → ∀ Q : VK, (∀ a xs H', Keep c.T H H' → SqL c.K H' a xs → DpAll c.K (hid (c.M ++ A) H') xs ds → Q (.ref a) H') → te σ H Q
/-- a new list -/
def EN (c : DC) (te : TE) (ρ : DEnv) (ds : List PD) : Prop := ∀ A σ H, SR c A σ H ρ → ∀ Q : VK, (∀ p xs H', Keep c.T H H' → H p = none → H' p = some (.lst xs) → DpAll c.K (hid (p :: (c.M ++ A)) H') xs ds → Q (.ref p) H') → te σ H Q
def ET (c : DC) (tt : TT) (ρ : DEnv) (b : Bool) : Prop := ∀ A σ H, SR c A σ H ρ → ∀ Q : Bool → Hp → Prop, (∀ H', Keep c.T H H' → Q b H') → tt σ H Q
def EA (c : DC) (ta : TA) (ρ : DEnv) (ss : List DS) : Prop := ∀ A σ H, SR c A σ H ρ → ∀ Q : List V → Hp → Prop, (∀ vs H', Keep c.T H H' → ArgsOk c.K (hid (c.M ++ A) H') vs ss → Q vs H') → ta σ H Q
/-- an argument -/
def EG (c : DC) (te : TE) (ρ : DEnv) (s : DS) : Prop := ∀ A σ H, SR c A σ H ρ → ∀ Q : VK, (∀ v H', Keep c.T H H' → ArgOk c.K (hid (c.M ++ A) H') v s → Q v H') → te σ H Q
section
variable {c : DC} {ρ : DEnv} {ta tb te : TE} {d e : PD}
theorem ed_var {i : Nat} (h : ρ[i]? = some (.dat d)) : ED c (tVar i) ρ d := fun A σ H r Q q => by
  obtain ⟨ov, h1, h2⟩ := r.rel i _ h
  cases ov with
  | none => exact False.elim h2
  | some v => exact ⟨v, h1, q v H .refl h2⟩
theorem ed_int {i : Int} : ED c (tC (.int i)) ρ (.int i) := fun A σ H r Q q => q _ H .refl (.int i)
theorem ed_bl {b : Bool} : ED c (tC (.bl b)) ρ (.bool b) := fun A σ H r Q q => q _ H .refl (.bl b)
theorem ed_non : ED c (tC .non) ρ .none := fun A σ H r Q q => q _ H .refl .non
theorem ed_str {z : Str} : ED c (tC (.str z)) ρ (.str z) := fun A σ H r Q q => q _ H .refl (.str z)
theorem ed_is (h : ED c te ρ d) (he : d = e) : ED c te ρ e := he ▸ h
theorem el_is {ds es : List PD} (h : EL c te ρ ds) (he : ds = es) : EL c te ρ es := he ▸ h
theorem en_is {ds es : List PD} (h : EN c te ρ ds) (he : ds = es) : EN c te ρ es := he ▸ h
theorem et_is {tt : TT} {a b : Bool} (h : ET c tt ρ a) (he : a = b) : ET c tt ρ b := he ▸ h
/-- a rule of two values -/
theorem ed_op {r : R2} {x : PD} {y : PD} (ha : ED c ta ρ x) (hb : ED c tb ρ y) (hr : ∀ A σ H v w, SR c A σ H ρ → Dp c.K (hid (c.M ++ A) H) v x → Dp c.K (hid (c.M ++ A) H) w y → ∀ Q : VK, (∀ z H', Keep c.T H H' → Dp c.K (hid (c.M ++ A) H') z d → Q z H') → r v w H Q) : ED c (tOp r ta tb) ρ d := fun A σ H s Q q =>
  ha A σ H s _ fun v H1 k1 h1 => hb A σ H1 (s.move k1) _ fun w H2 k2 h2 => hr A σ H2 v w ((s.move k1).move k2) (dp_keep (hid_keep k2) (s.move k1).tabm h1) h2 Q fun z H3 k3 h3 => q z H3 ((k1.trans k2).trans k3) h3
theorem ed_I0 {g : Int → Int → Int} {i j : Int} (ha : ED c ta ρ (.int i)) (hb : ED c tb ρ (.int j)) : ED c (tOp (rI0 fun a b => .int (g a b)) ta tb) ρ (.int (g i j)) :=
  ed_op ha hb fun A σ H v w s h1 h2 Q q => ⟨i, j, dp_int h1, dp_int h2, q _ H .refl (.int _)⟩
theorem ed_I {C : Int → Int → Prop} {g : Int → Int → Int} {i j : Int} (ha : ED c ta ρ (.int i)) (hb : ED c tb ρ (.int j)) (hc : C i j) : ED c (tOp (rI C fun a b => .int (g a b)) ta tb) ρ (.int (g i j)) :=
  ed_op ha hb fun A σ H v w s h1 h2 Q q => ⟨i, j, dp_int h1, dp_int h2, hc, q _ H .refl (.int _)⟩
theorem ed_IB {g : Int → Int → Bool} {i j : Int} (ha : ED c ta ρ (.int i)) (hb : ED c tb ρ (.int j)) : ED c (tOp (rI0 fun a b => .bl (g a b)) ta tb) ρ (.bool (g i j)) :=
  ed_op ha hb fun A σ H v w s h1 h2 Q q => ⟨i, j, dp_int h1, dp_int h2, q _ H .refl (.bl _)⟩
/-- == of flat things -/
def flatD : PD → Bool
  | .none => true | .bool _ => true | .int _ => true | .str _ => true | _ => false
def vOf : PD → V
  | .none => .non | .bool b => .bl b | .int i => .int i | .str z => .str z | _ => .non
theorem dp_flat {K : PySem.W.Frag} {H : Hp} {v : V} {d : PD} (h : Dp K H v d) (f : flatD d = true) : v = vOf d := by
  cases h <;> first | rfl | exact absurd f Bool.false_ne_true
theorem flat_dp {K : PySem.W.Frag} {H : Hp} {d : PD} (f : flatD d = true) : Dp K H (vOf d) d := by
  cases d <;> first | exact absurd f Bool.false_ne_true | constructor
theorem flat_V {d : PD} (f : flatD d = true) : flatV (vOf d) = true := by
  cases d <;> first | exact absurd f Bool.false_ne_true | rfl
theorem ed_eq {x y : PD} (ha : ED c ta ρ x) (hb : ED c tb ρ y) (hx : flatD x = true) (hy : flatD y = true) (hs : scal (vOf x) (vOf y) = true) : ED c (tOp rEq ta tb) ρ (.bool (decide (vOf x = vOf y))) :=
  ed_op ha hb fun A σ H v w s h1 h2 Q q => by
    rw [dp_flat h1 hx, dp_flat h2 hy]
    exact ⟨hs, q _ H .refl (.bl _)⟩
theorem ed_ne {x y : PD} (ha : ED c ta ρ x) (hb : ED c tb ρ y) (hx : flatD x = true) (hy : flatD y = true) (hs : scal (vOf x) (vOf y) = true) : ED c (tOp rNe ta tb) ρ (.bool (!decide (vOf x = vOf y))) :=
  ed_op ha hb fun A σ H v w s h1 h2 Q q => by
    rw [dp_flat h1 hx, dp_flat h2 hy]
    exact ⟨hs, q _ H .refl (.bl _)⟩
theorem ed_eqD {x y : PD} (ha : ED c ta ρ x) (hb : ED c tb ρ y) (hx : SeqAt.shaped x = true) (hy : SeqAt.shaped y = true) : ED c (tOp (rEqD c.K) ta tb) ρ (.bool (PyData.eqv x y)) :=
  ed_op ha hb fun A σ H v w s h1 h2 Q q => ⟨x, y, dp_same hid_same h1, dp_same hid_same h2, hx, hy, q _ H .refl (.bl _)⟩
theorem ed_neD {x y : PD} (ha : ED c ta ρ x) (hb : ED c tb ρ y) (hx : SeqAt.shaped x = true) (hy : SeqAt.shaped y = true) : ED c (tOp (rNeD c.K) ta tb) ρ (.bool (!PyData.eqv x y)) :=
  ed_op ha hb fun A σ H v w s h1 h2 Q q => ⟨x, y, dp_same hid_same h1, dp_same hid_same h2, hx, hy, q _ H .refl (.bl _)⟩
def isNone : PD → Bool | .none => true | _ => false
theorem dp_isN {K : PySem.W.Frag} {H : Hp} {v : V} {d : PD} (h : Dp K H v d) : decide (v = .non) = isNone d := by
  cases h <;> rfl
theorem ed_isN (ha : ED c ta ρ d) : ED c (tIsN ta) ρ (.bool (isNone d)) := fun A σ H s Q q => ha A σ H s _ fun v H1 k1 h1 => by
  rw [dp_isN h1]
  exact q _ H1 k1 (.bl _)
theorem ed_notN (ha : ED c ta ρ d) : ED c (tNotN ta) ρ (.bool (!isNone d)) := fun A σ H s Q q => ha A σ H s _ fun v H1 k1 h1 => by
  rw [dp_isN h1]
  exact q _ H1 k1 (.bl _)
/-! tests -/
theorem et_test {b : Bool} (h : ED c te ρ (.bool b)) : ET c (tTest te) ρ b := fun A σ H s Q q => h A σ H s _ fun v H1 k1 h1 => ⟨b, dp_bool h1, q H1 k1⟩
theorem et_B {b : Bool} (h : ED c te ρ (.bool b)) : ET c (tB te) ρ b := fun A σ H s Q q => h A σ H s _ fun v H1 k1 h1 => ⟨b, dp_bool h1, q H1 k1⟩
theorem et_not {t : TT} {b : Bool} (h : ET c t ρ b) : ET c (tNot t) ρ (!b) := fun A σ H s Q q => h A σ H s _ fun H1 k1 => q H1 k1
theorem et_and {t u : TT} {a b : Bool} (h1 : ET c t ρ a) (h2 : a = true → ET c u ρ b) : ET c (tAnd t u) ρ (a && b) := fun A σ H s Q q => h1 A σ H s _ fun H1 k1 => by
  cases a with
  | true =>
    show u σ H1 Q
    exact h2 rfl A σ H1 (s.move k1) Q fun H2 k2 => q H2 (k1.trans k2)
  | false =>
    show Q false H1
    exact q H1 k1
theorem et_or {t u : TT} {a b : Bool} (h1 : ET c t ρ a) (h2 : a = false → ET c u ρ b) : ET c (tOr t u) ρ (a || b) := fun A σ H s Q q => h1 A σ H s _ fun H1 k1 => by
  cases a with
  | true =>
    show Q true H1
    exact q H1 k1
  | false =>
    show u σ H1 Q
    exact h2 rfl A σ H1 (s.move k1) Q fun H2 k2 => q H2 (k1.trans k2)
theorem et_yes : ET c tYes ρ true := fun A σ H s Q q => q H .refl
/-- truth of data -/
def truD : PD → Bool
  | .none => false | .bool b => b | .int i => i != 0 | .str z => (z.length : Int) != 0 | .list xs => !xs.isEmpty | .tuple xs => !xs.isEmpty | .dict _ => false
theorem isE {K : PySem.W.Frag} {H : Hp} : ∀ {xs : List V} {ds : List PD}, DpAll K H xs ds → xs.isEmpty = ds.isEmpty
  | _, _, .nil => rfl
  | _, _, .cons _ _ => rfl
theorem sqt_same {K : PySem.W.Frag} {H H' : Hp} {a : Addr} {xs : List V} (s : Same H H') (h : SqT K H a xs) : SqT K H' a xs := by
  rcases h with (h | ⟨o, h⟩) | h
  · exact .inl (.inl (s _ _ h))
  · exact .inl (.inr ⟨o, s _ _ h⟩)
  · exact .inr h
theorem tru_dp {K : PySem.W.Frag} {H H' : Hp} {v : V} {d : PD} (s : Same H H') (h : Dp K H v d) (hz : ∀ z, d = .str z → z.length ≤ sizeLine) : TruV K v H' (truD d) := by
  cases h with
  | non => exact rfl
  | bl b => exact rfl
  | int i => exact rfl
  | str x => exact ⟨hz x rfl, rfl⟩
  | lst h a => exact .inl ⟨_, s.seq h, by show (!_) = _; rw [isE a]⟩
  | tup h a => exact .inr (.inl ⟨_, (sqt_same s h), by show (!_) = _; rw [isE a]⟩)
theorem et_truth (h : ED c te ρ d) (hz : ∀ z, d = .str z → z.length ≤ sizeLine := by intro z e; cases e) : ET c (fun σ H Q => te σ H fun x H' => ∃ k, TruV c.K x H' k ∧ Q k H') ρ (truD d) := fun A σ H s Q q => h A σ H s _ fun v H1 k1 h1 => ⟨_, tru_dp hid_same h1 hz, q H1 k1⟩
theorem et_truthL {ds : List PD} (h : EL c te ρ ds) : ET c (fun σ H Q => te σ H fun x H' => ∃ k, TruV c.K x H' k ∧ Q k H') ρ (!ds.isEmpty) := fun A σ H s Q q => h A σ H s _ fun a xs H1 k1 h1 h2 => ⟨_, .inl ⟨xs, h1, rfl⟩, by
  rw [isE h2]
  exact q H1 k1⟩
theorem ed_if {t : TT} {b : Bool} (h : ET c t ρ b) (h1 : b = true → ED c ta ρ d) (h2 : b = false → ED c tb ρ d) : ED c (tIf t ta tb) ρ d := fun A σ H s Q q => h A σ H s _ fun H1 k1 => by
  cases b with
  | true =>
    show ta σ H1 Q
    exact h1 rfl A σ H1 (s.move k1) Q fun v H2 k2 h => q v H2 (k1.trans k2) h
  | false =>
    show tb σ H1 Q
    exact h2 rfl A σ H1 (s.move k1) Q fun v H2 k2 h => q v H2 (k1.trans k2) h
theorem ed_andV {a b : Bool} (h1 : ED c ta ρ (.bool a)) (h2 : a = true → ED c tb ρ (.bool b)) : ED c (tAndV ta tb) ρ (.bool (a && b)) := fun A σ H s Q q => h1 A σ H s _ fun v H1 k1 hv => ⟨a, dp_bool hv, by
  cases a with
  | true =>
    show tb σ H1 Q
    exact h2 rfl A σ H1 (s.move k1) Q fun v H2 k2 h => q v H2 (k1.trans k2) h
  | false =>
    show Q (.bl false) H1
    exact q _ H1 k1 (.bl _)⟩
/-! lists and tuples -/
theorem el_ed {ds : List PD} (h : ED c te ρ (.list ds)) : EL c te ρ ds := fun A σ H s Q q => h A σ H s _ fun v H1 k1 h1 => by
  obtain ⟨a, xs, rfl, h2, h3⟩ := dp_list h1
  exact q a xs H1 k1 (hid_same.seq h2) h3
theorem el_own {i : Nat} {ds : List PD} (h : ρ[i]? = some (.own ds)) : EL c (tVar i) ρ ds := fun A σ H r Q q => by
  obtain ⟨ov, h1, h2⟩ := r.rel i _ h
  cases ov with
  | none => exact False.elim h2
  | some v =>
    obtain ⟨a, xs, rfl, q2, q3, q4⟩ := h2
    exact ⟨_, h1, q a xs H .refl (SqL.of q3) q4⟩
theorem en_el {ds : List PD} (h : EN c te ρ ds) : EL c te ρ ds := fun A σ H s Q q => h A σ H s _ fun p xs H1 k1 hp h1 h2 => q p xs H1 k1 (SqL.of h1) (dps_same (hid_sub fun a m => List.mem_cons_of_mem _ m) h2)
theorem nfresh {A : List Addr} {σ : L2.St} {H : Hp} (r : SR c A σ H ρ) {p : Addr} (hp : H p = none) : p ∉ c.M ++ A := fun m => (r.nM p m).2 hp
theorem ed_en {ds : List PD} (h : EN c te ρ ds) : ED c te ρ (.list ds) := fun A σ H s Q q => h A σ H s _ fun p xs H1 k1 hp h1 h2 => q _ H1 k1 (.lst (SqL.of (hid_of (nfresh s hp) h1)) (dps_same (hid_sub fun a m => List.mem_cons_of_mem _ m) h2))
theorem eg_dat (h : ED c te ρ d) : EG c te ρ (.dat d) := h
theorem eg_ob {i : Nat} {C : Addr} {fs : List (Str × PD)} (h : ρ[i]? = some (.ob C fs)) : EG c (tVar i) ρ (.ob C fs) := fun A σ H r Q q => by
  obtain ⟨ov, h1, h2⟩ := r.rel i _ h
  cases ov with
  | none => exact False.elim h2
  | some v => exact ⟨v, h1, q v H .refl h2⟩
theorem eg_raw {i : Nat} {w : V} (h : ρ[i]? = some (.raw w)) : EG c (tVar i) ρ (.raw w) := fun A σ H r Q q => by
  obtain ⟨ov, h1, h2⟩ := r.rel i _ h
  cases ov with
  | none => exact False.elim h2
  | some v => exact ⟨v, h1, q v H .refl h2⟩
/-- a field of a changing object, as it stands at the entry -/
theorem fld_at {A : List Addr} {σ : L2.St} {H : Hp} (r : SR c A σ H ρ) {p C dx : Addr} {fs : List (Str × V)} (h0 : c.H0 p = some (.ins C dx fs)) : H p = some (.ins C dx fs) := r.keep.at_ _ _ h0 (nT_of r.tab h0 fun ps z => by cases z)
theorem base_dp {A : List Addr} {σ : L2.St} {H : Hp} (r : SR c A σ H ρ) : Keep c.T (hid c.M c.H0) (hid (c.M ++ A) H) := by
  refine ⟨fun b o e n => ?_, fun P hP tb => ?_⟩
  · obtain ⟨m, e⟩ := hid_inv e
    refine hid_of (fun q => ?_) (r.keep.at_ b o e n)
    rcases List.mem_append.mp q with q | q
    · exact m q
    · rw [(r.new b q).1] at e
      cases e
  · obtain ⟨ps, e, ok⟩ := tb
    obtain ⟨m, e⟩ := hid_inv e
    obtain ⟨ps', e', ok'⟩ := r.keep.tab P hP ⟨ps, e, ok⟩
    exact ⟨ps', hid_of (fun q => (r.nM P q).1 hP) e', ok'⟩
theorem base_tab {A : List Addr} {σ : L2.St} {H : Hp} (r : SR c A σ H ρ) : Tabs c.T (hid c.M c.H0) := tabs_hid r.tab fun a h => (r.msk a h).1
theorem ed_mfld {i : Nat} {p C dx : Addr} {fs : List (Str × V)} {f : Str} {v : V} (h : ρ[i]? = some (.raw (.ref p))) (h0 : c.H0 p = some (.ins C dx fs)) (cl : Cls c.K C) (na : NoAttr c.K C f) (hl : fs.lookup f = some v) (hd : Dp c.K (hid c.M c.H0) v d) : ED c (tFld c.K (tVar i) f) ρ d := fun A σ H r Q q => by
  obtain ⟨ov, h1, h2⟩ := r.rel i _ h
  cases ov with
  | none => exact False.elim h2
  | some w =>
    have e : w = .ref p := h2
    subst e
    exact ⟨_, h1, p, C, dx, fs, v, rfl, fld_at r h0, cl, na, hl, q v H .refl (dp_keep (base_dp r) (base_tab r) hd)⟩
theorem el_mfld {i : Nat} {p C dx a : Addr} {fs : List (Str × V)} {f : Str} {xs : List V} {ds : List PD} (h : ρ[i]? = some (.raw (.ref p))) (h0 : c.H0 p = some (.ins C dx fs)) (cl : Cls c.K C) (na : NoAttr c.K C f) (hl : fs.lookup f = some (.ref a)) (ha : c.H0 a = some (.lst xs)) (hd : DpAll c.K (hid c.M c.H0) xs ds) : EL c (tFld c.K (tVar i) f) ρ ds := fun A σ H r Q q => by
  obtain ⟨ov, h1, h2⟩ := r.rel i _ h
  cases ov with
  | none => exact False.elim h2
  | some w =>
    have e : w = .ref p := h2
    subst e
    exact ⟨_, h1, p, C, dx, fs, _, rfl, fld_at r h0, cl, na, hl, q a xs H .refl (SqL.of (r.keep.at_ _ _ ha (nT_of r.tab ha fun ps z => by cases z))) (dps_keep (base_dp r) (base_tab r) hd)⟩
theorem ea_nil : EA c tNil ρ [] := fun A σ H r Q q => q [] H .refl .nil
theorem ea_cons {tr : TA} {s : DS} {ss : List DS} (h : EG c te ρ s) (hr : EA c tr ρ ss) : EA c (tCons te tr) ρ (s :: ss) := fun A σ H r Q q =>
  h A σ H r _ fun v H1 k1 h1 => hr A σ H1 (r.move k1) _ fun vs H2 k2 h2 => q _ H2 (k1.trans k2) (.cons (h1.keep (hid_keep k2) (r.move k1).tabm) h2)
theorem ea_d {tr : TA} {ss : List DS} (h : ED c te ρ d) (hr : EA c tr ρ ss) : EA c (tCons te tr) ρ (.dat d :: ss) := ea_cons (eg_dat h) hr
theorem args_dps {K : PySem.W.Frag} {H : Hp} : ∀ {vs : List V} {ds : List PD}, ArgsOk K H vs (ds.map .dat) → DpAll K H vs ds
  | _, [], .nil => .nil
  | _, d :: ds, .cons a r => .cons a (args_dps r)
theorem ed_tup {ta : TA} {ds : List PD} (h : EA c ta ρ (ds.map .dat)) (hz : ds.length ≤ 1000) : ED c (tTup ta) ρ (.tuple ds) := fun A σ H s Q q => h A σ H s _ fun vs H1 k1 h1 => by
  have h2 := args_dps h1
  refine ⟨by rw [dps_len h2]; exact Nat.le_of_lt (small1000 hz), fun p hp => q _ _ (k1.trans (.new hp)) ?_⟩
  have n := nfresh (s.move k1) hp
  have sm : Same (hid (c.M ++ A) H1) (hid (c.M ++ A) (upd H1 p (.tup vs))) := fun b o e => by
    obtain ⟨m, e⟩ := hid_inv e
    exact hid_of m (by rw [upd_ne (ne_of_none e hp)]; exact e)
  exact .tup (SqT.of (hid_of n upd_same)) (dps_same sm h2)
theorem en_lst {ta : TA} {ds : List PD} (h : EA c ta ρ (ds.map .dat)) (hz : ds.length ≤ 1000) : EN c (tLst ta) ρ ds := fun A σ H s Q q => h A σ H s _ fun vs H1 k1 h1 => by
  have h2 := args_dps h1
  refine ⟨by rw [dps_len h2]; exact Nat.le_of_lt (small1000 hz), fun p hp => q p vs _ (k1.trans (.new hp)) (k1.free s.tabs hp) upd_same ?_⟩
  rw [hid_new hp]
  exact h2
/-! items -/
theorem atI_map {K : PySem.W.Frag} {H : Hp} {xs : List V} {ds : List PD} {i : Int} (h : DpAll K H xs ds) (e : atI ds i = some d) : ∃ v, atI xs i = some v ∧ Dp K H v d := by
  unfold atI at e ⊢
  rw [dps_len h]
  cases q : ixN ds.length i with
  | none => rw [q] at e; cases e
  | some j =>
    rw [q] at e
    exact dps_get h e
theorem ed_ixL {ds : List PD} {i : Int} (ha : EL c ta ρ ds) (hb : ED c tb ρ (.int i)) (e : atI ds i = some d) : ED c (tOp (rIxL c.K) ta tb) ρ d := fun A σ H s Q q =>
  ha A σ H s _ fun a xs H1 k1 h1 h2 => hb A σ H1 (s.move k1) _ fun w H2 k2 h3 => by
    have s2 := (s.move k1).move k2
    obtain ⟨v, e1, e2⟩ := atI_map (dps_keep (hid_keep k2) (s.move k1).tabm h2) e
    exact ⟨a, xs, i, v, rfl, dp_int h3, k2.sqL (s.move k1).tabs h1, e1, q v H2 (k1.trans k2) e2⟩
theorem ed_ixT {ds : List PD} {i : Int} (ha : ED c ta ρ (.tuple ds)) (hb : ED c tb ρ (.int i)) (e : atI ds i = some d) : ED c (tOp (rIxT c.K) ta tb) ρ d :=
  ed_op ha hb fun A σ H v w s h1 h2 Q q => by
    obtain ⟨a, xs, rfl, h3, h4⟩ := dp_tup h1
    obtain ⟨z, e1, e2⟩ := atI_map h4 e
    exact ⟨a, xs, i, z, rfl, dp_int h2, sqt_same hid_same h3, e1, q z H .refl e2⟩
theorem ed_ixLx {ds : List PD} {i : Int} (ha : EL c ta ρ ds) (hb : ED c tb ρ (.int i)) (e : atI ds i = some d) : ED c (tOp (rIx c.K) ta tb) ρ d := fun A σ H s Q q =>
  ha A σ H s _ fun a xs H1 k1 h1 h2 => hb A σ H1 (s.move k1) _ fun w H2 k2 h3 => by
    obtain ⟨v, e1, e2⟩ := atI_map (dps_keep (hid_keep k2) (s.move k1).tabm h2) e
    exact .inl ⟨a, xs, i, v, rfl, dp_int h3, k2.sqL (s.move k1).tabs h1, e1, q v H2 (k1.trans k2) e2⟩
/-! len -/
def lenR (K : PySem.W.Frag) : List V → Hp → VK → Prop := fun xs H Q => ∃ p ys, xs = [.ref p] ∧ (SqL K H p ys ∨ SqT K H p ys) ∧ Q (.int ys.length) H
theorem ed_lenL {ds : List PD} (ha : EL c ta ρ ds) : ED c (tCB (lenR c.K) (tCons ta tNil)) ρ (.int (ds.length : Int)) := fun A σ H s Q q => ha A σ H s _ fun a xs H1 k1 h1 h2 => ⟨a, xs, rfl, .inl h1, by
  rw [dps_len h2]
  exact q _ H1 k1 (.int _)⟩
theorem ed_lenT {ds : List PD} (ha : ED c ta ρ (.tuple ds)) : ED c (tCB (lenR c.K) (tCons ta tNil)) ρ (.int (ds.length : Int)) := fun A σ H s Q q => ha A σ H s _ fun v H1 k1 h1 => by
  obtain ⟨a, xs, rfl, h3, h4⟩ := dp_tup h1
  refine ⟨a, xs, rfl, .inr (sqt_same hid_same h3), ?_⟩
  rw [dps_len h4]
  exact q _ H1 k1 (.int _)
/-! tuples joined, cut -/
theorem ed_catT {xs ys : List PD} (ha : ED c ta ρ (.tuple xs)) (hb : ED c tb ρ (.tuple ys)) (hz : xs.length + ys.length ≤ 1000) : ED c (tOp (rCatA c.K) ta tb) ρ (.tuple (xs ++ ys)) :=
  ed_op ha hb fun A σ H v w s h1 h2 Q q => by
    obtain ⟨a, us, rfl, h3, h4⟩ := dp_tup h1
    obtain ⟨b, ws, rfl, h5, h6⟩ := dp_tup h2
    refine ⟨a, b, us, ws, rfl, rfl, sqt_same hid_same h3, sqt_same hid_same h5, by rw [dps_len h4, dps_len h6]; exact Nat.le_of_lt (small1000 hz), fun e => ?_, fun _ e => ?_, fun _ _ p hp => ?_⟩
    · subst e
      cases h4
      exact q _ H .refl h2
    · subst e
      cases h6
      rw [List.append_nil] at q
      exact q _ H .refl h1
    · have sm : Same (hid (c.M ++ A) H) (hid (c.M ++ A) (upd H p (.tup (us ++ ws)))) := fun b o e => by
        obtain ⟨m, e⟩ := hid_inv e
        exact hid_of m (by rw [upd_ne (ne_of_none e hp)]; exact e)
      exact q _ _ (.new hp) (.tup (SqT.of (hid_of (nfresh s hp) upd_same)) (dps_same sm (dps_append h4 h6)))
def EO (c : DC) (to : TO) (ρ : DEnv) (o : Option Int) : Prop := ∀ A σ H, SR c A σ H ρ → ∀ Q : Option Int → Hp → Prop, (∀ H', Keep c.T H H' → Q o H') → to σ H Q
theorem eo_none : EO c tNoPart ρ none := fun A σ H s Q q => q H .refl
theorem eo_some {i : Int} (h : ED c te ρ (.int i)) : EO c (tPart te) ρ (some i) := fun A σ H s Q q => h A σ H s _ fun v H1 k1 h1 => ⟨i, dp_int h1, q H1 k1⟩
def cutPD (xs : List PD) (lo hi : Option Int) : List PD := (xs.drop (HT.sIx xs.length 0 lo)).take (HT.sIx xs.length xs.length hi - HT.sIx xs.length 0 lo)
theorem dps_cut {K : PySem.W.Frag} {H : Hp} {xs : List V} {ds : List PD} (lo hi : Option Int) (h : DpAll K H xs ds) : DpAll K H (cutV xs lo hi) (cutPD ds lo hi) := by
  unfold cutV cutPD
  rw [dps_len h]
  exact dps_take _ (dps_drop _ h)
theorem cut_whole {xs : List PD} {lo hi : Option Int} (h : HT.sIx xs.length 0 lo = 0 ∧ HT.sIx xs.length xs.length hi = xs.length) : cutPD xs lo hi = xs := by
  unfold cutPD
  rw [h.1, h.2]
  simp
theorem ed_slT {xs : List PD} {tl th : TO} {lo hi : Option Int} (h : ED c te ρ (.tuple xs)) (h1 : EO c tl ρ lo) (h2 : EO c th ρ hi) : ED c (tSl (rSlA c.K) te tl th) ρ (.tuple (cutPD xs lo hi)) := fun A σ H s Q q =>
  h A σ H s _ fun v H1 k1 g1 => h1 A σ H1 (s.move k1) _ fun H2 k2 => h2 A σ H2 ((s.move k1).move k2) _ fun H3 k3 => by
    have s3 := ((s.move k1).move k2).move k3
    have g2 := dp_keep (hid_keep (k2.trans k3)) (s.move k1).tabm g1
    obtain ⟨a, us, rfl, h3, h4⟩ := dp_tup g2
    refine ⟨a, us, rfl, sqt_same hid_same h3, fun e => ?_, fun _ p hp => ?_⟩
    · rw [dps_len h4] at e
      rw [cut_whole e] at q
      exact q _ H3 ((k1.trans k2).trans k3) g2
    · have sm : Same (hid (c.M ++ A) H3) (hid (c.M ++ A) (upd H3 p (.tup (cutV us lo hi)))) := fun b o e => by
        obtain ⟨m, e⟩ := hid_inv e
        exact hid_of m (by rw [upd_ne (ne_of_none e hp)]; exact e)
      exact q _ _ (((k1.trans k2).trans k3).trans (.new hp)) (.tup (SqT.of (hid_of (nfresh s3 hp) upd_same)) (dps_same sm (dps_cut lo hi h4)))
theorem en_slL {xs : List PD} {tl th : TO} {lo hi : Option Int} (h : EL c te ρ xs) (h1 : EO c tl ρ lo) (h2 : EO c th ρ hi) : EN c (tSl (rSlL c.K) te tl th) ρ (cutPD xs lo hi) := fun A σ H s Q q =>
  h A σ H s _ fun a us H1 k1 g1 g2 => h1 A σ H1 (s.move k1) _ fun H2 k2 => h2 A σ H2 ((s.move k1).move k2) _ fun H3 k3 => by
    have s3 := ((s.move k1).move k2).move k3
    refine ⟨a, us, rfl, (k2.trans k3).sqL (s.move k1).tabs g1, fun p hp => ?_⟩
    refine q p _ _ (((k1.trans k2).trans k3).trans (.new hp)) (((k1.trans k2).trans k3).free s.tabs hp) upd_same ?_
    rw [hid_new hp]
    exact dps_cut lo hi (dps_keep (hid_keep (k2.trans k3)) (s.move k1).tabm g2)
/-! in -/
theorem dps_flat {K : PySem.W.Frag} {H : Hp} : ∀ {xs : List V} {ds : List PD}, DpAll K H xs ds → ds.all flatD = true → xs = ds.map vOf
  | _, _, .nil, _ => rfl
  | _, _, .cons a r, h => by
    rw [List.all_cons, Bool.and_eq_true] at h
    rw [List.map_cons, dp_flat a h.1, dps_flat r h.2]
theorem flats_V {ds : List PD} (h : ds.all flatD = true) : (ds.map vOf).all flatV = true := by
  rw [List.all_map, List.all_eq_true]
  intro d hd
  exact flat_V (List.all_eq_true.mp h d hd)
theorem ed_inT {neg : Bool} {x : PD} {ys : List PD} (ha : ED c ta ρ x) (hb : ED c tb ρ (.tuple ys)) (hx : flatD x = true) (hy : ys.all flatD = true) : ED c (tOp (rIn c.K neg) ta tb) ρ (.bool (if neg then !inV (vOf x) (ys.map vOf) else inV (vOf x) (ys.map vOf))) :=
  ed_op ha hb fun A σ H v w s h1 h2 Q q => by
    obtain ⟨a, us, rfl, h3, h4⟩ := dp_tup h2
    have e := dps_flat h4 hy
    subst e
    rw [dp_flat h1 hx]
    exact ⟨a, _, rfl, .inr (sqt_same hid_same h3), flat_V hx, flats_V hy, q _ H .refl (.bl _)⟩
theorem ed_inL {neg : Bool} {x : PD} {ys : List PD} (ha : ED c ta ρ x) (hb : EL c tb ρ ys) (hx : flatD x = true) (hy : ys.all flatD = true) : ED c (tOp (rIn c.K neg) ta tb) ρ (.bool (if neg then !inV (vOf x) (ys.map vOf) else inV (vOf x) (ys.map vOf))) := fun A σ H s Q q =>
  ha A σ H s _ fun v H1 k1 h1 => hb A σ H1 (s.move k1) _ fun a us H2 k2 h3 h4 => by
    have e := dps_flat h4 hy
    subst e
    rw [dp_flat h1 hx]
    exact ⟨a, _, rfl, .inl h3, flat_V hx, flats_V hy, q _ H2 (k1.trans k2) (.bl _)⟩
/-! fields of an object that stands still -/
theorem ed_fld {C : Addr} {fs : List (Str × PD)} {f : Str} (h : EG c te ρ (.ob C fs)) (cl : Cls c.K C) (na : NoAttr c.K C f) (e : fs.lookup f = some d) : ED c (tFld c.K te f) ρ d := fun A σ H s Q q => h A σ H s _ fun v H1 k1 h1 => by
  obtain ⟨p, dx, xs, rfl, h2, h3⟩ := h1
  obtain ⟨w, e1, e2⟩ := h3.look e
  exact ⟨p, C, dx, xs, w, rfl, (hid_inv h2).2, cl, na, e1, q w H1 k1 e2⟩
/-! calls -/
def spD (K : PySem.W.Frag) (T : List Addr) (R : List DS → PD → Prop) : Sp := fun vs H Q _ => ∃ M ss d, (∀ a ∈ M, a ∉ T ∧ H a ≠ none) ∧ Tabs T H ∧ ArgsOk K (hid M H) vs ss ∧ R ss d ∧ ∀ v H', Dp K (hid M H') v d → Keep T H H' → Q v H'
theorem ed_call {R : List DS → PD → Prop} {E : XK} {ta : TA} {ss : List DS} (h : EA c ta ρ ss) (hR : R ss d) : ED c (tCall (spD c.K c.T R) [] E ta) ρ d := fun A σ H s Q q => h A σ H s _ fun vs H1 k1 h1 =>
  ⟨c.M ++ A, ss, d, (s.move k1).nM, (s.move k1).tabs, by rw [List.append_nil]; exact h1, hR, fun v H2 h2 k2 => q v H2 (k1.trans k2) h2⟩
theorem ed_meth {R : List DS → PD → Prop} {E : XK} {ta : TA} {ss : List DS} {C : Addr} {m : Str} {fs : List (Str × PD)} (ho : EG c te ρ (.ob C fs)) (hm : fs.lookup m = none) (h : EA c ta ρ ss) (hR : R (.ob C fs :: ss) d) : ED c (tMeth C m (spD c.K c.T R) [] E te ta) ρ d := fun A σ H s Q q =>
  ho A σ H s _ fun v H1 k1 h1 => by
    obtain ⟨p, dx, xs, rfl, h2, h3⟩ := id h1
    refine ⟨p, dx, xs, rfl, (hid_inv h2).2, h3.none hm, h A σ H1 (s.move k1) _ fun vs H2 k2 h4 => ?_⟩
    exact ⟨c.M ++ A, .ob C fs :: ss, d, ((s.move k1).move k2).nM, ((s.move k1).move k2).tabs, by rw [List.append_nil]; exact .cons (ObD.keep (hid_keep k2) (s.move k1).tabm h1) h4, hR, fun v H3 h5 k3 => q v H3 ((k1.trans k2).trans k3) h5⟩
end
end DL
/-! statements over data -/
namespace DL
open PySem PySem.Spec PyProof.Rows L2 DA

structure DEnds where
  nx : DEnv → Prop
  rt : PD → Prop
  bk : DEnv → Prop := fun _ => False
  ct : DEnv → Prop := fun _ => False
structure Le (c : DC) (D : DEnds) (E : Ends) : Prop where
  nx : ∀ A σ H ρ, SR c A σ H ρ → D.nx ρ → E.nx σ H
  rt : ∀ v H d, Keep c.T c.H0 H → Dp c.K (hid c.M H) v d → D.rt d → E.rt v H
  bk : ∀ A σ H ρ, SR c A σ H ρ → D.bk ρ → E.bk σ H
  ct : ∀ A σ H ρ, SR c A σ H ρ → D.ct ρ → E.ct σ H
def SD (c : DC) (t : TS) (D : DEnds) (ρ : DEnv) : Prop := ∀ E, Le c D E → ∀ A σ H, SR c A σ H ρ → t E σ H

/-! ### the slots change -/
section
variable {c : DC} {A : List Addr} {σ : L2.St} {H H' : Hp} {ρ : DEnv}
theorem hid_cong {M N : List Addr} {H : Hp} (h : ∀ a, a ∈ M ↔ a ∈ N) : hid M H = hid N H := by
  funext b
  unfold hid
  by_cases m : b ∈ M
  · rw [if_pos m, if_pos ((h b).mp m)]
  · rw [if_neg m, if_neg (fun q => m ((h b).mpr q))]
theorem get_set {α : Type} {l : List α} {i j : Nat} {x y : α} (h : (l.set i x)[j]? = some y) : (i = j ∧ y = x) ∨ (i ≠ j ∧ l[j]? = some y) := by
  rw [List.getElem?_set] at h
  split at h
  · next e =>
    split at h
    · exact .inl ⟨e, (Option.some.inj h).symm⟩
    · cases h
  · next e => exact .inr ⟨e, h⟩
theorem SR.lt (r : SR c A σ H ρ) {i : Nat} {s : DS} (h : ρ[i]? = some s) : i < σ.length := by
  rw [r.len]
  exact (List.getElem?_eq_some_iff.mp h).1
theorem SR.setS (r : SR c A σ H ρ) (i : Nat) {v : V} {s : DS} (h : SlotOk c.K (hid (c.M ++ A) H) H A (some v) s) (hs : ∀ ds, s ≠ .own ds) : SR c A (σ.set i (some v)) H (ρ.set i s) := by
  refine ⟨r.tab, r.keep, r.msk, r.new, by rw [List.length_set, List.length_set, r.len], fun j t e => ?_, fun j k ds es a hjk h1 h2 h3 h4 => ?_⟩
  · rcases get_set e with ⟨rfl, rfl⟩ | ⟨hne, e⟩
    · have hl : i < σ.length := by
        rw [r.len]
        have := (List.getElem?_eq_some_iff.mp e).1
        rwa [List.length_set] at this
      exact ⟨some v, by rw [List.getElem?_set, if_pos rfl, if_pos hl], h⟩
    · obtain ⟨ov, h1, h2⟩ := r.rel j t e
      exact ⟨ov, by rw [List.getElem?_set_ne hne]; exact h1, h2⟩
  · rcases get_set h1 with ⟨_, e⟩ | ⟨n1, e1⟩
    · exact hs _ e.symm
    · rcases get_set h2 with ⟨_, e⟩ | ⟨n2, e2⟩
      · exact hs _ e.symm
      · rw [List.getElem?_set_ne n1] at h3
        rw [List.getElem?_set_ne n2] at h4
        exact r.inj j k ds es a hjk e1 e2 h3 h4
theorem SR.setD (r : SR c A σ H ρ) (i : Nat) {v : V} {d : PD} (h : Dp c.K (hid (c.M ++ A) H) v d) : SR c A (σ.set i (some v)) H (ρ.set i (.dat d)) := r.setS i h (fun _ z => nomatch z)
theorem SR.setX (r : SR c A σ H ρ) (i : Nat) {ov : Option V} : SR c A (σ.set i ov) H (ρ.set i .non) := by
  refine ⟨r.tab, r.keep, r.msk, r.new, by rw [List.length_set, List.length_set, r.len], fun j t e => ?_, fun j k ds es a hjk h1 h2 h3 h4 => ?_⟩
  · rcases get_set e with ⟨rfl, rfl⟩ | ⟨hne, e⟩
    · have hl : i < σ.length := by
        rw [r.len]
        have := (List.getElem?_eq_some_iff.mp e).1
        rwa [List.length_set] at this
      exact ⟨ov, by rw [List.getElem?_set, if_pos rfl, if_pos hl], by cases ov <;> trivial⟩
    · obtain ⟨ow, h1, h2⟩ := r.rel j t e
      exact ⟨ow, by rw [List.getElem?_set_ne hne]; exact h1, h2⟩
  · rcases get_set h1 with ⟨_, e⟩ | ⟨n1, e1⟩
    · cases e
    · rcases get_set h2 with ⟨_, e⟩ | ⟨n2, e2⟩
      · cases e
      · rw [List.getElem?_set_ne n1] at h3
        rw [List.getElem?_set_ne n2] at h4
        exact r.inj j k ds es a hjk e1 e2 h3 h4
/-- a new address is hidden -/
theorem SR.grow (r : SR c A σ H ρ) (k : Keep c.T H H') {p : Addr} {xs : List V} (hp : H p = none) (h1 : H' p = some (.lst xs)) : SR c (p :: A) σ H' ρ := by
  have km : Keep c.T (hid (c.M ++ A) H) (hid (c.M ++ p :: A) H') := by
    refine ⟨fun b o e n => ?_, fun P hP tb => ?_⟩
    · obtain ⟨m, e⟩ := hid_inv e
      refine hid_of (fun q => ?_) (k.at_ b o e n)
      rcases List.mem_append.mp q with q | q
      · exact m (List.mem_append_left _ q)
      · rcases List.mem_cons.mp q with q | q
        · subst q
          rw [hp] at e
          cases e
        · exact m (List.mem_append_right _ q)
    · obtain ⟨ps, e, ok⟩ := tb
      obtain ⟨m, e⟩ := hid_inv e
      obtain ⟨ps', e', ok'⟩ := k.tab P hP ⟨ps, e, ok⟩
      refine ⟨ps', hid_of (fun q => ?_) e', ok'⟩
      rcases List.mem_append.mp q with q | q
      · exact m (List.mem_append_left _ q)
      · rcases List.mem_cons.mp q with q | q
        · subst q
          rw [hp] at e
          cases e
        · exact m (List.mem_append_right _ q)
  have r1 := r.move k
  refine ⟨r.tab, r1.keep, r.msk, fun a h => ?_, r.len, fun i s e => ?_, r.inj⟩
  · rcases List.mem_cons.mp h with h | h
    · subst h
      refine ⟨?_, xs, h1⟩
      exact r.keep.free r.tab hp
    · exact r1.new a h
  · obtain ⟨ov, g1, g2⟩ := r.rel i s e
    refine ⟨ov, g1, ?_⟩
    cases s with
    | non => cases ov <;> trivial
    | dat d =>
      cases ov with
      | none => exact g2
      | some v => exact dp_keep km r.tabm g2
    | own ds =>
      cases ov with
      | none => exact g2
      | some v =>
        obtain ⟨a, ys, q1, q2, q3, q4⟩ := g2
        exact ⟨a, ys, q1, List.mem_cons_of_mem _ q2, k.at_ _ _ q3 (r.nA q2), dps_keep km r.tabm q4⟩
    | ob C fs =>
      cases ov with
      | none => exact g2
      | some v => exact ObD.keep km r.tabm g2
    | raw w =>
      cases ov with
      | none => exact g2
      | some v => exact g2
theorem SR.setN (r : SR c A σ H ρ) (i : Nat) (k : Keep c.T H H') {p : Addr} {xs : List V} {ds : List PD} (hp : H p = none) (h1 : H' p = some (.lst xs)) (h2 : DpAll c.K (hid (p :: (c.M ++ A)) H') xs ds) : SR c (p :: A) (σ.set i (some (.ref p))) H' (ρ.set i (.own ds)) := by
  have g := r.grow k hp h1
  have h3 : DpAll c.K (hid (c.M ++ p :: A) H') xs ds := by
    rw [hid_cong (N := p :: (c.M ++ A)) (fun a => by simp [or_left_comm])]
    exact h2
  refine ⟨g.tab, g.keep, g.msk, g.new, by rw [List.length_set, List.length_set, g.len], fun j t e => ?_, fun j l es fs a hjl e1 e2 e3 e4 => ?_⟩
  · rcases get_set e with ⟨rfl, rfl⟩ | ⟨hne, e⟩
    · have hl : i < σ.length := by
        rw [r.len]
        have := (List.getElem?_eq_some_iff.mp e).1
        rwa [List.length_set] at this
      exact ⟨some (.ref p), by rw [List.getElem?_set, if_pos rfl, if_pos hl], (show ∃ a ys, V.ref p = .ref a ∧ a ∈ p :: A ∧ H' a = some (.lst ys) ∧ DpAll c.K (hid (c.M ++ p :: A) H') ys ds from ⟨p, xs, rfl, List.mem_cons_self, h1, h3⟩)⟩
    · obtain ⟨ov, g1, g2⟩ := g.rel j t e
      exact ⟨ov, by rw [List.getElem?_set_ne hne]; exact g1, g2⟩
  · -- an elder own list stands elsewhere
    have key : ∀ m gs, i ≠ m → ρ[m]? = some (.own gs) → σ[m]? = some (some (.ref p)) → False := fun m gs _ q1 q2 => by
      obtain ⟨ov, z1, z2⟩ := r.rel m _ q1
      rw [q2] at z1
      cases z1
      obtain ⟨b, ys, z3, z4, z5, _⟩ := z2
      cases z3
      rw [hp] at z5
      cases z5
    rcases get_set e1 with ⟨rfl, _⟩ | ⟨n1, e1⟩
    · rcases get_set e2 with ⟨z, _⟩ | ⟨n2, e2⟩
      · exact hjl z
      · have hl : i < σ.length := by
          by_cases q : i < σ.length
          · exact q
          · rw [List.getElem?_eq_none (by rw [List.length_set]; omega)] at e3
            cases e3
        rw [List.getElem?_set, if_pos rfl, if_pos hl] at e3
        cases e3
        rw [List.getElem?_set_ne n2] at e4
        exact key l fs n2 e2 e4
    · rcases get_set e2 with ⟨rfl, _⟩ | ⟨n2, e2⟩
      · have hl : i < σ.length := by
          by_cases q : i < σ.length
          · exact q
          · rw [List.getElem?_eq_none (by rw [List.length_set]; omega)] at e4
            cases e4
        rw [List.getElem?_set, if_pos rfl, if_pos hl] at e4
        cases e4
        rw [List.getElem?_set_ne n1] at e3
        exact key j es n1 e1 e3
      · rw [List.getElem?_set_ne n1] at e3
        rw [List.getElem?_set_ne n2] at e4
        exact g.inj j l es fs a hjl e1 e2 e3 e4
/-- an own list changes -/
theorem SR.mut (r : SR c A σ H ρ) {i : Nat} {a : Addr} {ds es : List PD} {ys : List V} (h0 : ρ[i]? = some (.own ds)) (h1 : σ[i]? = some (some (.ref a))) (ha : a ∈ A) (h2 : DpAll c.K (hid (c.M ++ A) H) ys es) : SR c A σ (upd H a (.lst ys)) (ρ.set i (.own es)) := by
  have n0 : c.H0 a = none := (r.new a ha).1
  have eh : hid (c.M ++ A) (upd H a (.lst ys)) = hid (c.M ++ A) H := hid_in (List.mem_append_right _ ha)
  refine ⟨r.tab, r.keep.own r.tab n0, r.msk, fun b hb => ?_, by rw [List.length_set, r.len], fun j t e => ?_, fun j l fs gs b hjl e1 e2 e3 e4 => ?_⟩
  · obtain ⟨h, xs, e⟩ := r.new b hb
    by_cases z : b = a
    · subst z
      exact ⟨h, ys, upd_same⟩
    · exact ⟨h, xs, by rw [upd_ne z]; exact e⟩
  · rcases get_set e with ⟨rfl, rfl⟩ | ⟨hne, e⟩
    · refine ⟨_, h1, a, ys, rfl, ha, upd_same, ?_⟩
      rw [eh]
      exact h2
    · obtain ⟨ov, g1, g2⟩ := r.rel j t e
      refine ⟨ov, g1, ?_⟩
      cases t with
      | non => cases ov <;> trivial
      | dat d =>
        cases ov with
        | none => exact g2
        | some v =>
          show Dp c.K (hid (c.M ++ A) (upd H a (.lst ys))) v d
          rw [eh]
          exact g2
      | own fs =>
        cases ov with
        | none => exact g2
        | some v =>
          obtain ⟨b, xs, q1, q2, q3, q4⟩ := g2
          refine ⟨b, xs, q1, q2, ?_, by rw [eh]; exact q4⟩
          rw [upd_ne (fun z => ?_)]
          · exact q3
          · subst z q1
            exact r.inj i j ds fs b hne h0 e h1 g1
      | ob C fs =>
        cases ov with
        | none => exact g2
        | some v =>
          show ObD c.K (hid (c.M ++ A) (upd H a (.lst ys))) v C fs
          rw [eh]
          exact g2
      | raw w =>
        cases ov with
        | none => exact g2
        | some v => exact g2
  · rcases get_set e1 with ⟨rfl, _⟩ | ⟨n1, e1⟩
    · rcases get_set e2 with ⟨z, _⟩ | ⟨n2, e2⟩
      · exact hjl z
      · exact r.inj i l ds gs b hjl h0 e2 e3 e4
    · rcases get_set e2 with ⟨rfl, _⟩ | ⟨n2, e2⟩
      · exact r.inj j i fs ds b hjl e1 h0 e3 e4
      · exact r.inj j l fs gs b hjl e1 e2 e3 e4
/-- an own list is plain data from now on -/
theorem SR.freeze (r : SR c A σ H ρ) {i : Nat} {ds : List PD} (h0 : ρ[i]? = some (.own ds)) : ∃ A', SR c A' σ H (ρ.set i (.dat (.list ds))) := by
  obtain ⟨ov, h1, h2⟩ := r.rel i _ h0
  cases ov with
  | none => exact h2.elim
  | some v =>
    obtain ⟨a, xs, rfl, ha, h3, h4⟩ := h2
    have sub : ∀ b ∈ c.M ++ A.filter (fun b => decide (b ≠ a)), b ∈ c.M ++ A := fun b hb => by
      rcases List.mem_append.mp hb with q | q
      · exact List.mem_append_left _ q
      · exact List.mem_append_right _ (List.mem_filter.mp q).1
    have sm : Same (hid (c.M ++ A) H) (hid (c.M ++ A.filter (fun b => decide (b ≠ a))) H) := hid_sub sub
    refine ⟨A.filter (fun b => decide (b ≠ a)), r.tab, r.keep, r.msk, fun b hb => r.new b (List.mem_filter.mp hb).1, by rw [List.length_set, r.len], fun j t e => ?_, fun j l fs gs b hjl e1 e2 e3 e4 => ?_⟩
    · rcases get_set e with ⟨rfl, rfl⟩ | ⟨hne, e⟩
      · refine ⟨_, h1, ?_⟩
        refine .lst (SqL.of (hid_of (fun q => ?_) h3)) (dps_same sm h4)
        rcases List.mem_append.mp q with q | q
        · exact (r.msk a q).2 (r.new a ha).1
        · exact absurd rfl (of_decide_eq_true (List.mem_filter.mp q).2)
      · obtain ⟨ov, g1, g2⟩ := r.rel j t e
        refine ⟨ov, g1, ?_⟩
        cases t with
        | non => cases ov <;> trivial
        | dat d =>
          cases ov with
          | none => exact g2
          | some v => exact dp_same sm g2
        | own fs =>
          cases ov with
          | none => exact g2
          | some v =>
            obtain ⟨b, ys, q1, q2, q3, q4⟩ := g2
            refine ⟨b, ys, q1, List.mem_filter.mpr ⟨q2, decide_eq_true fun z => ?_⟩, q3, dps_same sm q4⟩
            subst z q1
            exact r.inj i j ds fs b hne h0 e h1 g1
        | ob C fs =>
          cases ov with
          | none => exact g2
          | some v => exact ObD.same sm g2
        | raw w =>
          cases ov with
          | none => exact g2
          | some v => exact g2
    · rcases get_set e1 with ⟨_, z⟩ | ⟨n1, e1⟩
      · cases z
      · rcases get_set e2 with ⟨_, z⟩ | ⟨n2, e2⟩
        · cases z
        · exact r.inj j l fs gs b hjl e1 e2 e3 e4
/-! ### the ground moved up: what stands now stands -/
abbrev DC.up (c : DC) (A : List Addr) (H : Hp) : DC := ⟨c.K, c.T, c.M, hid A H⟩
theorem SR.ground (r : SR c A σ H ρ) : Keep c.T c.H0 (hid A H) := by
  refine ⟨fun b o e n => hid_of (fun m => ?_) (r.keep.at_ b o e n), fun P hP tb => ?_⟩
  · rw [(r.new b m).1] at e
    cases e
  · obtain ⟨ps, e, ok⟩ := r.keep.tab P hP tb
    exact ⟨ps, hid_of (fun m => r.nA m hP) e, ok⟩
theorem SR.up (r : SR c A σ H ρ) : SR (c.up A H) A σ H ρ := by
  refine ⟨tabs_hid r.tabs fun a h => r.nA h, .same hid_same, fun a h => ⟨(r.msk a h).1, fun z => ?_⟩, fun a h => ⟨?_, (r.new a h).2⟩, r.len, r.rel, r.inj⟩
  · cases e : H a with
    | none => exact (r.nM a (List.mem_append_left _ h)).2 e
    | some o =>
      have : hid A H a = some o := hid_of (fun m => (r.msk a h).2 (r.new a m).1) e
      rw [show (c.up A H).H0 = hid A H from rfl] at z
      rw [this] at z
      cases z
  · show hid A H a = none
    unfold hid
    rw [if_pos h]
theorem SR.down {A' : List Addr} {σ' : L2.St} {ρ' : DEnv} (r : SR c A σ H ρ) (r' : SR (c.up A H) A' σ' H' ρ') : SR c A' σ' H' ρ' :=
  ⟨r.tab, r.ground.trans r'.keep, r.msk, fun a h => ⟨r.ground.free r.tab (r'.new a h).1, (r'.new a h).2⟩, r'.len, r'.rel, r'.inj⟩
theorem Le.up {D : DEnds} {E : Ends} (L : Le c D E) (r : SR c A σ H ρ) : Le (c.up A H) D E :=
  ⟨fun A' σ' H' ρ' r' q => L.nx A' σ' H' ρ' (r.down r') q, fun v H' d k h q => L.rt v H' d (r.ground.trans k) h q, fun A' σ' H' ρ' r' q => L.bk A' σ' H' ρ' (r.down r') q, fun A' σ' H' ρ' r' q => L.ct A' σ' H' ρ' (r.down r') q⟩
end

/-! ### statements -/
section
variable {c : DC} {ρ : DEnv} {D : DEnds} {t u : TS} {te tk : TE} {d e : PD}
theorem sd_next (h : D.nx ρ) : SD c tNext D ρ := fun E L A σ H r => L.nx A σ H ρ r h
theorem sd_seq (h : SD c t { D with nx := fun ρ' => SD c u D ρ' } ρ) : SD c (tSeq t u) D ρ := fun E L A σ H r => h { E with nx := u E } ⟨fun A' σ' H' ρ' r' q => q E L A' σ' H' r', L.rt, L.bk, L.ct⟩ A σ H r
theorem sd_break (h : D.bk ρ) : SD c tBreak D ρ := fun E L A σ H r => L.bk A σ H ρ r h
theorem sd_cont (h : D.ct ρ) : SD c tCont D ρ := fun E L A σ H r => L.ct A σ H ρ r h
theorem sd_set {i : Nat} (h : ED c te ρ d) (k : D.nx (ρ.set i (.dat d))) : SD c (tAsg te (gName i)) D ρ := fun E L A σ H r => h A σ H r _ fun v H1 k1 h1 => L.nx _ _ _ _ ((r.move k1).setD i h1) k
theorem sd_setN {i : Nat} {ds : List PD} (h : EN c te ρ ds) (k : D.nx (ρ.set i (.own ds))) : SD c (tAsg te (gName i)) D ρ := fun E L A σ H r => h A σ H r _ fun p xs H1 k1 hp h1 h2 => L.nx _ _ _ _ (r.setN i k1 hp h1 h2) k
theorem sd_drop (h : ED c te ρ d) (k : D.nx ρ) : SD c (tDrop te) D ρ := fun E L A σ H r => h A σ H r _ fun v H1 k1 h1 => L.nx _ _ _ _ (r.move k1) k
theorem sd_ret (h : ED c te ρ d) (k : D.rt d) : SD c (tRet te) D ρ := fun E L A σ H r => h A σ H r _ fun v H1 k1 h1 => L.rt v H1 d (r.keep.trans k1) (dp_same (hid_sub fun a m => List.mem_append_left _ m) h1) k
theorem sd_retN (k : D.rt .none) : SD c tRetN D ρ := fun E L A σ H r => L.rt .non H .none r.keep .non k
theorem sd_if {tt : TT} {b : Bool} (h : ET c tt ρ b) (h1 : b = true → SD c t D ρ) (h2 : b = false → SD c u D ρ) : SD c (tIfS tt t u) D ρ := fun E L A σ H r => h A σ H r _ fun H1 k1 => by
  cases b with
  | true =>
    show t E σ H1
    exact h1 rfl E L A σ H1 (r.move k1)
  | false =>
    show u E σ H1
    exact h2 rfl E L A σ H1 (r.move k1)
theorem sd_freeze (i : Nat) {ds : List PD} (h : ρ[i]? = some (.own ds)) (k : SD c t D (ρ.set i (.dat (.list ds)))) : SD c t D ρ := fun E L A σ H r => by
  obtain ⟨A', r'⟩ := r.freeze h
  exact k E L A' σ H r'
theorem own_at {A : List Addr} {σ : L2.St} {H : Hp} (r : SR c A σ H ρ) {i : Nat} {ds : List PD} (h : ρ[i]? = some (.own ds)) : ∃ a xs, σ[i]? = some (some (.ref a)) ∧ a ∈ A ∧ H a = some (.lst xs) ∧ DpAll c.K (hid (c.M ++ A) H) xs ds := by
  obtain ⟨ov, h1, h2⟩ := r.rel i _ h
  cases ov with
  | none => exact h2.elim
  | some v =>
    obtain ⟨a, xs, rfl, q⟩ := h2
    exact ⟨a, xs, h1, q⟩
/-- xs.append(e) -/
theorem sd_app {i : Nat} {ds : List PD} (h0 : ρ[i]? = some (.own ds)) (h : ED c te ρ d) (hz : ds.length ≤ 1000) (k : D.nx (ρ.set i (.own (ds ++ [d])))) : SD c (tDrop (tBM c.K "list" rAppend (tVar i) (tCons te tNil))) D ρ := fun E L A σ H r => by
  obtain ⟨a, xs, h1, ha, h2, h3⟩ := own_at r h0
  refine ⟨_, h1, .inl ⟨rfl, _, SqL.of h2⟩, h A σ H r _ fun v H1 k1 g1 => ?_⟩
  have r1 := r.move k1
  have h4 := dps_keep (hid_keep k1) r.tabm h3
  exact ⟨a, xs, v, rfl, rfl, k1.at_ _ _ h2 (r.nA ha), by rw [dps_len h3]; exact small1000 hz, L.nx _ _ _ _ (r1.mut h0 h1 ha (dps_append h4 (.cons g1 .nil))) k⟩
/-- xs[i] = e -/
theorem sd_setL {i : Nat} {ds : List PD} {n : Int} {j : Nat} (h0 : ρ[i]? = some (.own ds)) (h : ED c te ρ d) (hk : ED c tk ρ (.int n)) (hj : ixN ds.length n = some j) (k : D.nx (ρ.set i (.own (ds.set j d)))) : SD c (tAsg te (gSub (tVar i) tk rSetL)) D ρ := fun E L A σ H r => h A σ H r _ fun v H1 k1 g1 => by
  obtain ⟨a, xs, h1, ha, h2, h3⟩ := own_at (r.move k1) h0
  refine ⟨_, h1, hk A σ H1 (r.move k1) _ fun w H2 k2 g2 => ?_⟩
  have r2 := (r.move k1).move k2
  have h4 := dps_keep (hid_keep k2) (r.move k1).tabm h3
  exact ⟨a, xs, n, j, rfl, dp_int g2, k2.at_ _ _ h2 (r.nA ha), by rw [dps_len h3]; exact hj, L.nx _ _ _ _ (r2.mut h0 h1 ha (dps_set j h4 (dp_keep (hid_keep k2) (r.move k1).tabm g1))) k⟩
/-- x op= e of ints -/
theorem sd_aug {i : Nat} {f : Int → Int → Int} {m n : Int} (h0 : ρ[i]? = some (.dat (.int m))) (h : ED c te ρ (.int n)) (k : D.nx (ρ.set i (.dat (.int (f m n))))) : SD c (tAug i te (ipI f)) D ρ := fun E L A σ H r => by
  obtain ⟨ov, h1, h2⟩ := r.rel i _ h0
  cases ov with
  | none => exact h2.elim
  | some v =>
    have e := dp_int h2
    subst e
    exact ⟨_, h1, h A σ H r _ fun w H1 k1 g1 => ⟨m, n, rfl, dp_int g1, L.nx _ _ _ _ ((r.move k1).setD i (.int _)) k⟩⟩
/-- a, b = e1, e2 -/
theorem sd_par {i j : Nat} {ta : TA} (h : EA c ta ρ [.dat d, .dat e]) (k : D.nx ((ρ.set i (.dat d)).set j (.dat e))) : SD c (tPar i j ta) D ρ := fun E L A σ H r => h A σ H r _ fun vs H1 k1 g1 => by
  cases g1 with
  | cons a1 g1 =>
    cases g1 with
    | cons a2 g1 =>
      cases g1
      exact ⟨_, _, rfl, L.nx _ _ _ _ (((r.move k1).setD i a1).setD j a2) k⟩
/-! targets: a name; a tuple of names -/
def setVs (σ : L2.St) : List Nat → List V → L2.St
  | j :: js, x :: xs => setVs (σ.set j (some x)) js xs
  | _, _ => σ
def setDs (ρ : DEnv) : List Nat → List PD → DEnv
  | j :: js, d :: ds => setDs (ρ.set j (.dat d)) js ds
  | _, _ => ρ
def gNs : List Nat → TGs
  | [] => gNil
  | j :: js => gCons (gName j) (gNs js)
theorem SR.setVs {A : List Addr} {H : Hp} : ∀ {js : List Nat} {xs : List V} {ds : List PD} {σ : L2.St} {ρ : DEnv}, SR c A σ H ρ → DpAll c.K (hid (c.M ++ A) H) xs ds → SR c A (setVs σ js xs) H (setDs ρ js ds)
  | [], _, _, _, _, r, _ => by
    unfold DL.setVs DL.setDs
    exact r
  | j :: js, _, _, _, _, r, .nil => r
  | j :: js, _, _, _, _, r, .cons a h => SR.setVs (js := js) (r.setD j a) h
theorem gNs_run : ∀ (js : List Nat) (xs : List V) (σ : L2.St) (H : Hp) (Q : L2.St → Hp → Prop), js.length = xs.length → Q (setVs σ js xs) H → gNs js xs σ H Q
  | [], [], σ, H, Q, _, q => ⟨rfl, q⟩
  | j :: js, x :: xs, σ, H, Q, hl, q => ⟨x, xs, rfl, gNs_run js xs (σ.set j (some x)) H Q (by simpa using hl) q⟩
/-- what a target does with an item: the slots js get its parts -/
structure TGd (c : DC) (g : TG) (js : List Nat) (d : PD) (ds : List PD) : Prop where
  run : ∀ A σ H ρ v, SR c A σ H ρ → Dp c.K (hid (c.M ++ A) H) v d → ∀ Q : L2.St → Hp → Prop, (∀ xs, DpAll c.K (hid (c.M ++ A) H) xs ds → js.length = xs.length → Q (setVs σ js xs) H) → g v σ H Q
theorem tg_name {j : Nat} : TGd c (gName j) [j] d [d] := ⟨fun A σ H ρ v r h Q q => q [v] (.cons h .nil) rfl⟩
theorem tg_tup {js : List Nat} {n : Nat} {ds : List PD} (hn : n = ds.length) (hl : js.length = ds.length) : TGd c (gTup c.K n (gNs js)) js (.tuple ds) ds := ⟨fun A σ H ρ v r h Q q => by
  obtain ⟨a, xs, rfl, h1, h2⟩ := dp_tup h
  have hx := dps_len h2
  exact ⟨a, xs, rfl, sqt_same hid_same h1, by omega, gNs_run js xs σ H Q (by omega) (q xs h2 (by omega))⟩⟩
/-- a, b = e -/
theorem sd_unp {js : List Nat} {n : Nat} {ds : List PD} (h : ED c te ρ (.tuple ds)) (hn : n = ds.length) (hl : js.length = ds.length) (k : D.nx (setDs ρ js ds)) : SD c (tAsg te (gTup c.K n (gNs js))) D ρ := fun E L A σ H r => h A σ H r _ fun v H1 k1 h1 =>
  (tg_tup (c := c) hn hl).run A σ H1 ρ v (r.move k1) h1 _ fun xs h2 _ => L.nx _ _ _ _ ((r.move k1).setVs h2) k
/-! ### walks -/
structure Wk (c : DC) (J : It) (ds : List PD) : Prop where
  go : ∀ i A σ H ρ, SR c A σ H ρ → i < ds.length → J.go i H
  yld : ∀ i A σ H ρ x H', SR c A σ H ρ → J.yld i H x H' → ∀ d, ds[i]? = some d → Keep c.T H H' ∧ Dp c.K (hid (c.M ++ A) H') x d
  stop : ∀ i A σ H ρ, SR c A σ H ρ → ds.length ≤ i → J.stop i H
def ID (c : DC) (wi : TI) (ρ : DEnv) (ds : List PD) : Prop := ∀ A σ H, SR c A σ H ρ → ∀ R : It → Hp → Prop, (∀ J H1, Keep c.T H H1 → Wk (c.up A H1) J ds → R J H1) → wi σ H R
theorem id_is {wi : TI} {ds es : List PD} (h : ID c wi ρ ds) (he : ds = es) : ID c wi ρ es := he ▸ h
/-- the loop: a word of the turn and the slots -/
theorem sd_forK {wi : TI} {g : TG} {js : List Nat} {ds : List PD} {tb : TS} (hi : ID c wi ρ ds) (Inv : Nat → DEnv → Prop) (h0 : Inv 0 ρ)
    (hs : ∀ i d ρ' H0, Keep c.T c.H0 H0 → ds[i]? = some d → Inv i ρ' → ∃ ps, TGd ⟨c.K, c.T, c.M, H0⟩ g js d ps ∧ SD ⟨c.K, c.T, c.M, H0⟩ tb { D with nx := Inv (i + 1), ct := Inv (i + 1), bk := D.nx } (setDs ρ' js ps))
    (hd : ∀ ρ', Inv ds.length ρ' → D.nx ρ') : SD c (tFor wi g tb) D ρ := fun E L A σ H r => hi A σ H r _ fun J H1 k1 W => by
  have r1 := r.move k1
  have L1 := L.up r1
  refine ⟨fun i m σ' H' => m = ds.length - i ∧ i ≤ ds.length ∧ ∃ A' ρ', SR (c.up A H1) A' σ' H' ρ' ∧ Inv i ρ', ⟨_, rfl, Nat.zero_le _, A, ρ, r1.up, h0⟩, ?_⟩
  rintro i m σ' H' ⟨rfl, hle, A', ρ', r', hv⟩
  by_cases hlt : i < ds.length
  · refine .inr ⟨W.go i A' σ' H' ρ' r' hlt, fun σ2 H2 => ∃ A2 ρ2, SR (c.up A H1) A2 σ2 H2 ρ2 ∧ Inv (i + 1) ρ2, fun σ2 H2 ⟨A2, ρ2, r2, q⟩ => ⟨_, by omega, rfl, hlt, A2, ρ2, r2, q⟩, fun x H2 y => ?_⟩
    have hdi : ds[i]? = some ds[i] := List.getElem?_eq_getElem hlt
    obtain ⟨ps, hg, hb⟩ := hs i ds[i] ρ' (hid A H1) r1.ground hdi hv
    obtain ⟨k2, hx⟩ := W.yld i A' σ' H' ρ' x H2 r' y ds[i] hdi
    have r2 := r'.move k2
    refine hg.run A' σ' H2 ρ' x r2 hx _ fun xs h2 _ => ?_
    refine hb { E with nx := fun σ2 H2 => ∃ A2 ρ2, SR (c.up A H1) A2 σ2 H2 ρ2 ∧ Inv (i + 1) ρ2, ct := fun σ2 H2 => ∃ A2 ρ2, SR (c.up A H1) A2 σ2 H2 ρ2 ∧ Inv (i + 1) ρ2, bk := E.nx } ⟨fun A3 σ3 H3 ρ3 r3 q => ⟨A3, ρ3, r3, q⟩, L1.rt, fun A3 σ3 H3 ρ3 r3 q => L1.nx A3 σ3 H3 ρ3 r3 q, fun A3 σ3 H3 ρ3 r3 q => ⟨A3, ρ3, r3, q⟩⟩ A' _ H2 (r2.setVs h2)
  · have e : i = ds.length := by omega
    subst e
    exact .inl ⟨W.stop _ A' σ' H' ρ' r' (Nat.le_refl _), L1.nx A' σ' H' ρ' r' (hd ρ' hv)⟩
theorem sd_for {wi : TI} {g : TG} {js : List Nat} {ds : List PD} {tb : TS} (hi : ID c wi ρ ds) (Inv : Nat → DEnv → Prop) (h0 : Inv 0 ρ)
    (hs : ∀ i d ρ' H0, ds[i]? = some d → Inv i ρ' → ∃ ps, TGd ⟨c.K, c.T, c.M, H0⟩ g js d ps ∧ SD ⟨c.K, c.T, c.M, H0⟩ tb { D with nx := Inv (i + 1), ct := Inv (i + 1), bk := D.nx } (setDs ρ' js ps))
    (hd : ∀ ρ', Inv ds.length ρ' → D.nx ρ') : SD c (tFor wi g tb) D ρ := sd_forK hi Inv h0 (fun i d ρ' H0 _ => hs i d ρ' H0) hd
/-- while: a word and a measure -/
theorem sd_while {tt : TT} {tb : TS} (Inv : DEnv → Prop) (μ : DEnv → Nat) (h0 : Inv ρ)
    (hs : ∀ ρ' H0, Inv ρ' → ∃ b, ET ⟨c.K, c.T, c.M, H0⟩ tt ρ' b ∧ (b = true → SD ⟨c.K, c.T, c.M, H0⟩ tb { D with nx := fun ρ2 => Inv ρ2 ∧ μ ρ2 < μ ρ', ct := fun ρ2 => Inv ρ2 ∧ μ ρ2 < μ ρ', bk := D.nx } ρ') ∧ (b = false → D.nx ρ')) : SD c (tWhile tt tb) D ρ := fun E L A σ H r => by
  refine ⟨fun m σ' H' => ∃ A' ρ', SR c A' σ' H' ρ' ∧ Inv ρ' ∧ m = μ ρ', ⟨_, A, ρ, r, h0, rfl⟩, ?_⟩
  rintro m σ' H' ⟨A', ρ', r', hv, rfl⟩
  obtain ⟨b, hb, h1, h2⟩ := hs ρ' c.H0 hv
  refine hb A' σ' H' r' _ fun H1 k1 => ?_
  cases b with
  | true =>
    refine ⟨fun σ2 H2 => ∃ A2 ρ2, SR c A2 σ2 H2 ρ2 ∧ Inv ρ2 ∧ μ ρ2 < μ ρ', fun σ2 H2 ⟨A2, ρ2, r2, q1, q2⟩ => ⟨_, q2, A2, ρ2, r2, q1, rfl⟩, ?_⟩
    exact h1 rfl { E with nx := fun σ2 H2 => ∃ A2 ρ2, SR c A2 σ2 H2 ρ2 ∧ Inv ρ2 ∧ μ ρ2 < μ ρ', ct := fun σ2 H2 => ∃ A2 ρ2, SR c A2 σ2 H2 ρ2 ∧ Inv ρ2 ∧ μ ρ2 < μ ρ', bk := E.nx } ⟨fun A3 σ3 H3 ρ3 r3 q => ⟨A3, ρ3, r3, q⟩, L.rt, fun A3 σ3 H3 ρ3 r3 q => L.nx A3 σ3 H3 ρ3 r3 q, fun A3 σ3 H3 ρ3 r3 q => ⟨A3, ρ3, r3, q⟩⟩ A' σ' H1 (r'.move k1)
  | false => exact L.nx A' σ' H1 ρ' (r'.move k1) (h2 rfl)
/-! walks of data -/
theorem upk {c : DC} {A A' : List Addr} {σ σ' : L2.St} {H1 H' : Hp} {ρ ρ' : DEnv} (r : SR c A σ H1 ρ) (r' : SR (c.up A H1) A' σ' H' ρ') : Keep c.T (hid (c.M ++ A) H1) (hid (c.M ++ A') H') := by
  have ks : Keep c.T (hid A H1) H' := r'.keep
  refine ⟨fun b o e n => ?_, fun P hP tb => ?_⟩
  · obtain ⟨m, e⟩ := hid_inv e
    have e1 : hid A H1 b = some o := hid_of (fun q => m (List.mem_append_right _ q)) e
    refine hid_of (fun q => ?_) (ks.at_ b o e1 n)
    rcases List.mem_append.mp q with q | q
    · exact m (List.mem_append_left _ q)
    · have := (r'.new b q).1
      rw [show (c.up A H1).H0 = hid A H1 from rfl, e1] at this
      cases this
  · obtain ⟨ps, e, ok⟩ := tb
    obtain ⟨m, e⟩ := hid_inv e
    have e1 : hid A H1 P = some (.tbl ps) := hid_of (fun q => m (List.mem_append_right _ q)) e
    obtain ⟨ps', e', ok'⟩ := ks.tab P hP ⟨ps, e1, ok⟩
    exact ⟨ps', hid_of (fun q => (r'.nM P q).1 hP) e', ok'⟩
theorem id_list {tl : TE} {ds : List PD} (h : ED c tl ρ (.list ds)) : ID c (iList c.K tl) ρ ds := fun A σ H r R q => h A σ H r _ fun v H1 k1 h1 => by
  obtain ⟨a, xs, rfl, h2, h3⟩ := dp_list h1
  have r1 := r.move k1
  have base : ∀ A' σ' H' ρ', SR (c.up A H1) A' σ' H' ρ' → SqL c.K H' a xs ∧ DpAll c.K (hid (c.M ++ A') H') xs ds := fun A' σ' H' ρ' r' => by
    have km : Keep c.T (hid (c.M ++ A) H1) (hid (c.M ++ A') H') := upk r1 r'
    exact ⟨hid_same.seq (km.sqL r1.tabm h2), dps_keep km r1.tabm h3⟩
  refine ⟨a, rfl, ⟨xs, hid_same.seq h2⟩, q _ H1 k1 ⟨fun i A' σ' H' ρ' r' hi => ?_, fun i A' σ' H' ρ' x H2 r' y d hd => ?_, fun i A' σ' H' ρ' r' hi => ?_⟩⟩
  · obtain ⟨s1, s2⟩ := base A' σ' H' ρ' r'
    have hx : i < xs.length := by rw [dps_len s2]; exact hi
    exact ⟨xs, xs[i], s1, List.getElem?_eq_getElem hx⟩
  · obtain ⟨s1, s2⟩ := base A' σ' H' ρ' r'
    obtain ⟨rfl, y⟩ := y
    obtain ⟨w, e1, e2⟩ := dps_get s2 hd
    rw [y xs s1] at e1
    cases e1
    exact ⟨.refl, e2⟩
  · obtain ⟨s1, s2⟩ := base A' σ' H' ρ' r'
    exact ⟨xs, s1, by rw [dps_len s2]; exact hi⟩
theorem id_tup {tl : TE} {ds : List PD} (h : ED c tl ρ (.tuple ds)) : ID c (iTup c.K tl) ρ ds := fun A σ H r R q => h A σ H r _ fun v H1 k1 h1 => by
  obtain ⟨a, xs, rfl, h2, h3⟩ := dp_tup h1
  have r1 := r.move k1
  have base : ∀ A' σ' H' ρ', SR (c.up A H1) A' σ' H' ρ' → SqT c.K H' a xs ∧ DpAll c.K (hid (c.M ++ A') H') xs ds := fun A' σ' H' ρ' r' => by
    have km : Keep c.T (hid (c.M ++ A) H1) (hid (c.M ++ A') H') := upk r1 r'
    exact ⟨sqt_same hid_same (km.sqT r1.tabm h2), dps_keep km r1.tabm h3⟩
  refine ⟨a, rfl, ⟨xs, sqt_same hid_same h2⟩, q _ H1 k1 ⟨fun i A' σ' H' ρ' r' hi => ?_, fun i A' σ' H' ρ' x H2 r' y d hd => ?_, fun i A' σ' H' ρ' r' hi => ?_⟩⟩
  · obtain ⟨s1, s2⟩ := base A' σ' H' ρ' r'
    have hx : i < xs.length := by rw [dps_len s2]; exact hi
    exact ⟨xs, xs[i], s1, List.getElem?_eq_getElem hx⟩
  · obtain ⟨s1, s2⟩ := base A' σ' H' ρ' r'
    obtain ⟨rfl, y⟩ := y
    obtain ⟨w, e1, e2⟩ := dps_get s2 hd
    rw [y xs s1] at e1
    cases e1
    exact ⟨.refl, e2⟩
  · obtain ⟨s1, s2⟩ := base A' σ' H' ρ' r'
    exact ⟨xs, s1, by rw [dps_len s2]; exact hi⟩
end
end DL
/-! comprehensions, walks, conversions, defs over data -/
namespace DL
open PySem PySem.Spec PyProof.Rows L2 DA

/-! ### slots wiped -/
def wipeD (ρ : DEnv) : List Nat → DEnv
  | [] => ρ
  | v :: vs => (wipeD ρ vs).set v .non
theorem SR.wipe {c : DC} {A : List Addr} {σ : L2.St} {H : Hp} {ρ : DEnv} (r : SR c A σ H ρ) : ∀ vs : List Nat, SR c A (L2.wipe σ vs) H (wipeD ρ vs)
  | [] => r
  | v :: vs => SR.setX (SR.wipe r vs) v
theorem wipe_key {σ : L2.St} {j : Nat} {ov : Option V} : ∀ vs : List Nat, (L2.wipe (σ.set j ov) vs).set j none = (L2.wipe σ vs).set j none
  | [] => by show (σ.set j ov).set j none = σ.set j none; rw [List.set_set]
  | v :: vs => by
    show ((L2.wipe (σ.set j ov) vs).set v none).set j none = ((L2.wipe σ vs).set v none).set j none
    by_cases e : v = j
    · subst e
      rw [List.set_set, List.set_set]
      exact wipe_key vs
    · rw [List.set_comm _ _ e, List.set_comm _ _ e, wipe_key vs]
theorem wipe_set_in {σ : L2.St} {j : Nat} {ov : Option V} : ∀ {vs : List Nat}, j ∈ vs → L2.wipe (σ.set j ov) vs = L2.wipe σ vs
  | v :: vs, h => by
    show (L2.wipe (σ.set j ov) vs).set v none = (L2.wipe σ vs).set v none
    by_cases m : j ∈ vs
    · rw [wipe_set_in m]
    · have e : j = v := (List.mem_cons.mp h).resolve_right m
      subst e
      exact wipe_key vs
theorem wipe_wipe {σ : L2.St} : ∀ {us vs : List Nat}, (∀ u ∈ us, u ∈ vs) → L2.wipe (L2.wipe σ us) vs = L2.wipe σ vs
  | [], _, _ => rfl
  | u :: us, vs, h => by
    show L2.wipe ((L2.wipe σ us).set u none) vs = L2.wipe σ vs
    rw [wipe_set_in (h u List.mem_cons_self), wipe_wipe fun x hx => h x (List.mem_cons_of_mem _ hx)]
theorem wipe_setVs {vs : List Nat} : ∀ {js : List Nat} {xs : List V} {σ : L2.St}, (∀ j ∈ js, j ∈ vs) → L2.wipe (setVs σ js xs) vs = L2.wipe σ vs
  | [], _, _, _ => by unfold setVs; rfl
  | j :: js, [], _, _ => rfl
  | j :: js, x :: xs, σ, h => by
    show L2.wipe (setVs (σ.set j (some x)) js xs) vs = L2.wipe σ vs
    rw [wipe_setVs fun i hi => h i (List.mem_cons_of_mem _ hi), wipe_set_in (h j List.mem_cons_self)]
section
variable {c : DC} {A : List Addr} {σ : L2.St} {H H' : Hp} {ρ : DEnv}
/-- a hidden address that no slot knows changes -/
theorem SR.poke (r : SR c A σ H ρ) {a : Addr} {ys : List V} (ha : a ∈ A) (hn : ∀ (i : Nat) (ds : List PD), ρ[i]? = some (DS.own ds) → σ[i]? = some (some (V.ref a)) → False) : SR c A σ (upd H a (.lst ys)) ρ := by
  have n0 : c.H0 a = none := (r.new a ha).1
  have eh : hid (c.M ++ A) (upd H a (.lst ys)) = hid (c.M ++ A) H := hid_in (List.mem_append_right _ ha)
  refine ⟨r.tab, r.keep.own r.tab n0, r.msk, fun b hb => ?_, r.len, fun j t e => ?_, r.inj⟩
  · obtain ⟨h, xs, e⟩ := r.new b hb
    by_cases z : b = a
    · subst z
      exact ⟨h, ys, upd_same⟩
    · exact ⟨h, xs, by rw [upd_ne z]; exact e⟩
  · obtain ⟨ov, g1, g2⟩ := r.rel j t e
    refine ⟨ov, g1, ?_⟩
    cases t with
    | non => cases ov <;> trivial
    | dat d =>
      cases ov with
      | none => exact g2
      | some v =>
        show Dp c.K (hid (c.M ++ A) (upd H a (.lst ys))) v d
        rw [eh]
        exact g2
    | own fs =>
      cases ov with
      | none => exact g2
      | some v =>
        obtain ⟨b, xs, q1, q2, q3, q4⟩ := g2
        refine ⟨b, xs, q1, q2, ?_, by rw [eh]; exact q4⟩
        rw [upd_ne (fun z => ?_)]
        · exact q3
        · subst z q1
          exact hn j fs e g1
    | ob C fs =>
      cases ov with
      | none => exact g2
      | some v =>
        show ObD c.K (hid (c.M ++ A) (upd H a (.lst ys))) v C fs
        rw [eh]
        exact g2
    | raw w =>
      cases ov with
      | none => exact g2
      | some v => exact g2
end
section
variable {c : DC} {ρ : DEnv} {te : TE}
/-- [e for x in it if t] -/
theorem en_lc {wi : TI} {g : TG} {tt : TT} {vs js : List Nat} {ds : List PD} (b : PD → Bool) (f : PD → PD) (hi : ID c wi ρ ds) (hz : ds.length ≤ 1000) (hj : ∀ j ∈ js, j ∈ vs)
    (hs : ∀ d ∈ ds, ∀ H0, Keep c.T c.H0 H0 → ∃ ps, TGd ⟨c.K, c.T, c.M, H0⟩ g js d ps ∧ ET ⟨c.K, c.T, c.M, H0⟩ tt (setDs (wipeD ρ vs) js ps) (b d) ∧ (b d = true → ED ⟨c.K, c.T, c.M, H0⟩ te (setDs (wipeD ρ vs) js ps) (f d))) :
    EN c (tLc wi g tt te vs) ρ ((ds.filter b).map f) := fun A σ H r Q q => hi A σ H r _ fun J H1 k1 W Dl hD => by
  have r1 := r.move k1
  have nw : ∀ (i : Nat) (es : List PD), ρ[i]? = some (DS.own es) → σ[i]? = some (some (V.ref Dl)) → False := fun i es e1 e2 => by
    obtain ⟨ov, z1, z2⟩ := r1.rel i _ e1
    rw [e2] at z1
    cases z1
    obtain ⟨a, ys, z3, z4, z5, _⟩ := z2
    cases z3
    rw [hD] at z5
    cases z5
  refine ⟨fun i m H' => m = ds.length - i ∧ i ≤ ds.length ∧ Keep c.T H1 H' ∧ SR (c.up A H1) (Dl :: A) σ H' ρ ∧ ∃ xs, H' Dl = some (.lst xs) ∧ DpAll c.K (hid (c.M ++ Dl :: A) H') xs (((ds.take i).filter b).map f), ⟨_, rfl, Nat.zero_le _, .new hD, r1.up.grow (.new hD) hD upd_same, [], upd_same, .nil⟩, ?_⟩
  rintro i m H' ⟨rfl, hle, kk, r', xs, e1, e2⟩
  by_cases hlt : i < ds.length
  · have hdi : ds[i]? = some ds[i] := List.getElem?_eq_getElem hlt
    refine .inr ⟨W.go i _ σ H' ρ r' hlt, fun H2 => Keep c.T H1 H2 ∧ SR (c.up A H1) (Dl :: A) σ H2 ρ ∧ ∃ xs, H2 Dl = some (.lst xs) ∧ DpAll c.K (hid (c.M ++ Dl :: A) H2) xs (((ds.take (i + 1)).filter b).map f), fun H2 ⟨q1, q2, q3⟩ => ⟨_, by omega, rfl, hlt, q1, q2, q3⟩, fun x H2 y => ?_⟩
    obtain ⟨k2, hx⟩ := W.yld i _ σ H' ρ x H2 r' y ds[i] hdi
    obtain ⟨ps, hg, ht, he⟩ := hs ds[i] (List.getElem_mem hlt) (hid A H1) r1.ground
    have r2 := r'.move k2
    have rw2 := r2.wipe vs
    have etk : ds.take (i + 1) = ds.take i ++ [ds[i]] := by
      rw [List.take_succ, hdi]
      rfl
    refine hg.run _ _ H2 _ x rw2 hx _ fun zs h2 _ => ⟨by rw [wipe_setVs hj, wipe_wipe (fun _ h => h)], ?_⟩
    have r3 := rw2.setVs (js := js) h2
    refine ht _ _ H2 r3 _ fun H3 k3 => ?_
    have k13 := (kk.trans k2).trans k3
    have r4 := r2.move k3
    have nD : Dl ∉ c.T := r'.nA List.mem_cons_self
    have e3 : H3 Dl = some (.lst xs) := k3.at_ _ _ (k2.at_ _ _ e1 nD) nD
    have e4 : DpAll c.K (hid (c.M ++ Dl :: A) H3) xs (((ds.take i).filter b).map f) := dps_keep (hid_keep (k2.trans k3)) r'.tabm e2
    cases hb : b ds[i] with
    | false =>
      show Keep c.T H1 H3 ∧ SR (c.up A H1) (Dl :: A) σ H3 ρ ∧ ∃ xs, H3 Dl = some (.lst xs) ∧ DpAll c.K (hid (c.M ++ Dl :: A) H3) xs (((ds.take (i + 1)).filter b).map f)
      refine ⟨k13, r4, xs, e3, ?_⟩
      rw [etk, List.filter_append, List.filter_cons, if_neg (by rw [hb]; decide), List.filter_nil, List.append_nil]
      exact e4
    | true =>
      refine he hb _ _ H3 (r3.move k3) _ fun y H4 k4 h4 => ?_
      have r5 := r4.move k4
      have e5 : H4 Dl = some (.lst xs) := k4.at_ _ _ e3 nD
      have e6 : DpAll c.K (hid (c.M ++ Dl :: A) H4) xs (((ds.take i).filter b).map f) := dps_keep (hid_keep k4) r4.tabm e4
      have e7 : DpAll c.K (hid (c.M ++ Dl :: A) H4) (xs ++ [y]) (((ds.take (i + 1)).filter b).map f) := by
        rw [etk, List.filter_append, List.filter_cons, if_pos hb, List.filter_nil, List.map_append]
        exact dps_append e6 (.cons h4 .nil)
      have eh : hid (c.M ++ Dl :: A) (upd H4 Dl (.lst (xs ++ [y]))) = hid (c.M ++ Dl :: A) H4 := hid_in (List.mem_append_right _ List.mem_cons_self)
      refine ⟨xs, e5, ?_, (k13.trans k4).own r1.tabs hD, r5.poke List.mem_cons_self nw, _, upd_same, ?_⟩
      · have hl := dps_len e6
        have h1 : (((ds.take i).filter b).map f).length ≤ ds.length := by
          rw [List.length_map]
          exact Nat.le_trans (List.length_filter_le _ _) (by rw [List.length_take]; exact Nat.min_le_right _ _)
        exact small1000 (by omega)
      · rw [eh]
        exact e7
  · have e : i = ds.length := by omega
    subst e
    refine .inl ⟨W.stop _ _ σ H' ρ r' (Nat.le_refl _), q Dl xs H' (k1.trans kk) (k1.free r.tabs hD) e1 ?_⟩
    rw [List.take_length] at e2
    rw [hid_cong (N := c.M ++ Dl :: A) (fun a => by simp [or_left_comm])]
    exact e2
/-! ### ranges -/
def rngD (lo : Int) (n : Nat) : List PD := (List.range n).map fun (i : Nat) => PyData.int (lo + (i : Int))
theorem rngD_len (lo : Int) (n : Nat) : (rngD lo n).length = n := by unfold rngD; simp
theorem rngD_get {lo : Int} {n i : Nat} {d : PD} (h : (rngD lo n)[i]? = some d) : i < n ∧ d = .int (lo + (i : Int)) := by
  unfold rngD at h
  rw [List.getElem?_map] at h
  cases e : (List.range n)[i]? with
  | none => rw [e] at h; cases h
  | some j =>
    rw [e] at h
    obtain ⟨h1, h2⟩ := List.getElem?_eq_some_iff.mp e
    rw [List.length_range] at h1
    rw [List.getElem_range] at h2
    subst h2
    exact ⟨h1, (Option.some.inj h).symm⟩
theorem wk_rng {c : DC} {lo : Int} {n : Nat} : Wk c (Itr lo n) (rngD lo n) :=
  ⟨fun i A σ H ρ r h => by rw [rngD_len] at h; exact h, fun i A σ H ρ x H' r y d hd => by
    obtain ⟨rfl, rfl⟩ := y
    obtain ⟨_, rfl⟩ := rngD_get hd
    exact ⟨.refl, .int _⟩, fun i A σ H ρ r h => by rw [rngD_len] at h; exact h⟩
theorem args1 {K : PySem.W.Frag} {H : Hp} {vs : List V} {d : PD} (h : ArgsOk K H vs [.dat d]) : ∃ v, vs = [v] ∧ Dp K H v d := by
  cases h with
  | cons a r => cases r; exact ⟨_, rfl, a⟩
theorem args2 {K : PySem.W.Frag} {H : Hp} {vs : List V} {d e : PD} (h : ArgsOk K H vs [.dat d, .dat e]) : ∃ v w, vs = [v, w] ∧ Dp K H v d ∧ Dp K H w e := by
  cases h with
  | cons a r =>
    cases r with
    | cons b r => cases r; exact ⟨_, _, rfl, a, b⟩
theorem id_rng1 {ta : TA} {n : Int} (h : EA c ta ρ [.dat (.int n)]) (hl : -(2 ^ 62) ≤ n := by omega) (hz : n ≤ 100000 := by omega) : ID c (iRng1 ta) ρ (rngD 0 n.toNat) := fun A σ H r R q => h A σ H r _ fun vs H1 k1 h1 => by
  obtain ⟨v, rfl, h2⟩ := args1 h1
  exact ⟨n, by rw [dp_int h2], hl, by omega, q _ H1 k1 wk_rng⟩
theorem id_rng2 {ta : TA} {a n : Int} (h : EA c ta ρ [.dat (.int a), .dat (.int n)]) (ha : -100000 ≤ a ∧ a ≤ 100000) (hz : -100000 ≤ n ∧ n ≤ 100000) : ID c (iRng2 ta) ρ (rngD a (n - a).toNat) := fun A σ H r R q => h A σ H r _ fun vs H1 k1 h1 => by
  obtain ⟨v, w, rfl, h2, h3⟩ := args2 h1
  exact ⟨a, n, by rw [dp_int h2, dp_int h3], ⟨by omega, by omega, by omega, by omega⟩, q _ H1 k1 wk_rng⟩
/-! ### tuple(xs), list(xs), list(t) -/
theorem ed_tupleL {K : PySem.W.Frag} {ds : List PD} (hK : K = c.K) (h : EL c te ρ ds) : ED c (tCB (fun xs H Q => ∃ p ys, xs = [.ref p] ∧ ((SqL K H p ys ∧ ∀ l, H l = none → Q (.ref l) (upd H l (.tup ys))) ∨ (SqT K H p ys ∧ Q (.ref p) H))) (tCons te tNil)) ρ (.tuple ds) := fun A σ H r Q q => h A σ H r _ fun a xs H1 k1 h1 h2 => by
  subst hK
  refine ⟨a, xs, rfl, .inl ⟨h1, fun p hp => ?_⟩⟩
  have s := r.move k1
  have sm : Same (hid (c.M ++ A) H1) (hid (c.M ++ A) (upd H1 p (.tup xs))) := fun b o e => by
    obtain ⟨m, e⟩ := hid_inv e
    exact hid_of m (by rw [upd_ne (ne_of_none e hp)]; exact e)
  exact q _ _ (k1.trans (.new hp)) (.tup (SqT.of (hid_of (nfresh s hp) upd_same)) (dps_same sm h2))
def listR (K : PySem.W.Frag) : List V → Hp → VK → Prop := fun xs H Q => ∃ p ys, xs = [.ref p] ∧ (SqL K H p ys ∨ SqT K H p ys) ∧ ∀ l, H l = none → Q (.ref l) (upd H l (.lst ys))
theorem en_listL {ds : List PD} (h : EL c te ρ ds) : EN c (tCB (listR c.K) (tCons te tNil)) ρ ds := fun A σ H r Q q => h A σ H r _ fun a xs H1 k1 h1 h2 => ⟨a, xs, rfl, .inl h1, fun p hp => q p xs _ (k1.trans (.new hp)) (k1.free r.tabs hp) upd_same (by
  rw [hid_new hp]
  exact h2)⟩
theorem en_listT {ds : List PD} (h : ED c te ρ (.tuple ds)) : EN c (tCB (listR c.K) (tCons te tNil)) ρ ds := fun A σ H r Q q => h A σ H r _ fun v H1 k1 h1 => by
  obtain ⟨a, xs, rfl, h2, h3⟩ := dp_tup h1
  exact ⟨a, xs, rfl, .inr (sqt_same hid_same h2), fun p hp => q p xs _ (k1.trans (.new hp)) (k1.free r.tabs hp) upd_same (by
    rw [hid_new hp]
    exact h3)⟩
/-! ### max, min, abs of two -/
theorem ed_CB2 {r : List V → Hp → VK → Prop} {ta : TA} {x y d : PD} (h : EA c ta ρ [.dat x, .dat y]) (hr : ∀ H v w, ∀ K' H', Dp K' H' v x → Dp K' H' w y → ∀ Q : VK, (∀ z, (∀ K2 H2, Dp K2 H2 z d) → Q z H) → r [v, w] H Q) : ED c (tCB r ta) ρ d := fun A σ H s Q q => h A σ H s _ fun vs H1 k1 h1 => by
  obtain ⟨v, w, rfl, h2, h3⟩ := args2 h1
  exact hr H1 v w _ _ h2 h3 Q fun z hz => q z H1 k1 (hz _ _)
/-! ### a def over data -/
abbrev DR (d : PD) : DEnds := { nx := fun _ => d = .none, rt := fun e => e = d }
def startD (N : List Str) (ss : List DS) : DEnv := ss ++ List.replicate (N.length - ss.length) .non
theorem start_sr {K : PySem.W.Frag} {T M : List Addr} {H : Hp} {N : List Str} {vs : List V} {ss : List DS} (hm : ∀ a ∈ M, a ∉ T ∧ H a ≠ none) (ht : Tabs T H) (h : ArgsOk K (hid M H) vs ss) : SR ⟨K, T, M, H⟩ [] (L2.start N vs) H (startD N ss) := by
  have hl := h.len
  have rep : ∀ (n i : Nat) (s : DS), (List.replicate n DS.non)[i]? = some s → s = .non := fun n i s e => by
    rw [List.getElem?_replicate] at e
    split at e
    · exact (Option.some.inj e).symm
    · cases e
  have get : ∀ {vs : List V} {ss : List DS}, ArgsOk K (hid M H) vs ss → ∀ {i : Nat} {s : DS}, ss[i]? = some s → ∃ v, vs[i]? = some v ∧ ArgOk K (hid M H) v s := by
    intro vs ss h
    induction h with
    | nil => intro i s e; simp at e
    | cons a r ih =>
      intro i s e
      cases i with
      | zero => simp at e; subst e; exact ⟨_, rfl, a⟩
      | succ i =>
        obtain ⟨v, h1, h2⟩ := ih (i := i) (s := s) (by simpa using e)
        exact ⟨v, by simpa using h1, h2⟩
  have nown : ∀ (i : Nat) (es : List PD), (startD N ss)[i]? = some (DS.own es) → False := fun i es e => by
    unfold startD at e
    rw [List.getElem?_append] at e
    split at e
    · obtain ⟨v, _, h2⟩ := get h e
      exact h2
    · cases rep _ _ _ e
  refine ⟨ht, .refl, hm, fun a h => (by cases h), ?_, fun i s e => ?_, fun i j ds es a _ e1 => (nown i ds e1).elim⟩
  · unfold L2.start startD
    simp [hl]
  · unfold startD at e
    rw [List.getElem?_append] at e
    unfold L2.start
    split at e
    · next hi =>
      obtain ⟨v, h1, h2⟩ := get h e
      refine ⟨some v, ?_, ?_⟩
      · rw [List.getElem?_append, if_pos (by simp; omega), List.getElem?_map, h1]
        rfl
      · show SlotOk K (hid (M ++ []) H) H [] (some v) s
        rw [List.append_nil]
        cases s with
        | non => trivial
        | dat d => exact h2
        | ob C fs => exact h2
        | own es => exact h2.elim
        | raw w => exact h2
    · next hi =>
      have := rep _ _ _ e
      subst this
      have hlt : i - ss.length < N.length - ss.length := by
        have := (List.getElem?_eq_some_iff.mp e).1
        simpa using this
      refine ⟨none, ?_, trivial⟩
      rw [List.getElem?_append, if_neg (by simp; omega), List.getElem?_replicate, if_pos (by simp; omega)]
section
variable {P : Program} {w : World} {K : PySem.W.Frag} {mg : Str → Option Value} {base : Heap}
theorem fn_sd {T : List Addr} {x qual : Str} {st : Stmt} {f : Addr} {fd : FuncData} {N ps : List Str} {k : Nat} {R : List DS → PD → Prop} (F : Fun K x qual st f fd) (S : FnScope N ps (defScope st)) (hl : ∀ ss d, R ss d → ss.length = ps.length)
    (hb : ∀ (cdv : Value) (A : Around) (outer : List Env) (s : Shared) (H : Hp) (E : XK), Room k (A.deeper (envOfC qual (defScope st) s.heap.objs.size f cdv)) →
      ∃ t, PSs (cxOf CX0 P w K mg base N qual (defScope st) f cdv A outer s H E).nox (defBody st) t ∧ ∀ M H0 ss d, R ss d → SD ⟨K, T, M, H0⟩ t (DR d) (startD N ss)) : FnOk P w K mg base CX0 (k + 1) f fd ps (spD K T R) := by
  refine F.ok S (fun vs H Q E h => ?_) (fun cdv A outer s H vs Q E hr h => ?_)
  · obtain ⟨M, ss, d, _, _, h3, h4, _⟩ := h
    rw [h3.len]
    exact hl ss d h4
  · obtain ⟨M, ss, d, h1, h2, h3, h4, q⟩ := h
    obtain ⟨t, ht, hq⟩ := hb cdv A outer s H E hr
    refine ⟨t, ht, hq M H ss d h4 _ ⟨fun A' σ' H' ρ' r' e => ?_, fun v H' e k' h5 h6 => ?_, fun _ _ _ _ _ z => z.elim, fun _ _ _ _ _ z => z.elim⟩ [] _ H (start_sr h1 h2 h3)⟩
    · have e : d = .none := e
      subst e
      exact q .non H' .non r'.keep
    · have h6 : e = d := h6
      subst h6
      exact q v H' h5 k'
end
end
end DL
/-! enumerate over a tuple -/
namespace PySem
open Sem (wp)
theorem meets_enumerate_newB1 {v : Value} {o : Obj} {H : Heap → Prop} (B : Begins v o H) :
    Meets (Builtin.«enumerate.__new__» ⟨[.type "enumerate", v], []⟩) (fun _ R s => H s.heap ∧
      R (.ok (.ret (.ref (s.heap.push o).objs.size)))
        { s with heap := (s.heap.push o).push { cls := .type "enumerate", data := .fields #[.none, .bool false, .ref s.heap.objs.size, rawInt 0, .none, .none] } }) :=
  .of_wp fun prog w A R s h => by
    obtain ⟨hp, g, d, tk, os⟩ := s; obtain ⟨h1, h⟩ := h
    have hsub := sub_enumerate
    have q1 : ∀ {A' : Around} {E : Value → Shared → Prop} {Q : Value → Shared → Prop}, Q (.ref hp.objs.size) ⟨hp.push o, g, d, tk, os⟩ → wpAny (model prog w) A' (pyIter v) Q E ⟨hp, g, d, tk, os⟩ :=
      fun q => B.iter prog w _ _ ⟨hp, g, d, tk, os⟩ _ h1 q
    wp_walk using q1
    refine wpAny_stack_any fun st => wpAny_pure ?_
    split
    · rename_i c _ _ _ _ _
      cases (c == Value.type "enumerate")
      · wp_walk using q1
        exact ⟨_, rfl, h⟩
      · wp_walk using q1
        exact ⟨_, rfl, h⟩
    · wp_walk using q1
      exact ⟨_, rfl, h⟩
section
variable {prog : Program} {w : World} {A : Around} {E : Value → Shared → Prop} {s : Shared}
theorem enum_begins1 {v : Value} {o : Obj} {H : Heap → Prop} {Q : Value → Shared → Prop} (B : Begins v o H) (h1 : H s.heap)
    (h : ∀ h', IsEnum h' (s.heap.objs.size + 1) s.heap.objs.size 0 .none → h'.get? s.heap.objs.size = some o → h'.objs.size = s.heap.objs.size + 2 →
      (∀ b o, s.heap.get? b = some o → h'.get? b = some o) → Q (.ref (s.heap.objs.size + 1)) { s with heap := h' }) :
    wpAny (model prog w) A (call (.type "enumerate") [v]) Q E s := by
  refine callType_new F.called_enumerate (by decide) (F.typeCall_enumerate_1 _) (F.newCall_enumerate_1 _) (fun obj => F.args_object_init_2 obj _) F.entry_enumerate_new
    (meets_enumerate_newB1 B) ⟨h1, ?_⟩
  have hz : (s.heap.push o).objs.size = s.heap.objs.size + 1 := Heap.size_push ..
  show _ ∧ _
  rw [hz]
  have he : IsEnum ((s.heap.push o).push { cls := .type "enumerate", data := .fields #[.none, .bool false, .ref s.heap.objs.size, rawInt 0, .none, .none] }) (s.heap.objs.size + 1) s.heap.objs.size 0 .none := by
    have := Heap.get?_push_size (s.heap.push o) (o := { cls := .type "enumerate", data := .fields #[.none, .bool false, .ref s.heap.objs.size, rawInt 0, .none, .none] }) rfl
    rw [hz] at this; exact this
  refine ⟨⟨_, he, rfl⟩, h _ he (Heap.get?_push_of_some _ (Heap.get?_push_size _ B.free)) (by rw [Heap.size_push, hz]) fun b o x => Heap.get?_push_of_some _ (Heap.get?_push_of_some _ x)⟩
end
end PySem
namespace DL
open PySem PySem.Spec PyProof.Rows L2 DA
theorem enumT_end {prog : Program} {w : World} {A : Around} {E : Value → Shared → Prop} {s : Shared} {e it l : Addr} {i : Nat} {items : Array Value} {old : Value} {c : Int} {Q : Option Value → Shared → Prop} (hh : A.handled = none)
    (he : IsEnum s.heap e it c old) (hit : s.heap.IsTupleIter it l i) (hl : s.heap.IsTuple l items) (hx : items[i]? = none)
    (hQ : ∀ h', Heap.ExtBut it s.heap h' → Q none { s with heap := h' }) : wpAny (model prog w) A (pyNext (.ref e)) Q E s := by
  have hT : s.TypeIs (.ref e) "enumerate" := ⟨_, he, rfl⟩
  unfold pyNext
  refine wpAny_bind (wpAny_attempt (wpAny_callSpecial?_slot (name := Str.ofString "__next__") hT F.slot_enumerate_next
    (wpAny_call_entry F.slot_enumerate_next hT F.entry_enumerate_next ?_ (F.args_enumerate_next_1 _))))
  show wpAny _ _ (field (.ref e) 2 >>= _) _ _ _
  refine wpAny_bind (wpAny_field he rfl (x := .ref it) rfl ?_)
  refine wpAny_bind (wpAny_nextOf_tuple_end hh hit hl hx fun h' x he' hx' => ?_)
  obtain ⟨o, ho, hc⟩ := hx'
  refine wpAny_bind (wpAny_isInstance (T := "StopIteration") (b := true) ⟨o, ho, hc⟩ isSubtype_stop ?_)
  exact wpAny_pure (hQ _ he')
def IteT (K : PySem.W.Frag) (a : Addr) : It :=
  ⟨fun i H => ∃ (xs : List V) (x : V), SqT K H a xs ∧ xs[i]? = some x, fun i H v H' => ∃ T x, v = .ref T ∧ H T = none ∧ H' = upd H T (.tup [.int (i : Nat), x]) ∧ ∀ xs, SqT K H a xs → xs[i]? = some x, fun i H => ∃ xs : List V, SqT K H a xs ∧ xs.length ≤ i⟩
theorem turn_enumT {P : Program} {w : World} {K : PySem.W.Frag} {elts : List Expr} {kk : Nat} {tpos : Pos} (a e it : Addr) (its : List Value) (hit : it ≠ a) (hea : e ≠ a) :
    Turn P w K (.Tuple elts kk tpos) (IteT K a) [e, it] e (fun i h => (∃ old, IsEnum h e it ((i : Nat) : Int) old) ∧ h.IsTupleIter it a i ∧ e ≠ it) where
  mem := by simp
  obj := fun i h st b hb => by
    obtain ⟨⟨old, he⟩, ⟨o, ho, hc, hd⟩, _⟩ := st
    have e' : b = e ∨ b = it := by simpa using hb
    rcases e' with z | z
    · rw [z]; exact ⟨_, he, fun v q => nomatch q⟩
    · rw [z]; exact ⟨o, ho, fun v q => by rw [hd] at q; cases q⟩
  keep := fun i h h' st k => let ⟨⟨old, he⟩, hi, hne⟩ := st; ⟨⟨old, k e (by simp) _ he⟩, hi.at fun o q => k it (by simp) o q, hne⟩
  item := by
    intro X hP hw hK hc i pins s σ H E I hf st hg
    subst hP hw hK
    obtain ⟨⟨old, he⟩, hti, hne⟩ := st
    obtain ⟨xs, x, hq, hx⟩ := hg
    obtain ⟨us, rv, p, hz⟩ := I.tuple hq
    obtain ⟨u, hu, ru⟩ := rv.get hx
    have hel : e < s.heap.objs.size := Heap.lt_size he
    have hil : it < s.heap.objs.size := by obtain ⟨_, q, _⟩ := hti; exact Heap.lt_size q
    have hlt : i < us.toArray.size := by
      have := (List.getElem?_eq_some_iff.mp hu).1
      simpa using this
    refine wpAny_pyNext_enum_itemD (Draws.tuple (show X.A.in1.handled = none from I.ok.hd hc) it a (Ne.symm hit) us.toArray) he ⟨hti, show s.heap.IsTuple a us.toArray from p⟩ hlt hne (by simp [hne, hea]) fun y h' tk hy ho hst' hT hsz hk => ?_
    have ey : y = u := by
      have : us[i]? = some y := by simpa using hy
      rw [hu] at this
      exact (Option.some.inj this).symm
    subst ey
    refine ⟨_, rfl, wpAny_letOwnedTupleGo_enum (s := { s with heap := h', toks := tk + 1 }) ho fun h'' he' sb => ?_⟩
    have hT2 : h''.get? s.heap.objs.size = some { cls := .type "tuple", data := .seq #[.int i tk, y] } := (sb.2 _ (Nat.ne_of_gt hel)).trans hT
    have new : ObjOk X.prog X.w (upd H s.heap.objs.size (.tup [.int (i : Nat), x])) h'' s.heap.objs.size (.tup [.int (i : Nat), x]) :=
      ⟨by show 2 ≤ sizeLine; decide, [.int i tk, y], .cons ⟨_, rfl⟩ (.cons ru .nil), ⟨_, hT2, rfl, _, rfl⟩⟩
    have I1 : Inv X pins σ (upd H s.heap.objs.size (.tup [.int (i : Nat), x])) { s with heap := h'', toks := tk + 1 } :=
      I.turnedNew (ch := [e, it]) (fun b ob hb q => (sb.2 b (fun z => hb (by simp [z]))).trans (hk b ob (fun z => hb (by simp [z])) (fun z => hb (by simp [z])) q)) hf (Nat.le_refl _) new
    refine ⟨.ref s.heap.objs.size, _, I1, rfl, ⟨_, x, rfl, I.hok.fresh (Nat.le_refl _), rfl, fun ys hy => by rw [I.tuple_inj hy hq]; exact hx⟩, ⟨⟨y, ?_⟩, hst'.1.at fun o q => (sb.2 it (Ne.symm hne)).trans q, hne⟩, fun b hb => ?_⟩
    · have e1 : ((i + 1 : Nat) : Int) = (i : Int) + 1 := by omega
      rw [e1]; exact he'
    · have hb' : b < s.heap.objs.size := by
        have e' : b = e ∨ b = it := by simpa using hb
        rcases e' with z | z
        · rw [z]; exact hel
        · rw [z]; exact hil
      rw [upd_ne (Nat.ne_of_lt hb')]
      exact (hf b hb).1
  done := by
    intro X hP hw hK hc i pins s σ H E I hf st hg
    subst hP hw hK
    obtain ⟨⟨old, he⟩, hti, hne⟩ := st
    obtain ⟨xs, hq, hx⟩ := hg
    obtain ⟨us, rv, p, hz⟩ := I.tuple hq
    obtain ⟨f0, f1, f2, f3, f4, f5⟩ := hf it (by simp)
    have hl := rv.length
    -- the index has come to the end just at the length
    have hn : us.toArray[i]? = none := by simp; omega
    exact enumT_end (I.ok.hd hc) he hti (show s.heap.IsTuple a us.toArray from p) hn fun h' eb => ⟨rfl, I.turned (t' := s.toks) (fun b o hb q => eb b o hb q) f0 f1 f3 f4 f5⟩
  self := fun A i s Q E st h => let ⟨⟨_, he⟩, _⟩ := st; wpAny_pyIter_enum he h
def iEnumT (K : PySem.W.Frag) (ta : TA) : TI := fun σ H R => ta σ H fun vs H1 => ∃ a xs, vs = [.ref a] ∧ SqT K H1 a xs ∧ R (IteT K a) H1
theorem pi_enumT {X : Cx} {e : Expr} {ta : TA} {p pos tpos : Pos} {elts : List Expr} {kk : Nat} (hg : Gl X "enumerate") (hm : X.mg "enumerate" = none) (ha : PA X [e] ta) (hs : starEach [e] X.env = [(false, eval e X.env)] := by rfl) :
    PI X (.Tuple elts kk tpos) (.Call (.Name "enumerate" p) [e] [] pos) (iEnumT X.K ta) := by
  refine ⟨fun pins s σ H R I h => ?_⟩
  refine Call_ (ld_blt I hg hm boot_enumerate (PyProof.Rows.callWith_type1 (thn (ha.run pos pins s σ H _ I h) fun us s1 ⟨vs, H1, I1, r1, q1⟩ => ?_) hs rfl))
  obtain ⟨a, xs, ex, hq, q⟩ := q1
  subst ex
  cases r1 with
  | cons r rr =>
    cases rr
    cases r
    obtain ⟨its, rv, p', hz⟩ := I1.tuple hq
    have hta : s1.heap.IsTuple a its.toArray := p'
    have hal : a < s1.heap.objs.size := by obtain ⟨o, ho, _⟩ := hta; exact Heap.lt_size ho
    refine enum_begins1 (begins_tuple a its.toArray) hta fun h' he hit hsz hk => wpAny_pyIter_enum he ?_
    have I2 : Inv X pins σ H1 { s1 with heap := h' } := I1.kept (t' := s1.toks) hk
    refine ⟨s1.heap.objs.size + 1, [s1.heap.objs.size + 1, s1.heap.objs.size], _, _, H1, rfl, I2, turn_enumT a (s1.heap.objs.size + 1) s1.heap.objs.size its (Nat.ne_of_gt hal) (Nat.ne_of_gt (Nat.lt_succ_of_lt hal)), ⟨⟨.none, he⟩, ⟨_, hit, rfl, rfl⟩, Nat.succ_ne_self _⟩, fun b hb => ?_, q⟩
    have e' : b = s1.heap.objs.size + 1 ∨ b = s1.heap.objs.size := by simpa using hb
    have hle : s1.heap.objs.size ≤ b := by
      rcases e' with z | z
      · rw [z]; exact Nat.le_add_right _ _
      · rw [z]; exact Nat.le_refl _
    exact I1.fpOk hle (I1.hok.fresh hle)
/-! the data that they give -/
def enumD (ds : List PD) : List PD := ds.mapIdx fun i d => .tuple [.int (i : Int), d]
theorem enumD_len (ds : List PD) : (enumD ds).length = ds.length := by unfold enumD; simp
theorem enumD_get {ds : List PD} {i : Nat} {e : PD} (h : (enumD ds)[i]? = some e) : ∃ d, ds[i]? = some d ∧ e = .tuple [.int (i : Int), d] := by
  unfold enumD at h
  rw [List.getElem?_mapIdx] at h
  cases q : ds[i]? with
  | none => rw [q] at h; cases h
  | some d => rw [q] at h; exact ⟨d, rfl, (Option.some.inj h).symm⟩
section
variable {c : DC} {ρ : DEnv}
theorem new_item {A : List Addr} {σ : L2.St} {H : Hp} (r : SR c A σ H ρ) {T : Addr} {i : Nat} {x : V} {d : PD} (hT : H T = none) (h : Dp c.K (hid (c.M ++ A) H) x d) : Keep c.T H (upd H T (.tup [.int (i : Int), x])) ∧ Dp c.K (hid (c.M ++ A) (upd H T (.tup [.int (i : Int), x]))) (.ref T) (.tuple [.int (i : Int), d]) := by
  have sm : Same (hid (c.M ++ A) H) (hid (c.M ++ A) (upd H T (.tup [.int (i : Int), x]))) := fun b o e => by
    obtain ⟨m, e⟩ := hid_inv e
    exact hid_of m (by rw [upd_ne (ne_of_none e hT)]; exact e)
  exact ⟨.new hT, .tup (SqT.of (hid_of (nfresh r hT) upd_same)) (.cons (.int _) (.cons (dp_same sm h) .nil))⟩
theorem id_enumT {ta : TA} {ds : List PD} (h : EA c ta ρ [.dat (.tuple ds)]) : ID c (iEnumT c.K ta) ρ (enumD ds) := fun A σ H r R q => h A σ H r _ fun vs H1 k1 h1 => by
  obtain ⟨v, rfl, g1⟩ := args1 h1
  obtain ⟨a, xs, rfl, h2, h3⟩ := dp_tup g1
  have r1 := r.move k1
  have base : ∀ A' σ' H' ρ', SR (c.up A H1) A' σ' H' ρ' → SqT c.K H' a xs ∧ DpAll c.K (hid (c.M ++ A') H') xs ds := fun A' σ' H' ρ' r' => by
    have km : Keep c.T (hid (c.M ++ A) H1) (hid (c.M ++ A') H') := upk r1 r'
    exact ⟨sqt_same hid_same (km.sqT r1.tabm h2), dps_keep km r1.tabm h3⟩
  refine ⟨a, xs, rfl, sqt_same hid_same h2, q _ H1 k1 ⟨fun i A' σ' H' ρ' r' hi => ?_, fun i A' σ' H' ρ' x H2 r' y d hd => ?_, fun i A' σ' H' ρ' r' hi => ?_⟩⟩
  · obtain ⟨s1, s2⟩ := base A' σ' H' ρ' r'
    rw [enumD_len] at hi
    have hx : i < xs.length := by rw [dps_len s2]; exact hi
    exact ⟨xs, xs[i], s1, List.getElem?_eq_getElem hx⟩
  · obtain ⟨s1, s2⟩ := base A' σ' H' ρ' r'
    obtain ⟨T, y0, rfl, hT, rfl, y⟩ := y
    obtain ⟨d0, hd0, rfl⟩ := enumD_get hd
    obtain ⟨w, e1, e2⟩ := dps_get s2 hd0
    rw [y xs s1] at e1
    cases e1
    exact new_item (c := c.up A H1) r' hT e2
  · obtain ⟨s1, s2⟩ := base A' σ' H' ρ' r'
    rw [enumD_len] at hi
    exact ⟨xs, s1, by rw [dps_len s2]; exact hi⟩
theorem id_enumL {ta : TA} {ds : List PD} (h : EA c ta ρ [.dat (.list ds)]) : ID c (iEnum c.K ta) ρ (enumD ds) := fun A σ H r R q => h A σ H r _ fun vs H1 k1 h1 => by
  obtain ⟨v, rfl, g1⟩ := args1 h1
  obtain ⟨a, xs, rfl, h2, h3⟩ := dp_list g1
  have r1 := r.move k1
  have base : ∀ A' σ' H' ρ', SR (c.up A H1) A' σ' H' ρ' → SqL c.K H' a xs ∧ DpAll c.K (hid (c.M ++ A') H') xs ds := fun A' σ' H' ρ' r' => by
    have km : Keep c.T (hid (c.M ++ A) H1) (hid (c.M ++ A') H') := upk r1 r'
    exact ⟨hid_same.seq (km.sqL r1.tabm h2), dps_keep km r1.tabm h3⟩
  refine ⟨a, xs, rfl, hid_same.seq h2, q _ H1 k1 ⟨fun i A' σ' H' ρ' r' hi => ?_, fun i A' σ' H' ρ' x H2 r' y d hd => ?_, fun i A' σ' H' ρ' r' hi => ?_⟩⟩
  · obtain ⟨s1, s2⟩ := base A' σ' H' ρ' r'
    rw [enumD_len] at hi
    have hx : i < xs.length := by rw [dps_len s2]; exact hi
    exact ⟨xs, xs[i], s1, List.getElem?_eq_getElem hx⟩
  · obtain ⟨s1, s2⟩ := base A' σ' H' ρ' r'
    obtain ⟨T, y0, rfl, hT, rfl, y⟩ := y
    obtain ⟨d0, hd0, rfl⟩ := enumD_get hd
    obtain ⟨w, e1, e2⟩ := dps_get s2 hd0
    rw [y xs s1] at e1
    cases e1
    exact new_item (c := c.up A H1) r' hT e2
  · obtain ⟨s1, s2⟩ := base A' σ' H' ρ' r'
    rw [enumD_len] at hi
    exact ⟨xs, s1, by rw [dps_len s2]; exact hi⟩
end
theorem tg_tup2 {c : DC} {i j : Nat} {a b : PD} : TGd c (gTup c.K 2 (gCons (gName i) (gCons (gName j) gNil))) [i, j] (.tuple [a, b]) [a, b] := tg_tup (js := [i, j]) (n := 2) (ds := [a, b]) rfl rfl
theorem sd_unp2 {c : DC} {ρ : DEnv} {D : DEnds} {te : TE} {i j : Nat} {a b : PD} (h : ED c te ρ (.tuple [a, b])) (k : D.nx ((ρ.set i (.dat a)).set j (.dat b))) : SD c (tAsg te (gTup c.K 2 (gCons (gName i) (gCons (gName j) gNil)))) D ρ := sd_unp (js := [i, j]) (n := 2) (ds := [a, b]) h rfl rfl k
theorem sd_unp3 {c : DC} {ρ : DEnv} {D : DEnds} {te : TE} {i j l : Nat} {a b e : PD} (h : ED c te ρ (.tuple [a, b, e])) (k : D.nx (((ρ.set i (.dat a)).set j (.dat b)).set l (.dat e))) : SD c (tAsg te (gTup c.K 3 (gCons (gName i) (gCons (gName j) (gCons (gName l) gNil))))) D ρ := sd_unp (js := [i, j, l]) (n := 3) (ds := [a, b, e]) h rfl rfl k
theorem sd_unp4 {c : DC} {ρ : DEnv} {D : DEnds} {te : TE} {i j l m : Nat} {a b e f : PD} (h : ED c te ρ (.tuple [a, b, e, f])) (k : D.nx ((((ρ.set i (.dat a)).set j (.dat b)).set l (.dat e)).set m (.dat f))) : SD c (tAsg te (gTup c.K 4 (gCons (gName i) (gCons (gName j) (gCons (gName l) (gCons (gName m) gNil)))))) D ρ := sd_unp (js := [i, j, l, m]) (n := 4) (ds := [a, b, e, f]) h rfl rfl k
end DL
/-! An exception that its except clause keeps: it is tracked from then on (ExK), and asked by isinstance later. -/
namespace L2
open PySem PySem.Spec PyProof.Rows
/-- a kept exception of a class, its own dict d -/
def ExK (cls : Value) (d : Option Addr) (a : Addr) : HO := .ext fun h => ∃ (oe : Obj) (vs : Array Value), h.get? a = some oe ∧ Zc cls d oe ∧ oe.data = .fields vs
theorem exK_ok {P : Program} {w : World} {H : Hp} {h : Heap} {a : Addr} {cls : Value} {d : Option Addr} {oe : Obj} {vs : Array Value} (e : h.get? a = some oe) (z : Zc cls d oe) (q : oe.data = .fields vs) : ObjOk P w H h a (ExK cls d a) :=
  ⟨⟨oe, vs, e, z, q⟩, ⟨oe, e⟩, fun _ _ ⟨o, us, e1, z1, q1⟩ k => ⟨o, us, k o e1, z1, q1⟩⟩
section
variable {X : Cx} {pins : List (Addr × Obj)} {σ : St} {H : Hp} {s : Shared}
/-- an object that stands, and that nobody tracks, is tracked -/
theorem Inv.adopt (I : Inv X pins σ H s) {a : Addr} {o : HO} (na : H a = none) (h0 : X.s_0.heap.get? a = none ∨ a ∈ X.ex) (hL : a ≠ X.env.locals) (hC : ∀ x c, X.env.cells.lookup x = some c → c ≠ a) (hP : ∀ p ∈ X.pn ++ pins, p.1 ≠ a)
    (new : ObjOk X.prog X.w (upd H a o) s.heap a o) : Inv X pins σ (upd H a o) s := by
  have out : ∀ {b : Addr} {u : Obj}, X.s_0.heap.get? b = some u → b ∉ X.ex → b ≠ a := fun {b u} e n z => by
    subst z
    rcases h0 with q | q
    · rw [q] at e; cases e
    · exact n q
  have B := I.base
  refine ⟨I.ok, I.os, I.bare, ⟨B.keep, B.slot, fun b u e n x => ?_, B.there, fun b xs e => ?_, fun b u v e => ?_, fun b ps e => ?_⟩, I.loc, I.cell, ?_, fun x c e => ?_, fun p hp => ?_, ?_, I.len⟩
  · rw [upd_ne (out e x)]
    exact B.free b u e n x
  · have q := B.tups b xs e
    rw [upd_ne (fun z => by subst z; rw [na] at q; cases q)]
    exact q
  · have q := B.frzs b u v e
    rw [upd_ne (fun z => by subst z; rw [na] at q; cases q)]
    exact q
  · obtain ⟨more, q⟩ := B.tbls b ps e
    exact ⟨more, by
      rw [upd_ne (fun z => by subst z; rw [na] at q; cases q)]
      exact q⟩
  · rw [upd_ne (Ne.symm hL)]
    exact I.free
  · rw [upd_ne (hC x c e)]
    exact I.freeC x c e
  · obtain ⟨p1, p2, p3⟩ := I.pin p hp
    exact ⟨p1, by rw [upd_ne (hP p hp)]; exact p2, p3⟩
  · exact I.hok.laidN (fun _ _ q => q) na new
/-- the state as a suite's, nothing pinned anew -/
theorem Inv.suiteK (I : Inv X pins σ H s) (a : Addr) : Inv (X.suite a (X.pn ++ pins)) [] σ H s :=
  ⟨I.ok.suite _ _, I.os, I.bare, I.base, I.loc, I.cell, I.free, I.freeC, fun p hp => I.pin p (by rw [List.append_nil] at hp; exact hp), I.hok, I.len⟩
theorem Inv.unsuiteK {a : Addr} {pn' : List (Addr × Obj)} (I : Inv (X.suite a (X.pn ++ pins)) pn' σ H s) (ok : X.Ok) : Inv X pins σ H s :=
  ⟨ok, I.os, I.bare, I.base, I.loc, I.cell, I.free, I.freeC, fun p hp => I.pin p (List.mem_append_left _ hp), I.hok, I.len⟩
end
/-- what a clause that keeps its exception wishes; the clause's name stands in slot i -/
def wKeep (K : PySem.W.Frag) (c : Value) (i : Nat) (ts : Addr → Value → Option Addr → TS) (Wo : WX) (D : Ends) : WX := fun cls d σ H =>
  ∃ b, PySem.W.exmOne K cls c = some b ∧ (b = false → Wo cls d σ H) ∧
    (b = true → ∀ a, H a = none → ts a cls d ⟨fun τ G => D.nx (τ.set i none) G, fun v G => D.rt v G, fun τ G => D.bk (τ.set i none) G, fun τ G => D.ct (τ.set i none) G⟩ (σ.set i (some (.ref a))) (upd H a (ExK cls d a)))
section
variable {X : Cx} {x n : Str} {c : Value} {i : Nat} {body suite : List Stmt} {st0 : Stmt} {p1 p2 p3 : Pos} {tb : WX → TS} {ts : Addr → Value → Option Addr → TS} {Wo : WX}
/-- where the suite ends, the name goes; what it did stands -/
theorem keep_end (ok : X.Ok) (hN : X.N.Nodup) (hi : X.N[i]? = some n) (hl : X.env.kindOf n = some .local) {pins pn' : List (Addr × Obj)} {a : Addr} {D : Ends} {f : Flow} {s : Shared}
    (h : SP (X.suite a (X.pn ++ pins)) pn' ⟨fun τ G => D.nx (τ.set i none) G, fun v G => D.rt v G, fun τ G => D.bk (τ.set i none) G, fun τ G => D.ct (τ.set i none) G⟩ f s) :
    wpAny (model X.prog X.w) X.A (do bindName X.env n .none; unbindBehindTheSuite X.env n p3) (fun _ z => SP X pins D f z) X.xe s := by
  cases f with
  | next => exact let ⟨_, _, J, q⟩ := h; gone_ok (J.unsuiteK ok) hN hi hl fun z Jz => ⟨_, _, Jz, q⟩
  | ret u => exact let ⟨_, _, _, J, r, q⟩ := h; gone_ok (J.unsuiteK ok) hN hi hl fun z Jz => ⟨_, _, _, Jz, r, q⟩
  | brk => exact let ⟨_, _, J, q⟩ := h; gone_ok (J.unsuiteK ok) hN hi hl fun z Jz => ⟨_, _, Jz, q⟩
  | cont => exact let ⟨_, _, J, q⟩ := h; gone_ok (J.unsuiteK ok) hN hi hl fun z Jz => ⟨_, _, Jz, q⟩
theorem ps_try_keep (hs : X.stack = X.env :: X.outer) (hf : X.env.frame = some X.env.locals) (hN : X.N.Nodup) (hi : X.N[i]? = some n) (hl : X.env.kindOf n = some .local) (hc : Names X x c) (tk : Takes X Wo)
    (hb : ∀ (W : WX) (pn : List (Addr × Obj)) (xe : Value → Shared → Prop), Takes (X.tr pn xe) W → PassesOwn (model X.prog X.w) X.A X.env xe → PSs (X.tr pn xe) body (tb W))
    (hu : ∀ (a : Addr) (cls : Value) (d : Option Addr) (pn : List (Addr × Obj)), PSs (X.suite a pn) (st0 :: suite) (ts a cls d)) :
    PS X (.Try body [.ExceptHandler (some (.Name x p1)) (some n) (st0 :: suite) p2] [] [] p3) (fun D σ H => tb (wKeep X.K c i ts Wo D) D σ H) := by
  refine ⟨fun pins s σ H D I h => wpAny_Try_except ?_⟩
  have ok := I.ok
  have efr : X.A.frames = some (X.env :: X.outer) := ok.frames.trans (by rw [hs])
  refine wpAny_mono ((hb (wKeep X.K c i ts Wo D) (X.pn ++ pins) (fun e z1 => wpAny (model X.prog X.w) X.A (noteFrame e X.env) (fun _ z2 => wpAny (model X.prog X.w) X.A (setFlight e none) (fun _ z3 =>
    wpAny (model X.prog X.w) X.A (handleBy e X.env [.ExceptHandler (some (.Name x p1)) (some n) (st0 :: suite) p2]) (SP X pins D) X.xe z3) X.xe z2) X.xe z1) (fun u s2 y => ?_) PassesOwn.looking).run [] s σ H D (I.toTry _) h) (fun f s1 y => ?_) (fun _ _ z => z)
  · -- what was raised lands
    obtain ⟨a, B, sI, ps, τ, G, cls, d, rfl, Jt, nb, up, sky, na, os, ag, b, eb, hno, hyes⟩ := y
    have J : Inv X pins τ G sI := Jt.ofTry ok
    have sk : Sky B (X.env :: X.outer) a (Zc cls d) X.env.locals s2.heap := hs ▸ sky
    have bn : B.get? a = none := by
      rcases sk with q | q | q
      · exact q.2.1
      · exact q.2.1
      · exact q.2.1
    show wpAny (model X.prog X.w) X.A (noteFrame (.ref a) X.env) _ _ _
    refine Sky.land Zc.steady efr hf sk fun g fl upg => ?_
    have Jg : Inv X pins τ G { s2 with heap := g } := J.landed nb fl.1 (up.trans upg) os ag
    obtain ⟨oe, vs, ge, gz, gd⟩ := fl.there
    have nofr : a ∉ frs (X.env :: X.outer) := fun hm => by
      obtain ⟨_, o2, e2, hn⟩ := fl.2.2.1.mem hm
      rw [ge] at e2
      cases e2
      exact hn _ gd
    have nL : a ≠ X.env.locals := fun z => nofr (List.mem_filterMap.mpr ⟨X.env, List.mem_cons_self, by rw [hf, z]⟩)
    have sn : sI.heap.get? a = none := by
      cases q : sI.heap.get? a with
      | none => rfl
      | some o =>
        have z := nb a o q (by rw [hs]; exact nofr)
        rw [bn] at z
        cases z
    have s0 : X.s_0.heap.get? a = none ∨ a ∈ X.ex := by
      by_cases hx : a ∈ X.ex
      · exact .inr hx
      · refine .inl ?_
        cases q : X.s_0.heap.get? a with
        | none => rfl
        | some o =>
          obtain ⟨o2, e2⟩ := J.base.there a o q hx
          rw [sn] at e2
          cases e2
    have nC : ∀ y c2, X.env.cells.lookup y = some c2 → c2 ≠ a := fun y c2 e z => by
      obtain ⟨v, hv⟩ := J.cell y c2 e
      obtain ⟨o, e1, _⟩ := hv
      rw [z, sn] at e1
      cases e1
    have nP : ∀ p ∈ X.pn ++ pins, p.1 ≠ a := fun p hp z => by
      have e1 := (J.pin p hp).1
      rw [z, sn] at e1
      cases e1
    have lk : PySem.W.Looks (model X.prog X.w) g (typeOf (.ref a)) cls := fun A2 Q2 E2 z2 k2 q2 => wpAny_typeOf_ref (k2 _ _ ge) (by rw [gz.1]; exact q2)
    have mt := PySem.W.exm_one (M := model X.prog X.w) Jg.kIn lk eb
    refine wpAny_handleBy_cons (codeAny_handlers_test ?_) (by intro z; cases z)
    have Sg := Jg.suiteK a
    have ask : ∀ {Q : Value → Shared → Prop} {E : Value → Shared → Prop}, Q c { s2 with heap := g } → wpAny (model X.prog X.w) (X.A.mark (some (.ref a))) (eval (.Name x p1) X.env) Q E { s2 with heap := g } := fun {Q E} q => by
      rcases hc with ⟨c1, c2, c3 | ⟨c3, c4, c5⟩⟩
      · exact ld_glob (X := X.suite a (X.pn ++ pins)) Sg c1 c3 q c2
      · exact ld_blt (X := X.suite a (X.pn ++ pins)) Sg c1 c3 c4 q c5 c2
    refine ask (mt.here ?_)
    cases b with
    | false =>
      show wpAny _ X.A (handleBy (.ref a) X.env []) _ _ _
      refine wpAny_handleBy_nil ?_
      obtain ⟨_, _, _, o3, us, tr, otr, _, e3, _, d3, f3, _⟩ := id fl
      have out : wpAny (model X.prog X.w) X.A (setFlight (.ref a) X.env.frame) (fun _ z => wpAny (model X.prog X.w) X.A (throw (.ref a) : Sem Flow) (SP X pins D) X.xe z) X.xe { s2 with heap := g } := by
        rw [hf]
        exact HandSPX.setFlight_upZ fl fun g2 hg2 up2 => wpAny_throw (tk _ _ ⟨a, B, sI, pins, τ, G, cls, d, rfl, J, nb, (up.trans upg).trans up2, .inr (.inr (hs ▸ hg2)), na, os, ag, hno rfl⟩)
      unfold PySem.passOn
      refine wpAny_bind (wpAny_field e3 d3 f3 ?_)
      rw [if_neg (show ¬ ((Value.ref tr == Value.none) = true) from by simp)]
      first
        | exact wpAny_bind out
        | exact wpAny_bind (wpAny_pure (wpAny_bind out))
    | true =>
      refine codeAny_handlers_suite_as (HandSPX.lands_againZ fl fun g2 fl2 up2 => ?_)
      have J2 : Inv X pins τ G { s2 with heap := g2 } := J.landed nb fl2.1 ((up.trans upg).trans up2) os ag
      obtain ⟨o4, us4, e4, z4, d4⟩ := fl2.there
      have A2 : Inv X pins τ (upd G a (ExK cls d a)) { s2 with heap := g2 } := J2.adopt na s0 nL nC nP (exK_ok e4 z4 d4)
      refine store_ok (X := X.suite a (X.pn ++ pins)) (v := .ref a) (A2.suiteK a) hN hi (.inl hl) rfl (fun s5 S5 => ?_) (.inr hl)
      exact wpAny_mono ((hu a cls d (X.pn ++ pins)).run [] s5 _ _ _ S5 (hyes rfl a na)) (fun f z hz => keep_end ok hN hi hl hz) fun _ _ z => z.elim
  · cases f with
    | next => exact let ⟨_, _, Jq, q⟩ := y; wpAny_execs_nil ⟨_, _, Jq.ofTry ok, q⟩
    | ret u => exact let ⟨_, _, _, Jq, r, q⟩ := y; ⟨_, _, _, Jq.ofTry ok, r, q⟩
    | brk => exact let ⟨_, _, Jq, q⟩ := y; ⟨_, _, Jq.ofTry ok, q⟩
    | cont => exact let ⟨_, _, Jq, q⟩ := y; ⟨_, _, Jq.ofTry ok, q⟩
end
/-- isinstance(e, c), e a kept exception -/
def rIsK (K : PySem.W.Frag) : List V → Hp → VK → Prop := fun xs H Q => ∃ (a D : Addr) (c : V) (cv : Value) (b : Bool), xs = [.ref a, c] ∧ H a = some (ExK (.ref D) none a) ∧ ExcC K D ∧ ClsV c cv ∧ PySem.W.kitOne K (.ref D) cv = some b ∧ Q (.bl b) H
theorem call_isK {X : Cx} : CallR X (.builtin "isinstance") (rIsK X.K) := by
  intro pins s σ H xs us Q I r h
  obtain ⟨a, D, c, cv, b, rfl, hH, Z, k, e, q⟩ := h
  obtain ⟨u1, u2, rfl, r1, r2⟩ := vals2 r
  have e2 := k.eq r2
  subst e2
  cases (show u1 = Value.ref a from r1)
  obtain ⟨⟨⟨oc, od, dt, sl⟩, vs, e1, ⟨z1, z2⟩, d1⟩, _, _⟩ := (show ObjOk X.prog X.w H s.heap a (ExK (.ref D) none a) from I.hok a _ hH)
  dsimp only at z1 z2 d1
  subst z1 z2 d1
  exact PySem.W.kia_one (PySem.W.handS_kitx_exc Z.hg Z.hk Z.hs Z.hd Z.ha Z.hn Z.ht Z.hm) I.kIn ⟨e1, rfl, rfl, trivial⟩ e (fun z => nomatch z) fun tk => ⟨.bl b, H, I.kept (t' := tk) fun _ _ z => z, rfl, q⟩
end L2
/-! Defs over plain data that may raise: what comes of a call is data, or an own exception. -/
namespace DL
open PySem PySem.Spec PyProof.Rows L2 DA
inductive Out where
  | ok (d : PD) | ex (C : Addr)
def spE (K : PySem.W.Frag) (T : List Addr) (R : List DS → Out → Prop) : Sp := fun vs H Q E => ∃ M ss o, (∀ a ∈ M, a ∉ T ∧ H a ≠ none) ∧ Tabs T H ∧ ArgsOk K (hid M H) vs ss ∧ R ss o ∧
  (∀ d, o = .ok d → ∀ v H', Dp K (hid M H') v d → Keep T H H' → Q v H') ∧ (∀ C, o = .ex C → ∀ H', Keep T H H' → E (.ref C) none H')
abbrev DO (o : Out) : DEnds := { nx := fun _ => o = .ok .none, rt := fun e => o = .ok e }
/-- what is raised leaves the def as E says -/
def XO (T : List Addr) (H0 : Hp) (E : XK) (o : Out) : Prop := ∀ C, o = .ex C → ∀ H', Keep T H0 H' → E (.ref C) none H'
theorem XO.up {T : List Addr} {H0 H1 : Hp} {E : XK} {o : Out} (h : XO T H0 E o) (k : Keep T H0 H1) : XO T H1 E o := fun C e H' k' => h C e H' (k.trans k')
section
variable {P : Program} {w : World} {K : PySem.W.Frag} {mg : Str → Option Value} {base : Heap}
theorem fn_sdE {T : List Addr} {x qual : Str} {st : Stmt} {f : Addr} {fd : FuncData} {N ps : List Str} {k : Nat} {R : List DS → Out → Prop} (F : Fun K x qual st f fd) (S : FnScope N ps (defScope st)) (hl : ∀ ss o, R ss o → ss.length = ps.length)
    (hb : ∀ (cdv : Value) (A : Around) (outer : List Env) (s : Shared) (H : Hp) (E : XK), Room k (A.deeper (envOfC qual (defScope st) s.heap.objs.size f cdv)) →
      ∃ t, PSs (cxOf (L2.CX P w) P w K mg base N qual (defScope st) f cdv A outer s H E) (defBody st) t ∧ ∀ M H0 ss o, R ss o → XO T H0 E o → SD ⟨K, T, M, H0⟩ t (DO o) (startD N ss)) : FnOk P w K mg base (L2.CX P w) (k + 1) f fd ps (spE K T R) := by
  refine F.okX S (fun vs H Q E h => ?_) (fun cdv A outer s H vs Q E hr h => ?_)
  · obtain ⟨M, ss, o, _, _, h3, h4, _⟩ := h
    rw [h3.len]
    exact hl ss o h4
  · obtain ⟨M, ss, o, h1, h2, h3, h4, q, x⟩ := h
    obtain ⟨t, ht, hq⟩ := hb cdv A outer s H E hr
    exact ⟨t, ht, hq M H ss o h4 x _ ⟨fun A' σ' H' ρ' r' e => q .none e .non H' .non r'.keep, fun v H' e k' h5 h6 => q e h6 v H' h5 k', fun _ _ _ _ _ z => z.elim, fun _ _ _ _ _ z => z.elim⟩ [] _ H (start_sr h1 h2 h3)⟩
end
section
variable {c : DC} {ρ : DEnv} {D : DEnds} {E : XK} {ta : TA} {te : TE} {d : PD}
/-- raise C('..') -/
theorem sd_raise {C : Addr} (h : ∀ H', Keep c.T c.H0 H' → E (.ref C) none H') : SD c (fun _ _ H => E (.ref C) none H) D ρ := fun _ _ A σ H r => h H r.keep
/-- f(..) as a statement, where f may raise -/
theorem sd_dropE {R : List DS → Out → Prop} {ss : List DS} {o : Out} (h : EA c ta ρ ss) (hR : R ss o) (x : XO c.T c.H0 E o) (k : ∀ d, o = .ok d → D.nx ρ) : SD c (tDrop (tCall (spE c.K c.T R) [] E ta)) D ρ := fun F L A σ H r => h A σ H r _ fun vs H1 k1 h1 =>
  ⟨c.M ++ A, ss, o, (r.move k1).nM, (r.move k1).tabs, by rw [List.append_nil]; exact h1, hR, fun d e v H2 h2 k2 => L.nx _ _ _ _ ((r.move k1).move k2) (k d e), fun C e H2 k2 => x C e H2 ((r.move k1).keep.trans k2)⟩
/-- a call that may raise, for a name -/
theorem sd_setE {i : Nat} {R : List DS → Out → Prop} {ss : List DS} {o : Out} (h : EA c ta ρ ss) (hR : R ss o) (x : XO c.T c.H0 E o) (k : ∀ d, o = .ok d → D.nx (ρ.set i (.dat d))) : SD c (tAsg (tCall (spE c.K c.T R) [] E ta) (gName i)) D ρ := fun F L A σ H r => h A σ H r _ fun vs H1 k1 h1 =>
  ⟨c.M ++ A, ss, o, (r.move k1).nM, (r.move k1).tabs, by rw [List.append_nil]; exact h1, hR, fun d e v H2 h2 k2 => L.nx _ _ _ _ (((r.move k1).move k2).setD i h2) (k d e), fun C e H2 k2 => x C e H2 ((r.move k1).keep.trans k2)⟩
end
end DL
/-! Texts as data. -/
namespace DL
open PySem PySem.Spec PyProof.Rows L2 DA TL
theorem dp_str {K : PySem.W.Frag} {H : Hp} {v : V} {z : Str} (h : Dp K H v (.str z)) : v = .str z := by cases h; rfl
section
variable {c : DC} {ρ : DEnv} {ta tb te to : TE} {d : PD}
/-- f"..": what the parts come to -/
def JD (c : DC) (ρ : DEnv) (t : TE) (z : Str) : Prop := ED c t ρ (.str z)
theorem jd_str {t : TE} {z : Str} (h : ED c t ρ (.str z)) (hz : z.length ≤ sizeLine) : JD c ρ (tFmt t) z := fun A σ H s Q q => h A σ H s _ fun v H1 k1 h1 => .inl ⟨z, dp_str h1, hz, q _ H1 k1 (.str z)⟩
theorem jd_int {t : TE} {i : Int} (h : ED c t ρ (.int i)) (hi : i.natAbs.log2 < 1920) : JD c ρ (tFmt t) (toString i) := fun A σ H s Q q => h A σ H s _ fun v H1 k1 h1 => .inr ⟨i, dp_int h1, hi, q _ H1 k1 (.str _)⟩
theorem jd_con {z : Str} : JD c ρ (tC (.str z)) z := ed_str
theorem js_run : ∀ {ts : List TE} {zs : List Str}, Paired (JD c ρ) ts zs → ∀ (acc : Str), (acc.length + (zs.map (·.length)).sum ≤ sizeLine) → ∀ A σ H, SR c A σ H ρ → ∀ Q : Str → Hp → Prop, (∀ H', Keep c.T H H' → Q (zs.foldl (· ++ ·) acc) H') → tJs ts acc σ H Q
  | _, _, .nil, acc, _, A, σ, H, r, Q, q => q H .refl
  | t :: _, z :: _, .cons h hs, acc, hz, A, σ, H, r, Q, q => h A σ H r _ fun v H1 k1 h1 => by
    rw [List.map_cons, List.sum_cons] at hz
    have e : (acc ++ z).length = acc.length + z.length := by
      rw [len_tl, tl_append, List.length_append, ← len_tl, ← len_tl]
    exact ⟨z, dp_str h1, by omega, js_run hs (acc ++ z) (by omega) A σ H1 (r.move k1) Q fun H' k => q H' (k1.trans k)⟩
theorem ed_joined {ts : List TE} {zs : List Str} (h : Paired (JD c ρ) ts zs) (hz : (zs.map (·.length)).sum ≤ sizeLine) : ED c (fun σ H Q => tJs ts Str.empty σ H fun out H1 => Q (.str out) H1) ρ (.str (zs.foldl (· ++ ·) Str.empty)) := fun A σ H s Q q =>
  js_run h Str.empty (by
    have : Str.empty.length = 0 := rfl
    omega) A σ H s _ fun H' k => q _ H' k (.str _)
theorem ed_addS {x y : Str} (ha : ED c ta ρ (.str x)) (hb : ED c tb ρ (.str y)) (hz : x.length + y.length ≤ sizeLine) : ED c (tOp (fun x y H Q => ∃ i j, x = .str i ∧ y = .str j ∧ i.length + j.length ≤ sizeLine ∧ Q (.str (i ++ j)) H) ta tb) ρ (.str (x ++ y)) :=
  ed_op ha hb fun A σ H v w s h1 h2 Q q => ⟨x, y, dp_str h1, dp_str h2, hz, q _ H .refl (.str _)⟩
theorem ed_ixS {z : Str} {i : Int} {n : Nat} (ha : ED c ta ρ (.str z)) (hb : ED c tb ρ (.int i)) (hz : z.length ≤ sizeLine) (e : atI (tl z) i = some n) : ED c (tOp rIxS ta tb) ρ (.str ⟨#[n]⟩) :=
  ed_op ha hb fun A σ H v w s h1 h2 Q q => ⟨z, i, n, dp_str h1, dp_int h2, hz, e, q _ H .refl (.str _)⟩
theorem ed_lenS {z : Str} (ha : ED c ta ρ (.str z)) (hz : z.length ≤ sizeLine) : ED c (tCB (fun xs H Q => ∃ z, xs = [.str z] ∧ z.length ≤ sizeLine ∧ Q (.int z.length) H) (tCons ta tNil)) ρ (.int (z.length : Int)) := fun A σ H s Q q => ha A σ H s _ fun v H1 k1 h1 =>
  ⟨z, by rw [dp_str h1], hz, q _ H1 k1 (.int _)⟩
theorem ed_intS {z : Str} {n : Int} (ha : ED c ta ρ (.str z)) (e : PySem.intText? z = some n) (hz : z.length ≤ 640) : ED c (tCB (fun xs H Q => ∃ a n, xs = [.str a] ∧ PySem.intText? a = some n ∧ a.length ≤ 640 ∧ Q (.int n) H) (tCons ta tNil)) ρ (.int n) := fun A σ H s Q q => ha A σ H s _ fun v H1 k1 h1 =>
  ⟨z, n, by rw [dp_str h1], e, hz, q _ H1 k1 (.int _)⟩
theorem ed_strI {i : Int} (ha : ED c ta ρ (.int i)) (hi : i.natAbs.log2 < 1920) : ED c (tCB (fun xs H Q => ∃ i, xs = [.int i] ∧ i.natAbs.log2 < 1920 ∧ Q (.str (toString i)) H) (tCons ta tNil)) ρ (.str (toString i)) := fun A σ H s Q q => ha A σ H s _ fun v H1 k1 h1 =>
  ⟨i, by rw [dp_int h1], hi, q _ H1 k1 (.str _)⟩
theorem dps_strs {K : PySem.W.Frag} {H : Hp} : ∀ {xs : List V} {ys : List Str}, DpAll K H xs (ys.map .str) → xs = ys.map V.str
  | _, [], .nil => rfl
  | _, y :: ys, .cons h t => by rw [dp_str h, dps_strs t]; rfl
theorem strs_dps {K : PySem.W.Frag} {H : Hp} : ∀ ys : List Str, DpAll K H (ys.map V.str) (ys.map .str)
  | [] => .nil
  | y :: ys => .cons (.str y) (strs_dps ys)
/-- sep.join(list of texts) -/
theorem ed_join {x : Str} {ys : List Str} (ho : ED c to ρ (.str x)) (he : EL c te ρ (ys.map .str)) (hz : (ys.map (·.length)).sum + ys.length * x.length ≤ 16777216) :
    ED c (tM1 (fun x xs H Q => ∃ a p, ∃ ys : List Str, x = .str a ∧ xs = [.ref p] ∧ (SqL c.K H p (ys.map V.str) ∨ SqT c.K H p (ys.map V.str)) ∧ (ys.map (·.length)).sum + ys.length * a.length ≤ 16777216 ∧ Q (.str (Txt.join a ys)) H) to te) ρ (.str (Txt.join x ys)) :=
  fun A σ H s Q q => ho A σ H s _ fun v H1 k1 h1 => ⟨⟨x, dp_str h1⟩, he A σ H1 (s.move k1) _ fun p xs H2 k2 g1 g2 => ⟨x, p, ys, dp_str h1, rfl, .inl (by rw [← dps_strs g2]; exact g1), hz, q _ H2 (k1.trans k2) (.str _)⟩⟩
/-- text.split(sep) -/
theorem en_split {x y : Str} (ho : ED c to ρ (.str x)) (he : ED c te ρ (.str y)) (h1 : (y.length == 0) = false) (h2 : x.length + 2 ≤ sizeLine) :
    EN c (tM1 (fun x xs H Q => ∃ a b, x = .str a ∧ xs = [.str b] ∧ (b.length == 0) = false ∧ a.length + 2 ≤ sizeLine ∧ rNewStrs (Txt.split a b) H Q) to te) ρ ((Txt.split x y).map .str) :=
  fun A σ H s Q q => ho A σ H s _ fun v H1 k1 g1 => ⟨⟨x, dp_str g1⟩, he A σ H1 (s.move k1) _ fun v2 H2 k2 g2 => ⟨x, y, dp_str g1, by rw [dp_str g2], h1, h2, fun p hp =>
    q p ((Txt.split x y).map V.str) (upd H2 p (.lst ((Txt.split x y).map V.str))) ((k1.trans k2).trans (.new hp)) ((k1.trans k2).free s.tabs hp) upd_same (strs_dps _)⟩⟩
/-- text.partition(sep) -/
theorem ed_part {x y : Str} (ho : ED c to ρ (.str x)) (he : ED c te ρ (.str y)) (h1 : (y.length == 0) = false) (h2 : x.length ≤ sizeLine) :
    ED c (tM1 (fun x xs H Q => ∃ a b, x = .str a ∧ xs = [.str b] ∧ (b.length == 0) = false ∧ a.length ≤ sizeLine ∧ ∀ p, H p = none → Q (.ref p) (upd H p (.tup [.str (Txt.partition a b).1, .str (Txt.partition a b).2.1, .str (Txt.partition a b).2.2]))) to te) ρ
      (.tuple [.str (Txt.partition x y).1, .str (Txt.partition x y).2.1, .str (Txt.partition x y).2.2]) :=
  fun A σ H s Q q => ho A σ H s _ fun v H1 k1 g1 => ⟨⟨x, dp_str g1⟩, he A σ H1 (s.move k1) _ fun v2 H2 k2 g2 => ⟨x, y, dp_str g1, by rw [dp_str g2], h1, h2, fun p hp =>
    q (.ref p) _ ((k1.trans k2).trans (.new hp)) (.tup (SqT.of (hid_of (nfresh ((s.move k1).move k2) hp) upd_same)) (.cons (.str _) (.cons (.str _) (.cons (.str _) .nil))))⟩⟩
/-- text[a:b] -/
theorem ed_slS {z : Str} {tl' th : TO} {lo hi : Option Int} (h : ED c te ρ (.str z)) (h1 : EO c tl' ρ lo) (h2 : EO c th ρ hi) (hz : z.length ≤ sizeLine) : ED c (tSl rSlS te tl' th) ρ (.str (cutS z lo hi)) := fun A σ H s Q q =>
  h A σ H s _ fun v H1 k1 g1 => h1 A σ H1 (s.move k1) _ fun H2 k2 => h2 A σ H2 ((s.move k1).move k2) _ fun H3 k3 => ⟨z, dp_str g1, hz, q _ H3 ((k1.trans k2).trans k3) (.str _)⟩
/-- a sign in a text -/
theorem ed_notInS {n : Nat} {z : Str} (ha : ED c ta ρ (.str ⟨#[n]⟩)) (hb : ED c tb ρ (.str z)) : ED c (tOp (fun x y H Q => ∃ (c : Nat) (z : Str), x = .str ⟨#[c]⟩ ∧ y = .str z ∧ Q (.bl (!decide (c ∈ z.cps.toList))) H) ta tb) ρ (.bool (!decide (n ∈ tl z))) :=
  ed_op ha hb fun A σ H v w s h1 h2 Q q => ⟨n, z, dp_str h1, dp_str h2, q _ H .refl (.bl _)⟩
/-- the signs of a text -/
def signs (z : Str) : List PD := (tl z).map fun n => .str ⟨#[n]⟩
theorem id_str {z : Str} (h : ED c te ρ (.str z)) : ID c (iStr te) ρ (signs z) := fun A σ H r R q => h A σ H r _ fun v H1 k1 h1 => ⟨z, dp_str h1, q (Its z) H1 k1 ⟨fun i A' σ' H' ρ' r' hi => by
    unfold signs at hi
    rw [List.length_map] at hi
    show i < z.cps.size
    simpa using hi, fun i A' σ' H' ρ' x H2 r' y d hd => by
    obtain ⟨rfl, n, e1, rfl⟩ := y
    unfold signs at hd
    rw [List.getElem?_map] at hd
    have e2 : (tl z)[i]? = some n := by
      show z.cps.toList[i]? = some n
      rw [Array.getElem?_toList]
      exact e1
    rw [e2] at hd
    cases hd
    exact ⟨.refl, .str _⟩, fun i A' σ' H' ρ' r' hi => by
    unfold signs at hi
    rw [List.length_map] at hi
    show z.cps.size ≤ i
    simpa using hi⟩⟩
end
end DL
namespace GE
open PySem PySem.Spec PyProof.Rows L2 GenW

/-- the context of a generator expression's frame -/
abbrev gcx (X : Cx) (A : Around) (s : Shared) (H : Hp) (env : Env) (fp : List Addr) (pn : List (Addr × Obj)) : Cx :=
  { X with A := A, s_0 := s, H_0 := H, env := env, outer := X.stack, stack := env :: X.stack, ex := fp, fn := fun _ => false, pn := pn, xe := fun _ _ => False }

/-- the names of a generator expression: its own, or captured; none is captured further in -/
structure GxOk (N : List Str) (sc scope : Scope) (own : List (Str × Nat)) : Prop where
  blk : BlkOk N sc scope own
  co : scope.isCoroutine = false
  cell : ∀ y ∈ scope.names, y.2 ≠ .cell
  dot : scope.names.lookup (".0" : Str) = some NameKind.local

abbrev clo (X : Cx) (scope : Scope) : List (Str × Addr) := cloFrom X.env.cells scope.names []

theorem gx_start {X : Cx} {pins : List (Addr × Obj)} {σ : L2.St} {H : Hp} {s : Shared} {scope : Scope} {own : List (Str × Nat)} {fp : List Addr} {code it : Value} {A : Around} {h' : Heap} {go : Obj} {g' : Array GenState} {tk : Nat}
    (I : Inv X pins σ H s) (ok : GxOk X.N X.env.scope scope own) (hN : X.N.Nodup) (hfp : ∀ b ∈ fp, FpOk X pins H b ∧ b < s.heap.objs.size) (hA : X.calm = true → A.handled = none)
    (hAf : A.frames = some (genEnv scope (clo X scope) s.heap.objs.size code builtinsNs X.env :: X.stack))
    (ns : h'.Ns s.heap.objs.size (fun y => if y = ".0" then some it else none)) (sb : Heap.SameBut s.heap.objs.size (s.heap.push { cls := .type "frame", data := .dict #[] }) h') (hgo : ∀ v, go.data ≠ .cell v) (hg : AllBare g') (hgp : ∀ h : Heap, (h.push go).get? h.objs.size = some go) :
    Inv (gcx X A s H (genEnv scope (clo X scope) s.heap.objs.size code builtinsNs X.env) fp [(h'.objs.size, go)]) [] (wipe σ (own.map (·.2))) H { s with gens := g', toks := tk, heap := h'.push go } := by
  have hfree : ∀ y ∈ scope.names, y.2 = .free → ∃ c, X.env.cells.lookup y.1 = some c := fun y hy e => by
    rcases ok.blk.free y hy e with k | k
    · exact I.ok.has _ (.inl k)
    · exact I.ok.has _ (.inr k)
  have sz : h'.objs.size = s.heap.objs.size + 1 := by rw [sb.1, Heap.size_push]
  generalize hcenv : genEnv scope (clo X scope) s.heap.objs.size code builtinsNs X.env = cenv at hAf ⊢
  have kp : ∀ b o, s.heap.get? b = some o → (h'.push go).get? b = some o := fun b o e => Heap.get?_push_of_some _ (sb.extBut b o (Nat.ne_of_lt (Heap.lt_size e)) (Heap.get?_push_of_some _ e))
  have hL : cenv.locals = s.heap.objs.size := by rw [← hcenv]; rfl
  have hcl : cenv.cells = clo X scope := by rw [← hcenv]; rfl
  have hsc : cenv.scope = scope := by rw [← hcenv]; rfl
  have cm : ∀ {y c}, (y, c) ∈ clo X scope → X.env.cells.lookup y = some c ∧ c < s.heap.objs.size := fun {y c} hm => by
    rcases cloFrom_mem hm with hm | ⟨h1, rfl⟩
    · cases hm
    · obtain ⟨c, hc⟩ := hfree _ h1 rfl
      rw [hc]
      obtain ⟨w, z⟩ := I.cell _ _ hc
      exact ⟨rfl, z.lt⟩
  have mem : ∀ {y c}, cenv.cells.lookup y = some c → X.env.cells.lookup y = some c ∧ c < s.heap.objs.size := fun {y c} e => by
    rw [hcl] at e
    exact cm (PySem.mem_of_lookup e)
  have look : ∀ {y}, scope.names.lookup y = some .free → ∃ c, cenv.cells.lookup y = some c ∧ X.env.cells.lookup y = some c := fun {y} hl => by
    have hy : (y, NameKind.free) ∈ scope.names := PySem.mem_of_lookup hl
    obtain ⟨c', e'⟩ := L2.mem_lookup (cloFrom_has (cells := X.env.cells) (acc := []) hy)
    have e2 : cenv.cells.lookup y = some c' := by rw [hcl]; exact e'
    exact ⟨c', e2, (mem e2).1⟩
  have okB : (gcx X A s H cenv fp [(h'.objs.size, go)]).Ok := by
    refine ⟨I.ok.mod, by show cenv.scope.kind = _; rw [hsc]; exact ok.blk.kind, by show cenv.globals = _; rw [← hcenv]; exact I.ok.glob, by show cenv.builtins = _; rw [← hcenv]; rfl, by show s.heap.objs.size ≤ cenv.locals; rw [hL]; exact Nat.le_refl _,
      fun y z c e1 e2 => I.ok.inj y z c (mem e1).1 (mem e2).1, fun y hy => ?_, fun y c z e => absurd z Bool.false_ne_true, hA, hAf, .inr ⟨rfl, ?_⟩, fun b hb => ⟨?_, fun y c e z => ?_⟩, I.bs, Nat.le_trans I.ok.bsz I.sz, fun b o e hb => ?_, fun b hb z => ?_, I.stack, I.stkFree⟩
    · show ∃ c, cenv.cells.lookup y = some c
      have key : ∀ k, cenv.scope.names.lookup y = some k → (k = .cell ∨ k = .free) → ∃ c, cenv.cells.lookup y = some c := fun k hk hk' => by
        rw [hsc] at hk
        rcases hk' with rfl | rfl
        · exact absurd rfl (ok.cell _ (PySem.mem_of_lookup hk))
        · obtain ⟨c, h1, _⟩ := look hk
          exact ⟨c, h1⟩
      rcases hy with hy | hy
      · exact key _ hy (.inl rfl)
      · exact key _ hy (.inr rfl)
    · show cenv.frame = some cenv.locals
      rw [← hcenv]; rfl
    · show b ≠ cenv.locals
      rw [hL]; exact Nat.ne_of_lt (hfp b hb).2
    · exact (hfp b hb).1.2.2.2.2.1 y c (mem (show cenv.cells.lookup y = some c from e)).1 z
    · rcases (hfp b hb).1.2.2.2.1 with z | z
      · exact I.ok.noex b o e z
      · exact absurd (Nat.lt_of_lt_of_le (Heap.lt_size e) (Nat.le_trans I.ok.bsz z)) (Nat.lt_irrefl _)
    · rcases List.mem_cons.mp (I.stkSub b z) with z | z
      · exact (hfp b hb).1.2.1 z
      · exact (hfp b hb).1.2.2.1 z
  refine ⟨okB, rfl, hg, Un.kept kp, ⟨fun y => if y = ".0" then some it else none, ?_, fun i y av e1 e2 e3 => ?_⟩, fun y c e => ?_, ?_, fun y c e => I.freeC y c (mem e).1, fun p hp => ?_, I.hok.kept kp, by rw [wipe_length]; exact I.len⟩
  · show Heap.Ns _ cenv.locals _
    rw [hL]
    exact Heap.Ns.keeps ns fun b o e => Heap.get?_push_of_some _ e
  · obtain ⟨e2, hne⟩ := wipe_some e2
    have e3 : Vis cenv.scope y := e3
    have hfr : scope.names.lookup y = some .free := by
      have no : ∀ k', scope.names.lookup y = some k' → ¬ (k' = .local ∨ k' = .cell) := fun k' e hh => by
        rcases ok.blk.own _ (PySem.mem_of_lookup e) hh with e' | e'
        · obtain ⟨p, hp, hpy⟩ := List.mem_map.mp e'
          have e4 := ok.blk.ix p hp
          have : p.1 = y := hpy
          rw [this] at e4
          exact hne (List.mem_map.mpr ⟨p, hp, nodup_ix hN e4 e1⟩)
        · exact e' (List.mem_of_getElem? e1)
      unfold Vis at e3
      rw [hsc] at e3
      rcases e3 with e3 | e3 | e3
      · exact absurd (.inl rfl) (no _ e3)
      · exact absurd (.inr rfl) (no _ e3)
      · exact e3
    obtain ⟨m, hn, hl⟩ := I.loc
    have hvis : Vis X.env.scope y := (ok.blk.free _ (PySem.mem_of_lookup hfr) rfl).elim (fun k => .inr (.inl k)) (fun k => .inr (.inr k))
    obtain ⟨w, r, q⟩ := hl i y av e1 e2 hvis
    refine ⟨w, r, .inr ⟨.inr (by show cenv.scope.names.lookup y = _; rw [hsc]; exact hfr), ?_⟩⟩
    obtain ⟨c, h1, h2⟩ := look hfr
    rcases q with ⟨k, _⟩ | ⟨_, c', e', z⟩
    · have k : X.env.scope.names.lookup y = some .local := k
      rcases ok.blk.free _ (PySem.mem_of_lookup hfr) rfl with k' | k' <;> rw [show X.env.scope.names.lookup y = _ from k'] at k <;> cases k
    · rw [h2] at e'; cases e'
      exact ⟨c, h1, z.keeps kp⟩
  · obtain ⟨w, z⟩ := I.cell y c (mem (show cenv.cells.lookup y = some c from e)).1
    exact ⟨w, z.keeps kp⟩
  · show H cenv.locals = none
    rw [hL]; exact I.hok.fresh (Nat.le_refl _)
  · have hp' : p = (h'.objs.size, go) := by
      have q : p ∈ [(h'.objs.size, go)] ++ ([] : List (Addr × Obj)) := hp
      simpa using q
    subst hp'
    have hge : s.heap.objs.size ≤ h'.objs.size := by rw [sz]; exact Nat.le_succ _
    refine ⟨hgp h', I.hok.fresh hge, ?_, fun z => ?_, hgo⟩
    · show h'.objs.size ≠ cenv.locals
      rw [hL, sz]; exact Nat.succ_ne_self _
    · rcases List.mem_cons.mp (I.stkSub _ z) with z | z
      · have z' : h'.objs.size = X.env.locals := z
        have q := Nat.lt_of_lt_of_le I.lt hge
        rw [z'] at q
        exact absurd q (Nat.lt_irrefl _)
      · exact I.nofs hge z

/-! ### the generator's run -/
section
variable {X : Cx} {Ag : Around} {s4 : Shared} {H4 : Hp} {cenv : Env} {fp : List Addr} {pn : List (Addr × Obj)} {elt tg iter : Expr} {scope : Scope} {gpos : Pos} {it : Addr} {tn : Nat → Heap → Prop} {J : It} {g : TG} {te : TE}

abbrev gcode (elt tg iter : Expr) (scope : Scope) (gpos : Pos) (it : Addr) (cenv : Env) : Code := .compLoop (.GeneratorExp elt [⟨tg, iter, [], 0⟩] scope gpos) 0 (.ref it) .none cenv
abbrev gstart (elt tg iter : Expr) (scope : Scope) (gpos : Pos) (it : Addr) (cenv : Env) : Code := .compStart (.GeneratorExp elt [⟨tg, iter, [], 0⟩] scope gpos) 0 (.ref it) .none cenv

/-- the end; what is handed out -/
def GR (Z : Cx) (σw : L2.St) (N : Nat) (W : Nat → Hp → Prop) : GenEnd := fun n _ r s1 => r = .ok .next ∧ (n = 1 ∧ ∃ H, W N H ∧ Inv Z [] σw H s1)
def GYd (Z : Cx) (σw : L2.St) (fp : List Addr) (tn : Nat → Heap → Prop) (N : Nat) (f : Nat → V) (W Vv : Nat → Hp → Prop) : Protocol := fun n _ v s1 kap =>
  ∃ i H, (n + i = N ∧ i < N) ∧ RelV (f i) v ∧ Vv i H ∧ Inv Z [] σw H s1 ∧ tn (i + 1) s1.heap ∧ (∀ b ∈ fp, H b = none) ∧
    ∀ s' H', Inv Z [] σw H' s' → tn (i + 1) s'.heap → (∀ b ∈ fp, H' b = none) → W (i + 1) H' → kap (.send .none) s'

theorem seg_loop {N : Nat} {f : Nat → V} {W Vv : Nat → Hp → Prop} {σw : L2.St} {vs : List Nat} (hc : X.calm = true) (hco : cenv.scope.isCoroutine = false) (T : Turn X.prog X.w X.K tg J fp it tn)
    (Z : Cx) (hZ : Z = gcx X (Ag.over (gcode elt tg iter scope gpos it cenv) []) s4 H4 cenv fp pn) (hpn : ∀ b ∈ fp, ∀ p ∈ pn, p.1 ≠ b) (pg : PG Z tg g) (pe : PE Z elt te) (hσ : wipe σw vs = σw)
    (turn : ∀ i H, i < N → W i H → J.go i H ∧ ∀ x H', J.yld i H x H' → g x σw H' fun σ2 H2 => wipe σ2 vs = σw ∧ te σ2 H2 fun y H3 => y = f i ∧ Vv i H3) (stop : ∀ H, W N H → J.stop N H) :
    ∀ (k i : Nat) (s₀ s : Shared) (H : Hp), N - i = k → i ≤ N → Inv Z [] σw H s → tn i s.heap → (∀ b ∈ fp, H b = none) → W i H →
      Seg (model X.prog X.w) Ag (GR Z σw N W) (GYd Z σw fp tn N f W Vv) (N - i + 1) s₀ (gcode elt tg iter scope gpos it cenv) ((model X.prog X.w).den (gcode elt tg iter scope gpos it cenv)) [] s := by
  have stat : ∀ {σ' : L2.St} {H' : Hp} {s' : Shared}, Inv Z [] σ' H' s' → (∀ b ∈ fp, H' b = none) → ∀ b ∈ fp, FpOk Z [] H' b := fun {σ' H' s'} I' hn b hb => by
    subst hZ
    exact ⟨hn b hb, (I'.ok.exf b hb).1, I'.ok.exfs b hb, .inl hb, fun x c e => (I'.ok.exf b hb).2 x c e, fun p hp => hpn b hb p (by simpa using hp)⟩
  have hA : Z.A = Ag.over (gcode elt tg iter scope gpos it cenv) [] := by subst hZ; rfl
  have hP : Z.prog = X.prog := by subst hZ; rfl
  have hw : Z.w = X.w := by subst hZ; rfl
  have hK : Z.K = X.K := by subst hZ; rfl
  have hcZ : Z.calm = true := by subst hZ; exact hc
  have hxe : Z.xe = fun _ _ => False := by subst hZ; rfl
  have henv : Z.env = cenv := by subst hZ; rfl
  intro k
  induction k with
  | zero =>
    intro i s₀ s H hk hi I st nf w
    have hin : i = N := by omega
    subst hin
    show Seg _ Ag _ _ _ s₀ _ ((compTurn (.GeneratorExp elt [⟨tg, iter, [], 0⟩] scope gpos) 0 (.ref it) .none cenv).onRaise (leaving cenv)) [] s
    rw [compTurn_gen, Sem.onRaise_eq_wrap]
    refine seg_bind_wrap (wpAny_standAt ?_)
    have td := T.done Z hP hw hK hcZ i [] s σw H (fun _ _ => False) I (stat I nf) st (stop H w)
    rw [hA] at td
    refine seg_bind_wrap (thnF td fun r s6 ⟨hr, I6⟩ => ?_)
    subst hr
    exact seg_end (.ok .next) ⟨rfl, by omega, H, w, I6⟩
  | succ k ih =>
    intro i s₀ s H hk hi I st nf w
    have hlt : i < N := by omega
    obtain ⟨go, step⟩ := turn i H hlt w
    show Seg _ Ag _ _ _ s₀ _ ((compTurn (.GeneratorExp elt [⟨tg, iter, [], 0⟩] scope gpos) 0 (.ref it) .none cenv).onRaise (leaving cenv)) [] s
    rw [compTurn_gen, Sem.onRaise_eq_wrap]
    refine seg_bind_wrap (wpAny_standAt ?_)
    have ti := T.item Z hP hw hK hcZ i [] s σw H (fun _ _ => False) I (stat I nf) st go
    rw [hA] at ti
    refine seg_bind_wrap (thnF ti fun r s6 ⟨u, hr, h6⟩ => ?_)
    subst hr
    refine seg_bind_wrap (thnF h6 fun _ s7 ⟨x, H7, I7, r7, y7, st7, n7⟩ => ?_)
    have I7' := I7.pinned (stat I7 n7) (T.obj _ _ st7)
    have hpg := pg.run _ s7 _ H7 x u _ I7' r7 (step x H7 y7)
    rw [hP, hw, hA, hxe, henv] at hpg
    refine seg_bind_wrap (thnF hpg fun _ s8 ⟨σ8, H8, I8, hw8, q8⟩ => ?_)
    refine seg_bind_wrap (wpAny_tests_nil ?_)
    simp only [if_true]
    have hy : ∀ v, yieldOut cenv v = yieldValue v := fun v => by simp only [yieldOut, hco, Bool.false_eq_true, if_false]
    simp only [hy]
    rw [Sem.bind_eq_wrap', Sem.bind_eq_wrap', Sem.wrap_wrap, Sem.wrap_wrap]
    have hpe := pe.run _ s8 σ8 H8 _ I8 q8
    rw [hP, hw, hA, hxe, henv] at hpe
    refine seg_wrap (thnF hpe fun z s9 ⟨y, H9, I9, r9, ey, v9⟩ => ?_)
    subst ey
    have pin' : ∀ b ∈ fp, ∀ o, s7.heap.get? b = some o → s9.heap.get? b = some o ∧ H9 b = none := fun b hb o e =>
      let z := I9.pin (b, o) (List.mem_append_right _ (List.mem_append_right _ (mem_pinsAt hb e)))
      ⟨z.1, z.2.1⟩
    have hl : σw.length = σ8.length := by rw [← hw8, wipe_length]
    have I10 : Inv Z [] σw H9 s9 := (I9.unpinned (pins := [])).weak hl fun j v e => by
      rw [← hw8] at e
      exact (wipe_some e).1
    have st9 : tn (i + 1) s9.heap := T.keep _ _ _ st7 fun b hb o e => (pin' b hb o e).1
    have n9 : ∀ b ∈ fp, H9 b = none := fun b hb => by
      obtain ⟨o, e, _⟩ := T.obj _ _ st7 b hb
      exact (pin' b hb o e).2
    refine seg_at (seg_yield rfl rfl rfl ⟨i, H9, ⟨by omega, hlt⟩, r9, v9, I10, st9, n9, fun s' H' I' st' n' w' => ?_⟩)
    have e2 : N - i = N - (i + 1) + 1 := by omega
    rw [e2]
    exact seg_again rfl (ih (i + 1) s' s' H' (by omega) hlt I' st' n' w')

theorem seg_start {N : Nat} {f : Nat → V} {W Vv : Nat → Hp → Prop} {σw : L2.St} {vs : List Nat} (hc : X.calm = true) (hco : cenv.scope.isCoroutine = false) (T : Turn X.prog X.w X.K tg J fp it tn)
    (Z : Cx) (hZ : Z = gcx X (Ag.over (gcode elt tg iter scope gpos it cenv) []) s4 H4 cenv fp pn) (hpn : ∀ b ∈ fp, ∀ p ∈ pn, p.1 ≠ b) (pg : PG Z tg g) (pe : PE Z elt te) (hσ : wipe σw vs = σw)
    (turn : ∀ i H, i < N → W i H → J.go i H ∧ ∀ x H', J.yld i H x H' → g x σw H' fun σ2 H2 => wipe σ2 vs = σw ∧ te σ2 H2 fun y H3 => y = f i ∧ Vv i H3) (stop : ∀ H, W N H → J.stop N H)
    (s₀ s : Shared) (H : Hp) (I : Inv Z [] σw H s) (st : tn 0 s.heap) (nf : ∀ b ∈ fp, H b = none) (w : W 0 H) :
    Seg (model X.prog X.w) Ag (GR Z σw N W) (GYd Z σw fp tn N f W Vv) (N + 1) s₀ (gstart elt tg iter scope gpos it cenv) ((model X.prog X.w).den (gstart elt tg iter scope gpos it cenv)) [] s := by
  have loop := seg_loop (s4 := s4) (H4 := H4) (pn := pn) hc hco T Z hZ hpn pg pe hσ turn stop N 0 s₀ s H (Nat.sub_zero _) (Nat.zero_le _) I st nf w
  rw [Nat.sub_zero] at loop
  show Seg _ Ag _ _ _ s₀ _ ((compStart (.GeneratorExp elt [⟨tg, iter, [], 0⟩] scope gpos) 0 (.ref it) .none cenv).onRaise (leaving cenv)) [] s
  unfold compStart
  rw [Sem.onRaise_eq_wrap]
  show Seg _ Ag _ _ _ s₀ _ ((ask >>= _).wrap _ _ _ _) [] s
  refine seg_bind_wrap (wpAny_askSetting ?_)
  split
  · exact seg_again rfl loop
  · first
      | exact seg_bind_wrap (wpAny_rule (seg_bind_wrap (wpAny_standAt (seg_bind_wrap (T.self _ 0 s _ _ st (seg_again rfl loop))))))
      | (refine seg_bind_wrap (wpAny_rule ?_); show Seg _ Ag _ _ _ s₀ _ ((standAt iter.pos >>= _).wrap _ _ _ _) [] s; exact seg_bind_wrap (wpAny_standAt (seg_bind_wrap (T.self _ 0 s _ _ st (seg_again rfl loop)))))

/-- before turn i; behind the i-th item -/
def St (Z : Cx) (Ag : Around) (σw : L2.St) (fp : List Addr) (tn : Nat → Heap → Prop) (N : Nat) (f : Nat → V) (W Vv : Nat → Hp → Prop) (gn i : Nat) (s : Shared) : Prop :=
  ∃ H gs, Inv Z [] σw H s ∧ tn i s.heap ∧ (∀ b ∈ fp, H b = none) ∧ W i H ∧ s.gens[gn]? = some gs ∧ gs.Goes (model Z.prog Z.w) Ag (GR Z σw N W) (GYd Z σw fp tn N f W Vv) (N - i + 1) (.send .none) (s.setGen gn .running)
def Mid (Z : Cx) (Ag : Around) (σw : L2.St) (fp : List Addr) (tn : Nat → Heap → Prop) (N : Nat) (f : Nat → V) (W Vv : Nat → Hp → Prop) (gn i : Nat) (s : Shared) : Prop :=
  ∃ H, Inv Z [] σw H s ∧ Vv i H ∧ (∀ b ∈ fp, H b = none) ∧ ∀ s' H', s'.gens = s.gens → Inv Z [] σw H' s' → (∀ b ∈ fp, ∀ o, s.heap.get? b = some o → s'.heap.get? b = some o) → (∀ b ∈ fp, H' b = none) → W (i + 1) H' → St Z Ag σw fp tn N f W Vv gn (i + 1) s'

theorem Inv.gens {Z : Cx} {σ : L2.St} {H : Hp} {s : Shared} {pins : List (Addr × Obj)} (I : Inv Z pins σ H s) {g' : Array GenState} (hg : AllBare g') : Inv Z pins σ H { s with gens := g' } :=
  ⟨I.ok, I.os, hg, I.base, I.loc, I.cell, I.free, I.freeC, I.pin, I.hok, I.len⟩
theorem Inv.setGen {Z : Cx} {σ : L2.St} {H : Hp} {s : Shared} {pins : List (Addr × Obj)} (I : Inv Z pins σ H s) {gn : Nat} {x : GenState} (hx : x.bare = true) : Inv Z pins σ H (s.setGen gn x) :=
  Inv.gens I (allBare_setGen I.bare hx)

theorem next_item {Z : Cx} {Ac : Around} {σw : L2.St} {N : Nat} {f : Nat → V} {W Vv : Nat → Hp → Prop} {gn i a : Nat} {s : Shared} {go : Obj} {Q : Option Value → Shared → Prop} {E : Value → Shared → Prop}
    (T : Turn X.prog X.w X.K tg J fp it tn)
    (hpn : (a, go) ∈ Z.pn) (hgo : ∀ h : Heap, h.get? a = some go → h.IsGen a gn) (hh : Ac.handled = none) (hroom : Ac.depth < recursionLimit) (hi : i < N) (st : St Z Ac.in1 σw fp tn N f W Vv gn i s)
    (hQ : ∀ v s', RelV (f i) v → Mid Z Ac.in1 σw fp tn N f W Vv gn i s' → Q (some v) s') : wpAny (model Z.prog Z.w) Ac (pyNext (.ref a)) Q E s := by
  obtain ⟨H, gs, I, t, nf, w, hgs, hgoes⟩ := st
  have hlt : gn < s.gens.size := (Array.getElem?_eq_some_iff.mp hgs).1
  have hg := hgo s.heap (I.pin (a, go) (List.mem_append_left _ hpn)).1
  refine wpAny_gsz (n := s.gens.size) (Nat.le_refl _) ?_
  refine wpAny_pyNext_genexpQ (P := fun n _ s1 => n = 1 ∧ ∃ H, W N H ∧ Inv Z [] σw H s1) hh I.nolimit hroom hg hgs hgoes (fun v s₁ gs' hb hv => ?_) (fun s₁ hp h' hk => ?_)
  · obtain ⟨j, H3, hj, rv, vv, I3, t3, n3, kap⟩ := hv
    have hji : j = i := by omega
    subst hji
    intro hsz
    have hsz : s.gens.size ≤ (s₁.setGen gn gs').gens.size := hsz
    have hsz2 : gn < (s₁.setGen gn gs').gens.size := Nat.lt_of_lt_of_le hlt hsz
    have hsz3 : gn < s₁.gens.size := by rw [setGen_size] at hsz2; exact hsz2
    refine hQ v _ rv ⟨H3, Inv.setGen I3 hb, vv, n3, fun s' H' eg I' hk hn' w' => ?_⟩
    have egs : s'.gens[gn]? = some gs' := by rw [eg]; exact setGen_at hsz3
    refine ⟨H', gs', I', T.keep _ _ _ t3 fun b hb o e => hk b hb o e, hn', w', egs, ?_⟩
    have e2 : N - (j + 1) + 1 = N - j := by omega
    rw [e2]
    exact kap (s'.setGen gn .running) H' (Inv.setGen I' rfl) (T.keep _ _ _ t3 fun b hb o e => hk b hb o e) hn' w'
  · have := hp.1
    omega
theorem next_done {Z : Cx} {Ac : Around} {σw : L2.St} {N : Nat} {f : Nat → V} {W Vv : Nat → Hp → Prop} {gn a : Nat} {s : Shared} {go : Obj} {Q : Option Value → Shared → Prop} {E : Value → Shared → Prop}
    (hpn : (a, go) ∈ Z.pn) (hgo : ∀ h : Heap, h.get? a = some go → h.IsGen a gn) (hh : Ac.handled = none) (hroom : Ac.depth < recursionLimit) (st : St Z Ac.in1 σw fp tn N f W Vv gn N s)
    (hQ : ∀ s' H, W N H → Inv Z [] σw H s' → Q none s') : wpAny (model Z.prog Z.w) Ac (pyNext (.ref a)) Q E s := by
  obtain ⟨H, gs, I, t, nf, w, hgs, hgoes⟩ := st
  have hg := hgo s.heap (I.pin (a, go) (List.mem_append_left _ hpn)).1
  refine wpAny_pyNext_genexpQ (P := fun n _ s1 => n = 1 ∧ ∃ H, W N H ∧ Inv Z [] σw H s1) hh I.nolimit hroom hg hgs hgoes (fun v s₁ gs' hb hv => ?_) (fun s₁ hp h' hk => ?_)
  · obtain ⟨j, H3, hj, _⟩ := hv
    omega
  · obtain ⟨_, H3, w3, I3⟩ := hp
    exact hQ _ H3 w3 (Inv.setGen (I3.kept (t' := s₁.toks) hk) rfl)
end

section
variable {X : Cx} {pins : List (Addr × Obj)} {σ : L2.St} {H : Hp} {s : Shared}

def Turns (J : It) (g : TG) (te : TE) (vs : List Nat) (σw : L2.St) (N : Nat) (f : Nat → V) (W Vv : Nat → Hp → Prop) : Prop :=
  ∀ i H, i < N → W i H → J.go i H ∧ ∀ x H', J.yld i H x H' → g x σw H' fun σ2 H2 => wipe σ2 vs = σw ∧ te σ2 H2 fun y H3 => y = f i ∧ Vv i H3
/-- the generator at a, made and not begun -/
def Ready (X : Cx) (pins : List (Addr × Obj)) (σ : L2.St) (J : It) (g : TG) (te : TE) (vs : List Nat) (a : Addr) (H2 : Hp) (s5 : Shared) : Prop :=
  ∃ (Z : Cx) (tg : Expr) (go : Obj) (gn : Nat) (fp : List Addr) (it : Addr) (tn : Nat → Heap → Prop), Z.prog = X.prog ∧ Z.w = X.w ∧ Z.K = X.K ∧ Turn X.prog X.w X.K tg J fp it tn ∧ (a, go) ∈ Z.pn ∧ (∀ h : Heap, h.get? a = some go → h.IsGen a gn) ∧ Inv Z [] (wipe σ vs) H2 s5 ∧ (∀ b ∈ fp, H2 b = none ∧ b < s5.heap.objs.size) ∧
    (∀ H' s', Inv Z [] (wipe σ vs) H' s' → Inv X pins σ H' s') ∧
    ∀ N f W Vv, Turns J g te vs (wipe σ vs) N f W Vv → (∀ H, W N H → J.stop N H) → ∀ s' H', s'.gens = s5.gens → Inv Z [] (wipe σ vs) H' s' → (∀ b ∈ fp, ∀ o, s5.heap.get? b = some o → s'.heap.get? b = some o) → (∀ b ∈ fp, H' b = none) → W 0 H' →
      St Z X.A.in1.in1 (wipe σ vs) fp tn N f W Vv gn 0 s'

theorem wipe_wipe (σ : L2.St) : ∀ vs : List Nat, wipe (wipe σ vs) vs = wipe σ vs := by
  intro vs
  refine List.ext_getElem? fun i => ?_
  by_cases hi : i ∈ vs
  · have e : ∀ τ : L2.St, (wipe τ vs)[i]? = if i < τ.length then some none else none := fun τ => by
      have hl : (wipe τ vs).length = τ.length := wipe_length τ vs
      by_cases hl2 : i < τ.length
      · rw [if_pos hl2]
        cases e1 : (wipe τ vs)[i]? with
        | none => rw [List.getElem?_eq_none_iff] at e1; omega
        | some o =>
          cases o with
          | none => rfl
          | some v => exact absurd hi (wipe_some e1).2
      · rw [if_neg hl2, List.getElem?_eq_none_iff]; omega
    rw [e, e, wipe_length]
  · rw [wipe_out hi]

theorem over_g {A : Around} {elt tg iter : Expr} {scope : Scope} {gpos : Pos} {it : Addr} {cenv : Env} {l : List Env} (h : A.frames = some l) : (A.over (gcode elt tg iter scope gpos it cenv) []).frames = some (cenv :: l) := by
  show pushEnvs [cenv] (pushEnvs [] A.frames) = _
  rw [h]
  rfl
theorem room_g {X : Cx} {k : Nat} {elt tg iter : Expr} {scope : Scope} {gpos : Pos} {it : Addr} {cenv : Env} (hr : Room (k + 1) X.A) : Room k (X.A.in1.in1.over (gcode elt tg iter scope gpos it cenv) []) := by
  refine ⟨hr.hd, ?_, ?_⟩
  · have := hr.dp
    show X.A.depth + 0 + 1 + 3 * k + 5 < _
    omega
  · have := hr.un
    show X.A.units + 1 + 1 + 0 + 3 + 16 * k + 200 < _
    omega

theorem gen_make {c P : Addr} {elt tg iter : Expr} {gpos : Pos} {scope : Scope} {own : List (Str × Nat)} {k : Nat} {wi : TI} {g : TG} {te : TE} {Q' : Value → Shared → Prop} {R : It → Hp → Prop}
    (hr : Room (k + 1) X.A) (hc : X.calm = true) (hN : X.N.Nodup) (TB : GxR.TabB X.base X.mg c P) (hcode : X.env.code = .ref c) (ok : GxOk X.N X.env.scope scope own) (hi : PI X tg iter wi)
    (hg : ∀ (A : Around) (s : Shared) (H : Hp) (code : Value) (fp : List Addr) (pn : List (Addr × Obj)), PG (gcx X A s H (genEnv scope (clo X scope) s.heap.objs.size code builtinsNs X.env) fp pn) tg g)
    (he : ∀ (A : Around) (s : Shared) (H : Hp) (code : Value) (fp : List Addr) (pn : List (Addr × Obj)), Room k A → PE (gcx X A s H (genEnv scope (clo X scope) s.heap.objs.size code builtinsNs X.env) fp pn) elt te)
    (hs : ∀ v, genFold iter X.env v = pure v) (I : Inv X pins σ H s) (h : wi σ H fun J H1 => GxR.TabG H1 P ∧ R J H1)
    (hQ : ∀ J H1 H2 a s5, R J H1 → GxR.Tabbed P H1 H2 → Ready X pins σ J g te (own.map (·.2)) a H2 s5 → Q' (.ref a) s5) :
    wpAny (model X.prog X.w) X.A (eval (.GeneratorExp elt [⟨tg, iter, [], 0⟩] scope gpos) X.env) Q' X.xe s := by
  have hfree : ∀ y ∈ scope.names, y.2 = .free → ∃ c, X.env.cells.lookup y.1 = some c := fun y hy e => by
    rcases ok.blk.free y hy e with k | k
    · exact I.ok.has _ (.inl k)
    · exact I.ok.has _ (.inr k)
  refine wpAny_GeneratorExp_make ok.co (closure_ok hfree) ok.cell ok.dot ok.blk.kind hr.depth ?_ hs
  refine thn (hi.run pins s σ H _ I h) fun xv s1 hx => thn hx fun itv s2 h2 => ?_
  obtain ⟨it, fp, tn, J, H2, e, I2, T, st2, f2, ⟨ps, hP, ht⟩, q⟩ := h2
  subst e
  have hPs : s2.heap.get? P = some { cls := .none, data := .fields ps } := I2.hok P _ hP
  have cd : PySem.W.CodeHd s2.heap c P := TB.code.keeps fun b u e => I2.bk b u e
  refine ⟨I2.nolimit, ?_⟩
  have cont : ∀ (code : Value) (h3 : Heap) (tk : Nat) (ps' : Array Value), Heap.ExtBut P s2.heap h3 → h3.get? P = some { cls := .none, data := .fields ps' } → (∃ more, ps' = ps ++ more) → TriplesOk ps'.toList →
      wpAny (model X.prog X.w) X.A (builtinsFor X.env.globals X.env.builtins) (fun bi s₄ =>
        ∀ h', h'.Ns s₄.heap.objs.size (fun y => if y = ".0" then some (.ref it) else none) → Heap.SameBut s₄.heap.objs.size (s₄.heap.push { cls := .type "frame", data := .dict #[] }) h' →
          Q' (.ref h'.objs.size) { s₄ with
            gens := s₄.gens.push (.fresh (.compStart (.GeneratorExp elt [⟨tg, iter, [], 0⟩] scope gpos) 0 (.ref it) .none (genEnv scope (clo X scope) s₄.heap.objs.size code bi X.env))),
            toks := s₄.toks + 1 + 1 + 1,
            heap := h'.push { cls := .type "generator", data := .fields #[.int s₄.gens.size 0, .str "<genexpr>" (s₄.toks + 1), .str (X.env.qual ++ "<genexpr>") (s₄.toks + 1 + 1)] } }) X.xe { s2 with heap := h3, toks := tk } := by
    intro code h3 tk ps' hx hP3 hmore ht3
    obtain ⟨more, em⟩ := hmore
    obtain ⟨bm, ob, e1, e2, e3, e4, e5, e6, e7, e8⟩ := TB.bm
    have J3 : Inv X pins σ (upd H2 P (.tbl (ps ++ more))) { s2 with heap := h3, gens := s2.gens, drawn := s2.drawn, toks := tk } :=
      GxR.inv_tab (more := more) (h' := h3) (g' := s2.gens) (d' := s2.drawn) (t' := tk) I2 hP (fun b u hb e => hx b u hb e) (by rw [← em]; exact hP3) I2.bare
    refine wpAny_builtinsFor (m := X.mg) (by rw [I2.ok.glob]; exact (I2.mod.glob.keeps I2.bk).extBut hx TB.gP) e1 e2 (hx _ _ e4 (I2.bk _ _ e5)) e6 e7 e8 ?_
    intro h' ns sb
    have nP : ∀ b, H2 b = none → b ≠ P := fun b n z => by rw [z, hP] at n; cases n
    have f3 : ∀ b ∈ fp, FpOk X pins (upd H2 P (.tbl (ps ++ more))) b ∧ b < h3.objs.size := fun b hb => by
      obtain ⟨o, e, _⟩ := T.obj _ _ st2 b hb
      refine ⟨⟨?_, (f2 b hb).2⟩, ?_⟩
      · rw [upd_ne (nP b (f2 b hb).1)]
        exact (f2 b hb).1
      · exact Heap.lt_size (hx b o (nP b (f2 b hb).1) e)
    have st3 : tn 0 h3 := T.keep _ _ _ st2 fun b hb o e => hx b o (nP b (f2 b hb).1) e
    have sz : h'.objs.size = h3.objs.size + 1 := by rw [sb.1]; exact Heap.size_push ..
    generalize hcenv : genEnv scope (clo X scope) h3.objs.size code builtinsNs X.env = cenv
    generalize hgo : ({ cls := .type "generator", data := .fields #[.int s2.gens.size 0, .str "<genexpr>" (tk + 1), .str (X.env.qual ++ "<genexpr>") (tk + 1 + 1)] } : Obj) = go
    have hgd : ∀ v, go.data ≠ .cell v := fun v z => by rw [← hgo] at z; cases z
    have hgp : ∀ h : Heap, (h.push go).get? h.objs.size = some go := fun h => by rw [← hgo]; exact Heap.get?_push_size _ rfl
    have hgen : ∀ (a : Addr) (h : Heap), h.get? a = some go → h.IsGen a s2.gens.size := fun a h e => by
      rw [← hgo] at e
      exact ⟨_, _, _, e, rfl, rfl, rfl⟩
    have hAf : (X.A.in1.in1.over (gcode elt tg iter scope gpos it cenv) []).frames = some (cenv :: X.stack) := over_g (show X.A.in1.in1.frames = some X.stack from I2.ok.frames)
    generalize hZ : gcx X (X.A.in1.in1.over (gcode elt tg iter scope gpos it cenv) []) { s2 with heap := h3, toks := tk } (upd H2 P (.tbl (ps ++ more))) cenv fp [(h'.objs.size, go)] = Z
    have I5 : Inv Z [] (wipe σ (own.map (·.2))) (upd H2 P (.tbl (ps ++ more))) { s2 with gens := s2.gens.push (.fresh (gstart elt tg iter scope gpos it cenv)), toks := tk + 1 + 1 + 1, heap := h'.push go } := by
      rw [← hZ, ← hcenv]
      exact gx_start (A := X.A.in1.in1.over (gcode elt tg iter scope gpos it (genEnv scope (clo X scope) h3.objs.size code builtinsNs X.env)) []) J3 ok hN f3 (fun _ => hr.hd) (by rw [hcenv]; exact hAf) ns sb hgd (I2.bare.push rfl) hgp
    have pg := hg (X.A.in1.in1.over (gcode elt tg iter scope gpos it cenv) []) { s2 with heap := h3, toks := tk } (upd H2 P (.tbl (ps ++ more))) code fp [(h'.objs.size, go)]
    have pe := he (X.A.in1.in1.over (gcode elt tg iter scope gpos it cenv) []) { s2 with heap := h3, toks := tk } (upd H2 P (.tbl (ps ++ more))) code fp [(h'.objs.size, go)] (room_g hr)
    have ezz : genEnv scope (clo X scope) ({ s2 with heap := h3, toks := tk } : Shared).heap.objs.size code builtinsNs X.env = cenv := hcenv
    rw [ezz, hZ] at pg pe
    have hzpn : (h'.objs.size, go) ∈ Z.pn := by rw [← hZ]; exact List.mem_singleton.mpr rfl
    have n5 : ∀ b ∈ fp, (upd H2 P (.tbl (ps ++ more))) b = none := fun b hb => (f3 b hb).1.1
    have hfpn : ∀ b ∈ fp, ∀ p ∈ [(h'.objs.size, go)], p.1 ≠ b := fun b hb p hp z => by
      rw [List.mem_singleton.mp hp] at z
      have z' : h'.objs.size = b := z
      have q := (f3 b hb).2
      rw [← z', sz] at q
      exact absurd q (Nat.not_lt.mpr (Nat.le_succ _))
    refine hQ J H2 (upd H2 P (.tbl (ps ++ more))) h'.objs.size _ q ⟨⟨ps ++ more, upd_same, by rw [← em]; exact ht3⟩, fun b hb => upd_ne hb⟩ ?_
    refine ⟨Z, tg, go, s2.gens.size, fp, it, tn, by rw [← hZ], by rw [← hZ], by rw [← hZ], T, hzpn, hgen _, I5, fun b hb => ⟨n5 b hb, ?_⟩, fun H' s' I' => ?_, fun N f W Vv ht hst s' H' eg I' hk hn w' => ?_⟩
    · show b < (h'.push go).objs.size
      rw [Heap.size_push, sz]
      exact Nat.lt_succ_of_lt (Nat.lt_succ_of_lt (f3 b hb).2)
    · have I6 : Inv (gcx X (X.A.in1.in1.over (gcode elt tg iter scope gpos it cenv) []) { s2 with heap := h3, toks := tk } (upd H2 P (.tbl (ps ++ more))) cenv fp [(h'.objs.size, go)]) [] (wipe σ (own.map (·.2))) H' s' := by rw [hZ]; exact I'
      exact J3.call' (ch := fp) I6.os I6.base I6.hok I6.bare fun b hb => ⟨(f3 b hb).1.2.2.2.1, (f3 b hb).1.2.1, (f3 b hb).1.2.2.2.2.1, (f3 b hb).1.2.2.2.2.2⟩
    · have st5 : tn 0 s'.heap := T.keep _ _ _ st3 fun b hb o e => by
        have hb3 := (f3 b hb).2
        have e1 : (h3.push { cls := .type "frame", data := .dict #[] }).get? b = some o := Heap.get?_push_of_some _ e
        have e2 : h'.get? b = some o := sb.extBut b o (Nat.ne_of_lt hb3) e1
        exact hk b hb o (Heap.get?_push_of_some _ e2)
      have egs : s'.gens[s2.gens.size]? = some (.fresh (gstart elt tg iter scope gpos it cenv)) := by rw [eg]; exact Array.getElem?_push_size ..
      have hp' : Z.prog = X.prog := by rw [← hZ]
      have hw' : Z.w = X.w := by rw [← hZ]
      refine ⟨H', _, I', st5, hn, w', egs, ?_⟩
      rw [hp', hw']
      refine ⟨rfl, ?_⟩
      exact seg_start (s4 := { s2 with heap := h3, toks := tk }) (H4 := upd H2 P (.tbl (ps ++ more))) (pn := [(h'.objs.size, go)]) hc (by rw [← hcenv]; exact ok.co) T Z hZ.symm hfpn pg pe (wipe_wipe _ _) ht hst _ _ H' (Inv.setGen I' rfl) st5 hn w'
  cases hf : codeAmong gpos ps.toList with
  | none =>
    refine wpAny_genexprCodeX hcode (cd.code hPs ht) (cd.tab hPs) hf fun c' h' tk hx hge hlt hco' _ htab' _ => ?_
    obtain ⟨o1, vs, f1, tf, fl, tg', inF, tx, tt, op, _, _, _, _, _, _, _, _, _, htr, _⟩ := hco'
    exact cont _ h' tk _ hx htab'.2 ⟨_, rfl⟩ htr
  | some cv =>
    refine wpAny_genexprCode_hit hcode (cd.code hPs ht) hf ?_
    exact cont cv s2.heap s2.toks ps (Heap.ExtBut.refl _ _) hPs ⟨#[], by simp⟩ ht
end

/-! ### all, any -/
section
variable {X : Cx}
def tAllG (P : Addr) (wi : TI) (g : TG) (te : TE) (vs : List Nat) : TE := fun σ H Q => wi σ H fun J H1 => GxR.TabG H1 P ∧ ∀ H2, GxR.Tabbed P H1 H2 → ∃ (N : Nat) (f : Nat → Bool) (W : Nat → Hp → Prop),
  W 0 H2 ∧ Turns J g te vs (wipe σ vs) N (fun i => .bl (f i)) W (fun i => W (i + 1)) ∧ (∀ H, W N H → J.stop N H) ∧ ∀ i H, i ≤ N → W i H → Q (.bl ((List.range N).all f)) H
def tAnyG (P : Addr) (wi : TI) (g : TG) (te : TE) (vs : List Nat) : TE := fun σ H Q => wi σ H fun J H1 => GxR.TabG H1 P ∧ ∀ H2, GxR.Tabbed P H1 H2 → ∃ (N : Nat) (f : Nat → Bool) (W : Nat → Hp → Prop),
  W 0 H2 ∧ Turns J g te vs (wipe σ vs) N (fun i => .bl (f i)) W (fun i => W (i + 1)) ∧ (∀ H, W N H → J.stop N H) ∧ ∀ i H, i ≤ N → W i H → Q (.bl ((List.range N).any f)) H

theorem all_loop {Z : Cx} {A : Around} {R : Result → Shared → Prop} {tg : Expr} {J : It} {it a : Addr} {go : Obj} {gn : Nat} {fp : List Addr} {tn : Nat → Heap → Prop} {σw : L2.St} {N : Nat} {f : Nat → Bool} {W : Nat → Hp → Prop} (T : Turn Z.prog Z.w Z.K tg J fp it tn)
    (hpn : (a, go) ∈ Z.pn) (hgo : ∀ h : Heap, h.get? a = some go → h.IsGen a gn) (hh : A.handled = none) (hroom : A.depth < recursionLimit)
    (hR : ∀ i s' H, i ≤ N → W i H → Inv Z [] σw H s' → R (.ok (.ret (.bool ((List.range N).all f)))) s') :
    ∀ (k i : Nat) (s : Shared), N - i = k → i ≤ N → ((List.range N).all f = ((List.range N).drop i).all f) → St Z A.in1.in1 σw fp tn N (fun i => .bl (f i)) W (fun i => W (i + 1)) gn i s → codeAny (model Z.prog Z.w) A (.builtin "all.loop" ⟨[.ref a], []⟩) R s := by
  intro k
  induction k with
  | zero =>
    intro i s hk hi hall st
    have hin : i = N := by omega
    subst hin
    refine codeAny_builtin F.entry_all_loop ?_
    rw [Around.under_plainId F.plain_all_loop _]
    show wpAny _ A.in1 (pyNext (.ref a) >>= _) _ _ s
    refine wpAny_bind (next_done hpn hgo hh hroom st fun s' H w I => ?_)
    refine wpAny_bind (wpAny_rule (wpAny_pure ?_))
    have h9 := hR i s' H (Nat.le_refl _) w I
    rw [hall, List.drop_of_length_le (by simp)] at h9
    exact h9
  | succ k ih =>
    intro i s hk hi hall st
    have hlt : i < N := by omega
    have hd : (List.range N).drop i = i :: (List.range N).drop (i + 1) := by
      rw [List.drop_eq_getElem_cons (by simpa using hlt)]; simp
    refine codeAny_builtin F.entry_all_loop ?_
    rw [Around.under_plainId F.plain_all_loop _]
    show wpAny _ A.in1 (pyNext (.ref a) >>= _) _ _ s
    refine wpAny_bind (next_item T hpn hgo hh hroom hlt st fun v s' rv hm => ?_)
    obtain rfl : v = Value.bool (f i) := rv
    obtain ⟨H, I, w, nfp, mid⟩ := hm
    refine wpAny_bind (wpAny_holding (wpAny_truthy_bool ?_))
    refine wpAny_bind (wpAny_letGo ?_)
    cases hb : f i with
    | true =>
      simp only [if_true]
      refine wpAny_pure ⟨plainId_quiet F.plain_all_loop _, ih (i + 1) _ (by omega) hlt ?_ (mid s' H rfl I (fun _ _ _ e => e) nfp w)⟩
      rw [hall, hd, List.all_cons, hb, Bool.true_and]
    | false =>
      simp only [Bool.false_eq_true, if_false]
      refine wpAny_bind (wpAny_rule (wpAny_pure ?_))
      have h9 := hR (i + 1) s' H hlt w I
      rw [hall, hd, List.all_cons, hb, Bool.false_and] at h9
      exact h9
theorem any_loop {Z : Cx} {A : Around} {R : Result → Shared → Prop} {tg : Expr} {J : It} {it a : Addr} {go : Obj} {gn : Nat} {fp : List Addr} {tn : Nat → Heap → Prop} {σw : L2.St} {N : Nat} {f : Nat → Bool} {W : Nat → Hp → Prop} (T : Turn Z.prog Z.w Z.K tg J fp it tn)
    (hpn : (a, go) ∈ Z.pn) (hgo : ∀ h : Heap, h.get? a = some go → h.IsGen a gn) (hh : A.handled = none) (hroom : A.depth < recursionLimit)
    (hR : ∀ i s' H, i ≤ N → W i H → Inv Z [] σw H s' → R (.ok (.ret (.bool ((List.range N).any f)))) s') :
    ∀ (k i : Nat) (s : Shared), N - i = k → i ≤ N → ((List.range N).any f = ((List.range N).drop i).any f) → St Z A.in1.in1 σw fp tn N (fun i => .bl (f i)) W (fun i => W (i + 1)) gn i s → codeAny (model Z.prog Z.w) A (.builtin "any.loop" ⟨[.ref a], []⟩) R s := by
  intro k
  induction k with
  | zero =>
    intro i s hk hi hall st
    have hin : i = N := by omega
    subst hin
    refine codeAny_builtin F.entry_any_loop ?_
    rw [Around.under_plainId F.plain_any_loop _]
    show wpAny _ A.in1 (pyNext (.ref a) >>= _) _ _ s
    refine wpAny_bind (next_done hpn hgo hh hroom st fun s' H w I => ?_)
    refine wpAny_bind (wpAny_rule (wpAny_pure ?_))
    have h9 := hR i s' H (Nat.le_refl _) w I
    rw [hall, List.drop_of_length_le (by simp)] at h9
    exact h9
  | succ k ih =>
    intro i s hk hi hall st
    have hlt : i < N := by omega
    have hd : (List.range N).drop i = i :: (List.range N).drop (i + 1) := by
      rw [List.drop_eq_getElem_cons (by simpa using hlt)]; simp
    refine codeAny_builtin F.entry_any_loop ?_
    rw [Around.under_plainId F.plain_any_loop _]
    show wpAny _ A.in1 (pyNext (.ref a) >>= _) _ _ s
    refine wpAny_bind (next_item T hpn hgo hh hroom hlt st fun v s' rv hm => ?_)
    obtain rfl : v = Value.bool (f i) := rv
    obtain ⟨H, I, w, nfp, mid⟩ := hm
    refine wpAny_bind (wpAny_holding (wpAny_truthy_bool ?_))
    refine wpAny_bind (wpAny_letGo ?_)
    cases hb : f i with
    | false =>
      simp only [Bool.false_eq_true, if_false]
      refine wpAny_pure ⟨plainId_quiet F.plain_any_loop _, ih (i + 1) _ (by omega) hlt ?_ (mid s' H rfl I (fun _ _ _ e => e) nfp w)⟩
      rw [hall, hd, List.any_cons, hb, Bool.false_or]
    | true =>
      simp only [if_true]
      refine wpAny_bind (wpAny_rule (wpAny_pure ?_))
      have h9 := hR (i + 1) s' H hlt w I
      rw [hall, hd, List.any_cons, hb, Bool.true_or] at h9
      exact h9

theorem pe_allG {c P : Addr} {elt tg iter : Expr} {p pos gpos : Pos} {scope : Scope} {own : List (Str × Nat)} {k : Nat} {wi : TI} {g : TG} {te : TE}
    (hr : Room (k + 1) X.A) (hc : X.calm = true) (hN : X.N.Nodup) (hgl : Gl X "all") (hm : X.mg "all" = none) (TB : GxR.TabB X.base X.mg c P) (hcode : X.env.code = .ref c) (ok : GxOk X.N X.env.scope scope own) (hi : PI X tg iter wi)
    (hg : ∀ (A : Around) (s : Shared) (H : Hp) (code : Value) (fp : List Addr) (pn : List (Addr × Obj)), PG (gcx X A s H (genEnv scope (clo X scope) s.heap.objs.size code builtinsNs X.env) fp pn) tg g)
    (he : ∀ (A : Around) (s : Shared) (H : Hp) (code : Value) (fp : List Addr) (pn : List (Addr × Obj)), Room k A → PE (gcx X A s H (genEnv scope (clo X scope) s.heap.objs.size code builtinsNs X.env) fp pn) elt te)
    (hs : ∀ v, genFold iter X.env v = pure v := by intro _; rfl)
    (hst : starEach [.GeneratorExp elt [⟨tg, iter, [], 0⟩] scope gpos] X.env = (false, eval (.GeneratorExp elt [⟨tg, iter, [], 0⟩] scope gpos) X.env) :: starEach [] X.env := by rfl) :
    PE X (.Call (.Name "all" p) [.GeneratorExp elt [⟨tg, iter, [], 0⟩] scope gpos] [] pos) (tAllG P wi g te (own.map (·.2))) := by
  refine ⟨fun pins s σ H Q I h => ?_⟩
  refine wpAny_Call_Name_kw (ld_blt I hgl hm boot_all ?_)
  refine PyProof.Rows.callWith_builtin1 ?_ hst (by rfl)
  rw [hst]
  show wpAny _ _ (spliced ((false, eval (.GeneratorExp elt [⟨tg, iter, [], 0⟩] scope gpos) X.env) :: backTo pos (starEach [] X.env))) _ _ s
  refine Calls.spliced_cons (gen_make hr hc hN TB hcode ok hi hg he hs I h fun J H1 H2 a s5 hR hT hrdy => ?_)
  refine Calls.spliced_nil ?_
  obtain ⟨N, f, W, w0, ht, hstop, hQ⟩ := hR H2 hT
  obtain ⟨Z, tg', go, gn, fp, it, tn, hp, hw, hK, T, hpn, hgo, I5, n5, back, mk⟩ := hrdy
  have st := mk N (fun i => .bl (f i)) W (fun i => W (i + 1)) ht hstop s5 H2 rfl I5 (fun _ _ _ e => e) (fun b hb => (n5 b hb).1) w0
  rw [← hp, ← hw, ← hK] at T
  refine call_function_tree F.kind_all F.plain_all F.entry_all (F.args_all1 _) ?_
  unfold Builtin.«all»
  refine wpAny_bind (m := oneArg "all" _) (wpAny_pure ?_)
  have hG := hgo s5.heap (I5.pin (a, go) (List.mem_append_left _ hpn)).1
  refine wpAny_bind (wpAny_pyIter_gen hG ?_)
  have lp := all_loop (A := X.A) (R := fun r s' => ∃ v, r = .ok (.ret v) ∧ EP X pins σ Q v s') T hpn hgo hr.hd hr.depth (fun i s' H hi w I' => ⟨_, rfl, .bl _, H, back H s' I', rfl, hQ i H hi w⟩) N 0 s5 (Nat.sub_zero _) (Nat.zero_le _) (by rw [List.drop_zero]) st
  rw [hp, hw] at lp
  refine wpAny_pure ⟨plainId_quiet F.plain_all_loop _, codeAny_mono lp fun r s' ⟨v, e, q⟩ => ?_⟩
  subst e
  exact q
theorem pe_anyG {c P : Addr} {elt tg iter : Expr} {p pos gpos : Pos} {scope : Scope} {own : List (Str × Nat)} {k : Nat} {wi : TI} {g : TG} {te : TE}
    (hr : Room (k + 1) X.A) (hc : X.calm = true) (hN : X.N.Nodup) (hgl : Gl X "any") (hm : X.mg "any" = none) (TB : GxR.TabB X.base X.mg c P) (hcode : X.env.code = .ref c) (ok : GxOk X.N X.env.scope scope own) (hi : PI X tg iter wi)
    (hg : ∀ (A : Around) (s : Shared) (H : Hp) (code : Value) (fp : List Addr) (pn : List (Addr × Obj)), PG (gcx X A s H (genEnv scope (clo X scope) s.heap.objs.size code builtinsNs X.env) fp pn) tg g)
    (he : ∀ (A : Around) (s : Shared) (H : Hp) (code : Value) (fp : List Addr) (pn : List (Addr × Obj)), Room k A → PE (gcx X A s H (genEnv scope (clo X scope) s.heap.objs.size code builtinsNs X.env) fp pn) elt te)
    (hs : ∀ v, genFold iter X.env v = pure v := by intro _; rfl)
    (hst : starEach [.GeneratorExp elt [⟨tg, iter, [], 0⟩] scope gpos] X.env = (false, eval (.GeneratorExp elt [⟨tg, iter, [], 0⟩] scope gpos) X.env) :: starEach [] X.env := by rfl) :
    PE X (.Call (.Name "any" p) [.GeneratorExp elt [⟨tg, iter, [], 0⟩] scope gpos] [] pos) (tAnyG P wi g te (own.map (·.2))) := by
  refine ⟨fun pins s σ H Q I h => ?_⟩
  refine wpAny_Call_Name_kw (ld_blt I hgl hm boot_any ?_)
  refine PyProof.Rows.callWith_builtin1 ?_ hst (by rfl)
  rw [hst]
  show wpAny _ _ (spliced ((false, eval (.GeneratorExp elt [⟨tg, iter, [], 0⟩] scope gpos) X.env) :: backTo pos (starEach [] X.env))) _ _ s
  refine Calls.spliced_cons (gen_make hr hc hN TB hcode ok hi hg he hs I h fun J H1 H2 a s5 hR hT hrdy => ?_)
  refine Calls.spliced_nil ?_
  obtain ⟨N, f, W, w0, ht, hstop, hQ⟩ := hR H2 hT
  obtain ⟨Z, tg', go, gn, fp, it, tn, hp, hw, hK, T, hpn, hgo, I5, n5, back, mk⟩ := hrdy
  have st := mk N (fun i => .bl (f i)) W (fun i => W (i + 1)) ht hstop s5 H2 rfl I5 (fun _ _ _ e => e) (fun b hb => (n5 b hb).1) w0
  rw [← hp, ← hw, ← hK] at T
  refine call_function_tree F.kind_any F.plain_any F.entry_any (F.args_any1 _) ?_
  unfold Builtin.«any»
  refine wpAny_bind (m := oneArg "any" _) (wpAny_pure ?_)
  have hG := hgo s5.heap (I5.pin (a, go) (List.mem_append_left _ hpn)).1
  refine wpAny_bind (wpAny_pyIter_gen hG ?_)
  have lp := any_loop (A := X.A) (R := fun r s' => ∃ v, r = .ok (.ret v) ∧ EP X pins σ Q v s') T hpn hgo hr.hd hr.depth (fun i s' H hi w I' => ⟨_, rfl, .bl _, H, back H s' I', rfl, hQ i H hi w⟩) N 0 s5 (Nat.sub_zero _) (Nat.zero_le _) (by rw [List.drop_zero]) st
  rw [hp, hw] at lp
  refine wpAny_pure ⟨plainId_quiet F.plain_any_loop _, codeAny_mono lp fun r s' ⟨v, e, q⟩ => ?_⟩
  subst e
  exact q
end

/-! ### sum -/
def preS (f : Nat → Int) : Nat → Int
  | 0 => 0
  | n + 1 => preS f n + f n
section
variable {X : Cx}
def tSumG (P : Addr) (wi : TI) (g : TG) (te : TE) (vs : List Nat) : TE := fun σ H Q => wi σ H fun J H1 => GxR.TabG H1 P ∧ ∀ H2, GxR.Tabbed P H1 H2 → ∀ D, H2 D = none → ∃ (N : Nat) (f : Nat → Int) (W Vv : Nat → Hp → Prop),
  W 0 (upd H2 D (.lst [.int 0])) ∧ Turns J g te vs (wipe σ vs) N (fun i => .int (f i)) W Vv ∧ (∀ H, W N H → J.stop N H) ∧ (∀ i H, i ≤ N → W i H → H D = some (.lst [.int (preS f i)])) ∧
  (∀ i H, i < N → Vv i H → H D = some (.lst [.int (preS f i)]) ∧ W (i + 1) (upd H D (.lst [.int (preS f (i + 1))]))) ∧ ∀ H, W N H → Q (.int (preS f N)) H
theorem inv_S {Z : Cx} {σ : L2.St} {H : Hp} {s : Shared} {S : Addr} {acc : Int} (I : Inv Z [] σ H s) (hS : H S = some (.lst [.int acc])) :
    ∃ tA c, s.heap.get? S = some { cls := .type "list", dict := none, data := .seq #[.int acc tA] c, slots := #[] } ∧
      ∀ (m : Int) (t : Tok) (tk : Nat), Inv Z [] σ (upd H S (.lst [.int m])) { s with heap := s.heap.update S (Obj.mapSeq fun _ => #[.int m t]), toks := tk } := by
  obtain ⟨hz, its, n, ri, e⟩ := I.hok S _ hS
  cases ri with
  | cons r1 r2 =>
    cases r2
    obtain ⟨tA, rfl⟩ := r1
    refine ⟨tA, n, e, fun m t tk => ?_⟩
    have e2 := Heap.get?_update_self (Obj.mapSeq fun _ => #[Value.int m t]) e rfl
    exact I.write (t' := tk) (by rw [hS]; trivial) (.inl rfl) (fun b u hb q => (Heap.get?_update_other _ _ (Ne.symm hb)).trans q) ⟨_, e2⟩ ⟨hz, [.int m t], n, .cons ⟨t, rfl⟩ .nil, e2⟩
theorem sum_loop {Z : Cx} {A : Around} {R : Result → Shared → Prop} {tg : Expr} {J : It} {it a S : Addr} {go : Obj} {gn : Nat} {fp : List Addr} {tn : Nat → Heap → Prop} {σw : L2.St} {N : Nat} {f : Nat → Int} {W Vv : Nat → Hp → Prop} (T : Turn Z.prog Z.w Z.K tg J fp it tn)
    (hpn : (a, go) ∈ Z.pn) (hgo : ∀ h : Heap, h.get? a = some go → h.IsGen a gn) (hh : A.handled = none) (hroom : A.depth < recursionLimit)
    (hW : ∀ i H, i ≤ N → W i H → H S = some (.lst [.int (preS f i)])) (hV : ∀ i H, i < N → Vv i H → H S = some (.lst [.int (preS f i)]) ∧ W (i + 1) (upd H S (.lst [.int (preS f (i + 1))])))
    (hR : ∀ s' H t, W N H → Inv Z [] σw H s' → R (.ok (.ret (.int (preS f N) t))) s') :
    ∀ (k i : Nat) (s : Shared) (st : Int), (st = 0 ∨ st = 2) → N - i = k → i ≤ N → St Z A.in1.in1 σw fp tn N (fun i => .int (f i)) W Vv gn i s → codeAny (model Z.prog Z.w) A (.builtin "sum.loop" ⟨[.ref a, .ref S, rawInt st, rawInt 0], []⟩) R s := by
  intro k
  induction k with
  | zero =>
    intro i s st hst2 hk hi hst
    have hin : i = N := by omega
    subst hin
    obtain ⟨tA, c, hS, _⟩ : ∃ tA c, s.heap.get? S = some { cls := .type "list", dict := none, data := .seq #[.int (preS f i) tA] c, slots := #[] } ∧ True := by
      obtain ⟨H, gs, I, _, _, w, _⟩ := hst
      obtain ⟨tA, c, e, _⟩ := inv_S I (hW i H (Nat.le_refl _) w)
      exact ⟨tA, c, e, trivial⟩
    refine codeAny_builtin F.entry_sum_loop ?_
    rw [Around.under_plainId F.plain_sum_loop _]
    show wpAny _ A.in1 (seqItems? (.ref S) >>= _) _ _ s
    refine wpAny_bind (wpAny_seqItems hS rfl ?_)
    show wpAny _ A.in1 (tryCatch (pyNext (.ref a)) _ >>= _) _ _ s
    refine wpAny_bind (wpAny_tryCatch (next_done hpn hgo hh hroom hst fun s' H w I => ?_))
    exact wpAny_pure (hR s' H tA w I)
  | succ k ih =>
    intro i s st hst2 hk hi hst
    have hlt : i < N := by omega
    obtain ⟨tA, c, hS, _⟩ : ∃ tA c, s.heap.get? S = some { cls := .type "list", dict := none, data := .seq #[.int (preS f i) tA] c, slots := #[] } ∧ True := by
      obtain ⟨H, gs, I, _, _, w, _⟩ := hst
      obtain ⟨tA, c, e, _⟩ := inv_S I (hW i H hi w)
      exact ⟨tA, c, e, trivial⟩
    refine codeAny_builtin F.entry_sum_loop ?_
    rw [Around.under_plainId F.plain_sum_loop _]
    show wpAny _ A.in1 (seqItems? (.ref S) >>= _) _ _ s
    refine wpAny_bind (wpAny_seqItems hS rfl ?_)
    show wpAny _ A.in1 (tryCatch (pyNext (.ref a)) _ >>= _) _ _ s
    refine wpAny_bind (wpAny_tryCatch (next_item T hpn hgo hh hroom hlt hst fun v s' rv hm => ?_))
    obtain ⟨t, rfl⟩ := (show ∃ t, v = Value.int (f i) t from rv)
    obtain ⟨H, I, vv, nfp, mid⟩ := hm
    obtain ⟨hSH, w'⟩ := hV i H hlt vv
    obtain ⟨tB, c', hS', up1⟩ := inv_S I hSH
    have nS : ∀ b ∈ fp, b ≠ S := fun b hb z => by
      have q := nfp b hb
      rw [z, hSH] at q; cases q
    have nf : ∀ b ∈ fp, upd H S (.lst [.int (preS f (i + 1))]) b = none := fun b hb => by
      rw [upd_ne (nS b hb)]; exact nfp b hb
    rcases hst2 with rfl | rfl
    · show wpAny _ A.in1 (if (_ : Bool) = true then (mkInt (preS f i + f i) >>= _) else _) _ _ _
      split
      · refine wpAny_bind (wpAny_mkInt ?_)
        show wpAny _ A.in1 (updateSeq S (fun _ => #[.int (preS f i + f i) s'.toks]) >>= _) _ _ _
        refine wpAny_bind ?_
        refine wpAny_updateSeq hS' rfl (wpAny_pure ⟨plainId_quiet F.plain_sum_loop _, ih (i + 1) _ 0 (.inl rfl) (by omega) hlt (mid _ _ rfl (up1 (preS f i + f i) s'.toks (s'.toks + 1)) (fun b hb o e => ?_) nf w')⟩)
        exact (Heap.get?_update_other _ _ (Ne.symm (nS b hb))).trans e
      · refine wpAny_bind (wpAny_rule ?_)
        refine wpAny_bind (wpAny_attempt (wpAny_holding (wpAny_add_int ?_)))
        show wpAny _ A.in1 (updateSeq S (fun _ => #[.int (preS f i + f i) s'.toks]) >>= _) _ _ _
        refine wpAny_bind (wpAny_updateSeq hS' rfl ?_)
        have I2 := up1 (preS f i + f i) s'.toks (s'.toks + 1)
        obtain ⟨tC, c2, hS2, up2⟩ := inv_S I2 upd_same
        have I3 := up2 (preS f i + f i) s'.toks (s'.toks + 1)
        rw [upd_upd] at I3
        refine wpAny_bind (wpAny_letGo ?_)
        refine wpAny_bind (wpAny_updateSeq hS2 rfl (wpAny_pure ⟨plainId_quiet F.plain_sum_loop _, ih (i + 1) _ 2 (.inr rfl) (by omega) hlt (mid _ _ rfl I3 (fun b hb o e => ?_) nf w')⟩))
        exact (Heap.get?_update_other _ _ (Ne.symm (nS b hb))).trans ((Heap.get?_update_other _ _ (Ne.symm (nS b hb))).trans e)
    · show wpAny _ A.in1 ((holding [Value.int (f i) t] (binaryOp .Add (.int (preS f i) tA) (.int (f i) t))).attempt >>= _) _ _ _
      refine wpAny_bind (wpAny_attempt (wpAny_holding (wpAny_add_int ?_)))
      show wpAny _ A.in1 (updateSeq S (fun _ => #[.int (preS f i + f i) s'.toks]) >>= _) _ _ _
      refine wpAny_bind (wpAny_updateSeq hS' rfl ?_)
      have I2 := up1 (preS f i + f i) s'.toks (s'.toks + 1)
      obtain ⟨tC, c2, hS2, up2⟩ := inv_S I2 upd_same
      have I3 := up2 (preS f i + f i) s'.toks (s'.toks + 1)
      rw [upd_upd] at I3
      refine wpAny_bind (wpAny_letGo ?_)
      refine wpAny_bind (wpAny_updateSeq hS2 rfl (wpAny_pure ⟨plainId_quiet F.plain_sum_loop _, ih (i + 1) _ 2 (.inr rfl) (by omega) hlt (mid _ _ rfl I3 (fun b hb o e => ?_) nf w')⟩))
      exact (Heap.get?_update_other _ _ (Ne.symm (nS b hb))).trans ((Heap.get?_update_other _ _ (Ne.symm (nS b hb))).trans e)

theorem pe_sumG {c P : Addr} {elt tg iter : Expr} {p pos gpos : Pos} {scope : Scope} {own : List (Str × Nat)} {k : Nat} {wi : TI} {g : TG} {te : TE}
    (hr : Room (k + 1) X.A) (hc : X.calm = true) (hN : X.N.Nodup) (hgl : Gl X "sum") (hm : X.mg "sum" = none) (TB : GxR.TabB X.base X.mg c P) (hcode : X.env.code = .ref c) (ok : GxOk X.N X.env.scope scope own) (hi : PI X tg iter wi)
    (hg : ∀ (A : Around) (s : Shared) (H : Hp) (code : Value) (fp : List Addr) (pn : List (Addr × Obj)), PG (gcx X A s H (genEnv scope (clo X scope) s.heap.objs.size code builtinsNs X.env) fp pn) tg g)
    (he : ∀ (A : Around) (s : Shared) (H : Hp) (code : Value) (fp : List Addr) (pn : List (Addr × Obj)), Room k A → PE (gcx X A s H (genEnv scope (clo X scope) s.heap.objs.size code builtinsNs X.env) fp pn) elt te)
    (hs : ∀ v, genFold iter X.env v = pure v := by intro _; rfl)
    (hst : starEach [.GeneratorExp elt [⟨tg, iter, [], 0⟩] scope gpos] X.env = (false, eval (.GeneratorExp elt [⟨tg, iter, [], 0⟩] scope gpos) X.env) :: starEach [] X.env := by rfl) :
    PE X (.Call (.Name "sum" p) [.GeneratorExp elt [⟨tg, iter, [], 0⟩] scope gpos] [] pos) (tSumG P wi g te (own.map (·.2))) := by
  refine ⟨fun pins s σ H Q I h => ?_⟩
  refine wpAny_Call_Name_kw (ld_blt I hgl hm boot_sum ?_)
  refine PyProof.Rows.callWith_builtin1 ?_ hst (by rfl)
  rw [hst]
  show wpAny _ _ (spliced ((false, eval (.GeneratorExp elt [⟨tg, iter, [], 0⟩] scope gpos) X.env) :: backTo pos (starEach [] X.env))) _ _ s
  refine Calls.spliced_cons (gen_make hr hc hN TB hcode ok hi hg he hs I h fun J H1 H2 a s5 hR hT hrdy => ?_)
  refine Calls.spliced_nil ?_
  obtain ⟨Z, tg', go, gn, fp, it, tn, hp, hw, hK, T, hpn, hgo, I5, n5, back, mk⟩ := hrdy
  have hSn : H2 s5.heap.objs.size = none := I5.hok.fresh (Nat.le_refl _)
  obtain ⟨N, f, W, Vv, w0, ht, hstop, hW, hV, hQ⟩ := hR H2 hT s5.heap.objs.size hSn
  rw [← hp, ← hw, ← hK] at T
  refine call_function_tree F.kind_sum F.plain_sum F.entry_sum (F.args_sum1 _) ?_
  unfold Builtin.«sum»
  simp only [List.length_cons, List.length_nil]
  rw [if_neg (by decide)]
  refine wpAny_bind (wpAny_of_eq (show Builtin.Builtins.bindParams "sum" ["start"] 0 { } = pure [none] from rfl) ?_)
  have hG := hgo s5.heap (I5.pin (a, go) (List.mem_append_left _ hpn)).1
  refine wpAny_bind (wpAny_pyIter_gen hG ?_)
  refine wpAny_bind (wpAny_mkInt ?_)
  refine wpAny_bind (wpAny_pure ?_)
  simp only [List.forIn_cons, List.forIn_nil]
  refine wpAny_bind (wpAny_bind (wpAny_bind (wpAny_isInstance (T := "int") (b := false) (typeIs_int _ _ _) PySem.sub_int_str ?_)))
  simp only [Bool.false_eq_true, if_false]
  refine wpAny_pure (wpAny_bind (wpAny_bind (wpAny_isInstance (T := "int") (b := false) (typeIs_int _ _ _) sub_int_bytes ?_)))
  simp only [Bool.false_eq_true, if_false]
  refine wpAny_pure (wpAny_bind (wpAny_bind (wpAny_isInstance (T := "int") (b := false) (typeIs_int _ _ _) sub_int_bytearray ?_)))
  simp only [Bool.false_eq_true, if_false]
  refine wpAny_pure (wpAny_pure ?_)
  refine wpAny_bind (wpAny_newObj_type ?_)
  have I6 : Inv Z [] (wipe σ (own.map (·.2))) (upd H2 s5.heap.objs.size (.lst [.int 0])) { s5 with heap := s5.heap.push { cls := .type "list", data := .seq #[Value.int 0 s5.toks] }, toks := s5.toks + 1 } :=
    I5.laid (fun b o e => Heap.get?_push_of_some _ e) (Nat.le_refl _) ⟨by show 1 ≤ sizeLine; decide, [.int 0 s5.toks], 0, .cons ⟨_, rfl⟩ .nil, Heap.get?_push_size _ rfl⟩
  have nS : ∀ b ∈ fp, (upd H2 s5.heap.objs.size (.lst [.int 0])) b = none := fun b hb => by
    have q := n5 b hb
    rw [upd_ne (Nat.ne_of_lt q.2)]
    exact q.1
  have st := mk N (fun i => .int (f i)) W Vv ht hstop { s5 with heap := s5.heap.push { cls := .type "list", data := .seq #[Value.int 0 s5.toks] }, toks := s5.toks + 1 } (upd H2 s5.heap.objs.size (.lst [.int 0])) rfl I6 (fun b hb o e => Heap.get?_push_of_some _ e) nS w0
  have lp := sum_loop (A := X.A) (S := s5.heap.objs.size) (R := fun r s' => ∃ v, r = .ok (.ret v) ∧ EP X pins σ Q v s') T hpn hgo hr.hd hr.depth hW hV (fun s' H t w I' => ⟨_, rfl, .int _, H, back H s' I', ⟨t, rfl⟩, hQ H w⟩) N 0 _ 0 (.inl rfl) (Nat.sub_zero _) (Nat.zero_le _) st
  rw [hp, hw] at lp
  refine wpAny_pure ⟨plainId_quiet F.plain_sum_loop _, codeAny_mono lp fun r s' ⟨v, e, q⟩ => ?_⟩
  subst e
  exact q
end
end GE
namespace K11
open PySem PySem.Spec PyProof.Rows L2 DA
def top (i : Nat) : Stmt := PySem.Challenge.pw_processturns_k32_whole_texts.main.body.getD i (.Pass ⟨0, 0, 0, 0⟩)
/-- the built-ins' names are the built-ins' -/
structure Glob (mg : Str → Option Value) : Prop where
  isi : mg "isinstance" = none
  int : mg "int" = none
  bool : mg "bool" = none
  tuple : mg "tuple" = none
  list : mg "list" = none
  str : mg "str" = none
  len : mg "len" = none
  all : mg "all" = none
  sum : mg "sum" = none
  set : mg "set" = none
  sorted : mg "sorted" = none
  max : mg "max" = none
  range : mg "range" = none
abbrev sNum : Stmt := top 10
theorem scNum : FnScope ["value", "least", "greatest"] ["value", "least", "greatest"] (defScope sNum) := ⟨rfl, rfl, rfl, by decide +kernel, rfl, by decide +kernel, by decide +kernel⟩
def numD (d : PD) (lo hi : Int) : Bool := match d with | .int i => decide (lo ≤ i) && decide (i ≤ hi) | _ => false
def spNum (K : PySem.W.Frag) : Sp := fun vs H Q _ => ∃ v d lo hi, vs = [v, .int lo, .int hi] ∧ Dp K H v d ∧ Q (.bl (numD d lo hi)) H
section
variable {P : Program} {w : World} {K : PySem.W.Frag} {mg : Str → Option Value} {base : Heap} {f : Addr} {fd : FuncData}
theorem ok_num (F : Fun K "is_number" "is_number" sNum f fd) (G : Glob mg) : FnOk P w K mg base CX0 1 f fd ["value", "least", "greatest"] (spNum K) := by
  refine F.ok scNum (fun vs H Q E h => ?_) (fun cdv A outer s H vs Q E hr h => ?_)
  · obtain ⟨v, d, lo, hi, rfl, _⟩ := h
    rfl
  · obtain ⟨v, d, lo, hi, rfl, hv, q⟩ := h
    refine ⟨_, pss_cons (ps_if (PW.pt (pw_or (pt_not (pt_val (pe_callB call_isi (by rfl) G.isi boot_isinstance (pa_cons (pv 0) (pa_cons (pe_bltn (v := .ty "int") (by rfl) G.int (by decide +kernel) rfl) pa_nil)))))
        (pw_or1 (pt_val (pe_callB call_isi (by rfl) G.isi boot_isinstance (pa_cons (pv 0) (pa_cons (pe_bltn (v := .ty "bool") (by rfl) G.bool (by decide +kernel) rfl) pa_nil))))))) (pss_one (ps_ret pe_bl)) pss_nil)
      (pss_one (ps_ret (pe_chain op_le op_le (pv 1) (pv 0) (pv 2)))), ?_⟩
    refine ⟨v, rfl, v, .ty "int", _, _, _, rfl, .ty _, dp_ty hv, kit_int hv, _, rfl, ?_⟩
    cases hv with
    | int i =>
      refine iteF ?_
      refine ⟨_, rfl, _, .ty "bool", _, _, _, rfl, .ty _, dp_ty (.int i), kit_bool (H := H) (.int i), _, rfl, ?_⟩
      refine iteF ?_
      refine ⟨_, rfl, _, rfl, lo, i, rfl, rfl, _, rfl, ?_⟩
      by_cases h1 : lo ≤ i
      · rw [decide_eq_true h1]
        refine ⟨_, rfl, i, hi, rfl, rfl, ?_⟩
        have e : numD (.int i) lo hi = decide (i ≤ hi) := by simp [numD, h1]
        show Q (.bl (decide (i ≤ hi))) H
        rw [← e]; exact q
      · rw [decide_eq_false h1]
        have e : numD (.int i) lo hi = false := by simp [numD, h1]
        refine iteF ?_
        show Q (.bl false) H
        rw [← e]; exact q
    | bl b =>
      refine iteF ?_
      refine ⟨_, rfl, _, .ty "bool", _, _, _, rfl, .ty _, dp_ty (.bl b), kit_bool (H := H) (.bl b), _, rfl, ?_⟩
      exact q
    | non => exact q
    | str x => exact q
    | lst h a => exact q
    | tup h a => exact q

/-! ### is_deed -/
abbrev sDeed : Stmt := top 14
theorem scDeed : FnScope ["value", "kind", "number"] ["value"] (defScope sDeed) := ⟨rfl, rfl, rfl, by decide +kernel, rfl, by decide +kernel, by decide +kernel⟩
def kin (k a b : Str) : Bool := inV (.str k) [.str a, .str b]
def deedD (d : PD) : Bool := match d with | .tuple [.str k, n] => if kin k "work" "sleep" = true then numD n 1 99 else (kin k "take" "give" && numD n 0 1) | _ => false
theorem deedD_len {ds : List PD} (h : ds.length ≠ 2) : deedD (.tuple ds) = false := by
  unfold deedD
  split
  · next k n e =>
    cases e
    exact absurd rfl h
  · rfl
theorem dp_new {K : PySem.W.Frag} {H : Hp} {v : V} {d : PD} {p : Addr} {o : HO} (np : H p = none) (h : Dp K H v d) : Dp K (upd H p o) v d := dp_keep (T := []) (.new np) (fun _ h => nomatch h) h
theorem dp_same {K : PySem.W.Frag} {H H1 : Hp} {v : V} {d : PD} (s : Same H H1) (h : Dp K H v d) : Dp K H1 v d := dp_keep (T := []) (.same s) (fun _ h => nomatch h) h
def spDeed (K : PySem.W.Frag) : Sp := fun vs H Q _ => ∃ v d, vs = [v] ∧ Dp K H v d ∧ ∀ H', Same H H' → Q (.bl (deedD d)) H'
theorem r_isi {K : PySem.W.Frag} {H : Hp} {v : V} {d : PD} {T : String} {r : Bool} {Q : VK} (h : Dp K H v d) (hk : PySem.W.kitOne K (.type (clsD d)) (.type T) = some r) (q : Q (.bl r) H) : rIsi K [v, .ty T] H Q := ⟨v, .ty T, _, _, r, rfl, .ty _, dp_ty h, hk, q⟩
theorem ok_deed {fN : Addr} {fdN : FuncData} {t99 : Tok} (F : Fun K "is_deed" "is_deed" sDeed f fd) (G : Glob mg) (FN : Fun K "is_number" "is_number" sNum fN fdN) (bN : Binds K fdN ["value", "least", "greatest"] []) (gN : mg "is_number" = some (.ref fN)) (gU : mg "MOST_UNITS" = some (.int 99 t99)) :
    FnOk P w K mg base CX0 2 f fd ["value"] (spDeed K) := by
  have GN : FnOk P w K mg base CX0 1 fN fdN ["value", "least", "greatest"] (spNum K) := ok_num FN G
  refine F.ok scDeed (fun vs H Q E h => ?_) (fun cdv A outer s H vs Q E hr h => ?_)
  · obtain ⟨v, d, rfl, _⟩ := h
    rfl
  · obtain ⟨v, d, rfl, hv, q⟩ := h
    refine ⟨_, pss_cons (ps_if (PW.pt (pw_or (pt_not (pt_val (pe_callB call_isi (by rfl) G.isi boot_isinstance (pa_cons (pv 0) (pa_cons (pe_bltn (v := .ty "tuple") (by rfl) G.tuple (by decide +kernel) rfl) pa_nil)))))
        (pw_or1 (pt_cmpR op_ne (pe_callB call_len (by rfl) G.len PySem.boot_len (pa_cons (pv 0) pa_nil)) pe_int (nomark _))))) (pss_one (ps_ret pe_bl)) pss_nil)
      (pss_cons (ps_asg (pv 0) (pg_tup (by rfl) (pgs_cons (pg_name (i := 1) scDeed.nd rfl (.inl rfl)) (pgs_cons (pg_name (i := 2) scDeed.nd rfl (.inl rfl)) pgs_nil))))
      (pss_cons (ps_if (pt_not (pt_val (pe_callB call_isi (by rfl) G.isi boot_isinstance (pa_cons (pv 1) (pa_cons (pe_bltn (v := .ty "str") (by rfl) G.str (by decide +kernel) rfl) pa_nil))))) (pss_one (ps_ret pe_bl)) pss_nil)
      (pss_cons (ps_if (pt_cmpR op_in_seq (pv 1) (pe_tup (pa_cons pe_str (pa_cons pe_str pa_nil))) (by rfl)) (pss_one (ps_ret (pe_call GN hr (by rfl) gN FN.kp bN .nil pass0 (pa_cons (pv 2) (pa_cons pe_int (pa_cons (pe_glob (v := .int 99) (by rfl) gU ⟨_, rfl⟩) pa_nil)))))) pss_nil)
      (pss_one (ps_ret (pe_and (pe_cmpR op_in_seq (pv 1) (pe_tup (pa_cons pe_str (pa_cons pe_str pa_nil))) (by rfl)) (pe_one (pe_call GN hr (by rfl) gN FN.kp bN .nil pass0 (pa_cons (pv 2) (pa_cons pe_int (pa_cons pe_int pa_nil))))))))))), ?_⟩
    refine ⟨v, rfl, v, .ty "tuple", _, _, _, rfl, .ty _, dp_ty hv, kit_tup hv, _, rfl, ?_⟩
    cases hv with
    | @tup t xs ds h a =>
      refine iteF ?_
      refine ⟨_, rfl, ⟨_, _, rfl, .inr ⟨_, h, rfl⟩, ?_⟩⟩
      refine ⟨rfl, _, rfl, ite2 (fun e => ?_) fun e => ?_⟩
      · have n2 : ds.length ≠ 2 := fun z => by
          rw [dps_len a, z] at e
          simp at e
        have e2 : deedD (.tuple ds) = false := deedD_len n2
        rw [← e2]
        exact q H (Same.refl H)
      · have n2 : xs.length = 2 := by
          by_cases z : xs.length = 2
          · exact z
          · refine absurd ?_ e
            rw [decide_eq_false (fun y => z (by have := V.int.inj y; omega))]
            rfl
        cases a with
        | nil => cases n2
        | @cons x1 xs1 d1 ds1 a1 r1 =>
          cases r1 with
          | nil => cases n2
          | @cons x2 xs2 d2 ds2 a2 r2 =>
            cases r2 with
            | cons _ _ => simp at n2
            | nil =>
              refine ⟨.ref t, rfl, t, _, rfl, h, rfl, x1, [x2], rfl, x2, [], rfl, rfl, ?_⟩
              refine ⟨x1, rfl, x1, .ty "str", _, _, _, rfl, .ty _, dp_ty a1, kit_str a1, _, rfl, ?_⟩
              cases a1 with
              | str k =>
                refine iteF ?_
                refine ⟨.str k, rfl, by show 2 ≤ sizeLine; decide, fun p np => ?_⟩
                refine ⟨p, _, rfl, .inr (.inl (.inl upd_same)), rfl, rfl, _, rfl, ite2 (fun e1 => ?_) fun e1 => ?_⟩
                · have e1 : kin k "work" "sleep" = true := e1
                  refine ⟨x2, rfl, x2, d2, 1, 99, rfl, dp_new np a2, ?_⟩
                  have e2 : deedD (.tuple [.str k, d2]) = numD d2 1 99 := by show (if kin k "work" "sleep" = true then _ else _) = _; rw [if_pos e1]
                  rw [← e2]
                  exact q _ (same_new np)
                · have e1 : ¬ kin k "work" "sleep" = true := e1
                  have e2 : deedD (.tuple [.str k, d2]) = (kin k "take" "give" && numD d2 0 1) := by show (if kin k "work" "sleep" = true then _ else _) = _; rw [if_neg e1]
                  refine ⟨.str k, rfl, by show 2 ≤ sizeLine; decide, fun p' np' => ?_⟩
                  refine ⟨p', _, rfl, .inr (.inl (.inl upd_same)), rfl, rfl, _, rfl, ite2 (fun e3 => ?_) fun e3 => ?_⟩
                  · have e3 : kin k "take" "give" = true := e3
                    refine ⟨x2, rfl, x2, d2, 0, 1, rfl, dp_new np' (dp_new np a2), ?_⟩
                    rw [e3, Bool.true_and] at e2
                    rw [← e2]
                    exact q _ ((same_new np).trans (same_new np'))
                  · have e3 : kin k "take" "give" = false := Bool.eq_false_iff.mpr e3
                    rw [e3, Bool.false_and] at e2
                    show Q (.bl false) _
                    rw [← e2]
                    exact q _ ((same_new np).trans (same_new np'))
              | _ =>
                exact q H (Same.refl H)
    | _ => exact q H (Same.refl H)

/-! ### _locks_fit -/
abbrev sFit : Stmt := top 16
theorem scFit : FnScope ["deeds", "held", "kind", "number"] ["deeds"] (defScope sFit) := ⟨rfl, rfl, rfl, by decide +kernel, rfl, by decide +kernel, by decide +kernel⟩
def fitGo : List PD → List Int → Bool
  | [], held => held.isEmpty
  | .tuple [.str k, .int n] :: r, held =>
    if k = "sleep" ∧ held ≠ [] then false else if k = "take" then (if n ∈ held then false else fitGo r (held ++ [n])) else if k = "give" then (if n ∈ held then fitGo r (held.erase n) else false) else fitGo r held
  | _ :: _, _ => false
def isPair (d : PD) : Prop := ∃ k n, d = .tuple [.str k, .int n]
theorem deedD_pair {d : PD} (h : deedD d = true) : isPair d := by
  unfold deedD at h
  split at h
  · next k n =>
    have num : ∀ {lo hi}, numD n lo hi = true → ∃ i, n = .int i := fun {lo hi} q => by
      unfold numD at q
      split at q
      · exact ⟨_, rfl⟩
      · cases q
    split at h
    · obtain ⟨i, rfl⟩ := num h
      exact ⟨k, i, rfl⟩
    · rw [Bool.and_eq_true] at h
      obtain ⟨i, rfl⟩ := num h.2
      exact ⟨k, i, rfl⟩
  · cases h
def spFit (K : PySem.W.Frag) : Sp := fun vs H Q _ => ∃ a xs ds, vs = [.ref a] ∧ SqL K H a xs ∧ DpAll K H xs ds ∧ (∀ d ∈ ds, isPair d) ∧ ds.length ≤ 1000 ∧ ∀ H', Same H H' → Q (.bl (fitGo ds [])) H'
theorem inV_ints (n : Int) : ∀ ns : List Int, inV (.int n) (ns.map V.int) = decide (n ∈ ns)
  | [] => by simp [inV]
  | m :: ns => by
    have ih := inV_ints n ns
    show (eqV (.int m) (.int n) || inV (.int n) (ns.map V.int)) = _
    rw [ih]
    show ((m == n) || _) = _
    by_cases h : m = n
    · subst h; simp
    · have h2 : ¬ n = m := fun z => h z.symm
      simp [h, h2]
theorem pair_inv {K : PySem.W.Frag} {H : Hp} {v : V} {k : Str} {n : Int} (h : Dp K H v (.tuple [.str k, .int n])) : ∃ t, v = .ref t ∧ SqT K H t [.str k, .int n] := by
  obtain ⟨t, xs, rfl, h1, h2⟩ := dp_tup h
  cases h2 with
  | cons a r =>
    cases r with
    | cons b r2 =>
      cases r2
      rw [dp_str a, dp_int b] at h1
      exact ⟨t, rfl, h1⟩
theorem flat_ints (ns : List Int) : (ns.map V.int).all flatV = true := by
  induction ns with
  | nil => rfl
  | cons n r ih => rw [List.map_cons, List.all_cons, ih]; rfl
theorem idx_first {n : Int} : ∀ (ns : List Int) (m : Nat), m < ns.idxOf n → ns[m]? ≠ some n
  | [], m, h => by simp at h
  | x :: r, 0, h => by
    intro e
    have e' : x = n := by simpa using e
    rw [e', List.idxOf_cons_self] at h
    exact absurd h (Nat.lt_irrefl _)
  | x :: r, m + 1, h => by
    have hx : ¬ x = n := fun e' => by
      rw [e', List.idxOf_cons_self] at h
      omega
    have e0 : List.idxOf n (x :: r) = List.idxOf n r + 1 := by rw [List.idxOf_cons, show (x == n) = false from beq_eq_false_iff_ne.mpr hx]; rfl
    rw [e0] at h
    have := idx_first r m (Nat.lt_of_succ_lt_succ h)
    simpa using this
theorem first_ix {ns : List Int} {n : Int} (h : n ∈ ns) : ns[ns.idxOf n]? = some n ∧ (∀ m : Nat, m < ns.idxOf n → ns[m]? ≠ some n) ∧ ns.eraseIdx (ns.idxOf n) = ns.erase n := by
  refine ⟨?_, fun m hm e => idx_first ns m hm e, ?_⟩
  · have := List.idxOf_lt_length_iff.mpr h
    rw [List.getElem?_eq_getElem this, List.getElem_idxOf]
  · exact (List.erase_eq_eraseIdx_of_idxOf rfl).symm

theorem ok_fit (F : Fun K "_locks_fit" "_locks_fit" sFit f fd) : FnOk P w K mg base CX0 1 f fd ["deeds"] (spFit K) := by
  refine F.ok scFit (fun vs H Q E h => ?_) (fun cdv A outer s H vs Q E hr h => ?_)
  · obtain ⟨a, xs, ds, rfl, _⟩ := h
    rfl
  · obtain ⟨a, xs, ds, rfl, hS, hD, hp, hlen, q⟩ := h
    refine ⟨_, pss_cons (ps_set (i := 1) scFit.nd rfl (.inl rfl) (pe_lst pa_nil))
      (pss_cons (ps_for PassesOwn.never rfl (pi_list (pv 0)) (pg_tup (by rfl) (pgs_cons (pg_name (i := 2) scFit.nd rfl (.inl rfl)) (pgs_cons (pg_name (i := 3) scFit.nd rfl (.inl rfl)) pgs_nil)))
        (pss_cons (ps_if (PW.pt (pw_and (pt_cmpR op_eq (pv 2) pe_str (nomark _)) (pw_and1 (pt_truth (pv 1) (by intro _; rfl))))) (pss_one (ps_ret pe_bl)) pss_nil)
        (pss_cons (ps_if (pt_cmpR op_eq (pv 2) pe_str (nomark _)) (pss_cons (ps_if (pt_cmpR op_in_seq (pv 3) (pv 1) (by rfl)) (pss_one (ps_ret pe_bl)) pss_nil)
            (pss_one (ps_expr (pe_bm PySem.F.plainAttrs_list PySem.F.slot_list_append PySem.F.type_list_append mt_append (pv 1) (pa_cons (pv 3) pa_nil))))) pss_nil)
        (pss_one (ps_if (pt_cmpR op_eq (pv 2) pe_str (nomark _)) (pss_cons (ps_if (pt_cmpR op_notIn_seq (pv 3) (pv 1) (by rfl)) (pss_one (ps_ret pe_bl)) pss_nil)
            (pss_one (ps_expr (pe_bm PySem.F.plainAttrs_list PySem.F.slot_list_remove PySem.F.type_list_remove mt_remove (pv 1) (pa_cons (pv 3) pa_nil))))) pss_nil)))))
      (pss_one (ps_ret (pe_notT (pv 1))))), ?_⟩
    refine ⟨Nat.zero_le _, fun h nh => ?_⟩
    have s1 : Same H (upd H h (.lst [])) := same_new nh
    have k1 : Keep [] H (upd H h (.lst [])) := .same s1
    have t0 : Tabs [] H := fun _ z => nomatch z
    refine ⟨.ref a, rfl, a, rfl, ⟨xs, k1.sqL t0 hS⟩, for_list (K := K) (a := a) (xs := xs) (fun i σ H2 => ∃ (held : List Int) (y2 y3 : Option V), σ = [some (.ref a), some (.ref h), y2, y3] ∧ Same H H2 ∧ H2 h = some (.lst (held.map V.int)) ∧ fitGo ds [] = fitGo (ds.drop i) held ∧ held.length ≤ i)
      ⟨[], none, none, rfl, s1, upd_same, rfl, Nat.le_refl _⟩ (fun i σ H2 _ ⟨_, _, _, _, sm, _⟩ => (Keep.same sm).sqL t0 hS) ?_ ?_⟩
    · rintro i x σ H2 hx ⟨held, y2, y3, rfl, sm, eh, ef, hl⟩
      obtain ⟨d, hd, hdp⟩ := dps_at hD hx
      have hi : i < ds.length := (List.getElem?_eq_some_iff.mp hd).1
      obtain ⟨k, n, rfl⟩ := hp d (List.mem_of_getElem? hd)
      obtain ⟨t, rfl, ht⟩ := pair_inv (dp_same sm hdp)
      have edrop : ds.drop i = .tuple [.str k, .int n] :: ds.drop (i + 1) := by
        rw [List.drop_eq_getElem_cons hi, (List.getElem?_eq_some_iff.mp hd).2]
      rw [edrop] at ef
      have estep : fitGo (.tuple [.str k, .int n] :: ds.drop (i + 1)) held = if k = "sleep" ∧ held ≠ [] then false else if k = "take" then (if n ∈ held then false else fitGo (ds.drop (i + 1)) (held ++ [n])) else if k = "give" then (if n ∈ held then fitGo (ds.drop (i + 1)) (held.erase n) else false) else fitGo (ds.drop (i + 1)) held := rfl
      rw [estep] at ef
      refine ⟨t, _, rfl, ht, rfl, .str k, [.int n], rfl, .int n, [], rfl, rfl, ?_⟩
      -- behind the first test
      have rest : ¬ (k = "sleep" ∧ held ≠ []) → tSeq (tIfS (tTest (tOp rEq (tVar 2) (tC (V.str "take")))) (tSeq (tIfS (tTest (tOp (rIn K false) (tVar 3) (tVar 1))) (tRet (tC (.bl false))) tNext) (tDrop (tBM K "list" rAppend (tVar 1) (tCons (tVar 3) tNil)))) tNext)
          (tIfS (tTest (tOp rEq (tVar 2) (tC (V.str "give")))) (tSeq (tIfS (tTest (tOp (rIn K true) (tVar 3) (tVar 1))) (tRet (tC (.bl false))) tNext) (tDrop (tBM K "list" rRemI (tVar 1) (tCons (tVar 3) tNil)))) tNext)
          { nx := fun σ H2 => ∃ (held : List Int) (y2 y3 : Option V), σ = [some (.ref a), some (.ref h), y2, y3] ∧ Same H H2 ∧ H2 h = some (.lst (held.map V.int)) ∧ fitGo ds [] = fitGo (ds.drop (i + 1)) held ∧ held.length ≤ i + 1, rt := Q } [some (.ref a), some (.ref h), some (.str k), some (.int n)] H2 := by
        intro hne
        rw [if_neg hne] at ef
        refine ⟨.str k, rfl, rfl, _, rfl, ite2 (fun e1 => ?_) fun e1 => ?_⟩
        · have e1 : k = "take" := V.str.inj (of_decide_eq_true e1)
          rw [if_pos e1] at ef
          refine ⟨.int n, rfl, .ref h, rfl, h, _, rfl, .inl (.of eh), rfl, flat_ints _, _, rfl, ite2 (fun e2 => ?_) fun e2 => ?_⟩
          · have e2 : inV (.int n) (held.map V.int) = true := e2
            rw [inV_ints] at e2
            rw [if_pos (of_decide_eq_true e2)] at ef
            show Q (.bl false) H2
            rw [← ef]; exact q H2 sm
          · have e2 : ¬ inV (.int n) (held.map V.int) = true := e2
            rw [inV_ints] at e2
            rw [if_neg (fun z => e2 (decide_eq_true z))] at ef
            refine ⟨.ref h, rfl, .inl ⟨rfl, _, .of eh⟩, .int n, rfl, h, _, _, rfl, rfl, eh, small1000 (by rw [List.length_map]; omega), ?_⟩
            refine ⟨.str k, rfl, rfl, _, rfl, ite2 (fun e3 => ?_) fun e3 => ?_⟩
            · have e3 : k = "give" := V.str.inj (of_decide_eq_true e3)
              rw [e1] at e3
              exact absurd e3 (by decide +kernel)
            · refine ⟨held ++ [n], _, _, rfl, fun b o e => ?_, by rw [upd_same, List.map_append]; rfl, ef, by rw [List.length_append]; exact Nat.succ_le_succ hl⟩
              rw [upd_ne (ne_of_none e nh)]
              exact sm b o e
        · have e1 : ¬ k = "take" := fun z => e1 (decide_eq_true (by rw [z]))
          rw [if_neg e1] at ef
          refine ⟨.str k, rfl, rfl, _, rfl, ite2 (fun e3 => ?_) fun e3 => ?_⟩
          · have e3 : k = "give" := V.str.inj (of_decide_eq_true e3)
            rw [if_pos e3] at ef
            refine ⟨.int n, rfl, .ref h, rfl, h, _, rfl, .inl (.of eh), rfl, flat_ints _, _, rfl, ite2 (fun e2 => ?_) fun e2 => ?_⟩
            · have e2 : (!inV (.int n) (held.map V.int)) = true := e2
              rw [inV_ints] at e2
              have e2 : ¬ n ∈ held := by simpa using e2
              rw [if_neg e2] at ef
              show Q (.bl false) H2
              rw [← ef]; exact q H2 sm
            · have e2 : ¬ (!inV (.int n) (held.map V.int)) = true := e2
              rw [inV_ints] at e2
              have e2 : n ∈ held := by simpa using e2
              rw [if_pos e2] at ef
              obtain ⟨f1, f2, f3⟩ := first_ix e2
              refine ⟨.ref h, rfl, .inl ⟨rfl, _, .of eh⟩, .int n, rfl, h, held, n, _, rfl, rfl, eh, f1, f2, ?_⟩
              rw [f3]
              refine ⟨held.erase n, _, _, rfl, fun b o e => ?_, upd_same, ef, Nat.le_trans (List.length_erase_le) (Nat.le_succ_of_le hl)⟩
              rw [upd_ne (ne_of_none e nh)]
              exact sm b o e
          · have e3 : ¬ k = "give" := fun z => e3 (decide_eq_true (by rw [z]))
            rw [if_neg e3] at ef
            exact ⟨held, _, _, rfl, sm, eh, ef, Nat.le_succ_of_le hl⟩
      refine ⟨.str k, rfl, rfl, _, rfl, ite2 (fun e1 => ?_) fun e1 => ?_⟩
      · have e1 : k = "sleep" := V.str.inj (of_decide_eq_true e1)
        refine ⟨.ref h, rfl, _, .inl ⟨_, .of eh, rfl⟩, ite2 (fun e2 => ?_) fun e2 => ?_⟩
        · have hne : held ≠ [] := fun z => by rw [z] at e2; cases e2
          rw [if_pos ⟨e1, hne⟩] at ef
          show Q (.bl false) H2
          rw [← ef]; exact q H2 sm
        · refine rest fun z => e2 ?_
          cases held with
          | nil => exact absurd rfl z.2
          | cons _ _ => rfl
      · exact rest fun z => e1 (decide_eq_true (by rw [z.1]))
    · rintro σ H2 ⟨held, y2, y3, rfl, sm, eh, ef, hl⟩
      rw [dps_len hD, List.drop_length] at ef
      refine ⟨.ref h, rfl, _, .inl ⟨_, .of eh, rfl⟩, ?_⟩
      have e3 : (!(!(held.map V.int).isEmpty)) = fitGo ds [] := by
        rw [ef]
        cases held <;> rfl
      rw [e3]
      exact q H2 sm

/-! ### is_program -/
abbrev sProg : Stmt := top 15
theorem scProg : FnScope ["value", "deed"] ["value"] (defScope sProg) := ⟨rfl, rfl, rfl, by decide +kernel, rfl, by decide +kernel, by decide +kernel⟩
def progD (d : PD) : Bool := match d with | .list ds => if 40 < ds.length then false else (ds.all deedD && fitGo ds []) | _ => false
def spProg (K : PySem.W.Frag) (T : List Addr) : Sp := fun vs H Q _ => ∃ v d, vs = [v] ∧ Dp K H v d ∧ Tabs T H ∧ ∀ H', Keep T H H' → Q (.bl (progD d)) H'
theorem range_all (g : PD → Bool) (ds : List PD) : (List.range ds.length).all (fun i => g (ds[i]?.getD .none)) = ds.all g := by
  rw [Bool.eq_iff_iff, List.all_eq_true, List.all_eq_true]
  constructor
  · intro h d hd
    obtain ⟨i, hi, e⟩ := List.getElem_of_mem hd
    have := h i (List.mem_range.mpr hi)
    rw [List.getElem?_eq_getElem hi, e] at this
    exact this
  · intro h i hi
    have hi := List.mem_range.mp hi
    rw [List.getElem?_eq_getElem hi]
    exact h _ (List.getElem_mem hi)
theorem ok_prog {c PT fD fF fN : Addr} {fdD fdF fdN : FuncData} {t40 t99 : Tok} {T : List Addr} (F : FunC K "is_program" "is_program" sProg f fd c) (TB : GxR.TabB base mg c PT) (hPT : PT ∈ T) (G : Glob mg)
    (FD : Fun K "is_deed" "is_deed" sDeed fD fdD) (bD : Binds K fdD ["value"] []) (gD : mg "is_deed" = some (.ref fD)) (FN : Fun K "is_number" "is_number" sNum fN fdN) (bN : Binds K fdN ["value", "least", "greatest"] []) (gN : mg "is_number" = some (.ref fN))
    (FF : Fun K "_locks_fit" "_locks_fit" sFit fF fdF) (bF : Binds K fdF ["deeds"] []) (gF : mg "_locks_fit" = some (.ref fF)) (gM : mg "MOST_DEEDS" = some (.int 40 t40)) (gU : mg "MOST_UNITS" = some (.int 99 t99)) :
    FnOk P w K mg base CX0 4 f fd ["value"] (spProg K T) := by
  have GD : FnOk P w K mg base CX0 2 fD fdD ["value"] (spDeed K) := ok_deed FD G FN bN gN gU
  have GF : FnOk P w K mg base CX0 1 fF fdF ["deeds"] (spFit K) := ok_fit FF
  refine F.ok scProg (fun vs H Q E h => ?_) (fun A outer s H vs Q E hr h => ?_)
  · obtain ⟨v, d, rfl, _⟩ := h
    rfl
  · obtain ⟨v, d, rfl, hv, ht, q⟩ := h
    refine ⟨_, pss_cons (ps_if (PW.pt (pw_or (pt_not (pt_val (pe_callB call_isi (by rfl) G.isi boot_isinstance (pa_cons (pv 0) (pa_cons (pe_bltn (v := .ty "list") (by rfl) G.list (by decide +kernel) rfl) pa_nil)))))
        (pw_or1 (pt_cmpR op_gt (pe_callB call_len (by rfl) G.len PySem.boot_len (pa_cons (pv 0) pa_nil)) (pe_glob (v := .int 40) (by rfl) gM ⟨_, rfl⟩) (nomark _))))) (pss_one (ps_ret pe_bl)) pss_nil)
      (pss_one (ps_ret (pe_and (GE.pe_allG (k := 2) (own := [("deed", 1)]) hr rfl scProg.nd (by rfl) G.all TB rfl ⟨blkOk_by (N := ["value", "deed"]) (sc := defScope sProg) (by decide +kernel), by rfl, by decide +kernel, by rfl⟩ (pi_list (pv 0))
          (fun _ _ _ _ _ _ => pg_name (i := 1) scProg.nd rfl (Or.inl rfl)) (fun _ _ _ _ _ _ hr2 => pe_call GD hr2 (by rfl) gD FD.kp bD .nil pass0 (pa_cons (pv 1) pa_nil)))
        (pe_one (pe_call GF (hr.mono (by decide)) (by rfl) gF FF.kp bF .nil pass0 (pa_cons (pv 0) pa_nil)))))), ?_⟩
    refine ⟨v, rfl, v, .ty "list", _, _, _, rfl, .ty _, dp_ty hv, kit_list hv, _, rfl, ?_⟩
    cases hv with
    | @lst a xs ds h hD =>
      have hl := dps_len hD
      refine iteF ?_
      refine ⟨_, rfl, ⟨_, _, rfl, .inl ⟨_, h, rfl⟩, ?_⟩⟩
      refine ⟨_, _, rfl, rfl, _, rfl, ite2 (fun e => ?_) fun e => ?_⟩
      · have e : (40 : Int) < xs.length := of_decide_eq_true e
        have e2 : progD (.list ds) = false := if_pos (by omega)
        show Q (.bl false) H
        rw [← e2]; exact q H .refl
      · have e : ¬ (40 : Int) < xs.length := fun z => e (decide_eq_true z)
        have e2 : progD (.list ds) = (ds.all deedD && fitGo ds []) := if_neg (by omega)
        refine ⟨_, rfl, a, rfl, ⟨xs, h⟩, ht PT hPT, fun H2 tb => ⟨ds.length, fun i => deedD (ds[i]?.getD .none), fun _ H3 => Keep T H H3, Keep.tabbed hPT tb, fun i H3 hi k => ⟨⟨xs, xs[i]'(by omega), k.sqL ht h, by simp [hl, hi]⟩, fun x H' y => ?_⟩, fun H3 k => ⟨xs, k.sqL ht h, by omega⟩, fun i H3 _ k => ?_⟩⟩
        · obtain ⟨rfl, y⟩ := y
          have hx := y xs (k.sqL ht h)
          obtain ⟨d, hd, hdp⟩ := dps_at hD hx
          refine ⟨rfl, x, rfl, x, d, rfl, dp_keep k ht hdp, fun H4 sm => ⟨?_, k.trans (.same sm)⟩⟩
          show V.bl (deedD d) = V.bl (deedD (ds[i]?.getD .none))
          rw [hd]; rfl
        · rw [range_all]
          refine ⟨_, rfl, ite2 (fun e3 => ?_) fun e3 => ?_⟩
          · rw [e3, Bool.true_and] at e2
            refine ⟨_, rfl, a, xs, ds, rfl, k.sqL ht h, dps_keep k ht hD, fun d hd => deedD_pair (List.all_eq_true.mp e3 d hd), by omega, fun H4 sm => ?_⟩
            rw [← e2]; exact q H4 (k.trans (.same sm))
          · rw [Bool.eq_false_iff.mpr e3, Bool.false_and] at e2
            rw [← e2]; exact q H3 k
    | _ => exact q H .refl

/-! ### check_program, _units, length -/
abbrev sChk : Stmt := top 17
theorem scChk : FnScope ["value"] ["value"] (defScope sChk) := ⟨rfl, rfl, rfl, by decide +kernel, rfl, by decide +kernel, by decide +kernel⟩
def spChk (K : PySem.W.Frag) (T : List Addr) : Sp := fun vs H Q _ => ∃ v d, vs = [v] ∧ Dp K H v d ∧ Tabs T H ∧ progD d = true ∧ ∀ H', Keep T H H' → Q .non H'
theorem ok_chk {fP : Addr} {fdP : FuncData} {c : Addr} {T : List Addr} (F : Fun K "check_program" "check_program" sChk f fd) (FP : FunC K "is_program" "is_program" sProg fP fdP c) (GP : FnOk P w K mg base CX0 4 fP fdP ["value"] (spProg K T)) (bP : Binds K fdP ["value"] []) (gP : mg "is_program" = some (.ref fP)) :
    FnOk P w K mg base CX0 5 f fd ["value"] (spChk K T) := by
  refine F.ok scChk (fun vs H Q E h => ?_) (fun cdv A outer s H vs Q E hr h => ?_)
  · obtain ⟨v, d, rfl, _⟩ := h
    rfl
  · obtain ⟨v, d, rfl, hv, ht, hp, q⟩ := h
    refine ⟨_, pss_one (ps_if (pt_not (pt_val (pe_call GP hr (by rfl) gP FP.kp bP .nil pass0 (pa_cons (pv 0) pa_nil)))) (pss_one ps_never) pss_nil), ?_⟩
    refine ⟨v, rfl, v, d, rfl, hv, ht, fun H' k => ⟨_, rfl, ?_⟩⟩
    rw [hp]
    exact q H' k
theorem prog_inv {d : PD} (h : progD d = true) : ∃ ds, d = .list ds ∧ ds.length ≤ 40 ∧ (∀ x ∈ ds, deedD x = true) ∧ fitGo ds [] = true := by
  unfold progD at h
  split at h
  · next ds =>
    split at h
    · cases h
    · next hn =>
      rw [Bool.and_eq_true, List.all_eq_true] at h
      exact ⟨ds, rfl, by omega, h.1, h.2⟩
  · cases h
end
end K11
/-! t[::-1] and t * 1, t a tuple -/
namespace TR
open PySem PySem.Spec PyProof.Rows L2 HT DA
theorem adj_back (n : Nat) : Builtin.Slice.sliceAdjust none none (-1) (n : Int) = ((n : Int) - 1, -1) := rfl
theorem places_back (n : Nat) : Builtin.Slice.slicePlaces ((n : Int) - 1) (-1) (-1) = n := by
  unfold Builtin.Slice.slicePlaces
  rw [if_neg (by decide)]
  by_cases h : n = 0
  · subst h; rfl
  · rw [if_pos (by omega)]
    have : ((n : Int) - 1 - (-1) - 1) / (-(-1)) + 1 = n := by
      rw [Int.neg_neg, Int.ediv_one]; omega
    rw [this, Int.toNat_natCast]
theorem fm_some {α β : Type} {f : α → Option β} {g : α → β} : ∀ (l : List α), (∀ m ∈ l, f m = some (g m)) → l.filterMap f = l.map g
  | [], _ => rfl
  | a :: l, h => by
    rw [List.filterMap_cons_some (h a List.mem_cons_self), fm_some l fun m hm => h m (List.mem_cons_of_mem _ hm), List.map_cons]
theorem pick_back (xs : Array Value) : ((List.range xs.size).filterMap fun (m : Nat) => xs[(((xs.size : Nat) : Int) - 1 + (m : Int) * -1).toNat]?).toArray = xs.toList.reverse.toArray := by
  congr 1
  have e : (List.range xs.size).filterMap (fun (m : Nat) => xs[(((xs.size : Nat) : Int) - 1 + (m : Int) * -1).toNat]?) = (List.range xs.size).map fun m => xs.toList.reverse.getD m .none := by
    refine fm_some _ fun m hm => ?_
    have hm := List.mem_range.mp hm
    have e1 : (((xs.size : Nat) : Int) - 1 + (m : Int) * -1).toNat = xs.size - 1 - m := by omega
    have hl : m < xs.toList.reverse.length := by rw [List.length_reverse, Array.length_toList]; exact hm
    show xs[(((xs.size : Nat) : Int) - 1 + (m : Int) * -1).toNat]? = some (xs.toList.reverse.getD m .none)
    rw [e1, List.getD_eq_getElem?_getD, List.getElem?_eq_getElem hl, List.getElem_reverse]
    show _ = some _
    rw [Array.getElem?_eq_getElem (by omega)]
    simp
  rw [e]
  refine List.ext_getElem (by simp) fun i h1 h2 => ?_
  rw [List.getElem_map, List.getElem_range, List.getD_eq_getElem?_getD, List.getElem?_eq_getElem h2]
  rfl
section
variable {prog : Program} {w : World} {A : Around} {E : Value → Shared → Prop} {s : Shared}
theorem applied_back {sl : Addr} {v : Tok} {n : Nat} {Q : Int × Int × Nat → Shared → Prop} (hs : s.heap.IsSliceOf sl .none .none (.int (-1) v)) (h : Q ((n : Int) - 1, -1, n) s) :
    wpAny (model prog w) A (Builtin.Slice.sliceApplied (.ref sl) (pure (n : Int))) Q E s := by
  obtain ⟨os, hos, hcs, hds⟩ := id hs
  unfold Builtin.Slice.sliceApplied Builtin.Slice.sliceFields
  refine wpAny_bind (wpAny_bind (wpAny_field hos hds (x := .none) rfl
    (wpAny_bind (wpAny_field hos hds (x := .none) rfl (wpAny_bind (wpAny_field hos hds (x := .int (-1) v) rfl (wpAny_pure ?_)))))))
  refine wpAny_bind (slicePart_int ?_)
  show wpAny _ _ (if ((-1 : Int) == 0) = true then _ else _) _ _ s
  rw [if_neg (by decide)]
  refine wpAny_bind (slicePart_none (wpAny_bind (slicePart_none (wpAny_bind (wpAny_pure ?_)))))
  show wpAny _ _ (pure ((Builtin.Slice.sliceAdjust none none (-1) (n : Int)).1, (-1 : Int), Builtin.Slice.slicePlaces (Builtin.Slice.sliceAdjust none none (-1) (n : Int)).1 (Builtin.Slice.sliceAdjust none none (-1) (n : Int)).2 (-1))) _ _ s
  rw [adj_back]
  show wpAny _ _ (pure ((n : Int) - 1, (-1 : Int), Builtin.Slice.slicePlaces ((n : Int) - 1) (-1) (-1))) _ _ s
  rw [places_back]
  exact wpAny_pure h
theorem item_back {t sl : Addr} {items : Array Value} {v : Tok} {Q : Value → Shared → Prop} (ht : IsTup s.heap t items) (hs : s.heap.IsSliceOf sl .none .none (.int (-1) v))
    (h : Q (.ref s.heap.objs.size) { s with heap := s.heap.push { cls := .type "tuple", data := .seq items.toList.reverse.toArray } }) (hz : items.size ≤ sizeLine) : wpAny (model prog w) A (getItem (.ref t) (.ref sl)) Q E s := by
  have hk : sizeOk (.seq items.toList.reverse.toArray) := by
    show items.toList.reverse.toArray.size ≤ sizeLine
    simpa using hz
  obtain ⟨os, hos, hcs, hds⟩ := id hs
  have hTs : s.TypeIs (.ref sl) "slice" := ⟨os, hos, hcs⟩
  unfold getItem
  try with_reducible refine wpAny_holding ?_
  first | refine wpAny_bind (wpAny_pure ?_) | skip
  refine wpAny_bind (wpAny_sequenceKey ht.typeIs (by decide) ?_)
  refine wpAny_bind (wpAny_callSpecial?_slot (name := Str.ofString "__getitem__") ht.typeIs slot_tuple_getitem
    (wpAny_call_entry slot_tuple_getitem ht.typeIs entry_tuple_getitem ?_ (args_tuple_getitem _ _)))
  show wpAny _ _ (Builtin.Tuple.tupleItemsOf (.ref t) >>= _) _ _ s
  refine wpAny_bind (tupleItemsOf_ ht (wpAny_bind (wpAny_typeOf hTs ?_)))
  rw [if_pos (by decide)]
  refine wpAny_bind (applied_back hs ?_)
  show wpAny _ _ (if (((items.size : Nat) : Int) - 1 == 0 && (-1 : Int) == 1 && items.size == items.size) = true then _ else _) _ _ s
  rw [if_neg (by simp), pick_back]
  first
    | exact wpAny_bind (m := Builtin.Tuple.tupleExact _) (wpAny_newObj_type (wpAny_pure ⟨_, rfl, wpAny_pure h⟩) hk)
    | exact wpAny_bind (m := Builtin.Tuple.tupleExact _) (wpAny_newObj_type (wpAny_bind (wpAny_pure (wpAny_pure ⟨_, rfl, wpAny_pure h⟩))) hk)
    | exact wpAny_bind (wpAny_bind (m := Builtin.Tuple.tupleExact _) (wpAny_newObj_type (wpAny_pure (wpAny_pure ⟨_, rfl, wpAny_pure h⟩)) hk))
    | exact wpAny_bind (wpAny_bind (m := Builtin.Tuple.tupleExact _) (wpAny_newObj_type (wpAny_pure ⟨_, rfl, wpAny_pure h⟩) hk))
end
section
variable {X : Cx}
def tBack (K : PySem.W.Frag) (te : TE) (ts : TE) : TE := fun σ H Q => te σ H fun x H1 => ts σ H1 fun y H2 => y = .int (-1) ∧ ∃ a xs, x = .ref a ∧ SqT K H2 a xs ∧ ∀ p, H2 p = none → Q (.ref p) (upd H2 p (.tup xs.reverse))
theorem vals_rev : ∀ {xs : List V} {us : List Value}, Vals xs us → Vals xs.reverse us.reverse
  | _, _, .nil => .nil
  | _, _, .cons a r => by
    rw [List.reverse_cons, List.reverse_cons]
    exact (vals_rev r).append (.cons a .nil)
theorem pe_back {e st : Expr} {te ts : TE} {p2 pos : Pos} (he : PE X e te) (hs : PE X st ts) : PE X (.Subscript e (.Slice none none (some st) p2) pos) (tBack X.K te ts) := by
  refine ⟨fun pins s σ H Q I h => ?_⟩
  refine Subscript_ (thn (he.run pins s σ H _ I h) fun v s1 ⟨x, H1, I1, r1, q1⟩ => ?_)
  refine wpAny_Slice ?_
  rw [evalPart_none]
  refine wpAny_pure ?_
  refine wpAny_pure ?_
  show wpAny _ _ (eval st X.env) _ _ s1
  refine thn (hs.run pins s1 σ H1 _ I1 q1) fun u s2 ⟨y, H2, I2, r2, hy, a, xs, hx, hT, q⟩ => ?_
  subst hy
  subst hx
  obtain ⟨t, rfl⟩ := r2
  cases r1
  have I4 : Inv X pins σ H2 { s2 with heap := s2.heap.push { cls := .type "slice", data := .fields #[.none, .none, .int (-1) t] } } := I2.kept (t' := s2.toks) fun b ob q => Heap.get?_push_of_some _ q
  obtain ⟨its, r, ht, hz⟩ := I4.tuple hT
  show wpAny (model X.prog X.w) X.A (subscriptTail e (.Slice none none (some st) p2) (.ref a) (.ref s2.heap.objs.size)) (EP X pins σ Q) X.xe { s2 with heap := s2.heap.push { cls := .type "slice", data := .fields #[.none, .none, .int (-1) t] } }
  refine tail_any (ops := [.ref a, .ref s2.heap.objs.size]) ht.typeIs slot_tuple_getitem.lookup (item_back ht (Heap.IsSliceOf.new ..) ?_ (by rw [List.size_toArray, ← r.length]; exact hz)) (by with_unfolding_all rfl)
  refine ⟨.ref _, _, I4.laid (t' := s2.toks) (o := .tup xs.reverse) (fun b ob q => Heap.get?_push_of_some _ q) (Nat.le_refl _) ?_, rfl, q _ (I4.hok.fresh (Nat.le_refl _))⟩
  refine ⟨by rw [List.length_reverse]; exact hz, its.reverse, vals_rev r, ?_⟩
  have g := IsTup.new (({ s2 with heap := s2.heap.push { cls := .type "slice", data := .fields #[.none, .none, .int (-1) t] } } : Shared)).heap its.reverse.toArray
  simpa using g
end
theorem mul_one (l : Addr) (items : Array Value) (n : Nat) (dd : Option Addr) (sl : Array (Option Value)) (u : Tok) :
    Meets (Builtin.«tuple.__mul__» ⟨[.ref l, .int 1 u], []⟩) (fun _ R s => s.heap.get? l = some { cls := .type "tuple", dict := dd, data := .seq items n, slots := sl } ∧ R (.ok (.ret (Value.ref l))) s) :=
  .of_wp fun prog w A R s h => by
    obtain ⟨hp, g, d, tk, os⟩ := s
    obtain ⟨hl, h⟩ := h
    have f1 := AutoSeq1.idx_int
    have c0 : (decide ((1 : Int) < -(2 ^ 63)) || decide ((1 : Int) ≥ 2 ^ 63)) = false := by decide
    have c1 : (items.isEmpty || (1 : Int) == 1) = true := by rw [Bool.or_comm]; rfl
    wp_walk using wpAny_loadPart' hl
    repeat (first
      | (refine wpAny_ite_false (decide_eq_false (by rw [c0]; exact Bool.false_ne_true)) ?_; wp_walk using wpAny_loadPart' hl)
      | (refine wpAny_ite_true (decide_eq_true c1) ?_; wp_walk using wpAny_loadPart' hl))
    all_goals first | exact ⟨_, rfl, h⟩ | exact h | skip
section
variable {X : Cx}
def rRepA (K : PySem.W.Frag) : R2 := fun x y H Q => ∃ l k xs, x = .ref l ∧ y = .int k ∧ SqT K H l xs ∧ xs ≠ [] ∧ 1 ≤ k ∧ k ≤ 1000 ∧ xs.length ≤ 1000 ∧ (k = 1 → Q (.ref l) H) ∧ (2 ≤ k → ∀ p, H p = none → Q (.ref p) (upd H p (.tup (List.replicate k.toNat xs).flatten)))
theorem op_repA : OpR X (binaryOp .Mult) (rRepA X.K) := by
  intro pins s σ H x y v u Q I rx ry h
  obtain ⟨l, k, xs, rfl, rfl, hT, hne, h1, h2, hz, q1, q2⟩ := h
  by_cases hk : k = 1
  · subst hk
    cases rx
    obtain ⟨t, rfl⟩ := ry
    obtain ⟨its, r, ⟨⟨cls, dd, data, sl⟩, ho, hc, n, hd⟩, hs⟩ := I.tuple hT
    simp only at hc hd
    subst hc hd
    refine wpAny_binaryOp_repeat_ref (T := "tuple") (U := "int") (by decide) ⟨_, ho, rfl⟩ (fun s' => typeIs_int s' 1 t) noFill_tuple_mul
      F.fills_int_mul F.slot_int_rmul repeat_tuple F.slot_int_index.lookup
      (call_meets F.slot_int_rmul (typeIs_int s 1 t) F.entry_int_rmul (F.args_int_rmul_2 _ _) (int_rmul_tuple 1 t l its.toArray n dd sl) ⟨ho, rfl, ⟨_, ho, rfl⟩, ?_⟩)
    exact call_meets F.slot_tuple_mul ⟨_, ho, rfl⟩ F.entry_tuple_mul (F.args_tuple_mul_2 _ _) (mul_one l its.toArray n dd sl t) ⟨ho, ⟨.ref l, H, I, rfl, q1 rfl⟩⟩
  · exact op_repT pins s σ H _ _ v u Q I rx ry ⟨l, k, xs, rfl, rfl, hT, hne, by omega, h2, hz, q2 (by omega)⟩
end
section
variable {X : Cx}
theorem op_imp {f : Value → Value → Sem Value} {r r' : R2} (h : OpR X f r) (i : ∀ x y H Q, r' x y H Q → r x y H Q) : OpR X f r' := fun pins s σ H x y v u Q I rx ry q => h pins s σ H x y v u Q I rx ry (i x y H Q q)
theorem same_n {H : Hp} {p : Addr} {o : HO} (h : H p = none) : Same H (upd H p o) := fun b x e => by
  rw [upd_ne (ne_of_none e h)]; exact e
/-- t * k: the answer, wherever it stands -/
def rRepU (K : PySem.W.Frag) : R2 := fun x y H Q => ∃ l k xs, x = .ref l ∧ y = .int k ∧ SqT K H l xs ∧ xs ≠ [] ∧ 1 ≤ k ∧ k ≤ 1000 ∧ xs.length ≤ 1000 ∧ ∀ p H', SqT K H' p (List.replicate k.toNat xs).flatten → Same H H' → Q (.ref p) H'
theorem op_repU : OpR X (binaryOp .Mult) (rRepU X.K) := op_imp op_repA fun x y H Q ⟨l, k, xs, h1, h2, h3, h4, h5, h6, h7, q⟩ =>
  ⟨l, k, xs, h1, h2, h3, h4, h5, h6, h7, fun e => q l H (by rw [e]; simpa using h3) (Same.refl H), fun _ p np => q p _ (.of upd_same) (same_n np)⟩
/-- t + u, likewise -/
def rCatU (K : PySem.W.Frag) : R2 := fun x y H Q => ∃ a b xs ys, x = .ref a ∧ y = .ref b ∧ SqT K H a xs ∧ SqT K H b ys ∧ xs.length + ys.length ≤ sizeLine ∧ ∀ p H', SqT K H' p (xs ++ ys) → Same H H' → Q (.ref p) H'
theorem op_catU : OpR X (binaryOp .Add) (rCatU X.K) := op_imp op_catA fun x y H Q ⟨a, b, xs, ys, h1, h2, h3, h4, h5, q⟩ =>
  ⟨a, b, xs, ys, h1, h2, h3, h4, h5, fun e => q b H (by rw [e]; exact h4) (Same.refl H), fun _ e => q a H (by rw [e, List.append_nil]; exact h3) (Same.refl H), fun _ _ p np => q p _ (.of upd_same) (same_n np)⟩
end
end TR
/-! fields as targets, xs[i] += e, defs over a heap's own objects -/
namespace DL
open PySem PySem.Spec PyProof.Rows L2 DA
section
variable {X : Cx}
def gFld (K : PySem.W.Frag) (ta : TE) (f : Str) : TG := fun v σ H Q => ta σ H fun x H2 => ∃ a C dx fs, x = .ref a ∧ H2 a = some (.ins C dx fs) ∧ Cls K C ∧ NoAttr K C f ∧ fs.length < 1000 ∧ Q σ (upd H2 a (.ins C dx (putF f v fs)))
theorem pg_fld {o : Expr} {f : Str} {pos : Pos} {ta : TE} (ha : PE X o ta) : PG X (.Attribute o f pos) (gFld X.K ta f) := by
  refine ⟨fun pins s σ H v u Q I r h => ?_⟩
  rw [PySem.assign_Attribute]
  refine wpAny_bind (wpAny_holding (thn (ha.run pins s σ H _ I h) fun ov s1 ⟨x, H1, I1, rx, a, C, dx, fs, ex, ea, c, n, l, q⟩ => ?_))
  subst ex
  obtain rfl : ov = Value.ref a := rx
  refine wpAny_bind (wpAny_standAt (wpAny_bind (wpAny_holding (setattr_ok I1 ea c n l r fun s3 I3 => ?_))))
  exact wpAny_release ⟨σ, _, I3, q⟩
def getL (K : PySem.W.Frag) : V → V → Hp → VK → Prop := fun x y H Q => ∃ p xs i v, x = .ref p ∧ y = .int i ∧ 0 ≤ i ∧ i < 2 ^ 63 ∧ SqL K H p xs ∧ xs[i.toNat]? = some v ∧ Q v H
theorem get_list : PGet X (getL X.K) := by
  intro pins s σ H o i ov iv Q I r1 r2 h
  obtain ⟨p, xs, k, v, rfl, rfl, h0, h1, hq, hv, q⟩ := h
  cases r1
  obtain ⟨t, rfl⟩ := r2
  obtain ⟨its, r, pl, hz⟩ := I.list hq
  obtain ⟨w, ew, rw'⟩ := r.get hv
  exact wpAny_getItem_list pl.isList h0 h1 (by simpa using ew) ⟨v, H, I, rw', q⟩
theorem ps_augL {o i e : Expr} {to ti te : TE} {tip : TIp} {op : Operator} {tpos pos : Pos} (ho : PE X o to) (hi : PE X i ti) (he : PE X e te) (hp : PIp X op tip)
    (ha : ∀ ov iv new, augStore i ov iv new = (do holding [new, ov, iv] (setItem ov iv new); release [new, ov, iv] []; pure .next) := by intros; rfl) : PS X (.AugAssign (.Subscript o i tpos) op e pos) (tAugS to ti te (getL X.K) tip rSetL) :=
  ps_augS ho hi get_list he hp set_list ha
end
/-! ### a def over data and objects of the heap -/
def spX (K : PySem.W.Frag) (T : List Addr) (R : List Addr → Hp → List DS → PD → Prop) : Sp := fun vs H Q _ => ∃ M ss d, (∀ a ∈ M, a ∉ T ∧ H a ≠ none) ∧ Tabs T H ∧ ArgsOk K (hid M H) vs ss ∧ R M H ss d ∧ ∀ v H', Dp K (hid M H') v d → Keep T H H' → Q v H'
section
variable {P : Program} {w : World} {K : PySem.W.Frag} {mg : Str → Option Value} {base : Heap}
theorem fn_sdX {T : List Addr} {x qual : Str} {st : Stmt} {f : Addr} {fd : FuncData} {N ps : List Str} {k : Nat} {R : List Addr → Hp → List DS → PD → Prop} (F : Fun K x qual st f fd) (S : FnScope N ps (defScope st)) (hl : ∀ M H ss d, R M H ss d → ss.length = ps.length)
    (hb : ∀ (cdv : Value) (A : Around) (outer : List Env) (s : Shared) (H : Hp) (E : XK), Room k (A.deeper (envOfC qual (defScope st) s.heap.objs.size f cdv)) →
      ∃ t, PSs (cxOf CX0 P w K mg base N qual (defScope st) f cdv A outer s H E).nox (defBody st) t ∧ ∀ M H0 ss d, R M H0 ss d → (∀ a ∈ M, a ∉ T ∧ H0 a ≠ none) → Tabs T H0 → SD ⟨K, T, M, H0⟩ t (DR d) (startD N ss)) : FnOk P w K mg base CX0 (k + 1) f fd ps (spX K T R) := by
  refine F.ok S (fun vs H Q E h => ?_) (fun cdv A outer s H vs Q E hr h => ?_)
  · obtain ⟨M, ss, d, _, _, h3, h4, _⟩ := h
    rw [h3.len]
    exact hl M H ss d h4
  · obtain ⟨M, ss, d, h1, h2, h3, h4, q⟩ := h
    obtain ⟨t, ht, hq⟩ := hb cdv A outer s H E hr
    refine ⟨t, ht, hq M H ss d h4 h1 h2 _ ⟨fun A' σ' H' ρ' r' e => ?_, fun v H' e k' h5 h6 => ?_, fun _ _ _ _ _ z => z.elim, fun _ _ _ _ _ z => z.elim⟩ [] _ H (start_sr h1 h2 h3)⟩
    · have e : d = .none := e
      subst e
      exact q .non H' .non r'.keep
    · have h6 : e = d := h6
      subst h6
      exact q v H' h5 k'
end
/-! ### heaps that keep all but some own objects -/
structure KeepX (T O : List Addr) (H H' : Hp) : Prop where
  at_ : ∀ b o, H b = some o → b ∉ T → b ∉ O → H' b = some o
  tab : ∀ P ∈ T, GxR.TabG H P → GxR.TabG H' P
theorem KeepX.of {T O : List Addr} {H H' : Hp} (k : Keep T H H') : KeepX T O H H' := ⟨fun b o e n _ => k.at_ b o e n, k.tab⟩
theorem KeepX.trans {T O : List Addr} {H H1 H2 : Hp} (a : KeepX T O H H1) (b : KeepX T O H1 H2) : KeepX T O H H2 := ⟨fun c o e n m => b.at_ c o (a.at_ c o e n m) n m, fun P hP t => b.tab P hP (a.tab P hP t)⟩
theorem KeepX.refl {T O : List Addr} {H : Hp} : KeepX T O H H := .of .refl
theorem KeepX.upd {T O : List Addr} {H : Hp} {a : Addr} {o : HO} (h : a ∈ O) (hT : a ∉ T) : KeepX T O H (L2.upd H a o) := ⟨fun b u e _ n => by
  rw [upd_ne (fun z => n (by rw [z]; exact h))]
  exact e, fun P hP ⟨ps, e, ok⟩ => ⟨ps, by rw [upd_ne (fun z => hT (by rw [← z]; exact hP))]; exact e, ok⟩⟩
theorem KeepX.tabs {T O : List Addr} {H H1 : Hp} (a : KeepX T O H H1) (t : Tabs T H) : Tabs T H1 := fun P hP => a.tab P hP (t P hP)
/-- own objects that the first heap does not know -/
theorem KeepX.keep {T O : List Addr} {H H1 H2 : Hp} (k : Keep T H H1) (x : KeepX T O H1 H2) (n : ∀ a ∈ O, H a = none) : Keep T H H2 := ⟨fun b o e hT => x.at_ b o (k.at_ b o e hT) hT (fun m => by rw [n b m] at e; cases e), fun P hP t => x.tab P hP (k.tab P hP t)⟩
theorem KeepX.hid {T O M : List Addr} {H H' : Hp} (x : KeepX T O H H') (s : ∀ a ∈ O, a ∈ M) : Keep T (DL.hid M H) (DL.hid M H') := ⟨fun b o e n => by
  obtain ⟨m, e⟩ := hid_inv e
  exact hid_of m (x.at_ b o e n fun q => m (s b q)), fun P hP tb => by
  obtain ⟨ps, e, ok⟩ := tb
  obtain ⟨m, e⟩ := hid_inv e
  obtain ⟨ps', e', ok'⟩ := x.tab P hP ⟨ps, e, ok⟩
  exact ⟨ps', hid_of m e', ok'⟩⟩
end DL
/-! an object that changes: its fields are data, own lists, or objects that stand still -/
namespace DL
open PySem PySem.Spec PyProof.Rows L2 DA
inductive MF where
  | d (x : PD) | l (ds : List PD) | o (C : Addr) (fs : List (Str × PD))
/-- the fields' values, and the addresses of the lists -/
inductive FsM (K : PySem.W.Frag) (Hm H : Hp) : List (Str × V) → List (Str × MF) → List Addr → Prop where
  | nil : FsM K Hm H [] [] []
  | d {f : Str} {v : V} {x : PD} {vs F as} : Dp K Hm v x → FsM K Hm H vs F as → FsM K Hm H ((f, v) :: vs) ((f, .d x) :: F) as
  | o {f : Str} {v : V} {C : Addr} {fs : List (Str × PD)} {vs F as} : ObD K Hm v C fs → FsM K Hm H vs F as → FsM K Hm H ((f, v) :: vs) ((f, .o C fs) :: F) as
  | l {f : Str} {a : Addr} {xs : List V} {ds : List PD} {vs F as} : H a = some (.lst xs) → DpAll K Hm xs ds → FsM K Hm H vs F as → FsM K Hm H ((f, .ref a) :: vs) ((f, .l ds) :: F) (a :: as)
def setF (f : Str) (x : MF) : List (Str × MF) → List (Str × MF)
  | [] => [(f, x)]
  | (g, y) :: r => if g = f then (g, x) :: r else (g, y) :: setF f x r
section
variable {K : PySem.W.Frag} {T M : List Addr} {H H' Hm Hm' : Hp} {p C : Addr}
theorem FsM.move (hm : ∀ v x, Dp K Hm v x → Dp K Hm' v x) (ho : ∀ v C fs, ObD K Hm v C fs → ObD K Hm' v C fs) (hms : ∀ vs xs, DpAll K Hm vs xs → DpAll K Hm' vs xs) {vs : List (Str × V)} {F : List (Str × MF)} {as : List Addr} (r : FsM K Hm H vs F as) (h : ∀ a ∈ as, H' a = H a) : FsM K Hm' H' vs F as := by
  induction r with
  | nil => exact .nil
  | d a _ ih => exact .d (hm _ _ a) (ih h)
  | o a _ ih => exact .o (ho _ _ _ a) (ih h)
  | l e a _ ih => exact .l (by rw [h _ List.mem_cons_self]; exact e) (hms _ _ a) (ih fun x hx => h x (List.mem_cons_of_mem _ hx))
theorem FsM.len : ∀ {vs : List (Str × V)} {F : List (Str × MF)} {as : List Addr}, FsM K Hm H vs F as → vs.length = F.length
  | _, _, _, .nil => rfl
  | _, _, _, .d _ r => by simp [r.len]
  | _, _, _, .o _ r => by simp [r.len]
  | _, _, _, .l _ _ r => by simp [r.len]
theorem FsM.lookD {f : Str} {x : PD} : ∀ {vs : List (Str × V)} {F : List (Str × MF)} {as : List Addr}, FsM K Hm H vs F as → F.lookup f = some (.d x) → ∃ v, vs.lookup f = some v ∧ Dp K Hm v x
  | _, _, _, .nil, h => by cases h
  | _, _, _, .d (f := g) a r, h => by
    rw [List.lookup_cons] at h ⊢
    cases e : f == g with
    | true => rw [e] at h; cases h; exact ⟨_, rfl, a⟩
    | false => rw [e] at h; exact r.lookD h
  | _, _, _, .o (f := g) a r, h => by
    rw [List.lookup_cons] at h ⊢
    cases e : f == g with
    | true => rw [e] at h; cases h
    | false => rw [e] at h; exact r.lookD h
  | _, _, _, .l (f := g) _ a r, h => by
    rw [List.lookup_cons] at h ⊢
    cases e : f == g with
    | true => rw [e] at h; cases h
    | false => rw [e] at h; exact r.lookD h
theorem FsM.lookO {f : Str} {D : Addr} {fs : List (Str × PD)} : ∀ {vs : List (Str × V)} {F : List (Str × MF)} {as : List Addr}, FsM K Hm H vs F as → F.lookup f = some (.o D fs) → ∃ v, vs.lookup f = some v ∧ ObD K Hm v D fs
  | _, _, _, .nil, h => by cases h
  | _, _, _, .d (f := g) a r, h => by
    rw [List.lookup_cons] at h ⊢
    cases e : f == g with
    | true => rw [e] at h; cases h
    | false => rw [e] at h; exact r.lookO h
  | _, _, _, .o (f := g) a r, h => by
    rw [List.lookup_cons] at h ⊢
    cases e : f == g with
    | true => rw [e] at h; cases h; exact ⟨_, rfl, a⟩
    | false => rw [e] at h; exact r.lookO h
  | _, _, _, .l (f := g) _ a r, h => by
    rw [List.lookup_cons] at h ⊢
    cases e : f == g with
    | true => rw [e] at h; cases h
    | false => rw [e] at h; exact r.lookO h
theorem FsM.lookL {f : Str} {ds : List PD} : ∀ {vs : List (Str × V)} {F : List (Str × MF)} {as : List Addr}, FsM K Hm H vs F as → F.lookup f = some (.l ds) → ∃ a xs, vs.lookup f = some (.ref a) ∧ a ∈ as ∧ H a = some (.lst xs) ∧ DpAll K Hm xs ds
  | _, _, _, .nil, h => by cases h
  | _, _, _, .d (f := g) a r, h => by
    rw [List.lookup_cons] at h ⊢
    cases e : f == g with
    | true => rw [e] at h; cases h
    | false => rw [e] at h; exact r.lookL h
  | _, _, _, .o (f := g) a r, h => by
    rw [List.lookup_cons] at h ⊢
    cases e : f == g with
    | true => rw [e] at h; cases h
    | false => rw [e] at h; exact r.lookL h
  | _, _, _, .l (f := g) q a r, h => by
    rw [List.lookup_cons] at h ⊢
    cases e : f == g with
    | true => rw [e] at h; cases h; exact ⟨_, _, rfl, List.mem_cons_self, q, a⟩
    | false =>
      rw [e] at h
      obtain ⟨b, xs, h1, h2, h3⟩ := r.lookL h
      exact ⟨b, xs, h1, List.mem_cons_of_mem _ h2, h3⟩
theorem FsM.lookN {f : Str} : ∀ {vs : List (Str × V)} {F : List (Str × MF)} {as : List Addr}, FsM K Hm H vs F as → F.lookup f = none → vs.lookup f = none
  | _, _, _, .nil, h => rfl
  | _, _, _, .d (f := g) a r, h => by
    rw [List.lookup_cons] at h ⊢
    cases e : f == g with
    | true => rw [e] at h; cases h
    | false => rw [e] at h; exact r.lookN h
  | _, _, _, .o (f := g) a r, h => by
    rw [List.lookup_cons] at h ⊢
    cases e : f == g with
    | true => rw [e] at h; cases h
    | false => rw [e] at h; exact r.lookN h
  | _, _, _, .l (f := g) _ a r, h => by
    rw [List.lookup_cons] at h ⊢
    cases e : f == g with
    | true => rw [e] at h; cases h
    | false => rw [e] at h; exact r.lookN h
/-- a data field is stored anew -/
theorem FsM.putD {f : Str} {v : V} {x y : PD} (hv : Dp K Hm v y) : ∀ {vs : List (Str × V)} {F : List (Str × MF)} {as : List Addr}, FsM K Hm H vs F as → F.lookup f = some (.d x) → FsM K Hm H (putF f v vs) (setF f (.d y) F) as
  | _, _, _, .nil, h => by cases h
  | _, _, _, .d (f := g) a r, h => by
    rw [List.lookup_cons] at h
    show FsM K Hm H (if g = f then _ else _) (if g = f then _ else _) _
    by_cases e : g = f
    · rw [if_pos e, if_pos e]; exact .d hv r
    · rw [if_neg e, if_neg e]
      rw [show (f == g) = false from beq_eq_false_iff_ne.mpr (Ne.symm e)] at h
      exact .d a (r.putD hv h)
  | _, _, _, .o (f := g) a r, h => by
    rw [List.lookup_cons] at h
    show FsM K Hm H (if g = f then _ else _) (if g = f then _ else _) _
    by_cases e : g = f
    · rw [show (f == g) = true from beq_iff_eq.mpr e.symm] at h; cases h
    · rw [if_neg e, if_neg e]
      rw [show (f == g) = false from beq_eq_false_iff_ne.mpr (Ne.symm e)] at h
      exact .o a (r.putD hv h)
  | _, _, _, .l (f := g) q a r, h => by
    rw [List.lookup_cons] at h
    show FsM K Hm H (if g = f then _ else _) (if g = f then _ else _) _
    by_cases e : g = f
    · rw [show (f == g) = true from beq_iff_eq.mpr e.symm] at h; cases h
    · rw [if_neg e, if_neg e]
      rw [show (f == g) = false from beq_eq_false_iff_ne.mpr (Ne.symm e)] at h
      exact .l q a (r.putD hv h)
/-- a list of a field changes -/
theorem FsM.poke {f : Str} {ds es : List PD} {ys : List V} (hy : DpAll K Hm ys es) : ∀ {vs : List (Str × V)} {F : List (Str × MF)} {as : List Addr} {a : Addr}, FsM K Hm H vs F as → as.Nodup → F.lookup f = some (.l ds) → vs.lookup f = some (.ref a) → FsM K Hm (upd H a (.lst ys)) vs (setF f (.l es) F) as
  | _, _, _, _, .nil, _, h, _ => by cases h
  | _, _, _, b, .d (f := g) a r, nd, h, h2 => by
    rw [List.lookup_cons] at h h2
    show FsM K Hm _ _ (if g = f then _ else _) _
    by_cases e : g = f
    · rw [show (f == g) = true from beq_iff_eq.mpr e.symm] at h; cases h
    · rw [if_neg e]
      rw [show (f == g) = false from beq_eq_false_iff_ne.mpr (Ne.symm e)] at h h2
      exact .d a (r.poke hy nd h h2)
  | _, _, _, b, .o (f := g) a r, nd, h, h2 => by
    rw [List.lookup_cons] at h h2
    show FsM K Hm _ _ (if g = f then _ else _) _
    by_cases e : g = f
    · rw [show (f == g) = true from beq_iff_eq.mpr e.symm] at h; cases h
    · rw [if_neg e]
      rw [show (f == g) = false from beq_eq_false_iff_ne.mpr (Ne.symm e)] at h h2
      exact .o a (r.poke hy nd h h2)
  | _, _, _, b, .l (f := g) (a := a0) q a r, nd, h, h2 => by
    rw [List.lookup_cons] at h h2
    show FsM K Hm _ _ (if g = f then _ else _) _
    have nd' := List.nodup_cons.mp nd
    by_cases e : g = f
    · rw [show (f == g) = true from beq_iff_eq.mpr e.symm] at h h2
      cases h2
      rw [if_pos e]
      exact .l upd_same hy (r.move (fun _ _ z => z) (fun _ _ _ z => z) (fun _ _ z => z) fun x hx => upd_ne fun z => nd'.1 (by rw [← z]; exact hx))
    · rw [if_neg e]
      rw [show (f == g) = false from beq_eq_false_iff_ne.mpr (Ne.symm e)] at h h2
      have h : List.lookup f _ = some (MF.l ds) := h
      have h2 : List.lookup f _ = some (V.ref b) := h2
      obtain ⟨c, xs, q1, q2, q3, q4⟩ := r.lookL h
      have e3 : V.ref b = V.ref c := Option.some.inj (h2.symm.trans q1)
      cases e3
      exact .l (by rw [upd_ne (fun z => nd'.1 (by rw [z]; exact q2))]; exact q) a (r.poke hy nd'.2 h h2)
/-- the object at p, its own addresses O -/
structure OA (K : PySem.W.Frag) (M : List Addr) (H : Hp) (p C : Addr) (F : List (Str × MF)) (O : List Addr) : Prop where
  ex : ∃ dx vs as, H p = some (.ins C dx vs) ∧ FsM K (hid M H) H vs F as ∧ O = p :: as ∧ vs.length < 1000
  nd : O.Nodup
  sub : ∀ a ∈ O, a ∈ M
theorem FsM.addr {K : PySem.W.Frag} {Hm H : Hp} : ∀ {vs : List (Str × V)} {F : List (Str × MF)} {as : List Addr}, FsM K Hm H vs F as → ∀ a ∈ as, ∃ xs, H a = some (.lst xs)
  | _, _, _, .nil, a, h => by cases h
  | _, _, _, .d _ r, a, h => r.addr a h
  | _, _, _, .o _ r, a, h => r.addr a h
  | _, _, _, .l q _ r, a, h => by
    rcases List.mem_cons.mp h with z | h
    · exact ⟨_, by rw [z]; exact q⟩
    · exact r.addr a h
theorem OA.none {F : List (Str × MF)} {O : List Addr} (o : OA K M H p C F O) : ∀ a ∈ O, ∃ x, H a = some x ∧ ∀ ps, x ≠ .tbl ps := by
  obtain ⟨dx, vs, as, h1, h2, rfl, _⟩ := o.ex
  intro a ha
  rcases List.mem_cons.mp ha with rfl | ha
  · exact ⟨_, h1, fun ps z => by cases z⟩
  · obtain ⟨xs, e⟩ := h2.addr a ha
    exact ⟨_, e, fun ps z => by cases z⟩
theorem OA.nT {F : List (Str × MF)} {O : List Addr} (o : OA K M H p C F O) (t : Tabs T H) : ∀ a ∈ O, a ∉ T := fun a ha => by
  obtain ⟨x, e, n⟩ := o.none a ha
  exact nT_of t e n
theorem OA.move {F : List (Str × MF)} {O : List Addr} (o : OA K M H p C F O) (t : Tabs T H) (hM : ∀ a ∈ M, a ∉ T) (k : Keep T H H') : OA K M H' p C F O := by
  obtain ⟨dx, vs, as, h1, h2, rfl, h3⟩ := id o.ex
  have nT := o.nT t
  have tm : Tabs T (hid M H) := tabs_hid t hM
  have km : Keep T (hid M H) (hid M H') := hid_keep k
  refine ⟨⟨dx, vs, as, k.at_ _ _ h1 (nT p List.mem_cons_self), h2.move (fun v x z => dp_keep km tm z) (fun v C fs z => ObD.keep km tm z) (fun vs xs z => dps_keep km tm z) (fun a ha => ?_), rfl, h3⟩, o.nd, o.sub⟩
  obtain ⟨x, e, n⟩ := o.none a (List.mem_cons_of_mem _ ha)
  rw [e]
  exact k.at_ _ _ e (nT a (List.mem_cons_of_mem _ ha))
end

/-! ### statements that change the object -/
structure OC where
  K : PySem.W.Frag
  T : List Addr
  M : List Addr
  p : Addr
  C : Addr
  O : List Addr
  Hs : Hp
structure SRM (k : OC) (σ : L2.St) (H : Hp) (ρ : DEnv) (F : List (Str × MF)) : Prop where
  sr : SR ⟨k.K, k.T, k.M, H⟩ [] σ H ρ
  oa : OA k.K k.M H k.p k.C F k.O
  kx : KeepX k.T k.O k.Hs H
section
variable {k : OC} {σ : L2.St} {H H' : Hp} {ρ : DEnv} {F : List (Str × MF)}
theorem hid_nil' {H : Hp} : hid [] H = H := hid_nil
/-- heaps move on, the object stays -/
theorem SRM.move (r : SRM k σ H ρ F) {σ' : L2.St} {ρ' : DEnv} (kp : Keep k.T H H') (s : SR ⟨k.K, k.T, k.M, H⟩ [] σ' H' ρ') : SRM k σ' H' ρ' F := by
  have u := s.up
  have e : DC.up ⟨k.K, k.T, k.M, H⟩ [] H' = ⟨k.K, k.T, k.M, H'⟩ := by unfold DC.up; rw [hid_nil]
  rw [e] at u
  exact ⟨u, r.oa.move r.sr.tab (fun a h => (r.sr.msk a h).1) kp, r.kx.trans (.of kp)⟩
/-- an own object changes -/
theorem SRM.poke (r : SRM k σ H ρ F) {a : Addr} {o : HO} {F' : List (Str × MF)} (ha : a ∈ k.O) (hn : ∀ ps, o ≠ .tbl ps) (oa : OA k.K k.M (upd H a o) k.p k.C F' k.O) : SRM k σ (upd H a o) ρ F' := by
  have nT : a ∉ k.T := r.oa.nT r.sr.tab a ha
  have aM : a ∈ k.M := r.oa.sub a ha
  have hh : hid (k.M ++ []) (upd H a o) = hid (k.M ++ []) H := hid_in (by rw [List.append_nil]; exact aM)
  have kt : Tabs k.T (upd H a o) := fun P hP => by
    obtain ⟨ps, e, ok⟩ := r.sr.tab P hP
    exact ⟨ps, by rw [upd_ne (fun z => nT (by rw [← z]; exact hP))]; exact e, ok⟩
  refine ⟨⟨kt, .refl, fun b hb => ⟨(r.sr.msk b hb).1, fun z => ?_⟩, fun b hb => (nomatch hb), r.sr.len, fun i s e => ?_, r.sr.inj⟩, oa, r.kx.trans (.upd ha nT)⟩
  · have z : upd H a o b = none := z
    by_cases q : b = a
    · rw [q, upd_same] at z; cases z
    · rw [upd_ne q] at z
      exact (r.sr.msk b hb).2 z
  · obtain ⟨ov, h1, h2⟩ := r.sr.rel i s e
    refine ⟨ov, h1, ?_⟩
    show SlotOk k.K (hid (k.M ++ []) (upd H a o)) (upd H a o) [] ov s
    rw [hh]
    cases s with
    | own ds =>
      cases ov with
      | none => exact h2
      | some v =>
        obtain ⟨b, xs, q1, q2, _⟩ := h2
        cases q2
    | non => cases ov <;> trivial
    | dat d => cases ov <;> exact h2
    | ob C fs => cases ov <;> exact h2
    | raw w => cases ov <;> exact h2
end
structure MEnds where
  nx : DEnv → List (Str × MF) → Prop
  rt : PD → List (Str × MF) → Prop
structure LeM (k : OC) (D : MEnds) (E : Ends) : Prop where
  nx : ∀ σ H ρ F, SRM k σ H ρ F → D.nx ρ F → E.nx σ H
  rt : ∀ v H d F, Dp k.K (hid k.M H) v d → OA k.K k.M H k.p k.C F k.O → KeepX k.T k.O k.Hs H → D.rt d F → E.rt v H
def SM (k : OC) (t : TS) (D : MEnds) (ρ : DEnv) (F : List (Str × MF)) : Prop := ∀ E, LeM k D E → ∀ σ H, SRM k σ H ρ F → t E σ H
/-- an expression, while the object stands so -/
structure TB (T M : List Addr) (H : Hp) : Prop where
  t : Tabs T H
  m : ∀ a ∈ M, a ∉ T
def EM (k : OC) (te : TE) (ρ : DEnv) (F : List (Str × MF)) (d : PD) : Prop := ∀ H, OA k.K k.M H k.p k.C F k.O → TB k.T k.M H → ED ⟨k.K, k.T, k.M, H⟩ te ρ d
def TM (k : OC) (tt : TT) (ρ : DEnv) (F : List (Str × MF)) (b : Bool) : Prop := ∀ H, OA k.K k.M H k.p k.C F k.O → TB k.T k.M H → ET ⟨k.K, k.T, k.M, H⟩ tt ρ b
section
variable {k : OC} {ρ : DEnv} {F : List (Str × MF)} {D : MEnds} {t u : TS} {te tk : TE} {d : PD}
theorem SRM.tb {σ : L2.St} {H : Hp} (r : SRM k σ H ρ F) : TB k.T k.M H := ⟨r.sr.tab, fun a h => (r.sr.msk a h).1⟩
theorem EM.run (h : EM k te ρ F d) {σ : L2.St} {H : Hp} (r : SRM k σ H ρ F) {Q : VK} (q : ∀ v H', SRM k σ H' ρ F → Keep k.T H H' → Dp k.K (hid k.M H') v d → Q v H') : te σ H Q :=
  h H r.oa r.tb [] σ H r.sr Q fun v H' k1 h1 => q v H' (r.move k1 (r.sr.move k1)) k1 (by rwa [List.append_nil] at h1)
theorem TM.run {tt : TT} {b : Bool} (h : TM k tt ρ F b) {σ : L2.St} {H : Hp} (r : SRM k σ H ρ F) {Q : Bool → Hp → Prop} (q : ∀ H', SRM k σ H' ρ F → Q b H') : tt σ H Q :=
  h H r.oa r.tb [] σ H r.sr Q fun H' k1 => q H' (r.move k1 (r.sr.move k1))
theorem SRM.setD {σ : L2.St} {H : Hp} (r : SRM k σ H ρ F) (i : Nat) {v : V} (h : Dp k.K (hid k.M H) v d) : SRM k (σ.set i (some v)) H (ρ.set i (.dat d)) F := ⟨r.sr.setD i (by rw [List.append_nil]; exact h), r.oa, r.kx⟩
theorem sm_next (h : D.nx ρ F) : SM k tNext D ρ F := fun E L σ H r => L.nx σ H ρ F r h
theorem sm_seq (h : SM k t { D with nx := fun ρ' F' => SM k u D ρ' F' } ρ F) : SM k (tSeq t u) D ρ F := fun E L σ H r => h { E with nx := u E } ⟨fun σ' H' ρ' F' r' q => q E L σ' H' r', L.rt⟩ σ H r
theorem sm_if {tt : TT} {b : Bool} (h : TM k tt ρ F b) (h1 : b = true → SM k t D ρ F) (h2 : b = false → SM k u D ρ F) : SM k (tIfS tt t u) D ρ F := fun E L σ H r => h.run r fun H1 r1 => by
  cases b with
  | true => exact h1 rfl E L σ H1 r1
  | false => exact h2 rfl E L σ H1 r1
theorem sm_when {tt : TT} {b : Bool} (h : TM k tt ρ F b) (h1 : b = true → SM k t D ρ F) (h2 : b = false → D.nx ρ F) : SM k (tIfS tt t tNext) D ρ F := sm_if h h1 fun e => sm_next (h2 e)
theorem sm_ret (h : EM k te ρ F d) (q : D.rt d F) : SM k (tRet te) D ρ F := fun E L σ H r => h.run r fun v H1 r1 _ h1 => L.rt v H1 d F h1 r1.oa r1.kx q
theorem sm_retN (q : D.rt .none F) : SM k tRetN D ρ F := fun E L σ H r => L.rt .non H .none F .non r.oa r.kx q
theorem sm_set {i : Nat} (h : EM k te ρ F d) (q : D.nx (ρ.set i (.dat d)) F) : SM k (tAsg te (gName i)) D ρ F := fun E L σ H r => h.run r fun v H1 r1 _ h1 => L.nx _ _ _ _ (r1.setD i h1) q
theorem sm_drop (h : EM k te ρ F d) (q : D.nx ρ F) : SM k (tDrop te) D ρ F := fun E L σ H r => h.run r fun v H1 r1 _ h1 => L.nx _ _ _ _ r1 q
theorem sm_unp2 {i j : Nat} {a b : PD} (h : EM k te ρ F (.tuple [a, b])) (q : D.nx ((ρ.set i (.dat a)).set j (.dat b)) F) : SM k (tAsg te (gTup k.K 2 (gCons (gName i) (gCons (gName j) gNil)))) D ρ F := fun E L σ H r => h.run r fun v H1 r1 _ h1 => by
  obtain ⟨p, xs, rfl, h2, h3⟩ := dp_tup h1
  cases h3 with
  | cons a1 h3 =>
    cases h3 with
    | cons a2 h3 =>
      cases h3
      exact ⟨p, _, rfl, sqt_same hid_same h2, rfl, _, _, rfl, _, _, rfl, rfl, L.nx _ _ _ _ ((r1.setD i a1).setD j a2) q⟩
/-- the object itself in a slot -/
def isSelf (k : OC) (ρ : DEnv) (i : Nat) : Prop := ρ[i]? = some (.raw (.ref k.p))
theorem self_at {σ : L2.St} {H : Hp} (r : SRM k σ H ρ F) {i : Nat} (h : isSelf k ρ i) : σ[i]? = some (some (.ref k.p)) := by
  obtain ⟨ov, h1, h2⟩ := r.sr.rel i _ h
  cases ov with
  | none => exact h2.elim
  | some v =>
    have e : v = .ref k.p := h2
    rw [e] at h1
    exact h1
/-- self.f as data -/
theorem em_fld {i : Nat} {f : Str} (hs : isSelf k ρ i) (cl : Cls k.K k.C) (na : NoAttr k.K k.C f) (hl : F.lookup f = some (.d d)) : EM k (tFld k.K (tVar i) f) ρ F d := fun H o t => by
  obtain ⟨dx, vs, as, h1, h2, h3, h4⟩ := o.ex
  obtain ⟨v, e1, e2⟩ := h2.lookD hl
  exact ed_mfld hs h1 cl na e1 e2
/-- self.f as a list to be read -/
theorem el_fld {i : Nat} {f : Str} {ds : List PD} (hs : isSelf k ρ i) (cl : Cls k.K k.C) (na : NoAttr k.K k.C f) (hl : F.lookup f = some (.l ds)) {H : Hp} (o : OA k.K k.M H k.p k.C F k.O) : EL ⟨k.K, k.T, k.M, H⟩ (tFld k.K (tVar i) f) ρ ds := by
  obtain ⟨dx, vs, as, h1, h2, h3, h4⟩ := o.ex
  obtain ⟨a, xs, e1, e2, e3, e4⟩ := h2.lookL hl
  exact el_mfld hs h1 cl na e1 e3 e4
/-- self.f as an object -/
theorem eg_fld {i : Nat} {f : Str} {C2 : Addr} {fs : List (Str × PD)} (hs : isSelf k ρ i) (cl : Cls k.K k.C) (na : NoAttr k.K k.C f) (hl : F.lookup f = some (.o C2 fs)) {H : Hp} (o : OA k.K k.M H k.p k.C F k.O) : EG ⟨k.K, k.T, k.M, H⟩ (tFld k.K (tVar i) f) ρ (.ob C2 fs) := fun A σ H' r Q q => by
  obtain ⟨dx, vs, as, h1, h2, h3, h4⟩ := o.ex
  obtain ⟨v, e1, e2⟩ := h2.lookO hl
  obtain ⟨ov, g1, g2⟩ := r.rel i _ hs
  cases ov with
  | none => exact False.elim g2
  | some w =>
    have e : w = .ref k.p := g2
    subst e
    exact ⟨_, g1, k.p, k.C, dx, vs, v, rfl, fld_at r h1, cl, na, e1, q v H' .refl (ObD.keep (base_dp r) (base_tab r) e2)⟩
theorem setF_len {f : Str} {x y : MF} : ∀ {F : List (Str × MF)}, F.lookup f = some y → (setF f x F).length = F.length
  | [], h => by cases h
  | (g, z) :: r, h => by
    rw [List.lookup_cons] at h
    show (if g = f then _ else _ : List (Str × MF)).length = _
    by_cases e : g = f
    · rw [if_pos e]; rfl
    · rw [if_neg e]
      rw [show (f == g) = false from beq_eq_false_iff_ne.mpr (Ne.symm e)] at h
      show (setF f x r).length + 1 = r.length + 1
      rw [setF_len h]
/-- self.f = e, data -/
theorem SRM.putD {σ : L2.St} {H : Hp} (r : SRM k σ H ρ F) {f : Str} {x y : PD} {v : V} (hl : F.lookup f = some (.d x)) (h : Dp k.K (hid k.M H) v y) {dx : Addr} {vs : List (Str × V)} (h1 : H k.p = some (.ins k.C dx vs)) : SRM k σ (upd H k.p (.ins k.C dx (putF f v vs))) ρ (setF f (.d y) F) := by
  obtain ⟨dx', vs', as, g1, g2, g3, g4⟩ := r.oa.ex
  rw [h1] at g1
  cases g1
  have pM : k.p ∈ k.M := r.oa.sub _ (by rw [g3]; exact List.mem_cons_self)
  have pO : k.p ∈ k.O := by rw [g3]; exact List.mem_cons_self
  have nd : k.p ∉ as := by
    have := r.oa.nd
    rw [g3] at this
    exact (List.nodup_cons.mp this).1
  have q := g2.putD h hl
  refine r.poke pO (fun ps z => by cases z) ⟨⟨dx, putF f v vs, as, upd_same, ?_, g3, ?_⟩, r.oa.nd, r.oa.sub⟩
  · rw [hid_in pM]
    exact q.move (fun _ _ z => z) (fun _ _ _ z => z) (fun _ _ z => z) fun a ha => upd_ne fun z => nd (by rw [← z]; exact ha)
  · rw [q.len, setF_len hl, ← g2.len]
    exact g4
theorem sm_fld {i : Nat} {f : Str} {x y : PD} (h : EM k te ρ F y) (hs : isSelf k ρ i) (cl : Cls k.K k.C) (na : NoAttr k.K k.C f) (hl : F.lookup f = some (.d x)) (q : D.nx ρ (setF f (.d y) F)) : SM k (sFld k.K (tVar i) te f) D ρ F := fun E L σ H r => h.run r fun v H1 r1 _ h1 => by
  obtain ⟨dx, vs, as, g1, g2, g3, g4⟩ := r1.oa.ex
  exact ⟨_, self_at r1 hs, k.p, k.C, dx, vs, rfl, g1, cl, na, g4, L.nx _ _ _ _ (r1.putD hl h1 g1) q⟩
theorem sm_fldaug {i : Nat} {f : Str} {m n : Int} (hs : isSelf k ρ i) (cl : Cls k.K k.C) (na : NoAttr k.K k.C f) (hl : F.lookup f = some (.d (.int m))) (h : EM k te ρ F (.int n)) (q : D.nx ρ (setF f (.d (.int (m + n))) F)) : SM k (sFldAug k.K (tVar i) te rAdd f) D ρ F := fun E L σ H r => by
  obtain ⟨dx, vs, as, g1, g2, g3, g4⟩ := r.oa.ex
  obtain ⟨v, e1, e2⟩ := g2.lookD hl
  refine ⟨_, self_at r hs, k.p, k.C, dx, vs, v, rfl, g1, cl, na, e1, h.run r fun w H1 r1 k1 h1 => ⟨m, n, dp_int e2, dp_int h1, ?_⟩⟩
  obtain ⟨dx', vs', as', f1, f2, f3, f4⟩ := r1.oa.ex
  exact ⟨dx', vs', f1, f4, L.nx _ _ _ _ (r1.putD hl (.int _) f1) q⟩
/-- self.f[j] = e -/
theorem SRM.putL {σ : L2.St} {H : Hp} (r : SRM k σ H ρ F) {f : Str} {ds es : List PD} {ys : List V} {dx a : Addr} {vs : List (Str × V)} (h1 : H k.p = some (.ins k.C dx vs)) (hl : F.lookup f = some (.l ds)) (ha : vs.lookup f = some (.ref a)) (hy : DpAll k.K (hid k.M H) ys es) : SRM k σ (upd H a (.lst ys)) ρ (setF f (.l es) F) := by
  obtain ⟨dx', vs', as, g1, g2, g3, g4⟩ := r.oa.ex
  rw [h1] at g1
  cases g1
  obtain ⟨b, xs, e1, e2, e3, e4⟩ := g2.lookL hl
  rw [ha] at e1
  cases e1
  have aO : a ∈ k.O := by rw [g3]; exact List.mem_cons_of_mem _ e2
  have nd := r.oa.nd
  rw [g3] at nd
  have nd' := List.nodup_cons.mp nd
  refine r.poke aO (fun ps z => by cases z) ⟨⟨dx, vs, as, ?_, ?_, g3, g4⟩, r.oa.nd, r.oa.sub⟩
  · rw [upd_ne (fun z => nd'.1 (by rw [z]; exact e2))]
    exact h1
  · rw [hid_in (r.oa.sub a aO)]
    exact g2.poke hy nd'.2 hl ha
theorem sm_item {i : Nat} {f : Str} {ds : List PD} {n : Int} {j : Nat} {y : PD} (h : EM k te ρ F y) (hk : EM k tk ρ F (.int n)) (hs : isSelf k ρ i) (cl : Cls k.K k.C) (na : NoAttr k.K k.C f) (hl : F.lookup f = some (.l ds)) (hj : ixN ds.length n = some j) (q : D.nx ρ (setF f (.l (ds.set j y)) F)) : SM k (tAsg te (gSub (tFld k.K (tVar i) f) tk rSetL)) D ρ F := fun E L σ H r => h.run r fun v H1 r1 k1 h1 => by
  obtain ⟨dx, vs, as, g1, g2, g3, g4⟩ := r1.oa.ex
  obtain ⟨a, xs, e1, e2, e3, e4⟩ := g2.lookL hl
  refine ⟨_, self_at r1 hs, k.p, k.C, dx, vs, _, rfl, g1, cl, na, e1, hk.run r1 fun w H2 r2 k2 h2 => ?_⟩
  have tm := tabs_hid r1.sr.tab fun a h => (r1.sr.msk a h).1
  have aT : a ∉ k.T := r1.oa.nT r1.sr.tab a (by rw [g3]; exact List.mem_cons_of_mem _ e2)
  have pT : k.p ∉ k.T := r1.oa.nT r1.sr.tab k.p (by rw [g3]; exact List.mem_cons_self)
  have e5 := dps_keep (hid_keep k2) tm e4
  exact ⟨a, xs, n, j, rfl, dp_int h2, k2.at_ _ _ e3 aT, by rw [dps_len e4]; exact hj, L.nx _ _ _ _ (r2.putL (k2.at_ _ _ g1 pT) hl e1 (dps_set j e5 (dp_keep (hid_keep k2) tm h1))) q⟩
/-- self.f[j] += e, ints -/
theorem sm_itemaug {i : Nat} {f : Str} {ds : List PD} {n : Nat} {a b : Int} {g : Int → Int → Int} (hk : EM k tk ρ F (.int (n : Int))) (h : EM k te ρ F (.int b)) (hs : isSelf k ρ i) (cl : Cls k.K k.C) (na : NoAttr k.K k.C f) (hl : F.lookup f = some (.l ds)) (hz : ds.length ≤ 1000) (hj : ds[n]? = some (.int a)) (q : D.nx ρ (setF f (.l (ds.set n (.int (g a b)))) F)) : SM k (tAugS (tFld k.K (tVar i) f) tk te (getL k.K) (ipI g) rSetL) D ρ F := fun E L σ H r => by
  obtain ⟨dx, vs, as, g1, g2, g3, g4⟩ := r.oa.ex
  obtain ⟨l, xs, e1, e2, e3, e4⟩ := g2.lookL hl
  have tm := tabs_hid r.sr.tab fun a h => (r.sr.msk a h).1
  have aT : l ∉ k.T := r.oa.nT r.sr.tab l (by rw [g3]; exact List.mem_cons_of_mem _ e2)
  have pT : k.p ∉ k.T := r.oa.nT r.sr.tab k.p (by rw [g3]; exact List.mem_cons_self)
  have hn : n < ds.length := (List.getElem?_eq_some_iff.mp hj).1
  refine ⟨_, self_at r hs, k.p, k.C, dx, vs, _, rfl, g1, cl, na, e1, hk.run r fun w H1 r1 k1 h1 => ?_⟩
  have e5 := dps_keep (hid_keep k1) tm e4
  obtain ⟨z, z1, z2⟩ := dps_get e5 hj
  have ez := dp_int z2
  subst ez
  refine ⟨l, xs, (n : Int), _, rfl, dp_int h1, by omega, by omega, SqL.of (k1.at_ _ _ e3 aT), by rw [Int.toNat_natCast]; exact z1, h.run r1 fun u H2 r2 k2 h2 => ⟨a, b, rfl, dp_int h2, ?_⟩⟩
  have tm1 := tabs_hid r1.sr.tab fun a h => (r1.sr.msk a h).1
  have k12 := k1.trans k2
  refine ⟨l, xs, (n : Int), n, rfl, dp_int h1, k12.at_ _ _ e3 aT, ?_, L.nx _ _ _ _ (r2.putL (k12.at_ _ _ g1 pT) hl e1 (dps_set n (dps_keep (hid_keep k2) tm1 e5) (.int _))) q⟩
  unfold ixN
  have := dps_len e4
  rw [if_pos (by omega), if_pos (by omega)]
  simp
end
end DL
/-! methods of an object that changes -/
namespace DL
open PySem PySem.Spec PyProof.Rows L2 DA
abbrev RM := List (Str × MF) → List DS → PD → List (Str × MF) → Prop
def spM (K : PySem.W.Frag) (T : List Addr) (C : Addr) (R : RM) : Sp := fun vs H Q _ => ∃ M p O F ss d F', (∀ a ∈ M, a ∉ T ∧ H a ≠ none) ∧ Tabs T H ∧ OA K M H p C F O ∧ ArgsOk K (hid M H) vs (.raw (.ref p) :: ss) ∧ R F ss d F' ∧
  ∀ v H', Dp K (hid M H') v d → OA K M H' p C F' O → KeepX T O H H' → Q v H'
section
variable {P : Program} {w : World} {K : PySem.W.Frag} {mg : Str → Option Value} {base : Heap}
theorem fn_sm {T : List Addr} {C : Addr} {x qual : Str} {st : Stmt} {f : Addr} {fd : FuncData} {N ps : List Str} {k : Nat} {R : RM} (F : Fun K x qual st f fd) (S : FnScope N ps (defScope st)) (hl : ∀ F ss d F', R F ss d F' → ss.length + 1 = ps.length)
    (hb : ∀ (cdv : Value) (A : Around) (outer : List Env) (s : Shared) (H : Hp) (E : XK), Room k (A.deeper (envOfC qual (defScope st) s.heap.objs.size f cdv)) →
      ∃ t, PSs (cxOf CX0 P w K mg base N qual (defScope st) f cdv A outer s H E).nox (defBody st) t ∧ ∀ M p O H0 F ss d F', R F ss d F' → SM ⟨K, T, M, p, C, O, H0⟩ t ⟨fun _ F2 => d = .none ∧ F2 = F', fun e F2 => e = d ∧ F2 = F'⟩ (startD N (.raw (.ref p) :: ss)) F) : FnOk P w K mg base CX0 (k + 1) f fd ps (spM K T C R) := by
  refine F.ok S (fun vs H Q E h => ?_) (fun cdv A outer s H vs Q E hr h => ?_)
  · obtain ⟨M, p, O, F, ss, d, F', _, _, _, h3, h4, _⟩ := h
    rw [h3.len]
    exact hl F ss d F' h4
  · obtain ⟨M, p, O, F, ss, d, F', h1, h2, ho, h3, h4, q⟩ := h
    obtain ⟨t, ht, hq⟩ := hb cdv A outer s H E hr
    refine ⟨t, ht, hq M p O H F ss d F' h4 _ ⟨fun σ' H' ρ' F2 r' e => ?_, fun v H' e F2 h5 h6 h7 h8 => ?_⟩ _ H ⟨start_sr h1 h2 h3, ho, .refl⟩⟩
    · obtain ⟨e, rfl⟩ := e
      subst e
      exact q .non H' .non r'.oa r'.kx
    · obtain ⟨rfl, rfl⟩ := h8
      exact q v H' h5 h6 h7
end
section
variable {k : OC} {ρ : DEnv} {F F' : List (Str × MF)} {D : MEnds} {t u : TS} {te tk : TE} {d : PD}
/-- the object has changed by a call -/
theorem SRM.called {σ : L2.St} {H H' : Hp} (r : SRM k σ H ρ F) (x : KeepX k.T k.O H H') (o : OA k.K k.M H' k.p k.C F' k.O) : SRM k σ H' ρ F' := by
  have tm : Tabs k.T (hid k.M H) := tabs_hid r.sr.tab fun a h => (r.sr.msk a h).1
  have kh : Keep k.T (hid k.M H) (hid k.M H') := x.hid r.oa.sub
  refine ⟨⟨x.tabs r.sr.tab, .refl, fun b hb => ⟨(r.sr.msk b hb).1, fun z => ?_⟩, fun b hb => (nomatch hb), r.sr.len, fun i s e => ?_, r.sr.inj⟩, o, r.kx.trans x⟩
  · have z : H' b = none := z
    by_cases m : b ∈ k.O
    · obtain ⟨y, e, _⟩ := o.none b m
      rw [e] at z; cases z
    · cases e : H b with
      | none => exact (r.sr.msk b hb).2 e
      | some y =>
        rw [x.at_ b y e (r.sr.msk b hb).1 m] at z
        cases z
  · obtain ⟨ov, h1, h2⟩ := r.sr.rel i s e
    refine ⟨ov, h1, ?_⟩
    have h2 : SlotOk k.K (hid (k.M ++ []) H) H [] ov s := h2
    show SlotOk k.K (hid (k.M ++ []) H') H' [] ov s
    rw [List.append_nil] at h2 ⊢
    cases s with
    | own ds =>
      cases ov with
      | none => exact h2
      | some v =>
        obtain ⟨b, xs, q1, q2, _⟩ := h2
        cases q2
    | non => cases ov <;> trivial
    | dat d =>
      cases ov with
      | none => exact h2
      | some v => exact dp_keep kh tm h2
    | ob C fs =>
      cases ov with
      | none => exact h2
      | some v => exact ObD.keep kh tm h2
    | raw w => cases ov <;> exact h2
def AM (k : OC) (ta : TA) (ρ : DEnv) (F : List (Str × MF)) (ss : List DS) : Prop := ∀ H, OA k.K k.M H k.p k.C F k.O → TB k.T k.M H → EA ⟨k.K, k.T, k.M, H⟩ ta ρ ss
theorem am_nil : AM k tNil ρ F [] := fun H o t => ea_nil
theorem am_d {tr : TA} {ss : List DS} (h : EM k te ρ F d) (hr : AM k tr ρ F ss) : AM k (tCons te tr) ρ F (.dat d :: ss) := fun H o t => ea_d (h H o t) (hr H o t)
theorem em_var {i : Nat} (h : ρ[i]? = some (.dat d)) : EM k (tVar i) ρ F d := fun H o t => ed_var h
theorem meth_run {σ : L2.St} {H : Hp} (r : SRM k σ H ρ F) {i : Nat} {m : Str} {R : RM} {ta : TA} {ss : List DS} {E : XK} (hs : isSelf k ρ i) (hm : F.lookup m = none) (ha : AM k ta ρ F ss) (hR : R F ss d F') {Q : VK} (q : ∀ v H', SRM k σ H' ρ F' → Dp k.K (hid k.M H') v d → Q v H') : tMeth k.C m (spM k.K k.T k.C R) [] E (tVar i) ta σ H Q := by
  obtain ⟨dx, vs, as, g1, g2, g3, g4⟩ := r.oa.ex
  refine ⟨_, self_at r hs, k.p, dx, vs, rfl, g1, g2.lookN hm, ha H r.oa r.tb [] σ H r.sr _ fun ws H1 k1 h1 => ?_⟩
  have r1 := r.move k1 (r.sr.move k1)
  rw [show (⟨k.K, k.T, k.M, H⟩ : DC).M ++ [] = k.M from List.append_nil _] at h1
  refine ⟨k.M, k.p, k.O, F, ss, d, F', r1.sr.msk, r1.sr.tab, r1.oa, ?_, hR, fun v H2 h2 o2 x2 => q v H2 (r1.called x2 o2) h2⟩
  rw [List.append_nil]
  exact .cons (show ArgOk k.K (hid k.M H1) (.ref k.p) (.raw (.ref k.p)) from rfl) h1
theorem sm_setM {i j : Nat} {m : Str} {R : RM} {ta : TA} {ss : List DS} {E : XK} (hs : isSelf k ρ i) (hm : F.lookup m = none) (ha : AM k ta ρ F ss) (hR : R F ss d F') (q : D.nx (ρ.set j (.dat d)) F') : SM k (tAsg (tMeth k.C m (spM k.K k.T k.C R) [] E (tVar i) ta) (gName j)) D ρ F := fun _ L σ H r =>
  meth_run r hs hm ha hR fun v H1 r1 h1 => L.nx _ _ _ _ (r1.setD j h1) q
theorem sm_dropM {i : Nat} {m : Str} {R : RM} {ta : TA} {ss : List DS} {E : XK} (hs : isSelf k ρ i) (hm : F.lookup m = none) (ha : AM k ta ρ F ss) (hR : R F ss d F') (q : D.nx ρ F') : SM k (tDrop (tMeth k.C m (spM k.K k.T k.C R) [] E (tVar i) ta)) D ρ F := fun _ L σ H r =>
  meth_run r hs hm ha hR fun v H1 r1 h1 => L.nx _ _ _ _ r1 q
/-- x = None if t else self.m(..) -/
theorem sm_setIfM {i j : Nat} {m : Str} {R : RM} {ta : TA} {tt : TT} {ss : List DS} {E : XK} {b : Bool} (ht : TM k tt ρ F b) (h1 : b = true → EM k te ρ F d ∧ D.nx (ρ.set j (.dat d)) F) (hs : isSelf k ρ i) (hm : F.lookup m = none) (ha : b = false → AM k ta ρ F ss) (hR : b = false → R F ss d F') (q : b = false → D.nx (ρ.set j (.dat d)) F') : SM k (tAsg (tIf tt te (tMeth k.C m (spM k.K k.T k.C R) [] E (tVar i) ta)) (gName j)) D ρ F := fun _ L σ H r =>
  ht.run r fun H1 r1 => by
    cases b with
    | true => exact (h1 rfl).1.run r1 fun v H2 r2 _ h2 => L.nx _ _ _ _ (r2.setD j h2) (h1 rfl).2
    | false => exact meth_run r1 hs hm (ha rfl) (hR rfl) fun v H2 r2 h2 => L.nx _ _ _ _ (r2.setD j h2) (q rfl)
/-- self.f, x = e -/
theorem sm_fldName {i j : Nat} {f : Str} {x a b : PD} (h : EM k te ρ F (.tuple [a, b])) (hs : isSelf k ρ i) (cl : Cls k.K k.C) (na : NoAttr k.K k.C f) (hl : F.lookup f = some (.d x)) (q : D.nx (ρ.set j (.dat b)) (setF f (.d a) F)) : SM k (tAsg te (gTup k.K 2 (gCons (gFld k.K (tVar i) f) (gCons (gName j) gNil)))) D ρ F := fun E L σ H r => h.run r fun v H1 r1 _ h1 => by
  obtain ⟨p, xs, rfl, h2, h3⟩ := dp_tup h1
  cases h3 with
  | cons a1 h3 =>
    cases h3 with
    | cons a2 h3 =>
      cases h3
      obtain ⟨dx, vs, as, g1, g2, g3, g4⟩ := r1.oa.ex
      have pM : k.p ∈ k.M := r1.oa.sub _ (by rw [g3]; exact List.mem_cons_self)
      refine ⟨p, _, rfl, sqt_same hid_same h2, rfl, _, _, rfl, ⟨_, self_at r1 hs, k.p, k.C, dx, vs, rfl, g1, cl, na, g4, _, _, rfl, rfl, L.nx _ _ _ _ ((r1.putD hl a1 g1).setD j ?_) q⟩⟩
      rw [hid_in pM]
      exact a2
/-- for x in t: a tuple of data; the body may change the object -/
theorem sm_forT {ds : List PD} {j : Nat} {tb : TS} (h : EM k te ρ F (.tuple ds)) (Inv : Nat → DEnv → List (Str × MF) → Prop) (h0 : Inv 0 ρ F)
    (hs : ∀ i d ρ' F' Hs, ds[i]? = some d → Inv i ρ' F' → SM ⟨k.K, k.T, k.M, k.p, k.C, k.O, Hs⟩ tb ⟨fun ρ2 F2 => Inv (i + 1) ρ2 F2, D.rt⟩ (ρ'.set j (.dat d)) F')
    (hd : ∀ ρ' F', Inv ds.length ρ' F' → D.nx ρ' F') : SM k (tFor (iTup k.K te) (gName j) tb) D ρ F := fun E L σ H r => h.run r fun v H1 r1 _ h1 => by
  obtain ⟨a, xs, rfl, h2, h3⟩ := dp_tup h1
  have tm := tabs_hid r1.sr.tab fun a h => (r1.sr.msk a h).1
  have back : ∀ {σ' H' ρ' F'}, SRM ⟨k.K, k.T, k.M, k.p, k.C, k.O, H1⟩ σ' H' ρ' F' → SRM k σ' H' ρ' F' := fun r' => ⟨r'.sr, r'.oa, r1.kx.trans r'.kx⟩
  have tups : ∀ {σ' H' ρ' F'}, SRM ⟨k.K, k.T, k.M, k.p, k.C, k.O, H1⟩ σ' H' ρ' F' → SqT k.K H' a xs ∧ DpAll k.K (hid k.M H') xs ds := fun r' => by
    have kh := r'.kx.hid r'.oa.sub
    exact ⟨sqt_same hid_same (kh.sqT tm h2), dps_keep kh tm h3⟩
  refine ⟨a, rfl, ⟨xs, sqt_same hid_same h2⟩, for_tup (fun i σ' H' => ∃ ρ' F', SRM ⟨k.K, k.T, k.M, k.p, k.C, k.O, H1⟩ σ' H' ρ' F' ∧ Inv i ρ' F') ⟨ρ, F, ⟨r1.sr, r1.oa, .refl⟩, h0⟩ (fun i σ' H' _ ⟨ρ', F', r', _⟩ => (tups r').1) ?_ ?_⟩
  · rintro i x σ' H' hx ⟨ρ', F', r', hv⟩
    have s2 := (tups r').2
    obtain ⟨d, hd', hx'⟩ := dps_at s2 hx
    refine hs i d ρ' F' H1 hd' hv { E with nx := fun σ2 H2 => ∃ ρ2 F2, SRM ⟨k.K, k.T, k.M, k.p, k.C, k.O, H1⟩ σ2 H2 ρ2 F2 ∧ Inv (i + 1) ρ2 F2, ct := fun σ2 H2 => ∃ ρ2 F2, SRM ⟨k.K, k.T, k.M, k.p, k.C, k.O, H1⟩ σ2 H2 ρ2 F2 ∧ Inv (i + 1) ρ2 F2, bk := E.nx } ⟨fun σ2 H2 ρ2 F2 r2 q => ⟨ρ2, F2, r2, q⟩, fun v2 H2 d2 F2 q1 q2 q3 q4 => L.rt v2 H2 d2 F2 q1 q2 (r1.kx.trans q3) q4⟩ _ H' (r'.setD j hx')
  · rintro σ' H' ⟨ρ', F', r', hv⟩
    rw [dps_len h3] at hv
    exact L.nx _ _ _ _ (back r') (hd ρ' F' hv)
end
end DL
/-! walks over the lists of an object that stands still meanwhile -/
namespace DL
open PySem PySem.Spec PyProof.Rows L2 DA
def FL (c : DC) (te : TE) (ρ : DEnv) (ds : List PD) : Prop := ∀ A σ H, SR c A σ H ρ → ∀ Q : VK, (∀ a xs, c.H0 a = some (.lst xs) → DpAll c.K (hid c.M c.H0) xs ds → Q (.ref a) H) → te σ H Q
section
variable {c : DC} {ρ : DEnv} {te : TE} {ds : List PD}
theorem fl_mfld {i : Nat} {p C dx a : Addr} {fs : List (Str × V)} {f : Str} {xs : List V} (h : ρ[i]? = some (.raw (.ref p))) (h0 : c.H0 p = some (.ins C dx fs)) (cl : Cls c.K C) (na : NoAttr c.K C f) (hl : fs.lookup f = some (.ref a)) (ha : c.H0 a = some (.lst xs)) (hd : DpAll c.K (hid c.M c.H0) xs ds) : FL c (tFld c.K (tVar i) f) ρ ds := fun A σ H r Q q => by
  obtain ⟨ov, h1, h2⟩ := r.rel i _ h
  cases ov with
  | none => exact False.elim h2
  | some w =>
    have e : w = .ref p := h2
    subst e
    exact ⟨_, h1, p, C, dx, fs, _, rfl, fld_at r h0, cl, na, hl, q a xs ha hd⟩
theorem el_fl (h : FL c te ρ ds) : EL c te ρ ds := fun A σ H r Q q => h A σ H r Q fun a xs h1 h2 => q a xs H .refl (SqL.of (r.keep.at_ _ _ h1 (nT_of r.tab h1 fun ps z => by cases z))) (dps_keep (base_dp r) (base_tab r) h2)
/-- the list, at every later turn -/
theorem fl_base {A A' : List Addr} {σ σ' : L2.St} {H H' : Hp} {ρ ρ' : DEnv} {a : Addr} {xs : List V} (r : SR c A σ H ρ) (r' : SR (c.up A H) A' σ' H' ρ') (h1 : c.H0 a = some (.lst xs)) (h2 : DpAll c.K (hid c.M c.H0) xs ds) : SqL c.K H' a xs ∧ DpAll c.K (hid (c.M ++ A') H') xs ds := by
  have aT : a ∉ c.T := nT_of r.tab h1 fun ps z => by cases z
  have aA : a ∉ A := fun m => by
    rw [(r.new a m).1] at h1
    cases h1
  have e1 : H a = some (.lst xs) := r.keep.at_ _ _ h1 aT
  have e2 : H' a = some (.lst xs) := r'.keep.at_ a _ (hid_of aA e1) aT
  exact ⟨SqL.of e2, dps_keep (upk r r') r.tabm (dps_keep (base_dp r) (base_tab r) h2)⟩
theorem id_listF (h : FL c te ρ ds) : ID c (iList c.K te) ρ ds := fun A σ H r R q => h A σ H r _ fun a xs h1 h2 => by
  have aT : a ∉ c.T := nT_of r.tab h1 fun ps z => by cases z
  refine ⟨a, rfl, ⟨xs, SqL.of (r.keep.at_ _ _ h1 aT)⟩, q _ H .refl ⟨fun i A' σ' H' ρ' r' hi => ?_, fun i A' σ' H' ρ' x H2 r' y d hd => ?_, fun i A' σ' H' ρ' r' hi => ?_⟩⟩
  · obtain ⟨s1, s2⟩ := fl_base r r' h1 h2
    have hx : i < xs.length := by rw [dps_len s2]; exact hi
    exact ⟨xs, xs[i], s1, List.getElem?_eq_getElem hx⟩
  · obtain ⟨s1, s2⟩ := fl_base r r' h1 h2
    obtain ⟨rfl, y⟩ := y
    obtain ⟨w, e1, e2⟩ := dps_get s2 hd
    rw [y xs s1] at e1
    cases e1
    exact ⟨.refl, e2⟩
  · obtain ⟨s1, s2⟩ := fl_base r r' h1 h2
    exact ⟨xs, s1, by rw [dps_len s2]; exact hi⟩
theorem id_enumF (h : FL c te ρ ds) : ID c (iEnum c.K (tCons te tNil)) ρ (enumD ds) := fun A σ H r R q => h A σ H r _ fun a xs h1 h2 => by
  have aT : a ∉ c.T := nT_of r.tab h1 fun ps z => by cases z
  refine ⟨a, xs, rfl, SqL.of (r.keep.at_ _ _ h1 aT), q _ H .refl ⟨fun i A' σ' H' ρ' r' hi => ?_, fun i A' σ' H' ρ' x H2 r' y d hd => ?_, fun i A' σ' H' ρ' r' hi => ?_⟩⟩
  · obtain ⟨s1, s2⟩ := fl_base r r' h1 h2
    rw [enumD_len] at hi
    have hx : i < xs.length := by rw [dps_len s2]; exact hi
    exact ⟨xs, xs[i], s1, List.getElem?_eq_getElem hx⟩
  · obtain ⟨s1, s2⟩ := fl_base r r' h1 h2
    obtain ⟨T, y0, rfl, hT, rfl, y⟩ := y
    obtain ⟨d0, hd0, rfl⟩ := enumD_get hd
    obtain ⟨w, e1, e2⟩ := dps_get s2 hd0
    rw [y xs s1] at e1
    cases e1
    exact new_item (c := c.up A H) r' hT e2
  · obtain ⟨s1, s2⟩ := fl_base r r' h1 h2
    rw [enumD_len] at hi
    exact ⟨xs, s1, by rw [dps_len s2]; exact hi⟩
/-- the field of an object that changes elsewhere -/
theorem fl_fld {k : OC} {F : List (Str × MF)} {i : Nat} {f : Str} {H1 : Hp} (hs : isSelf k ρ i) (cl : Cls k.K k.C) (na : NoAttr k.K k.C f) (hl : F.lookup f = some (.l ds)) {H : Hp} (o : OA k.K k.M H k.p k.C F k.O) : FL ⟨k.K, k.T, k.M, H⟩ (tFld k.K (tVar i) f) ρ ds := by
  obtain ⟨dx, vs, as, h1, h2, h3, h4⟩ := o.ex
  obtain ⟨a, xs, e1, e2, e3, e4⟩ := h2.lookL hl
  exact fl_mfld hs h1 cl na e1 e3 e4
end
section
variable {K : PySem.W.Frag} {T M : List Addr} {H : Hp} {p C : Addr} {O : List Addr} {F : List (Str × MF)} {ρ : DEnv} {i : Nat} {f : Str}
theorem od_fld {d : PD} (o : OA K M H p C F O) (hs : ρ[i]? = some (.raw (.ref p))) (cl : Cls K C) (na : NoAttr K C f) (hl : F.lookup f = some (.d d)) : ED ⟨K, T, M, H⟩ (tFld K (tVar i) f) ρ d := by
  obtain ⟨dx, vs, as, h1, h2, h3, h4⟩ := o.ex
  obtain ⟨v, e1, e2⟩ := h2.lookD hl
  exact ed_mfld hs h1 cl na e1 e2
theorem of_fld {ds : List PD} (o : OA K M H p C F O) (hs : ρ[i]? = some (.raw (.ref p))) (cl : Cls K C) (na : NoAttr K C f) (hl : F.lookup f = some (.l ds)) : FL ⟨K, T, M, H⟩ (tFld K (tVar i) f) ρ ds := by
  obtain ⟨dx, vs, as, h1, h2, h3, h4⟩ := o.ex
  obtain ⟨a, xs, e1, e2, e3, e4⟩ := h2.lookL hl
  exact fl_mfld hs h1 cl na e1 e3 e4
theorem ol_fld {ds : List PD} (o : OA K M H p C F O) (hs : ρ[i]? = some (.raw (.ref p))) (cl : Cls K C) (na : NoAttr K C f) (hl : F.lookup f = some (.l ds)) : EL ⟨K, T, M, H⟩ (tFld K (tVar i) f) ρ ds := el_fl (of_fld o hs cl na hl)
theorem og_fld {C2 : Addr} {fs : List (Str × PD)} (o : OA K M H p C F O) (hs : ρ[i]? = some (.raw (.ref p))) (cl : Cls K C) (na : NoAttr K C f) (hl : F.lookup f = some (.o C2 fs)) : EG ⟨K, T, M, H⟩ (tFld K (tVar i) f) ρ (.ob C2 fs) := eg_fld (k := ⟨K, T, M, p, C, O, H⟩) (F := F) hs cl na hl o
end
end DL
/-! an object is made: its fields come one after the other -/
namespace DL
open PySem PySem.Spec PyProof.Rows L2 DA
theorem putF_new {f : Str} {v : V} : ∀ {vs : List (Str × V)}, vs.lookup f = none → putF f v vs = vs ++ [(f, v)]
  | [], _ => rfl
  | (g, x) :: r, h => by
    rw [List.lookup_cons] at h
    show (if g = f then _ else _) = _
    by_cases e : g = f
    · rw [show (f == g) = true from beq_iff_eq.mpr e.symm] at h; cases h
    · rw [if_neg e]
      rw [show (f == g) = false from beq_eq_false_iff_ne.mpr (Ne.symm e)] at h
      show (g, x) :: putF f v r = (g, x) :: (r ++ [(f, v)])
      rw [putF_new h]
section
variable {K : PySem.W.Frag} {Hm H : Hp}
theorem FsM.addD {f : Str} {v : V} {x : PD} (hv : Dp K Hm v x) {vs : List (Str × V)} {F : List (Str × MF)} {as : List Addr} (r : FsM K Hm H vs F as) : FsM K Hm H (vs ++ [(f, v)]) (F ++ [(f, .d x)]) as := by
  induction r with
  | nil => exact .d hv .nil
  | d a _ ih => exact .d a ih
  | o a _ ih => exact .o a ih
  | l e a _ ih => exact .l e a ih
theorem FsM.addO {f : Str} {v : V} {C : Addr} {fs : List (Str × PD)} (hv : ObD K Hm v C fs) {vs : List (Str × V)} {F : List (Str × MF)} {as : List Addr} (r : FsM K Hm H vs F as) : FsM K Hm H (vs ++ [(f, v)]) (F ++ [(f, .o C fs)]) as := by
  induction r with
  | nil => exact .o hv .nil
  | d a _ ih => exact .d a ih
  | o a _ ih => exact .o a ih
  | l e a _ ih => exact .l e a ih
theorem FsM.addL {f : Str} {b : Addr} {xs : List V} {ds : List PD} (hb : H b = some (.lst xs)) (hv : DpAll K Hm xs ds) {vs : List (Str × V)} {F : List (Str × MF)} {as : List Addr} (r : FsM K Hm H vs F as) : FsM K Hm H (vs ++ [(f, .ref b)]) (F ++ [(f, .l ds)]) (as ++ [b]) := by
  induction r with
  | nil => exact .l hb hv .nil
  | d a _ ih => exact .d a ih
  | o a _ ih => exact .o a ih
  | l e a _ ih => exact .l e a ih
end
structure IC where
  K : PySem.W.Frag
  T : List Addr
  M : List Addr
  p : Addr
  C : Addr
  Hs : Hp
abbrev IC.oc (k : IC) (O : List Addr) : OC := ⟨k.K, k.T, O ++ k.M, k.p, k.C, O, k.Hs⟩
def SRI (k : IC) (σ : L2.St) (H : Hp) (ρ : DEnv) (F : List (Str × MF)) : Prop := ∃ O, SRM (k.oc O) σ H ρ F ∧ ∀ a ∈ O, a ≠ k.p → k.Hs a = none
structure LeI (k : IC) (nx : DEnv → List (Str × MF) → Prop) (E : Ends) : Prop where
  nx : ∀ σ H ρ F, SRI k σ H ρ F → nx ρ F → E.nx σ H
def SI (k : IC) (t : TS) (nx : DEnv → List (Str × MF) → Prop) (ρ : DEnv) (F : List (Str × MF)) : Prop := ∀ E, LeI k nx E → ∀ σ H, SRI k σ H ρ F → t E σ H
section
variable {k : IC} {ρ : DEnv} {F : List (Str × MF)} {nx : DEnv → List (Str × MF) → Prop} {t u : TS} {te : TE} {d : PD}
theorem si_seq (h : SI k t (fun ρ' F' => SI k u nx ρ' F') ρ F) : SI k (tSeq t u) nx ρ F := fun E L σ H r => h { E with nx := u E } ⟨fun σ' H' ρ' F' r' q => q E L σ' H' r'⟩ σ H r
/-- the object's own record has changed, nothing else -/
theorem SRM.own {k : OC} {σ : L2.St} {H : Hp} {F F' : List (Str × MF)} {ρ : DEnv} (r : SRM k σ H ρ F) {dx : Addr} {vs vs' : List (Str × V)} (h1 : H k.p = some (.ins k.C dx vs)) (hf : ∀ as, FsM k.K (hid k.M H) H vs F as → FsM k.K (hid k.M H) H vs' F' as) (hz : vs'.length < 1000) : SRM k σ (upd H k.p (.ins k.C dx vs')) ρ F' := by
  obtain ⟨dx', vs0, as, g1, g2, g3, g4⟩ := r.oa.ex
  rw [h1] at g1
  cases g1
  have pO : k.p ∈ k.O := by rw [g3]; exact List.mem_cons_self
  have nd := r.oa.nd
  rw [g3] at nd
  have nd' := List.nodup_cons.mp nd
  refine r.poke pO (fun ps z => by cases z) ⟨⟨dx, vs', as, upd_same, ?_, g3, hz⟩, r.oa.nd, r.oa.sub⟩
  rw [hid_in (r.oa.sub _ pO)]
  exact (hf as g2).move (fun _ _ z => z) (fun _ _ _ z => z) (fun _ _ z => z) fun a ha => upd_ne fun z => nd'.1 (by rw [← z]; exact ha)
theorem si_fldD {i : Nat} {f : Str} (h : ∀ O, EM (k.oc O) te ρ F d) (hs : ρ[i]? = some (.raw (.ref k.p))) (cl : Cls k.K k.C) (na : NoAttr k.K k.C f) (hl : F.lookup f = none) (hz : F.length ≤ 900) (q : nx ρ (F ++ [(f, .d d)])) : SI k (sFld k.K (tVar i) te f) nx ρ F := fun E L σ H ⟨O, r, hO⟩ => (h O).run r fun v H1 r1 _ h1 => by
  obtain ⟨dx, vs, as, g1, g2, g3, g4⟩ := r1.oa.ex
  have e := putF_new (v := v) (g2.lookN hl)
  refine ⟨_, self_at (k := k.oc O) r1 hs, k.p, k.C, dx, vs, rfl, g1, cl, na, g4, L.nx _ _ _ _ ⟨O, ?_, hO⟩ q⟩
  rw [e]
  exact r1.own g1 (fun as' z => z.addD h1) (by rw [List.length_append, g2.len]; simp; omega)
theorem si_fldO {i : Nat} {f : Str} {C2 : Addr} {fs : List (Str × PD)} (h : ∀ O H, OA k.K (O ++ k.M) H k.p k.C F O → TB k.T (O ++ k.M) H → EG ⟨k.K, k.T, O ++ k.M, H⟩ te ρ (.ob C2 fs)) (hs : ρ[i]? = some (.raw (.ref k.p))) (cl : Cls k.K k.C) (na : NoAttr k.K k.C f) (hl : F.lookup f = none) (hz : F.length ≤ 900) (q : nx ρ (F ++ [(f, .o C2 fs)])) : SI k (sFld k.K (tVar i) te f) nx ρ F := fun E L σ H ⟨O, r, hO⟩ =>
  h O H r.oa r.tb [] σ H r.sr _ fun v H1 k1 h1 => by
    have r1 := r.move k1 (r.sr.move k1)
    have h1 : ObD k.K (hid ((O ++ k.M) ++ []) H1) v C2 fs := h1
    rw [List.append_nil] at h1
    obtain ⟨dx, vs, as, g1, g2, g3, g4⟩ := r1.oa.ex
    have e := putF_new (v := v) (g2.lookN hl)
    refine ⟨_, self_at (k := k.oc O) r1 hs, k.p, k.C, dx, vs, rfl, g1, cl, na, g4, L.nx _ _ _ _ ⟨O, ?_, hO⟩ q⟩
    rw [e]
    exact r1.own g1 (fun as' z => z.addO h1) (by rw [List.length_append, g2.len]; simp; omega)
theorem hid_more {T M : List Addr} {H H' : Hp} {b : Addr} (k : Keep T H H') (hb : H b = none) : Keep T (hid M H) (hid (b :: M) H') := by
  refine ⟨fun c o e n => ?_, fun P hP tb => ?_⟩
  · obtain ⟨m, e⟩ := hid_inv e
    refine hid_of (fun q => ?_) (k.at_ c o e n)
    rcases List.mem_cons.mp q with q | q
    · rw [q, hb] at e; cases e
    · exact m q
  · obtain ⟨ps, e, ok⟩ := tb
    obtain ⟨m, e⟩ := hid_inv e
    obtain ⟨ps', e', ok'⟩ := k.tab P hP ⟨ps, e, ok⟩
    refine ⟨ps', hid_of (fun q => ?_) e', ok'⟩
    rcases List.mem_cons.mp q with q | q
    · rw [q, hb] at e; cases e
    · exact m q
theorem si_fldL {i : Nat} {f : Str} {ds : List PD} (h : ∀ O H, OA k.K (O ++ k.M) H k.p k.C F O → TB k.T (O ++ k.M) H → EN ⟨k.K, k.T, O ++ k.M, H⟩ te ρ ds) (hs : ρ[i]? = some (.raw (.ref k.p))) (cl : Cls k.K k.C) (na : NoAttr k.K k.C f) (hl : F.lookup f = none) (hz : F.length ≤ 900) (q : nx ρ (F ++ [(f, .l ds)])) : SI k (sFld k.K (tVar i) te f) nx ρ F := fun E L σ H ⟨O, r, hO⟩ =>
  h O H r.oa r.tb [] σ H r.sr _ fun b xs H1 k1 hb h1 h2 => by
    have h2 : DpAll k.K (hid (b :: ((O ++ k.M) ++ [])) H1) xs ds := h2
    rw [List.append_nil] at h2
    obtain ⟨dx, vs, as, g1, g2, g3, g4⟩ := r.oa.ex
    have tm : Tabs k.T (hid (O ++ k.M) H) := tabs_hid r.sr.tab fun a h => (r.sr.msk a h).1
    have pT : k.p ∉ k.T := r.oa.nT r.sr.tab k.p (by rw [show (k.oc O).O = O from rfl] at g3; rw [g3]; exact List.mem_cons_self)
    have g3 : O = k.p :: as := g3
    have e1 : H1 k.p = some (.ins k.C dx vs) := k1.at_ _ _ g1 pT
    have e := putF_new (v := V.ref b) (g2.lookN hl)
    have km : Keep k.T (hid (O ++ k.M) H) (hid (b :: (O ++ k.M)) H1) := hid_more k1 hb
    have nbO : b ∉ O := fun m => by
      obtain ⟨x, q, _⟩ := r.oa.none b m
      rw [hb] at q; cases q
    have nbM : ∀ a ∈ O ++ k.M, a ≠ b := fun a ha z => (r.sr.msk a ha).2 (by rw [z]; exact hb)
    have bT : b ∉ k.T := fun m => by
      obtain ⟨ps, q, _⟩ := (k1.tabs r.sr.tab) b m
      rw [h1] at q; cases q
    have cong : hid ((O ++ [b]) ++ k.M) H1 = hid (b :: (O ++ k.M)) H1 := hid_cong fun a => by simp [or_left_comm, or_assoc]
    have fm : FsM k.K (hid ((O ++ [b]) ++ k.M) H1) H1 vs F as := by
      rw [cong]
      refine g2.move (fun v x z => dp_keep km tm z) (fun v C fs z => ObD.keep km tm z) (fun vs xs z => dps_keep km tm z) fun a ha => ?_
      obtain ⟨x, q, n⟩ := r.oa.none a (by show a ∈ O; rw [g3]; exact List.mem_cons_of_mem _ ha)
      rw [q]
      exact k1.at_ _ _ q (nT_of r.sr.tab q n)
    have oa1 : OA k.K ((O ++ [b]) ++ k.M) (upd H1 k.p (.ins k.C dx (vs ++ [(f, .ref b)]))) k.p k.C (F ++ [(f, .l ds)]) (O ++ [b]) := by
      have pin : k.p ∈ (O ++ [b]) ++ k.M := by rw [g3]; simp
      have pb : k.p ≠ b := nbM k.p (by rw [g3]; simp)
      refine ⟨⟨dx, vs ++ [(f, .ref b)], as ++ [b], upd_same, ?_, by rw [g3]; rfl, ?_⟩, ?_, fun a ha => List.mem_append_left _ ha⟩
      · rw [hid_in pin]
        refine (fm.addL (f := f) h1 (by rw [cong]; exact h2)).move (fun _ _ z => z) (fun _ _ _ z => z) (fun _ _ z => z) fun a ha => upd_ne fun z => ?_
        rcases List.mem_append.mp ha with ha | ha
        · have nd := r.oa.nd
          rw [show (k.oc O).O = O from rfl, g3] at nd
          exact (List.nodup_cons.mp nd).1 (by rw [← z]; exact ha)
        · have := List.mem_singleton.mp ha
          exact pb (by rw [← z]; exact this)
      · rw [List.length_append, g2.len]; simp; omega
      · rw [List.nodup_append]
        refine ⟨r.oa.nd, by simp, fun a ha c hc => ?_⟩
        rw [List.mem_singleton.mp hc]
        exact fun z => nbO (by rw [← z]; exact ha)
    refine ⟨_, self_at (k := k.oc O) (r.move k1 (r.sr.move k1)) hs, k.p, k.C, dx, vs, rfl, e1, cl, na, g4, L.nx _ _ _ _ ⟨O ++ [b], ?_, fun a ha hne => ?_⟩ q⟩
    · rw [e]
      have tb1 : Tabs k.T (upd H1 k.p (.ins k.C dx (vs ++ [(f, .ref b)]))) := fun P hP => by
        obtain ⟨ps, q, ok⟩ := (k1.tabs r.sr.tab) P hP
        exact ⟨ps, by rw [upd_ne (fun z => pT (by rw [← z]; exact hP))]; exact q, ok⟩
      have pin : k.p ∈ (O ++ [b]) ++ k.M := by rw [g3]; simp
      have hh : hid ((O ++ [b]) ++ k.M) (upd H1 k.p (.ins k.C dx (vs ++ [(f, .ref b)]))) = hid (b :: (O ++ k.M)) H1 := by rw [hid_in pin, cong]
      refine ⟨⟨tb1, .refl, fun a ha => ?_, fun b hb => (nomatch hb), r.sr.len, fun j s es => ?_, r.sr.inj⟩, oa1, ?_⟩
      · have ha : a ∈ (O ++ [b]) ++ k.M := ha
        by_cases z : a = b
        · subst z
          refine ⟨bT, ?_⟩
          show upd H1 k.p _ a ≠ none
          rw [upd_ne (fun w => nbM k.p (by rw [g3]; simp) w.symm), h1]
          intro w; cases w
        · have ha' : a ∈ O ++ k.M := by
            rcases List.mem_append.mp ha with ha | ha
            · rcases List.mem_append.mp ha with ha | ha
              · exact List.mem_append_left _ ha
              · exact absurd (List.mem_singleton.mp ha) z
            · exact List.mem_append_right _ ha
          obtain ⟨q1, q2⟩ := r.sr.msk a ha'
          refine ⟨q1, ?_⟩
          show upd H1 k.p _ a ≠ none
          by_cases w : a = k.p
          · rw [w, upd_same]; intro q; cases q
          · rw [upd_ne w]
            have q2 : H a ≠ none := q2
            cases e5 : H a with
            | none => exact absurd e5 q2
            | some o => rw [k1.at_ _ _ e5 q1]; intro q; cases q
      · obtain ⟨ov, z1, z2⟩ := r.sr.rel j s es
        refine ⟨ov, z1, ?_⟩
        have z2 : SlotOk k.K (hid ((O ++ k.M) ++ []) H) H [] ov s := z2
        show SlotOk k.K (hid (((O ++ [b]) ++ k.M) ++ []) (upd H1 k.p _)) (upd H1 k.p _) [] ov s
        rw [List.append_nil] at z2 ⊢
        rw [hh]
        cases s with
        | non => cases ov <;> trivial
        | dat x =>
          cases ov with
          | none => exact z2
          | some v => exact dp_keep km tm z2
        | own es =>
          cases ov with
          | none => exact z2
          | some v =>
            obtain ⟨c, ys, _, w2, _⟩ := z2
            cases w2
        | ob C fs =>
          cases ov with
          | none => exact z2
          | some v => exact ObD.keep km tm z2
        | raw w => cases ov <;> exact z2
      · have kx : KeepX k.T O k.Hs H := r.kx
        refine ⟨fun a o ea hT hO' => ?_, fun P hP tb => ?_⟩
        · have nO : a ∉ O := fun m => hO' (List.mem_append_left _ m)
          have np : a ≠ k.p := fun z => nO (by rw [z, g3]; exact List.mem_cons_self)
          show upd H1 k.p _ a = _
          rw [upd_ne np]
          exact k1.at_ _ _ (kx.at_ a o ea hT nO) hT
        · have := k1.tab P hP (kx.tab P hP tb)
          obtain ⟨ps, q, ok⟩ := this
          exact ⟨ps, by rw [show upd H1 k.p _ P = _ from upd_ne (fun z => pT (by rw [← z]; exact hP))]; exact q, ok⟩
    · rcases List.mem_append.mp ha with ha | ha
      · exact hO a ha hne
      · rw [List.mem_singleton.mp ha]
        cases e5 : k.Hs b with
        | none => rfl
        | some o =>
          have kx : KeepX k.T O k.Hs H := r.kx
          rw [kx.at_ b o e5 bT nbO] at hb
          cases hb
end
end DL
/-! calls that give objects; lists repeated -/
namespace DL
open PySem PySem.Spec PyProof.Rows L2 DA
def spO (K : PySem.W.Frag) (T : List Addr) (R : List DS → DS → Prop) : Sp := fun vs H Q _ => ∃ M ss s, (∀ a ∈ M, a ∉ T ∧ H a ≠ none) ∧ Tabs T H ∧ ArgsOk K (hid M H) vs ss ∧ R ss s ∧ ∀ v H', ArgOk K (hid M H') v s → Keep T H H' → Q v H'
section
variable {c : DC} {ρ : DEnv} {ta tb te : TE}
theorem eg_call {R : List DS → DS → Prop} {E : XK} {ta : TA} {ss : List DS} {s : DS} (h : EA c ta ρ ss) (hR : R ss s) : EG c (tCall (spO c.K c.T R) [] E ta) ρ s := fun A σ H r Q q => h A σ H r _ fun vs H1 k1 h1 =>
  ⟨c.M ++ A, ss, s, (r.move k1).nM, (r.move k1).tabs, by rw [List.append_nil]; exact h1, hR, fun v H2 h2 k2 => q v H2 (k1.trans k2) h2⟩
theorem dps_rep {K : PySem.W.Frag} {H : Hp} {xs : List V} {ds : List PD} (n : Nat) (g : DpAll K H xs ds) : DpAll K H (List.replicate n xs).flatten (List.replicate n ds).flatten := by
  induction n with
  | zero => exact .nil
  | succ n ih =>
    rw [List.replicate_succ, List.replicate_succ, List.flatten_cons, List.flatten_cons]
    exact dps_append g ih
/-- xs * k, a new list -/
theorem en_rep {xs : List PD} {k : Nat} (ha : EN c ta ρ xs) (hb : ED c tb ρ (.int (k : Int))) (hz : xs.length * k ≤ 1000) (hk : k ≤ 1000000) : EN c (tOp rRep ta tb) ρ (List.replicate k xs).flatten := fun A σ H r Q q => ha A σ H r _ fun a us H1 k1 hp h1 h2 => hb A σ H1 (r.move k1) _ fun v H2 k2 h3 => by
  have s2 := (r.move k1).move k2
  have aT : a ∉ c.T := fun m => by
    obtain ⟨ps, e, _⟩ := (k1.tabs r.tabs) a m
    rw [h1] at e; cases e
  have h4 : DpAll c.K (hid (c.M ++ A) H1) us xs := dps_same (hid_sub fun x m => List.mem_cons_of_mem _ m) h2
  have h5 := dps_keep (hid_keep k2) (r.move k1).tabm h4
  refine ⟨a, (k : Int), us, rfl, dp_int h3, k2.at_ _ _ h1 aT, by omega, by omega, ?_, fun p hp2 => ?_⟩
  · rw [Int.toNat_natCast, dps_len h4]
    exact Nat.le_of_lt (small1000 hz)
  · rw [Int.toNat_natCast]
    refine q p _ _ ((k1.trans k2).trans (.new hp2)) ((k1.trans k2).free r.tabs hp2) upd_same ?_
    rw [hid_new hp2]
    exact dps_rep k h5
theorem rep_one {α : Type} (n : Nat) (d : α) : (List.replicate n [d]).flatten = List.replicate n d := by
  induction n with
  | zero => rfl
  | succ n ih => rw [List.replicate_succ, List.flatten_cons, ih, List.replicate_succ]; rfl
end
end DL
namespace DL
open PySem PySem.Spec PyProof.Rows L2 DA
/-! ### for over enumerate(list), the body may change an object -/
structure TGM (k : OC) (g : TG) (d : PD) (ρ ρ' : DEnv) : Prop where
  run : ∀ σ H F v, SRM k σ H ρ F → Dp k.K (hid k.M H) v d → ∀ Q : L2.St → Hp → Prop, (∀ σ', SRM k σ' H ρ' F → Q σ' H) → g v σ H Q
theorem SRM.Hs {k : OC} {σ : L2.St} {H H1 : Hp} {ρ : DEnv} {F : List (Str × MF)} (r : SRM k σ H ρ F) (x : KeepX k.T k.O H1 H) : SRM ⟨k.K, k.T, k.M, k.p, k.C, k.O, H1⟩ σ H ρ F := ⟨r.sr, r.oa, x⟩
theorem tgm_pair {k : OC} {i j l : Nat} {a b c : PD} {ρ : DEnv} : TGM k (gTup k.K 2 (gCons (gName i) (gCons (gTup k.K 2 (gCons (gName j) (gCons (gName l) gNil))) gNil))) (.tuple [a, .tuple [b, c]]) ρ (((ρ.set i (.dat a)).set j (.dat b)).set l (.dat c)) := ⟨fun σ H F v r h Q q => by
  obtain ⟨p, xs, rfl, h1, h2⟩ := dp_tup h
  cases h2 with
  | cons a1 h2 =>
    cases h2 with
    | cons a2 h2 =>
      cases h2
      obtain ⟨p2, ys, rfl, h3, h4⟩ := dp_tup a2
      cases h4 with
      | cons b1 h4 =>
        cases h4 with
        | cons b2 h4 =>
          cases h4
          exact ⟨p, _, rfl, sqt_same hid_same h1, rfl, _, _, rfl, _, _, rfl, ⟨p2, _, rfl, sqt_same hid_same h3, rfl, _, _, rfl, _, _, rfl, rfl, rfl, q _ (((r.setD i a1).setD j b1).setD l b2)⟩⟩⟩
theorem sm_forE {k : OC} {ρ : DEnv} {F : List (Str × MF)} {D : MEnds} {te : TE} {ds : List PD} {g : TG} {tb : TS} (h : EM k te ρ F (.list ds)) (Inv : Nat → DEnv → List (Str × MF) → Prop) (h0 : Inv 0 ρ F)
    (hs : ∀ i d ρ' F' Hs, ds[i]? = some d → Inv i ρ' F' → ∃ ρ2, TGM ⟨k.K, k.T, k.M, k.p, k.C, k.O, Hs⟩ g (.tuple [.int (i : Int), d]) ρ' ρ2 ∧ SM ⟨k.K, k.T, k.M, k.p, k.C, k.O, Hs⟩ tb ⟨fun ρ2 F2 => Inv (i + 1) ρ2 F2, D.rt⟩ ρ2 F')
    (hd : ∀ ρ' F', Inv ds.length ρ' F' → D.nx ρ' F') : SM k (tFor (iEnum k.K (tCons te tNil)) g tb) D ρ F := fun E L σ H r => h.run r fun v H1 r1 _ h1 => by
  obtain ⟨a, xs, rfl, h2, h3⟩ := dp_list h1
  have tm := tabs_hid r1.sr.tab fun a h => (r1.sr.msk a h).1
  have back : ∀ {σ' H' ρ' F'}, SRM ⟨k.K, k.T, k.M, k.p, k.C, k.O, H1⟩ σ' H' ρ' F' → SRM k σ' H' ρ' F' := fun r' => ⟨r'.sr, r'.oa, r1.kx.trans r'.kx⟩
  have lsts : ∀ {σ' H' ρ' F'}, SRM ⟨k.K, k.T, k.M, k.p, k.C, k.O, H1⟩ σ' H' ρ' F' → SqL k.K H' a xs ∧ DpAll k.K (hid k.M H') xs ds := fun r' => by
    have kh := r'.kx.hid r'.oa.sub
    exact ⟨hid_same.seq (kh.sqL tm h2), dps_keep kh tm h3⟩
  refine ⟨a, xs, rfl, hid_same.seq h2, for_it (walk_enum (K := k.K) (a := a) (xs := xs)) (fun i σ' H' => ∃ ρ' F', SRM ⟨k.K, k.T, k.M, k.p, k.C, k.O, H1⟩ σ' H' ρ' F' ∧ Inv i ρ' F') ⟨ρ, F, ⟨r1.sr, r1.oa, .refl⟩, h0⟩ (fun i σ' H' _ ⟨ρ', F', r', _⟩ => (lsts r').1) ?_ ?_⟩
  · rintro i x σ' H' H2 hi ⟨ρ', F', r', hv⟩ hy
    obtain ⟨T, i0, y0, rfl, hT, rfl, hi0, hy0⟩ := hy
    cases hi0
    obtain ⟨d, hd', hx'⟩ := dps_at (lsts r').2 hy0
    obtain ⟨ρ2, tg, hb⟩ := hs i d ρ' F' H1 hd' hv
    have kn : Keep k.T H' (upd H' T (.tup [.int (i : Int), y0])) := .new hT
    have r2 : SRM ⟨k.K, k.T, k.M, k.p, k.C, k.O, H1⟩ σ' (upd H' T (.tup [.int (i : Int), y0])) ρ' F' := r'.move kn (r'.sr.move kn)
    have nT : T ∉ k.M := fun m => (r'.sr.msk T m).2 hT
    have dT : Dp k.K (hid k.M (upd H' T (.tup [.int (i : Int), y0]))) (.ref T) (.tuple [.int (i : Int), d]) := by
      refine .tup (SqT.of (hid_of nT upd_same)) (.cons (.int _) (.cons (dp_same (fun b o e => ?_) hx') .nil))
      obtain ⟨m, e⟩ := hid_inv e
      exact hid_of m (by rw [upd_ne (ne_of_none e hT)]; exact e)
    refine tg.run σ' _ F' _ r2 dT _ fun σ2 r3 => ?_
    refine hb { E with nx := fun σ2 H2 => ∃ ρ2 F2, SRM ⟨k.K, k.T, k.M, k.p, k.C, k.O, H1⟩ σ2 H2 ρ2 F2 ∧ Inv (i + 1) ρ2 F2, ct := fun σ2 H2 => ∃ ρ2 F2, SRM ⟨k.K, k.T, k.M, k.p, k.C, k.O, H1⟩ σ2 H2 ρ2 F2 ∧ Inv (i + 1) ρ2 F2, bk := E.nx } ⟨fun σ2 H2 ρ2 F2 r2 q => ⟨ρ2, F2, r2, q⟩, fun v2 H2 d2 F2 q1 q2 q3 q4 => L.rt v2 H2 d2 F2 q1 q2 (r1.kx.trans q3) q4⟩ _ _ r3
  · rintro σ' H' ⟨ρ', F', r', hv⟩
    rw [dps_len h3] at hv
    exact L.nx _ _ _ _ (back r') (hd ρ' F' hv)
/-! ### a def that makes an object -/
def spMI (K : PySem.W.Frag) (T : List Addr) (C : Addr) (R : List DS → List (Str × MF) → Prop) : Sp := fun vs H Q _ => ∃ M p dx ss F, (∀ a ∈ M, a ∉ T ∧ H a ≠ none) ∧ Tabs T H ∧ H p = some (.ins C dx []) ∧ p ∉ M ∧ ArgsOk K (hid (p :: M) H) vs (.raw (.ref p) :: ss) ∧ R ss F ∧
  ∀ H' O, OA K (O ++ M) H' p C F O → (∀ a ∈ O, a ≠ p → H a = none) → KeepX T [p] H H' → Tabs T H' → Q .non H'
section
variable {P : Program} {w : World} {K : PySem.W.Frag} {mg : Str → Option Value} {base : Heap}
theorem fn_si {T : List Addr} {C : Addr} {x qual : Str} {st : Stmt} {f : Addr} {fd : FuncData} {N ps : List Str} {k : Nat} {R : List DS → List (Str × MF) → Prop} (F : Fun K x qual st f fd) (S : FnScope N ps (defScope st)) (hl : ∀ ss F, R ss F → ss.length + 1 = ps.length)
    (hb : ∀ (cdv : Value) (A : Around) (outer : List Env) (s : Shared) (H : Hp) (E : XK), Room k (A.deeper (envOfC qual (defScope st) s.heap.objs.size f cdv)) →
      ∃ t, PSs (cxOf CX0 P w K mg base N qual (defScope st) f cdv A outer s H E).nox (defBody st) t ∧ ∀ M p H0 ss F, R ss F → SI ⟨K, T, M, p, C, H0⟩ t (fun _ F2 => F2 = F) (startD N (.raw (.ref p) :: ss)) []) : FnOk P w K mg base CX0 (k + 1) f fd ps (spMI K T C R) := by
  refine F.ok S (fun vs H Q E h => ?_) (fun cdv A outer s H vs Q E hr h => ?_)
  · obtain ⟨M, p, dx, ss, F, _, _, _, _, h3, h4, _⟩ := h
    rw [h3.len]
    exact hl ss F h4
  · obtain ⟨M, p, dx, ss, F, h1, h2, hp, hpM, h3, h4, q⟩ := h
    obtain ⟨t, ht, hq⟩ := hb cdv A outer s H E hr
    have pT : p ∉ T := nT_of h2 hp fun ps z => by cases z
    have msk : ∀ a ∈ p :: M, a ∉ T ∧ H a ≠ none := fun a ha => by
      rcases List.mem_cons.mp ha with z | ha
      · rw [z]; exact ⟨pT, by rw [hp]; intro w; cases w⟩
      · exact h1 a ha
    refine ⟨t, ht, hq M p H ss F h4 _ ⟨fun σ' H' ρ' F2 r' e => ?_⟩ _ H ⟨[p], ⟨start_sr msk h2 h3, ⟨⟨dx, [], [], hp, .nil, rfl, by decide⟩, by simp, fun a ha => by rw [List.mem_singleton.mp ha]; exact List.mem_cons_self⟩, .refl⟩, fun a ha hne => absurd (List.mem_singleton.mp ha) hne⟩⟩
    obtain ⟨O, r', hO⟩ := r'
    subst e
    have kx : KeepX T O H H' := r'.kx
    refine q H' O r'.oa hO ⟨fun b o e hT hb => kx.at_ b o e hT fun m => ?_, kx.tab⟩ r'.sr.tab
    have this : H b = none := hO b m fun z => hb (by rw [z]; exact List.mem_cons_self)
    rw [this] at e
    cases e
end
end DL
namespace DL
open PySem PySem.Spec PyProof.Rows L2 DA
theorem SR.reb {K : PySem.W.Frag} {T M M' : List Addr} {H H2 : Hp} {σ : L2.St} {ρ : DEnv} (r : SR ⟨K, T, M, H⟩ [] σ H ρ) (km : Keep T (hid M H) (hid M' H2)) (t2 : Tabs T H2) (m2 : ∀ a ∈ M', a ∉ T ∧ H2 a ≠ none) : SR ⟨K, T, M', H2⟩ [] σ H2 ρ := by
  have tm : Tabs T (hid M H) := tabs_hid r.tab fun a h => (r.msk a h).1
  refine ⟨t2, .refl, m2, fun b hb => (nomatch hb), r.len, fun i s e => ?_, r.inj⟩
  obtain ⟨ov, h1, h2⟩ := r.rel i s e
  refine ⟨ov, h1, ?_⟩
  have h2 : SlotOk K (hid (M ++ []) H) H [] ov s := h2
  show SlotOk K (hid (M' ++ []) H2) H2 [] ov s
  rw [List.append_nil] at h2 ⊢
  cases s with
  | own ds =>
    cases ov with
    | none => exact h2
    | some v =>
      obtain ⟨b, xs, q1, q2, _⟩ := h2
      cases q2
  | non => cases ov <;> trivial
  | dat d =>
    cases ov with
    | none => exact h2
    | some v => exact dp_keep km tm h2
  | ob C fs =>
    cases ov with
    | none => exact h2
    | some v => exact ObD.keep km tm h2
  | raw w => cases ov <;> exact h2
/-- another hidden object changes -/
theorem SRM.other {k : OC} {σ : L2.St} {H : Hp} {ρ : DEnv} {F : List (Str × MF)} (r : SRM k σ H ρ F) {a : Addr} {o : HO} (ha : a ∈ k.M) (hO : a ∉ k.O) : SRM ⟨k.K, k.T, k.M, k.p, k.C, k.O, upd H a o⟩ σ (upd H a o) ρ F := by
  have aT : a ∉ k.T := (r.sr.msk a ha).1
  have hh : hid k.M (upd H a o) = hid k.M H := hid_in ha
  have t2 : Tabs k.T (upd H a o) := fun P hP => by
    obtain ⟨ps, e, ok⟩ := r.sr.tab P hP
    exact ⟨ps, by rw [upd_ne (fun z => aT (by rw [← z]; exact hP))]; exact e, ok⟩
  refine ⟨r.sr.reb (by rw [hh]; exact .refl) t2 fun b hb => ⟨(r.sr.msk b hb).1, fun z => ?_⟩, ?_, .refl⟩
  · by_cases w : b = a
    · rw [w, upd_same] at z; cases z
    · rw [upd_ne w] at z
      exact (r.sr.msk b hb).2 z
  · obtain ⟨dx, vs, as, h1, h2, h3, h4⟩ := r.oa.ex
    refine ⟨⟨dx, vs, as, ?_, ?_, h3, h4⟩, r.oa.nd, r.oa.sub⟩
    · rw [upd_ne (fun z => hO (by rw [← z, h3]; exact List.mem_cons_self))]
      exact h1
    · show FsM k.K (hid k.M (upd H a o)) _ _ _ _
      rw [hh]
      exact h2.move (fun _ _ z => z) (fun _ _ _ z => z) (fun _ _ z => z) fun b hb => upd_ne fun z => hO (by rw [← z, h3]; exact List.mem_cons_of_mem _ hb)
theorem OA.more {K : PySem.W.Frag} {T M M' : List Addr} {H H' : Hp} {p C : Addr} {F : List (Str × MF)} {O : List Addr} (o : OA K M H p C F O) (t : Tabs T H) (hM : ∀ a ∈ M, a ∉ T) (k : Keep T H H') (km : Keep T (hid M H) (hid M' H')) (sub : ∀ a ∈ O, a ∈ M') : OA K M' H' p C F O := by
  obtain ⟨dx, vs, as, h1, h2, h3, h4⟩ := id o.ex
  have tm : Tabs T (hid M H) := tabs_hid t hM
  refine ⟨⟨dx, vs, as, k.at_ _ _ h1 (o.nT t p (by rw [h3]; exact List.mem_cons_self)), h2.move (fun v x z => dp_keep km tm z) (fun v C fs z => ObD.keep km tm z) (fun vs xs z => dps_keep km tm z) (fun a ha => ?_), h3, h4⟩, o.nd, sub⟩
  obtain ⟨x, e, n⟩ := o.none a (by rw [h3]; exact List.mem_cons_of_mem _ ha)
  rw [e]
  exact k.at_ _ _ e (o.nT t a (by rw [h3]; exact List.mem_cons_of_mem _ ha))
/-- a def that gives a new object -/
def spMF (K : PySem.W.Frag) (T : List Addr) (C : Addr) (R : List DS → List (Str × MF) → Prop) : Sp := fun vs H Q _ => ∃ M ss F, (∀ a ∈ M, a ∉ T ∧ H a ≠ none) ∧ Tabs T H ∧ ArgsOk K (hid M H) vs ss ∧ R ss F ∧
  ∀ p H' O, OA K (O ++ M) H' p C F O → (∀ a ∈ O, H a = none) → Keep T H H' → Q (.ref p) H'
/-- C(..), read -/
theorem make_run {K : PySem.W.Frag} {T M : List Addr} {C : Addr} {R : List DS → List (Str × MF) → Prop} {E : XK} {ta : TA} {σ : L2.St} {H : Hp} {ρ : DEnv} {ss : List DS} {F : List (Str × MF)} (r : SR ⟨K, T, M, H⟩ [] σ H ρ) (h : EA ⟨K, T, M, H⟩ ta ρ ss) (hR : R ss F) {Q : VK}
    (q : ∀ x H2 O, OA K (O ++ M) H2 x C F O → (∀ a ∈ O, H a = none) → Keep T H H2 → SR ⟨K, T, O ++ M, H2⟩ [] σ H2 ρ → Q (.ref x) H2) : tMake C (spMI K T C R) [] E ta σ H Q := h [] σ H r _ fun vs H1 k1 h1 => by
  have h1 : ArgsOk K (hid (M ++ []) H1) vs ss := h1
  rw [List.append_nil] at h1
  intro x dx hx hdx hne
  have t1 : Tabs T H1 := k1.tabs r.tab
  have hx1 : upd H1 dx (.own x) x = none := by rw [upd_ne (Ne.symm hne)]; exact hx
  have ka : Keep T H1 (upd H1 dx (.own x)) := .new hdx
  have kb : Keep T H1 (upd (upd H1 dx (.own x)) x (.ins C dx [])) := ka.trans (.new hx1)
  have tb : Tabs T (upd (upd H1 dx (.own x)) x (.ins C dx [])) := kb.tabs t1
  have tm : Tabs T (hid M H1) := tabs_hid t1 fun a h => (r.msk a h).1
  have m1 : ∀ a ∈ M, a ∉ T ∧ H1 a ≠ none := fun a ha => (r.move k1).nM a (List.mem_append_left _ ha)
  have km : Keep T (hid M H1) (hid (x :: M) (upd (upd H1 dx (.own x)) x (.ins C dx []))) := hid_more kb hx
  have xM : x ∉ M := fun m => (m1 x m).2 hx
  have free : ∀ b o, H1 b = some o → b ≠ x ∧ b ≠ dx := fun b o e => ⟨fun z => (by rw [z, hx] at e; cases e), fun z => (by rw [z, hdx] at e; cases e)⟩
  refine ⟨M, x, dx, ss, F, fun a ha => ⟨(m1 a ha).1, ?_⟩, tb, upd_same, xM, ?_, hR, fun H2 O o2 f2 kx t2 => ⟨rfl, ?_⟩⟩
  · cases e : H1 a with
    | none => exact absurd e (m1 a ha).2
    | some o =>
      obtain ⟨n1, n2⟩ := free a o e
      rw [upd_ne n1, upd_ne n2, e]
      intro z; cases z
  · rw [List.append_nil]
    exact .cons (show ArgOk K _ (.ref x) (.raw (.ref x)) from rfl) (h1.keep km tm)
  · have fO : ∀ a ∈ O, H1 a = none := fun a ha => by
      by_cases z : a = x
      · rw [z]; exact hx
      · have := f2 a ha z
        rw [upd_ne z] at this
        by_cases w : a = dx
        · rw [w]; exact hdx
        · rw [upd_ne w] at this; exact this
    have k2 : Keep T H1 H2 := ⟨fun b o e hT => by
      obtain ⟨n1, n2⟩ := free b o e
      exact kx.at_ b o (by rw [upd_ne n1, upd_ne n2]; exact e) hT (by simpa using n1), fun P hP tb0 => kx.tab P hP (kb.tab P hP tb0)⟩
    have fO' : ∀ a ∈ O, H a = none := fun a ha => k1.free r.tab (fO a ha)
    have kh : Keep T (hid M H1) (hid (O ++ M) H2) := ⟨fun b o e hT => by
      obtain ⟨m, e⟩ := hid_inv e
      exact hid_of (fun q => (List.mem_append.mp q).elim (fun q => (by rw [fO b q] at e; cases e)) m) (k2.at_ b o e hT), fun P hP tb0 => by
      obtain ⟨ps, e, ok⟩ := tb0
      obtain ⟨m, e⟩ := hid_inv e
      obtain ⟨ps', e', ok'⟩ := k2.tab P hP ⟨ps, e, ok⟩
      exact ⟨ps', hid_of (fun q => (List.mem_append.mp q).elim (fun q => (by rw [fO P q] at e; cases e)) m) e', ok'⟩⟩
    have kh0 : Keep T (hid M H) (hid (O ++ M) H2) := (hid_keep k1).trans kh
    refine q x H2 O o2 fO' (k1.trans k2) (r.reb kh0 t2 fun a ha => ?_)
    rcases List.mem_append.mp ha with ha | ha
    · obtain ⟨y, e, n⟩ := o2.none a ha
      exact ⟨nT_of t2 e n, by rw [e]; intro z; cases z⟩
    · refine ⟨(m1 a ha).1, ?_⟩
      cases e : H1 a with
      | none => exact absurd e (m1 a ha).2
      | some o => rw [k2.at_ a o e (m1 a ha).1]; intro z; cases z
theorem SM.andThen {k : OC} {D : MEnds} {t u : TS} {E : Ends} {σ : L2.St} {H : Hp} {ρ : DEnv} {F : List (Str × MF)} (rs : SRM k σ H ρ F) (sm : SM k t D ρ F) (L : LeM k D { E with nx := u E }) : tSeq t u E σ H := sm _ L σ H rs
theorem make_asg {K : PySem.W.Frag} {T M : List Addr} {C : Addr} {R : List DS → List (Str × MF) → Prop} {E : XK} {ta : TA} {σ : L2.St} {H : Hp} {ρ : DEnv} {ss : List DS} {F : List (Str × MF)} {g : TG} {u : TS} {D : Ends} (r : SR ⟨K, T, M, H⟩ [] σ H ρ) (h : EA ⟨K, T, M, H⟩ ta ρ ss) (hR : R ss F)
    (q : ∀ x H2 O, OA K (O ++ M) H2 x C F O → (∀ a ∈ O, H a = none) → Keep T H H2 → SR ⟨K, T, O ++ M, H2⟩ [] σ H2 ρ → g (.ref x) σ H2 fun σ' H' => u D σ' H') : tSeq (tAsg (tMake C (spMI K T C R) [] E ta) g) u D σ H :=
  make_run r h hR (Q := fun v H2 => g v σ H2 fun σ' H' => u D σ' H') q
end DL
/-! generator expressions over data; isinstance; chains -/
namespace DL
open PySem PySem.Spec PyProof.Rows L2 DA
section
variable {c : DC} {ρ : DEnv} {te ta tb tc : TE}
theorem keep_tabbed {P : Addr} {H H' : Hp} (hP : P ∈ c.T) (t : GxR.Tabbed P H H') : Keep c.T H H' := .tabbed hP t
theorem range_allD (g : PD → Bool) (ds : List PD) : (List.range ds.length).all (fun i => g (ds[i]?.getD .none)) = ds.all g := by
  rw [Bool.eq_iff_iff, List.all_eq_true, List.all_eq_true]
  constructor
  · intro h d hd
    obtain ⟨i, hi, e⟩ := List.getElem_of_mem hd
    have := h i (List.mem_range.mpr hi)
    rw [List.getElem?_eq_getElem hi, e] at this
    exact this
  · intro h i hi
    have hi := List.mem_range.mp hi
    rw [List.getElem?_eq_getElem hi]
    exact h _ (List.getElem_mem hi)
/-- all(b for x in it) -/
theorem ed_allG {P : Addr} {wi : TI} {g : TG} {vs js : List Nat} {ds : List PD} (b : PD → Bool) (hP : P ∈ c.T) (hi : ID c wi ρ ds) (hj : ∀ j ∈ js, j ∈ vs)
    (hs : ∀ d ∈ ds, ∀ H0, Keep c.T c.H0 H0 → ∃ ps, TGd ⟨c.K, c.T, c.M, H0⟩ g js d ps ∧ ED ⟨c.K, c.T, c.M, H0⟩ te (setDs (wipeD ρ vs) js ps) (.bool (b d))) : ED c (GE.tAllG P wi g te vs) ρ (.bool (ds.all b)) := fun A σ H r Q q => hi A σ H r _ fun J H1 k1 W => by
  have r1 := r.move k1
  refine ⟨r1.tabs P hP, fun H2 tb => ?_⟩
  have k2 : Keep c.T H1 H2 := .tabbed hP tb
  have ru : SR (c.up A H1) A σ H2 ρ := r1.up.move k2
  refine ⟨ds.length, fun i => b (ds[i]?.getD .none), fun i H3 => SR (c.up A H1) A σ H3 ρ ∧ Keep c.T H1 H3, ⟨ru, k2⟩, fun i H3 hi' k => ⟨W.go i A σ H3 ρ k.1 hi', fun x H4 y => ?_⟩, fun H3 k => W.stop _ A σ H3 ρ k.1 (Nat.le_refl _), fun i H3 _ k => ?_⟩
  · have hdi : ds[i]? = some ds[i] := List.getElem?_eq_getElem hi'
    obtain ⟨k3, hx⟩ := W.yld i A σ H3 ρ x H4 k.1 y ds[i] hdi
    obtain ⟨ps, hg, he⟩ := hs ds[i] (List.getElem_mem hi') (hid A H1) r1.ground
    have r4 := k.1.move k3
    have rw4 := r4.wipe vs
    refine hg.run _ _ H4 _ x rw4 hx _ fun zs h2 _ => ⟨by rw [wipe_setVs hj, wipe_wipe (fun _ h => h)], ?_⟩
    refine he A _ H4 (rw4.setVs h2) _ fun v H5 k5 h5 => ⟨?_, r4.move k5, (k.2.trans k3).trans k5⟩
    rw [dp_bool h5]
    show V.bl (b ds[i]) = V.bl (b (ds[i]?.getD .none))
    rw [hdi]
    rfl
  · rw [range_allD]
    exact q _ H3 (k1.trans k.2) (.bl _)
theorem preS_sumD (g : PD → Int) (ds : List PD) : GE.preS (fun i => g (ds[i]?.getD .none)) ds.length = (ds.map g).sum := by
  have key : ∀ n, n ≤ ds.length → GE.preS (fun i => g (ds[i]?.getD .none)) n = ((ds.take n).map g).sum := by
    intro n
    induction n with
    | zero => intro _; rfl
    | succ n ih =>
      intro h
      have e : ds.take (n + 1) = ds.take n ++ [ds[n]] := by rw [List.take_succ, List.getElem?_eq_getElem (by omega)]; rfl
      show GE.preS _ n + g (ds[n]?.getD .none) = _
      rw [ih (by omega), e, List.map_append, List.sum_append, List.getElem?_eq_getElem (by omega)]
      simp
  rw [key _ (Nat.le_refl _), List.take_length]
/-- sum(f for x in it) -/
theorem ed_sumG {P : Addr} {wi : TI} {g : TG} {vs js : List Nat} {ds : List PD} (f : PD → Int) (hP : P ∈ c.T) (hi : ID c wi ρ ds) (hj : ∀ j ∈ js, j ∈ vs)
    (hs : ∀ d ∈ ds, ∀ H0, Keep c.T c.H0 H0 → ∃ ps, TGd ⟨c.K, c.T, c.M, H0⟩ g js d ps ∧ ED ⟨c.K, c.T, c.M, H0⟩ te (setDs (wipeD ρ vs) js ps) (.int (f d))) : ED c (GE.tSumG P wi g te vs) ρ (.int (ds.map f).sum) := fun A σ H r Q q => hi A σ H r _ fun J H1 k1 W => by
  have r1 := r.move k1
  refine ⟨r1.tabs P hP, fun H2 tb D hD => ?_⟩
  have k2 : Keep c.T H1 H2 := .tabbed hP tb
  have hD1 : H1 D = none := k2.free r1.tabs hD
  have nD : ∀ {H3 : Hp} {xs : List V}, Keep c.T H1 H3 → H3 D = some (.lst xs) → ∀ {ys}, Keep c.T H1 (upd H3 D (.lst ys)) := fun {H3 xs} k _ {ys} => k.own r1.tabs hD1
  have DT : ∀ {H3 : Hp} {xs : List V}, Keep c.T H1 H3 → H3 D = some (.lst xs) → D ∉ c.T := fun {H3 xs} k e m => by
    obtain ⟨ps, e', _⟩ := (k.tabs r1.tabs) D m
    rw [e] at e'; cases e'
  refine ⟨ds.length, fun i => f (ds[i]?.getD .none), fun i H3 => Keep c.T H1 H3 ∧ H3 D = some (.lst [.int (GE.preS (fun i => f (ds[i]?.getD .none)) i)]), fun i H3 => Keep c.T H1 H3 ∧ H3 D = some (.lst [.int (GE.preS (fun i => f (ds[i]?.getD .none)) i)]), ⟨k2.own r1.tabs hD1, upd_same⟩, fun i H3 hi' k => ⟨W.go i A σ H3 ρ (r1.up.move k.1) hi', fun x H4 y => ?_⟩, fun H3 k => W.stop _ A σ H3 ρ (r1.up.move k.1) (Nat.le_refl _), fun i H3 _ k => k.2, fun i H3 hi' k => ⟨k.2, k.1.own r1.tabs hD1, upd_same⟩, fun H3 k => ?_⟩
  · have hdi : ds[i]? = some ds[i] := List.getElem?_eq_getElem hi'
    have r3 : SR (c.up A H1) A σ H3 ρ := r1.up.move k.1
    obtain ⟨k3, hx⟩ := W.yld i A σ H3 ρ x H4 r3 y ds[i] hdi
    obtain ⟨ps, hg, he⟩ := hs ds[i] (List.getElem_mem hi') (hid A H1) r1.ground
    have r4 := r3.move k3
    have rw4 := r4.wipe vs
    refine hg.run _ _ H4 _ x rw4 hx _ fun zs h2 _ => ⟨by rw [wipe_setVs hj, wipe_wipe (fun _ h => h)], ?_⟩
    refine he A _ H4 (rw4.setVs h2) _ fun v H5 k5 h5 => ⟨?_, (k.1.trans k3).trans k5, ?_⟩
    · rw [dp_int h5]
      show V.int (f ds[i]) = V.int (f (ds[i]?.getD .none))
      rw [hdi]
      rfl
    · have d3 := DT k.1 k.2
      exact k5.at_ _ _ (k3.at_ _ _ k.2 d3) d3
  · rw [preS_sumD]
    exact q _ H3 (k1.trans k.1) (.int _)
/-- isinstance(x, T) -/
theorem ed_isi {d : PD} {T : String} {r : Bool} (h : ED c ta ρ d) (hk : ∀ v H, Dp c.K H v d → PySem.W.kitOne c.K (.type (clsD d)) (.type T) = some r) : ED c (tCB (rIsi c.K) (tCons ta (tCons (tC (.ty T)) tNil))) ρ (.bool r) := fun A σ H s Q q => h A σ H s _ fun v H1 k1 h1 => by
  have h2 := dp_same (hid_same (M := c.M ++ A)) h1
  exact ⟨v, .ty T, _, _, r, rfl, .ty _, dp_ty h2, hk v H1 h2, q _ H1 k1 (.bl _)⟩
theorem ed_isiList {d : PD} (h : ED c ta ρ d) : ED c (tCB (rIsi c.K) (tCons ta (tCons (tC (.ty "list")) tNil))) ρ (.bool (isList d)) := ed_isi h fun v H h => kit_list h
theorem ed_isiTup {d : PD} (h : ED c ta ρ d) : ED c (tCB (rIsi c.K) (tCons ta (tCons (tC (.ty "tuple")) tNil))) ρ (.bool (isTup d)) := ed_isi h fun v H h => kit_tup h
theorem ed_isiInt {d : PD} (h : ED c ta ρ d) : ED c (tCB (rIsi c.K) (tCons ta (tCons (tC (.ty "int")) tNil))) ρ (.bool (isInt d)) := ed_isi h fun v H h => kit_int h
theorem ed_isiBool {d : PD} (h : ED c ta ρ d) : ED c (tCB (rIsi c.K) (tCons ta (tCons (tC (.ty "bool")) tNil))) ρ (.bool (isBool d)) := ed_isi h fun v H h => kit_bool h
theorem ed_isiStr {d : PD} (h : ED c ta ρ d) : ED c (tCB (rIsi c.K) (tCons ta (tCons (tC (.ty "str")) tNil))) ρ (.bool (isStr d)) := ed_isi h fun v H h => kit_str h
/-- a <= b <= c of ints -/
theorem et_chain {p p' : Int → Int → Bool} {i j k : Int} (ha : ED c ta ρ (.int i)) (hb : ED c tb ρ (.int j)) (hc : ED c tc ρ (.int k)) : ET c (tTest (tChain (rI0 fun a b => .bl (p a b)) (rI0 fun a b => .bl (p' a b)) ta tb tc)) ρ (p i j && p' j k) := fun A σ H r Q q =>
  ha A σ H r _ fun v H1 k1 h1 => hb A σ H1 (r.move k1) _ fun u H2 k2 h2 => ⟨i, j, dp_int h1, dp_int h2, p i j, rfl, by
    cases e : p i j with
    | false =>
      rw [e] at q
      show ∃ k, V.bl false = V.bl k ∧ Q k H2
      exact ⟨_, rfl, q H2 (k1.trans k2)⟩
    | true =>
      rw [e, Bool.true_and] at q
      show tc σ H2 _
      exact hc A σ H2 ((r.move k1).move k2) _ fun w H3 k3 h3 => ⟨j, k, dp_int h2, dp_int h3, _, rfl, q H3 ((k1.trans k2).trans k3)⟩⟩
theorem ed_chain {p p' : Int → Int → Bool} {i j k : Int} (ha : ED c ta ρ (.int i)) (hb : ED c tb ρ (.int j)) (hc : ED c tc ρ (.int k)) : ED c (tChain (rI0 fun a b => .bl (p a b)) (rI0 fun a b => .bl (p' a b)) ta tb tc) ρ (.bool (p i j && p' j k)) := fun A σ H r Q q =>
  ha A σ H r _ fun v H1 k1 h1 => hb A σ H1 (r.move k1) _ fun u H2 k2 h2 => ⟨i, j, dp_int h1, dp_int h2, p i j, rfl, by
    cases e : p i j with
    | false =>
      rw [e] at q
      exact q _ H2 (k1.trans k2) (.bl _)
    | true =>
      rw [e, Bool.true_and] at q
      show tc σ H2 _
      exact hc A σ H2 ((r.move k1).move k2) _ fun w H3 k3 h3 => ⟨j, k, dp_int h2, dp_int h3, q _ H3 ((k1.trans k2).trans k3) (.bl _)⟩⟩
end
end DL
/-! a local name that holds an object that changes -/
namespace DL
open PySem PySem.Spec PyProof.Rows L2 DA
section
variable {k : OC} {ρ : DEnv} {F F' : List (Str × MF)} {D : MEnds} {t u : TS} {te : TE} {d : PD}
/-- f(object, ..) -/
theorem call_run {σ : L2.St} {H : Hp} (r : SRM k σ H ρ F) {i : Nat} {R : RM} {ta : TA} {ss : List DS} {E : XK} (hs : isSelf k ρ i) (ha : AM k ta ρ F ss) (hR : R F ss d F') {Q : VK} (q : ∀ v H', SRM k σ H' ρ F' → Dp k.K (hid k.M H') v d → Q v H') : tCall (spM k.K k.T k.C R) [] E (tCons (tVar i) ta) σ H Q := by
  refine ⟨_, self_at r hs, ha H r.oa r.tb [] σ H r.sr _ fun ws H1 k1 h1 => ?_⟩
  have r1 := r.move k1 (r.sr.move k1)
  rw [show (⟨k.K, k.T, k.M, H⟩ : DC).M ++ [] = k.M from List.append_nil _] at h1
  refine ⟨k.M, k.p, k.O, F, ss, d, F', r1.sr.msk, r1.sr.tab, r1.oa, ?_, hR, fun v H2 h2 o2 x2 => q v H2 (r1.called x2 o2) h2⟩
  rw [List.append_nil]
  exact .cons (show ArgOk k.K (hid k.M H1) (.ref k.p) (.raw (.ref k.p)) from rfl) h1
theorem sm_dropC {i : Nat} {R : RM} {ta : TA} {ss : List DS} {E : XK} (hs : isSelf k ρ i) (ha : AM k ta ρ F ss) (hR : R F ss d F') (q : D.nx ρ F') : SM k (tDrop (tCall (spM k.K k.T k.C R) [] E (tCons (tVar i) ta))) D ρ F := fun _ L σ H r =>
  call_run r hs ha hR fun v H1 r1 h1 => L.nx _ _ _ _ r1 q
/-- if object.m(..): -/
theorem sm_ifM {i : Nat} {m : Str} {R : RM} {ta : TA} {ss : List DS} {E : XK} {b : Bool} (hs : isSelf k ρ i) (hm : F.lookup m = none) (ha : AM k ta ρ F ss) (hR : R F ss (.bool b) F') (h1 : b = true → SM k t D ρ F') (h2 : b = false → SM k u D ρ F') : SM k (tIfS (tB (tMeth k.C m (spM k.K k.T k.C R) [] E (tVar i) ta)) t u) D ρ F := fun E' L σ H r =>
  meth_run r hs hm ha hR fun v H1 r1 g1 => ⟨b, dp_bool g1, by
    cases b with
    | true => exact h1 rfl E' L σ H1 r1
    | false => exact h2 rfl E' L σ H1 r1⟩
/-- return a if x in object.m() else b -/
theorem sm_retInM {i : Nat} {m : Str} {R : RM} {E : XK} {ys : List PD} {x y z : Str} (hs : isSelf k ρ i) (hm : F.lookup m = none) (hR : R F [] (.list ys) F') (hy : ys.all flatD = true) (q : D.rt (.str (if inV (.str x) (ys.map vOf) = true then y else z)) F') :
    SM k (tRet (tIf (tTest (tOp (rIn k.K false) (tC (.str x)) (tMeth k.C m (spM k.K k.T k.C R) [] E (tVar i) tNil))) (tC (.str y)) (tC (.str z)))) D ρ F := fun E' L σ H r =>
  meth_run r hs hm am_nil hR fun v H1 r1 g1 => by
    obtain ⟨a, us, rfl, g2, g3⟩ := dp_list g1
    have e := dps_flat g3 hy
    subst e
    refine ⟨a, _, rfl, .inl (hid_same.seq g2), rfl, flats_V hy, _, rfl, ?_⟩
    show if (inV (.str x) (ys.map vOf)) = true then E'.rt (.str y) H1 else E'.rt (.str z) H1
    split
    · next h =>
      rw [if_pos h] at q
      exact L.rt _ H1 _ F' (.str y) r1.oa r1.kx q
    · next h =>
      rw [if_neg h] at q
      exact L.rt _ H1 _ F' (.str z) r1.oa r1.kx q
end
/-- x = f(..), f gives a new object: from there on the statements with the object -/
theorem mf_asg {K : PySem.W.Frag} {T M : List Addr} {C : Addr} {R : List DS → List (Str × MF) → Prop} {E : XK} {ta : TA} {σ : L2.St} {H : Hp} {ρ : DEnv} {ss : List DS} {F : List (Str × MF)} {j : Nat} {u : TS} {D : Ends} {c : DC} (hc : c = ⟨K, T, M, H⟩) (r : SR c [] σ H ρ) (h : EA c ta ρ ss) (hR : R ss F)
    (q : ∀ x H2 O, (∀ a ∈ O, H a = none) → Keep T H H2 → SRM ⟨K, T, O ++ M, x, C, O, H2⟩ (σ.set j (some (.ref x))) H2 (ρ.set j (.raw (.ref x))) F → u D (σ.set j (some (.ref x))) H2) : tSeq (tAsg (tCall (spMF K T C R) [] E ta) (gName j)) u D σ H := by
  subst hc
  refine h [] σ H r _ fun vs H1 k1 h1 => ?_
  have h1 : ArgsOk K (hid (M ++ []) H1) vs ss := h1
  rw [List.append_nil] at h1
  have m1 : ∀ a ∈ M, a ∉ T ∧ H1 a ≠ none := fun a ha => (r.move k1).nM a (List.mem_append_left _ ha)
  have t1 : Tabs T H1 := k1.tabs r.tab
  refine ⟨M, ss, F, m1, t1, by rw [List.append_nil]; exact h1, hR, fun p H2 O o2 f2 k2 => ?_⟩
  have t2 : Tabs T H2 := k2.tabs t1
  have fO : ∀ a ∈ O, H a = none := fun a ha => k1.free r.tab (f2 a ha)
  have kh : Keep T (hid M H) (hid (O ++ M) H2) := (hid_keep k1).trans ⟨fun b o e hT => by
      obtain ⟨m, e⟩ := hid_inv e
      exact hid_of (fun q => (List.mem_append.mp q).elim (fun q => (by rw [f2 b q] at e; cases e)) m) (k2.at_ b o e hT), fun P hP tb0 => by
      obtain ⟨ps, e, ok⟩ := tb0
      obtain ⟨m, e⟩ := hid_inv e
      obtain ⟨ps', e', ok'⟩ := k2.tab P hP ⟨ps, e, ok⟩
      exact ⟨ps', hid_of (fun q => (List.mem_append.mp q).elim (fun q => (by rw [f2 P q] at e; cases e)) m) e', ok'⟩⟩
  have m2 : ∀ a ∈ O ++ M, a ∉ T ∧ H2 a ≠ none := fun a ha => by
    rcases List.mem_append.mp ha with ha | ha
    · obtain ⟨y, e, n⟩ := o2.none a ha
      exact ⟨nT_of t2 e n, by rw [e]; intro z; cases z⟩
    · refine ⟨(m1 a ha).1, ?_⟩
      cases e : H1 a with
      | none => exact absurd e (m1 a ha).2
      | some o => rw [k2.at_ a o e (m1 a ha).1]; intro z; cases z
  have r2 : SR ⟨K, T, O ++ M, H2⟩ [] σ H2 ρ := SR.reb (H := H) ⟨r.tab, .refl, r.msk, fun b hb => (nomatch hb), r.len, r.rel, r.inj⟩ kh t2 m2
  exact q p H2 O fO (k1.trans k2) ⟨r2.setS j (v := .ref p) (s := .raw (.ref p)) rfl (fun ds z => nomatch z), o2, .refl⟩
/-- back from the object to the caller -/
theorem mf_ends {K : PySem.W.Frag} {T M : List Addr} {x C : Addr} {O : List Addr} {H H2 : Hp} {Q : VK} {nx : L2.St → Hp → Prop} {F : List (Str × MF)} {d : PD} (fO : ∀ a ∈ O, H a = none) (k : Keep T H H2) (q : ∀ v H', Dp K (hid M H') v d → Keep T H H' → Q v H') :
    LeM ⟨K, T, O ++ M, x, C, O, H2⟩ ⟨fun _ _ => False, fun e F' => e = d⟩ { nx := nx, rt := Q } :=
  ⟨fun _ _ _ _ _ z => z.elim, fun v H' e F' h1 _ x2 e1 => by
    have e1 : e = d := e1
    subst e1
    exact q v H' (dp_same (hid_sub fun a ha => List.mem_append_right _ ha) h1) (KeepX.keep k x2 fO)⟩
end DL
/-! xs.count(y) over data -/
namespace DL
open PySem PySem.Spec PyProof.Rows L2 DA
section
variable {X : Cx}
def rCntD (K : PySem.W.Frag) : V → List V → Hp → VK → Prop := fun x xs H Q => ∃ (a : Addr) (y : V) (d : PyData) (ds : List PyData), x = V.ref a ∧ xs = [y] ∧ Dp K H (V.ref a) (.list ds) ∧ Dp K H y d ∧
  SeqAt.shaped (.list ds) = true ∧ SeqAt.shaped d = true ∧ Q (.int ((ds.countP fun z => PyData.eqv z d : Nat) : Int)) H
theorem mt_countD (hu : X.A.units + 65 < cLine) : MtR X "list.count" (rCntD X.K) := by
  intro pins s σ H x xs v us Q I rx rxs h
  obtain ⟨a, y, d, ds, rfl, rfl, hl, hy, sl, sd, q⟩ := h
  cases rx
  cases rxs with
  | cons ry rt =>
    rename_i uy ut
    cases rt
    obtain ⟨bs, r1⟩ := Dp.reads I d y uy hy ry
    have hxs : PyData.canLayAll0 ds = true := SeqAt.canLay_of_shaped sl
    have hroom : X.A.units + 1 + min (PyData.depthAll ds) d.depth < cLine := room_in_shaped sd hu
    cases hl with
    | lst hs ha =>
      obtain ⟨its, rv, ⟨⟨cls, dd, data, sls⟩, n, ho, hc, hdn, hdt⟩, hlen⟩ := I.list hs
      simp only at hc hdt
      subst hc hdt
      obtain ⟨as, h4⟩ := Dp.readsAll I ds _ its ha rv
      have hmap : its.map (SeqAt.readOf s.heap) = ds := SeqAt.readsAll_map ds its as hxs h4
      refine call_meets PySem.F.slot_list_count ⟨_, ho, rfl⟩ PySem.F.entry_list_count (PySem.F.args_list_count_2 _ _)
        (SeqAt.list_countAt a its.toArray n dd sls uy (fun u => PyData.eqv (SeqAt.readOf s.heap u) d)) ⟨ho, SeqAt.items_eqAt (vs := its.toArray) (show ReadsAll s.heap its.toArray.toList ds as from h4) r1 hxs (SeqAt.canLay_of_shaped sd) hroom, ?_⟩
      have ec : its.toArray.toList.countP (fun u => PyData.eqv (SeqAt.readOf s.heap u) d) = ds.countP fun z => PyData.eqv z d := by
        rw [← hmap, List.countP_map]
        rfl
      refine ⟨.int ((ds.countP fun z => PyData.eqv z d : Nat) : Int), H, I.tok _, ⟨s.toks, ?_⟩, q⟩
      show Value.int ((its.toArray.toList.countP (fun u => PyData.eqv (SeqAt.readOf s.heap u) d) : Nat) : Int) s.toks = _
      rw [ec]
end
section
variable {c : DC} {ρ : DEnv} {ta tb te : TE} {d : PD}
theorem ed_countD {ds : List PD} (ha : EL c te ρ ds) (hb : ED c tb ρ d) (hs : SeqAt.shaped (.list ds) = true) (hd : SeqAt.shaped d = true) : ED c (tBM c.K "list" (rCntD c.K) te (tCons tb tNil)) ρ (.int ((ds.countP fun z => PyData.eqv z d : Nat) : Int)) := fun A σ H s Q q =>
  ha A σ H s _ fun a xs H1 k1 h1 h2 => ⟨.inl ⟨rfl, xs, h1⟩, hb A σ H1 (s.move k1) _ fun w H2 k2 h3 => by
    have h4 := dps_keep (hid_keep k2) (s.move k1).tabm h2
    exact ⟨a, w, d, ds, rfl, rfl, .lst (k2.sqL (s.move k1).tabs h1) (dps_same hid_same h4), dp_same hid_same h3, hs, hd, q _ H2 (k1.trans k2) (.int _)⟩⟩
end
/-! shaped data -/
theorem canAll {ds : List PD} (h : ∀ d ∈ ds, PyData.canLay0 d = true) : PyData.canLayAll0 ds = true := by
  induction ds with
  | nil => simp [PyData.canLayAll0]
  | cons d ds ih => simp [PyData.canLayAll0, h d List.mem_cons_self, ih fun e he => h e (List.mem_cons_of_mem _ he)]
theorem depAll {ds : List PD} {n : Nat} (h : ∀ d ∈ ds, PyData.depth d ≤ n) : PyData.depthAll ds ≤ n := by
  induction ds with
  | nil => simp [PyData.depthAll]
  | cons d ds ih =>
    have h1 := h d List.mem_cons_self
    have h2 := ih fun e he => h e (List.mem_cons_of_mem _ he)
    simp only [PyData.depthAll]
    omega
theorem shaped_listOf {ds : List PD} {n : Nat} (h : ∀ d ∈ ds, PyData.canLay0 d = true ∧ PyData.depth d ≤ n) (hn : n ≤ 60) : SeqAt.shaped (.list ds) = true := by
  have h1 := canAll fun d hd => (h d hd).1
  have h2 := depAll fun d hd => (h d hd).2
  show (PyData.canLay0 (.list ds) && decide (PyData.depth (.list ds) ≤ 64)) = true
  rw [Bool.and_eq_true]
  refine ⟨?_, decide_eq_true ?_⟩
  · simp only [PyData.canLay0]
    exact h1
  · simp only [PyData.depth]
    omega
end DL
/-! lists joined, turned round, sorted pairs, places, three new lists at once -/
namespace DL
open PySem PySem.Spec PyProof.Rows L2 DA TR
section
variable {X : Cx}
def rCatL (K : PySem.W.Frag) : R2 := fun x y H Q => ∃ l b xs zs, x = .ref l ∧ y = .ref b ∧ SqL K H l xs ∧ SqL K H b zs ∧ xs.length + zs.length ≤ sizeLine ∧ ∀ p, H p = none → Q (.ref p) (upd H p (.lst (xs ++ zs)))
theorem op_catL : OpR X (binaryOp .Add) (rCatL X.K) := by
  intro pins s σ H x y v u Q I rx ry h
  obtain ⟨l, b, xs, zs, rfl, rfl, hH, hB, hz, q⟩ := h
  cases rx
  cases ry
  obtain ⟨its, r, ⟨⟨cls, dd, data, sls⟩, n, e, hc, hdn, hdt⟩, hl⟩ := I.list hH
  obtain ⟨its2, r2, ⟨⟨cls2, dd2, data2, sls2⟩, n2, e2, hc2, hdn2, hdt2⟩, hl2⟩ := I.list hB
  simp only at hc hdt hdn hc2 hdt2 hdn2
  subst hc hdt hdn hc2 hdt2 hdn2
  have z1 := r.length
  have z2 := r2.length
  refine concat_meets ⟨_, e, rfl⟩ ⟨_, e2, rfl⟩ noFill_list_add seq_list_add PySem.F.slot_list_add PySem.F.entry_list_add (PySem.F.args_list_add_2 _ _) (list_addW l b its.toArray its2.toArray n n2 none none sls sls2 (by rw [List.size_toArray, List.size_toArray]; omega)) ⟨e, e2, ?_⟩
  have ea : its.toArray ++ its2.toArray = (its ++ its2).toArray := by simp
  rw [ea]
  exact ⟨.ref _, _, I.lnew (t' := s.toks) (r.append r2) (by rw [List.length_append]; omega), rfl, q _ I.fresh⟩
end
theorem lex_swo : SrtO.Swo SrtO.lexB := by
  refine ⟨fun x y h => ?_, fun x y z h1 h2 => ?_⟩
  · have a := SrtO.lexB_iff.mp h
    refine SrtO.lexB_no.mpr ?_
    omega
  · have a := SrtO.lexB_no.mp h1
    have b := SrtO.lexB_no.mp h2
    refine SrtO.lexB_no.mpr ?_
    omega
theorem lex_eqv (x y : Int × Int) : SrtO.eqv SrtO.lexB x y = (y == x) := by
  by_cases h : y = x
  · subst h
    rw [beq_self_eq_true]
    exact SrtO.eqv_iff.mpr ⟨lex_swo.refl y, lex_swo.refl y⟩
  · have h2 : (y == x) = false := by simpa using h
    rw [h2]
    cases e : SrtO.eqv SrtO.lexB x y with
    | false => rfl
    | true =>
      obtain ⟨q1, q2⟩ := SrtO.eqv_iff.mp e
      have a := SrtO.lexB_no.mp q1
      have b := SrtO.lexB_no.mp q2
      exact absurd (Prod.ext (by omega) (by omega)) h
theorem lex_uniq {l m : List (Int × Int)} (h1 : SrtO.Srtd SrtO.lexB l) (h2 : SrtO.Srtd SrtO.lexB m) (p : l.Perm m) : l = m := by
  refine SrtO.stb_uniq lex_swo h1 h2 ⟨p, fun x => ?_⟩
  rw [show SrtO.eqv SrtO.lexB x = fun y => y == x from funext fun y => lex_eqv x y, List.filter_beq, List.filter_beq, p.count_eq]
def pairD (p : Int × Int) : PD := .tuple [.int p.1, .int p.2]
theorem isPair_fn {h : Heap} {v : Value} {a b c d : Int} (p : Srt.IsPair h v a b) (q : Srt.IsPair h v c d) : a = c ∧ b = d := by
  obtain ⟨x, o, t, u, n, rfl, e, _, dd⟩ := p
  obtain ⟨y, o', t', u', n', e1, e', _, dd'⟩ := q
  cases e1
  rw [e] at e'
  cases e'
  rw [dd] at dd'
  cases dd'
  exact ⟨rfl, rfl⟩
section
variable {X : Cx}
/-- sorted(xs), xs a list of pairs of ints -/
def rSortedPD (K : PySem.W.Frag) : List V → Hp → VK → Prop := fun vs H Q => ∃ (a : Addr) (xs : List V) (ps : List (Int × Int)), vs = [V.ref a] ∧ SqL K H a xs ∧ DpAll K H xs (ps.map pairD) ∧
  ∀ ys qs p, (∀ H', DpAll K H' xs (ps.map pairD) → DpAll K H' ys (qs.map pairD)) → SrtO.Srtd SrtO.lexB qs → qs.Perm ps → H p = none → Q (.ref p) (upd H p (.lst ys))
theorem pair_at {pins : List (Addr × Obj)} {s : Shared} {σ : L2.St} {H : Hp} (I : L2.Inv X pins σ H s) : ∀ {xs : List V} {its : List Value} {ps : List (Int × Int)}, Vals xs its → DpAll X.K H xs (ps.map pairD) → (∀ v ∈ its, ∃ p : Int × Int, Srt.IsPair s.heap v p.1 p.2 ∧ ∃ t, v = .ref t ∧ Dp X.K H (.ref t) (pairD p)) ∧ (∀ f : Value → Int × Int, (∀ v ∈ its, ∀ p : Int × Int, Srt.IsPair s.heap v p.1 p.2 → f v = p) → its.map f = ps)
  | [], _, [], .nil, _ => ⟨(fun _ z => nomatch z), fun _ _ => rfl⟩
  | x :: xs, _ :: its, p :: ps, .cons r rv, .cons a h => by
    obtain ⟨ih1, ih2⟩ := pair_at I rv h
    obtain ⟨t, zs, rfl, h3, h4⟩ := dp_tup a
    have hz : zs = [.int p.1, .int p.2] := by
      cases h4 with
      | cons b1 h4 =>
        cases h4 with
        | cons b2 h4 => cases h4; rw [dp_int b1, dp_int b2]
    subst hz
    cases r
    obtain ⟨its2, r2, ⟨o, ho, hc, n, hd⟩, _⟩ := I.tuple h3
    obtain ⟨u1, u2, rfl, ri, rj⟩ := vals2 r2
    obtain ⟨t1, rfl⟩ := ri
    obtain ⟨t2, rfl⟩ := rj
    have hp : Srt.IsPair s.heap (.ref t) p.1 p.2 := ⟨t, o, t1, t2, n, rfl, ho, hc, hd⟩
    refine ⟨fun v hv => ?_, fun f hf => ?_⟩
    · rcases List.mem_cons.mp hv with rfl | hv
      · exact ⟨p, hp, t, rfl, a⟩
      · exact ih1 v hv
    · rw [List.map_cons, hf _ List.mem_cons_self p hp, ih2 f fun v hv => hf v (List.mem_cons_of_mem _ hv)]
theorem dps_mem {K : PySem.W.Frag} {H : Hp} : ∀ {xs : List V} {ps : List (Int × Int)}, DpAll K H xs (ps.map pairD) → ∀ {x : V}, x ∈ xs → ∃ (p : Int × Int) (t : Addr), x = .ref t
  | _, [], .nil, _, z => nomatch z
  | _, p :: ps, .cons a h, x, z => by
    rcases List.mem_cons.mp z with rfl | z
    · obtain ⟨t, zs, e, _⟩ := dp_tup a
      exact ⟨p, t, e⟩
    · exact dps_mem h z
theorem pair_all {K : PySem.W.Frag} {H : Hp} {k : Value → Int × Int} : ∀ {its : List Value}, DpAll K H (its.map backV) ((its.map k).map pairD) → ∀ v ∈ its, Dp K H (backV v) (pairD (k v))
  | [], _, _, z => nomatch z
  | _ :: _, .cons a h, v, z => by
    rcases List.mem_cons.mp z with rfl | z
    · exact a
    · exact pair_all h v z
theorem cr_sortedPD : CallR X (.builtin "sorted") (rSortedPD X.K) := by
  classical
  intro pins s σ H vs us Q I r h
  obtain ⟨a, xs, ps, rfl, hs, hx, q⟩ := h
  obtain ⟨its, rv, hl, hz⟩ := I.list hs
  obtain ⟨u, rfl, ru⟩ := vals1 r
  obtain rfl : u = Value.ref a := ru
  obtain ⟨g1, g2⟩ := pair_at I rv hx
  let k : Value → Int × Int := fun v => if h : ∃ p : Int × Int, Srt.IsPair s.heap v p.1 p.2 then h.choose else (0, 0)
  have hk : ∀ v (p : Int × Int), Srt.IsPair s.heap v p.1 p.2 → k v = p := fun v p hp => by
    have hex : ∃ p : Int × Int, Srt.IsPair s.heap v p.1 p.2 := ⟨p, hp⟩
    have e : k v = hex.choose := dif_pos hex
    rw [e]
    obtain ⟨q1, q2⟩ := isPair_fn hex.choose_spec hp
    exact Prod.ext q1 q2
  have hmap : its.map k = ps := g2 k fun v _ p hp => hk v p hp
  refine SrtO.sorted_pairsO (k := k) hl.isList (by rw [← rv.length]; exact hz) (fun v hv => ?_) fun h' d out h1 h2 kp hd hn => ?_
  · obtain ⟨p, hp, _⟩ := g1 v hv
    rw [hk v p hp]
    exact hp
  · have h3 : ∀ u ∈ out, ∃ a, u = Value.ref a := fun u hu => by
      obtain ⟨p, _, t, e, _⟩ := g1 u (h2.perm.mem_iff.mp hu)
      exact ⟨t, e⟩
    obtain ⟨n, hn⟩ := hn
    have hlen : out.length = its.length := h2.perm.length_eq
    have e1 : xs = its.map backV := (refs_back rv fun x m => by
      obtain ⟨d', t, e⟩ := dps_mem hx m
      exact ⟨t, e⟩).1
    have hD : ∀ H', DpAll X.K H' xs (ps.map pairD) → ∀ l : List Value, (∀ u ∈ l, u ∈ its) → DpAll X.K H' (l.map backV) ((l.map k).map pairD) := fun H' hx' l => by
      rw [e1, ← hmap] at hx'
      have g3 := pair_all hx'
      induction l with
      | nil => intro _; exact .nil
      | cons v l ih =>
        intro hm
        exact .cons (g3 v (hm v List.mem_cons_self)) (ih fun u hu => hm u (List.mem_cons_of_mem _ hu))
    refine ⟨.ref d, upd H d (.lst (out.map backV)), I.laid (t' := s.toks) kp hd ⟨?_, out, n, vals_back h3, hn⟩, rfl, q _ (out.map k) d (fun H' hx' => hD H' hx' out fun u hu => h2.perm.mem_iff.mp hu) (SrtO.srtd_map h1) (by rw [← hmap]; exact h2.perm.map k) (I.hok.fresh hd)⟩
    rw [List.length_map, hlen, ← rv.length]
    exact hz
end
section
variable {c : DC} {ρ : DEnv} {ta tb te : TE} {d : PD}
theorem dps_rev {K : PySem.W.Frag} {H : Hp} : ∀ {xs : List V} {ds : List PD}, DpAll K H xs ds → DpAll K H xs.reverse ds.reverse
  | _, _, .nil => .nil
  | _, _, .cons a r => by
    rw [List.reverse_cons, List.reverse_cons]
    exact dps_append (dps_rev r) (.cons a .nil)
theorem en_catL {xs ys : List PD} (ha : EL c ta ρ xs) (hb : EL c tb ρ ys) (hz : xs.length + ys.length ≤ 1000) : EN c (tOp (rCatL c.K) ta tb) ρ (xs ++ ys) := fun A σ H s Q q =>
  ha A σ H s _ fun a us H1 k1 g1 g2 => hb A σ H1 (s.move k1) _ fun b vs H2 k2 h1 h2 => by
    have g3 := dps_keep (hid_keep k2) (s.move k1).tabm g2
    refine ⟨a, b, us, vs, rfl, rfl, k2.sqL (s.move k1).tabs g1, h1, by rw [dps_len g2, dps_len h2]; exact Nat.le_of_lt (small1000 hz), fun p hp => ?_⟩
    refine q p _ _ ((k1.trans k2).trans (.new hp)) ((k1.trans k2).free s.tabs hp) upd_same ?_
    rw [hid_new hp]
    exact dps_append g3 h2
theorem en_revL {xs : List PD} (ha : EL c ta ρ xs) : EN c (tRevL c.K ta) ρ xs.reverse := fun A σ H s Q q => ha A σ H s _ fun a us H1 k1 g1 g2 => ⟨a, us, rfl, g1, fun p hp => by
  refine q p _ _ (k1.trans (.new hp)) (k1.free s.tabs hp) upd_same ?_
  rw [hid_new hp]
  exact dps_rev g2⟩
theorem en_sortP {ps qs : List (Int × Int)} (ha : EL c ta ρ (ps.map pairD)) (h1 : SrtO.Srtd SrtO.lexB qs) (h2 : qs.Perm ps) : EN c (tCB (rSortedPD c.K) (tCons ta tNil)) ρ (qs.map pairD) := fun A σ H s Q q => ha A σ H s _ fun a us H1 k1 g1 g2 => by
  refine ⟨a, us, ps, rfl, g1, dps_same hid_same g2, fun ys qs' p h3 h4 h5 hp => ?_⟩
  have e : qs' = qs := lex_uniq h4 h1 (h5.trans h2.symm)
  subst e
  refine q p ys _ (k1.trans (.new hp)) (k1.free s.tabs hp) upd_same ?_
  rw [hid_new hp]
  exact h3 _ g2
end
end DL
namespace DL
open PySem PySem.Spec PyProof.Rows L2 DA TR
section
variable {c : DC} {A : List Addr} {σ : L2.St} {H H' : Hp} {ρ : DEnv}
theorem SR.growK (r : SR c A σ H ρ) (k : Keep c.T H H') {p : Addr} {xs : List V} (hp : H p = none) (h1 : H' p = some (.lst xs)) : Keep c.T (hid (c.M ++ A) H) (hid (c.M ++ p :: A) H') := by
  refine ⟨fun b o e n => ?_, fun P hP tb => ?_⟩
  · obtain ⟨m, e⟩ := hid_inv e
    refine hid_of (fun q => ?_) (k.at_ b o e n)
    rcases List.mem_append.mp q with q | q
    · exact m (List.mem_append_left _ q)
    · rcases List.mem_cons.mp q with z | q
      · rw [z, hp] at e; cases e
      · exact m (List.mem_append_right _ q)
  · obtain ⟨ps, e, ok⟩ := tb
    obtain ⟨m, e⟩ := hid_inv e
    obtain ⟨ps', e', ok'⟩ := k.tab P hP ⟨ps, e, ok⟩
    refine ⟨ps', hid_of (fun q => ?_) e', ok'⟩
    rcases List.mem_append.mp q with q | q
    · exact m (List.mem_append_left _ q)
    · rcases List.mem_cons.mp q with z | q
      · rw [z, hp] at e; cases e
      · exact m (List.mem_append_right _ q)
theorem SR.setO (r : SR c A σ H ρ) (i : Nat) {p : Addr} {xs : List V} {ds : List PD} (hA : p ∈ A) (h1 : H p = some (.lst xs)) (h3 : DpAll c.K (hid (c.M ++ A) H) xs ds) (key : ∀ m gs, i ≠ m → ρ[m]? = some (.own gs) → σ[m]? = some (some (.ref p)) → False) : SR c A (σ.set i (some (.ref p))) H (ρ.set i (.own ds)) := by
  refine ⟨r.tab, r.keep, r.msk, r.new, by rw [List.length_set, List.length_set, r.len], fun j t e => ?_, fun j l es fs a hjl e1 e2 e3 e4 => ?_⟩
  · rcases get_set e with ⟨rfl, rfl⟩ | ⟨hne, e⟩
    · have hl : i < σ.length := by
        rw [r.len]
        have := (List.getElem?_eq_some_iff.mp e).1
        rwa [List.length_set] at this
      exact ⟨some (.ref p), by rw [List.getElem?_set, if_pos rfl, if_pos hl], (show ∃ a ys, V.ref p = .ref a ∧ a ∈ A ∧ H a = some (.lst ys) ∧ DpAll c.K (hid (c.M ++ A) H) ys ds from ⟨p, xs, rfl, hA, h1, h3⟩)⟩
    · obtain ⟨ov, g1, g2⟩ := r.rel j t e
      exact ⟨ov, by rw [List.getElem?_set_ne hne]; exact g1, g2⟩
  · rcases get_set e1 with ⟨rfl, _⟩ | ⟨n1, e1⟩
    · rcases get_set e2 with ⟨z, _⟩ | ⟨n2, e2⟩
      · exact hjl z
      · have hl : i < σ.length := by
          by_cases q : i < σ.length
          · exact q
          · rw [List.getElem?_eq_none (by rw [List.length_set]; omega)] at e3
            cases e3
        rw [List.getElem?_set, if_pos rfl, if_pos hl] at e3
        cases e3
        rw [List.getElem?_set_ne n2] at e4
        exact key l fs n2 e2 e4
    · rcases get_set e2 with ⟨rfl, _⟩ | ⟨n2, e2⟩
      · have hl : i < σ.length := by
          by_cases q : i < σ.length
          · exact q
          · rw [List.getElem?_eq_none (by rw [List.length_set]; omega)] at e4
            cases e4
        rw [List.getElem?_set, if_pos rfl, if_pos hl] at e4
        cases e4
        rw [List.getElem?_set_ne n1] at e3
        exact key j es n1 e1 e3
      · rw [List.getElem?_set_ne n1] at e3
        rw [List.getElem?_set_ne n2] at e4
        exact r.inj j l es fs a hjl e1 e2 e3 e4
/-- no own list stands at an address that was none -/
theorem SR.noOwn (r : SR c A σ H ρ) {p : Addr} (hp : H p = none) : ∀ (m : Nat) (gs : List PD), ρ[m]? = some (.own gs) → σ[m]? = some (some (.ref p)) → False := fun m gs e1 e2 => by
  obtain ⟨ov, z1, z2⟩ := r.rel m _ e1
  rw [e2] at z1
  cases z1
  obtain ⟨b, ys, z3, z4, z5, _⟩ := z2
  cases z3
  rw [hp] at z5
  cases z5
end
theorem noOwn_set {σ : L2.St} {ρ : DEnv} {i : Nat} {p q : Addr} {s : DS} (n : q ≠ p) (h : ∀ (m : Nat) (gs : List PD), ρ[m]? = some (.own gs) → σ[m]? = some (some (.ref p)) → False) : ∀ (m : Nat) (gs : List PD), (ρ.set i s)[m]? = some (.own gs) → (σ.set i (some (.ref q)))[m]? = some (some (.ref p)) → False := fun m gs e1 e2 => by
  by_cases z : i = m
  · subst z
    by_cases hl : i < σ.length
    · rw [List.getElem?_set, if_pos rfl, if_pos hl] at e2
      cases e2
      exact n rfl
    · rw [List.getElem?_eq_none (by rw [List.length_set]; omega)] at e2
      cases e2
  · rw [List.getElem?_set_ne z] at e1 e2
    exact h m gs e1 e2
section
variable {c : DC} {ρ : DEnv} {ta tb tc te : TE} {d : PD} {D : DEnds}
theorem sd_new3 {i j l : Nat} {xs ys zs : List PD} (hij : i ≠ j) (hil : i ≠ l) (hjl : j ≠ l) (ha : EN c ta ρ xs) (hb : EN c tb ρ ys) (hc : EN c tc ρ zs) (k : D.nx (((ρ.set i (.own xs)).set j (.own ys)).set l (.own zs))) :
    SD c (tAsg (tTup (tCons ta (tCons tb (tCons tc tNil)))) (gTup c.K 3 (gCons (gName i) (gCons (gName j) (gCons (gName l) gNil))))) D ρ := fun E L A σ H r =>
  ha A σ H r _ fun p1 us1 H1 k1 hp1 e1 g1 => by
    have r1 := r.grow k1 hp1 e1
    have g1 : DpAll c.K (hid (c.M ++ p1 :: A) H1) us1 xs := by
      rw [hid_cong (N := p1 :: (c.M ++ A)) (fun a => by simp [or_left_comm])]; exact g1
    refine hb _ σ H1 r1 _ fun p2 us2 H2 k2 hp2 e2 g2 => ?_
    have r2 := r1.grow k2 hp2 e2
    have g2 : DpAll c.K (hid (c.M ++ p2 :: p1 :: A) H2) us2 ys := by
      rw [hid_cong (N := p2 :: (c.M ++ p1 :: A)) (fun a => by simp [or_left_comm])]; exact g2
    have g1 := dps_keep (r1.growK k2 hp2 e2) r1.tabm g1
    have d21 : p1 ≠ p2 := fun z => by rw [← z, e1] at hp2; cases hp2
    have e1 := k2.at_ _ _ e1 (r1.nA List.mem_cons_self)
    refine hc _ σ H2 r2 _ fun p3 us3 H3 k3 hp3 e3 g3 => ?_
    have r3 := r2.grow k3 hp3 e3
    have g3 : DpAll c.K (hid (c.M ++ p3 :: p2 :: p1 :: A) H3) us3 zs := by
      rw [hid_cong (N := p3 :: (c.M ++ p2 :: p1 :: A)) (fun a => by simp [or_left_comm])]; exact g3
    have g1 := dps_keep (r2.growK k3 hp3 e3) r2.tabm g1
    have g2 := dps_keep (r2.growK k3 hp3 e3) r2.tabm g2
    have d31 : p1 ≠ p3 := fun z => by rw [← z, e1] at hp3; cases hp3
    have d32 : p2 ≠ p3 := fun z => by rw [← z, e2] at hp3; cases hp3
    have e1 := k3.at_ _ _ e1 (r2.nA (List.mem_cons_of_mem _ List.mem_cons_self))
    have e2 := k3.at_ _ _ e2 (r2.nA List.mem_cons_self)
    refine ⟨by show 3 ≤ sizeLine; decide, fun p hp => ?_⟩
    have kn : Keep c.T H3 (upd H3 p (.tup [.ref p1, .ref p2, .ref p3])) := .new hp
    have r4 := r3.move kn
    have g1 := dps_keep (hid_keep kn) r3.tabm g1
    have g2 := dps_keep (hid_keep kn) r3.tabm g2
    have g3 := dps_keep (hid_keep kn) r3.tabm g3
    have e1 := kn.at_ _ _ e1 (r3.nA (List.mem_cons_of_mem _ (List.mem_cons_of_mem _ List.mem_cons_self)))
    have e2 := kn.at_ _ _ e2 (r3.nA (List.mem_cons_of_mem _ List.mem_cons_self))
    have e3 := kn.at_ _ _ e3 (r3.nA List.mem_cons_self)
    have n1 := r.noOwn hp1
    have n2 := r1.noOwn hp2
    have n3 := r2.noOwn hp3
    have q1 := r4.setO i (List.mem_cons_of_mem _ (List.mem_cons_of_mem _ List.mem_cons_self)) e1 g1 fun m gs _ => n1 m gs
    have n2' := noOwn_set (i := i) (s := .own xs) d21 n2
    have q2 := q1.setO j (List.mem_cons_of_mem _ List.mem_cons_self) e2 g2 fun m gs _ => n2' m gs
    have n3' := noOwn_set (i := j) (s := .own ys) d32 (noOwn_set (i := i) (s := .own xs) d31 n3)
    have q3 := q2.setO l List.mem_cons_self e3 g3 fun m gs _ => n3' m gs
    exact ⟨p, _, rfl, .of upd_same, rfl, _, _, rfl, _, _, rfl, _, _, rfl, rfl, L.nx _ _ _ _ q3 k⟩
theorem fnok_or {P : Program} {w : World} {K : PySem.W.Frag} {mg : Str → Option Value} {base : Heap} {CX : CXT} {k : Nat} {f : Addr} {fd : FuncData} {ps : List Str} {T : List Addr} {R1 R2 : List DS → PD → Prop} (h1 : FnOk P w K mg base CX k f fd ps (spD K T R1)) (h2 : FnOk P w K mg base CX k f fd ps (spD K T R2)) :
    FnOk P w K mg base CX k f fd ps (spD K T fun ss d => R1 ss d ∨ R2 ss d) := by
  have sp : ∀ vs H Q E, spD K T (fun ss d => R1 ss d ∨ R2 ss d) vs H Q E → spD K T R1 vs H Q E ∨ spD K T R2 vs H Q E := fun vs H Q E ⟨M, ss, d, a, b, e, g, q⟩ => g.elim (fun g => .inl ⟨M, ss, d, a, b, e, g, q⟩) (fun g => .inr ⟨M, ss, d, a, b, e, g, q⟩)
  refine ⟨fun vs H Q E h => (sp vs H Q E h).elim (h1.len vs H Q E) (h2.len vs H Q E), fun A outer s H args us vs Q E hr he hb hv h => ?_⟩
  exact (sp vs H Q E h).elim (h1.run A outer s H args us vs Q E hr he hb hv) (h2.run A outer s H args us vs Q E hr he hb hv)
theorem ed_indexD {ds : List PD} {j : Nat} {z : PD} (ha : EL c te ρ ds) (hb : ED c tb ρ d) (hs : SeqAt.shaped (.list ds) = true) (hd : SeqAt.shaped d = true) (h1 : ds[j]? = some z) (h2 : PyData.eqv z d = true) (h3 : ∀ (m : Nat) (z' : PyData), m < j → ds[m]? = some z' → PyData.eqv z' d = false) : ED c (tBM c.K "list" (rIndexD c.K) te (tCons tb tNil)) ρ (.int (j : Int)) := fun A σ H s Q q =>
  ha A σ H s _ fun a xs H1 k1 g1 g2 => ⟨.inl ⟨rfl, xs, g1⟩, hb A σ H1 (s.move k1) _ fun w H2 k2 g3 => by
    have h4 := dps_keep (hid_keep k2) (s.move k1).tabm g2
    exact ⟨a, w, d, ds, j, z, rfl, rfl, .lst (k2.sqL (s.move k1).tabs g1) (dps_same hid_same h4), dp_same hid_same g3, hs, hd, h1, h2, h3, q _ H2 (k1.trans k2) (.int _)⟩⟩
theorem ed_max2 {i j : Int} (ha : ED c ta ρ (.int i)) (hb : ED c tb ρ (.int j)) : ED c (tCB (fun xs H Q => ∃ i j, xs = [.int i, .int j] ∧ Q (.int (if j > i then j else i)) H) (tCons ta (tCons tb tNil))) ρ (.int (max i j)) :=
  ed_CB2 (ea_d ha (ea_d hb ea_nil)) fun H v w K' H' h1 h2 Q q => by
    refine ⟨i, j, by rw [dp_int h1, dp_int h2], q _ fun K2 H2 => ?_⟩
    rw [show max i j = if j > i then j else i from by split <;> omega]
    exact .int _
end
end DL
namespace PT
open PySem PySem.Spec PyProof.Rows L2 DA DL TR TL
def top (i : Nat) : Stmt := PySem.Challenge.pw_processturns_k32_whole_texts.main.body.getD i (.Pass ⟨0, 0, 0, 0⟩)
/-- a def of the module, as it is called -/
structure CalX (CX : CXT) (P : Program) (w : World) (K : PySem.W.Frag) (mg : Str → Option Value) (base : Heap) (x : Str) (k : Nat) (ps : List Str) (sp : Sp) (f : Addr) (fd : FuncData) : Prop where
  g : mg x = some (.ref f)
  kp : PySem.W.keepIn K (.ref f) = true
  b : Binds K fd ps []
  ok : FnOk P w K mg base CX k f fd ps sp
abbrev Cal (P : Program) (w : World) (K : PySem.W.Frag) (mg : Str → Option Value) (base : Heap) (x : Str) (k : Nat) (ps : List Str) (sp : Sp) (f : Addr) (fd : FuncData) : Prop := CalX CX0 P w K mg base x k ps sp f fd
abbrev CalE (P : Program) (w : World) (K : PySem.W.Frag) (mg : Str → Option Value) (base : Heap) (x : Str) (k : Nat) (ps : List Str) (sp : Sp) (f : Addr) (fd : FuncData) : Prop := CalX (L2.CX P w) P w K mg base x k ps sp f fd
def intD (n : Nat) : PD := .int (n : Int)
def encO : Option Nat → PD | none => .none | some n => .int (n : Int)
/-- an exception class of the module, as it is raised -/
structure Bad (K : PySem.W.Frag) (mg : Str → Option Value) where
  aBadText : Addr
  gBadText : mg "BadText" = some (.ref aBadText)
  xBadText : PySem.W.excIn K aBadText [.type "ValueError", .type "Exception", .type "BaseException", .type "object"] "ValueError.__new__" = true
  kBadText : PySem.W.keepIn K (.ref aBadText) = true
  bBadText : PySem.W.subIn K (.ref aBadText) (.type "BaseException") = some true
  tBadText : PySem.W.typeIn K (.ref aBadText) = some (.type "type")
/-- the module's names -/
structure Glob (K : PySem.W.Frag) (mg : Str → Option Value) where
  isinstance : mg "isinstance" = none
  int : mg "int" = none
  bool : mg "bool" = none
  tuple : mg "tuple" = none
  list : mg "list" = none
  str : mg "str" = none
  len : mg "len" = none
  all : mg "all" = none
  any : mg "any" = none
  range : mg "range" = none
  ValueError : mg "ValueError" = none
structure GlobC (K : PySem.W.Frag) (mg : Str → Option Value) where
  tMP : Tok
  MOST_PROCESSES : mg "MOST_PROCESSES" = some (.int 4 tMP)
  tLT : Tok
  LAST_TIME : mg "LAST_TIME" = some (.int 99 tLT)
theorem ed_glob {c : DC} {ρ : DEnv} {v : V} {d : PD} (h : ∀ H, Dp c.K H v d) : ED c (tC v) ρ d := fun A σ H r Q q => q v H .refl (h _)
theorem eqStr (a b : Str) : decide (V.str a = V.str b) = decide (a = b) := decide_eq_decide.mpr ⟨fun h => by cases h; rfl, fun h => by rw [h]⟩
theorem inStr2 (x a b : Str) : inV (.str x) [.str a, .str b] = decide (x = a ∨ x = b) := by
  simp only [inV, List.any_cons, List.any_nil, Bool.or_false, eqV]
  rw [Bool.eq_iff_iff, Bool.or_eq_true, beq_iff_eq, beq_iff_eq, decide_eq_true_iff]
  exact ⟨fun h => h.imp Eq.symm Eq.symm, fun h => h.imp Eq.symm Eq.symm⟩
theorem sd_when {c : DC} {ρ : DEnv} {D : DEnds} {tt : TT} {t : TS} {b : Bool} (h : ET c tt ρ b) (h1 : b = true → SD c t D ρ) (h2 : b = false → D.nx ρ) : SD c (tIfS tt t tNext) D ρ := sd_if h h1 fun e => sd_next (h2 e)
theorem fn_sdC {P : Program} {w : World} {K : PySem.W.Frag} {mg : Str → Option Value} {base : Heap} {T : List Addr} {x qual : Str} {st : Stmt} {f : Addr} {fd : FuncData} {co : Addr} {N ps : List Str} {k : Nat} {R : List DS → PD → Prop} (F : FunC K x qual st f fd co) (S : FnScope N ps (defScope st)) (hl : ∀ ss d, R ss d → ss.length = ps.length)
    (hb : ∀ (A : Around) (outer : List Env) (s : Shared) (H : Hp) (E : XK), Room k (A.deeper (envOfC qual (defScope st) s.heap.objs.size f (.ref co))) →
      ∃ t, PSs (cxOf CX0 P w K mg base N qual (defScope st) f (.ref co) A outer s H E).nox (defBody st) t ∧ ∀ M H0 ss d, R ss d → SD ⟨K, T, M, H0⟩ t (DR d) (startD N ss)) : FnOk P w K mg base CX0 (k + 1) f fd ps (spD K T R) := by
  refine F.ok S (fun vs H Q E h => ?_) (fun A outer s H vs Q E hr h => ?_)
  · obtain ⟨M, ss, d, _, _, h3, h4, _⟩ := h
    rw [h3.len]
    exact hl ss d h4
  · obtain ⟨M, ss, d, h1, h2, h3, h4, q⟩ := h
    obtain ⟨t, ht, hq⟩ := hb A outer s H E hr
    refine ⟨t, ht, hq M H ss d h4 _ ⟨fun A' σ' H' ρ' r' e => ?_, fun v H' e k' h5 h6 => ?_, fun _ _ _ _ _ z => z.elim, fun _ _ _ _ _ z => z.elim⟩ [] _ H (start_sr h1 h2 h3)⟩
    · have e : d = .none := e
      subst e
      exact q .non H' .non r'.keep
    · have h6 : e = d := h6
      subst h6
      exact q v H' h5 k'

def R_is_number : List DS → PD → Prop := fun ss d => ∃ e lo hi, ss = [.dat e, .dat (.int lo), .dat (.int hi)] ∧ d = .bool (K11.numD e lo hi)
def R_is_program : List DS → PD → Prop := fun ss d => ∃ e, ss = [.dat e] ∧ d = .bool (K11.progD e)
def R_check_program : List DS → PD → Prop := fun ss d => ∃ e, K11.progD e = true ∧ ss = [.dat e] ∧ d = .none
def procD : PD → Bool
  | .tuple [a, b] => K11.numD a 0 99 && K11.progD b
  | _ => false
def hallD : PD → Bool
  | .list ds => decide (1 ≤ ds.length) && decide (ds.length ≤ 4) && ds.all procD
  | _ => false

def R__is_process : List DS → PD → Prop := fun ss d => ∃ e, ss = [.dat e] ∧ d = .bool (procD e)
def R_is_hall : List DS → PD → Prop := fun ss d => ∃ e, (∀ ds, e = .list ds → ds.length ≤ 1000) ∧ ss = [.dat e] ∧ d = .bool (hallD e)
def R_check_hall : List DS → PD → Prop := fun ss d => ∃ e, hallD e = true ∧ ss = [.dat e] ∧ d = .none
theorem hall_inv {e : PD} (h : hallD e = true) : ∃ ds, e = .list ds ∧ 1 ≤ ds.length ∧ ds.length ≤ 4 ∧ ∀ x ∈ ds, procD x = true := by
  cases e with
  | list ds =>
    have h : (decide (1 ≤ ds.length) && decide (ds.length ≤ 4) && ds.all procD) = true := h
    rw [Bool.and_eq_true, Bool.and_eq_true] at h
    exact ⟨ds, rfl, of_decide_eq_true h.1.1, of_decide_eq_true h.1.2, fun x hx => List.all_eq_true.mp h.2 x hx⟩
  | _ => cases h
theorem proc_inv {e : PD} (h : procD e = true) : ∃ a b, e = .tuple [a, .list b] ∧ K11.numD a 0 99 = true ∧ K11.progD (.list b) = true := by
  unfold procD at h
  split at h
  · next a b =>
    rw [Bool.and_eq_true] at h
    obtain ⟨ds, rfl, _⟩ := K11.prog_inv h.2
    exact ⟨a, ds, rfl, h.1, h.2⟩
  · cases h
section
variable {P : Program} {w : World} {K : PySem.W.Frag} {mg : Str → Option Value} {base : Heap} {f : Addr} {fd : FuncData} {T : List Addr}
theorem is_number_D (h : FnOk P w K mg base CX0 1 f fd ["value", "least", "greatest"] (K11.spNum K)) : FnOk P w K mg base CX0 1 f fd ["value", "least", "greatest"] (spD K T R_is_number) := h.imp fun vs H Q E ⟨M, ss, d, _, _, h3, ⟨e, lo, hi, e1, e2⟩, q⟩ => by
  subst e1 e2
  cases h3 with
  | cons a1 h3 =>
    cases h3 with
    | cons a2 h3 =>
      cases h3 with
      | cons a3 h3 =>
        cases h3
        have b2 := dp_int a2
        have b3 := dp_int a3
        subst b2 b3
        exact ⟨_, e, lo, hi, rfl, DL.dp_same hid_same a1, q _ H (.bl _) .refl⟩
theorem is_program_D (h : FnOk P w K mg base CX0 4 f fd ["value"] (K11.spProg K T)) : FnOk P w K mg base CX0 4 f fd ["value"] (spD K T R_is_program) := h.imp fun vs H Q E ⟨M, ss, d, _, h2, h3, ⟨e, e1, e2⟩, q⟩ => by
  subst e1 e2
  obtain ⟨v, rfl, a1⟩ := args1 h3
  exact ⟨v, e, rfl, DL.dp_same hid_same a1, h2, fun H' k => q _ H' (.bl _) k⟩

theorem check_program_D (h : FnOk P w K mg base CX0 5 f fd ["value"] (K11.spChk K T)) : FnOk P w K mg base CX0 5 f fd ["value"] (spD K T R_check_program) := h.imp fun vs H Q E ⟨M, ss, d, _, h2, h3, ⟨e, e0, e1, e2⟩, q⟩ => by
  subst e1 e2
  obtain ⟨v, rfl, a1⟩ := args1 h3
  exact ⟨v, e, rfl, DL.dp_same hid_same a1, h2, e0, fun H' k => q _ H' .non k⟩
end
abbrev sIsProc : Stmt := top 22
abbrev nIsProc : List Str := ["value"]
theorem scIsProc : FnScope nIsProc ["value"] (defScope sIsProc) := ⟨rfl, rfl, rfl, by decide +kernel, rfl, by decide +kernel, by decide +kernel⟩
section
variable {P : Program} {w : World} {K : PySem.W.Frag} {mg : Str → Option Value} {base : Heap} {f : Addr} {fd : FuncData} {T : List Addr}
theorem ok__is_process (F : Fun K "_is_process" "_is_process" sIsProc f fd) (G : Glob K mg) (GC : GlobC K mg) {fN : Addr} {dN : FuncData} (c_is_number : Cal P w K mg base "is_number" 1 ["value", "least", "greatest"] (spD K T R_is_number) fN dN) {fP : Addr} {dP : FuncData} (c_is_program : Cal P w K mg base "is_program" 4 ["value"] (spD K T R_is_program) fP dP) : FnOk P w K mg base CX0 5 f fd ["value"] (spD K T R__is_process) := by
  refine fn_sd F scIsProc (fun ss d h => ?_) (fun cdv A outer s H E hr => ⟨_, (pss_cons (ps_if (PW.pt (pw_or (pt_not (pt_val (pe_callB call_isi (by rfl) G.isinstance boot_isinstance (pa_cons (pv 0) (pa_cons (pe_bltn (v := .ty "tuple") (by rfl) G.tuple (by decide +kernel) rfl) pa_nil))))) (pw_or1 (pt_cmpR op_ne (pe_callB call_len_seq (by rfl) G.len PySem.boot_len (pa_cons (pv 0) pa_nil)) pe_int (nomark _))))) (pss_one (ps_ret pe_bl)) pss_nil)
      (pss_one (ps_ret (pe_and (pe_call c_is_number.ok (hr.mono (by decide)) (by rfl) c_is_number.g c_is_number.kp c_is_number.b .nil pass0 (pa_cons (pe_ix ix_tup (pv 0) pe_int (fun _ _ => rfl)) (pa_cons pe_int (pa_cons (pe_glob (v := .int 99) (by rfl) GC.LAST_TIME ⟨_, rfl⟩) pa_nil)))) (pe_one (pe_call c_is_program.ok (hr.mono (by decide)) (by rfl) c_is_program.g c_is_program.kp c_is_program.b .nil pass0 (pa_cons (pe_ix ix_tup (pv 0) pe_int (fun _ _ => rfl)) pa_nil))))))), fun M H0 ss d h => ?_⟩)
  · obtain ⟨e, rfl, rfl⟩ := h
    rfl
  · obtain ⟨e, rfl, rfl⟩ := h
    by_cases ht : ∃ ds, e = .tuple ds
    · obtain ⟨ds, rfl⟩ := ht
      refine sd_seq (sd_when (b := false || !decide (ds.length = 2)) (et_or (a := false) (et_is (et_not (et_B (ed_isiTup (ed_var rfl)))) rfl) (fun _ => et_is (et_test (ed_ne (x := .int (ds.length : Int)) (y := .int 2) (ed_lenT (ds := ds) (ed_var rfl)) ed_int rfl rfl rfl)) ?_)) (fun hb => ?_) (fun hb => ?_))
      · show (!decide (V.int (ds.length : Int) = V.int 2)) = !decide (ds.length = 2)
        congr 1
        exact decide_eq_decide.mpr ⟨fun h => by injection h with h; omega, fun h => by rw [h]; rfl⟩
      · refine sd_ret ed_bl ?_
        rw [Bool.false_or] at hb
        have hn : ds.length ≠ 2 := by
          intro z
          rw [decide_eq_true z] at hb
          cases hb
        have e0 : procD (.tuple ds) = false := by
          unfold procD
          split
          · next a b e1 =>
            injection e1 with e1
            rw [e1] at hn
            exact absurd rfl hn
          · rfl
        show PyData.bool false = _
        rw [e0]
      · rw [Bool.false_or] at hb
        have hl : ds.length = 2 := by
          by_cases z : ds.length = 2
          · exact z
          · rw [decide_eq_false z] at hb; cases hb
        match ds, hl with
        | [a, b], _ =>
          refine sd_ret (ed_andV (ed_call (ea_d (ed_ixT (ds := [a, b]) (i := 0) (ed_var rfl) ed_int rfl) (ea_d ed_int (ea_d ed_int ea_nil))) ⟨a, 0, 99, rfl, rfl⟩) (fun _ => ed_call (ea_d (ed_ixT (ds := [a, b]) (i := 1) (ed_var rfl) ed_int rfl) ea_nil) ⟨b, rfl, rfl⟩)) rfl
    · have e1 : isTup e = false := by
        cases e <;> first | rfl | exact absurd ⟨_, rfl⟩ ht
      have e2 : procD e = false := by
        unfold procD
        split
        · exact absurd ⟨_, rfl⟩ ht
        · rfl
      rw [e2]
      refine sd_seq (sd_when (b := true || false) (et_or (a := true) (et_is (et_not (et_B (ed_isiTup (ed_var rfl)))) (by rw [e1]; rfl)) (fun h => by cases h)) (fun hb => sd_ret ed_bl rfl) (fun hb => by cases hb))
end
abbrev sIsHall : Stmt := top 21
abbrev nIsHall : List Str := ["value", "process"]
theorem scIsHall : FnScope nIsHall ["value"] (defScope sIsHall) := ⟨rfl, rfl, rfl, by decide +kernel, rfl, by decide +kernel, by decide +kernel⟩
section
variable {P : Program} {w : World} {K : PySem.W.Frag} {mg : Str → Option Value} {base : Heap} {f : Addr} {fd : FuncData} {T : List Addr}
theorem ok_is_hall {co : Addr} (F : FunC K "is_hall" "is_hall" sIsHall f fd co) (G : Glob K mg) (GC : GlobC K mg) {PT : Addr} (TB : GxR.TabB base mg co PT) (hPT : PT ∈ T) {fP : Addr} {dP : FuncData} (c__is_process : Cal P w K mg base "_is_process" 5 ["value"] (spD K T R__is_process) fP dP) : FnOk P w K mg base CX0 7 f fd ["value"] (spD K T R_is_hall) := by
  refine fn_sdC F scIsHall (fun ss d h => ?_) (fun A outer s H E hr => ⟨_, (pss_cons (ps_if (pt_not (pt_val (pe_callB call_isi (by rfl) G.isinstance boot_isinstance (pa_cons (pv 0) (pa_cons (pe_bltn (v := .ty "list") (by rfl) G.list (by decide +kernel) rfl) pa_nil))))) (pss_one (ps_ret pe_bl)) pss_nil)
      (pss_cons (ps_if (pt_not (pt_chain op_le op_le pe_int (pe_callB call_len_seq (by rfl) G.len PySem.boot_len (pa_cons (pv 0) pa_nil)) (pe_glob (v := .int 4) (by rfl) GC.MOST_PROCESSES ⟨_, rfl⟩))) (pss_one (ps_ret pe_bl)) pss_nil)
      (pss_one (ps_ret (GE.pe_allG (k := 5) (own := [("process", 1)]) (g := (gName 1)) (hr.mono (by decide)) rfl scIsHall.nd (by rfl) G.all TB rfl ⟨blkOk_by (N := nIsHall) (sc := defScope sIsHall) (by decide +kernel), by rfl, by decide +kernel, by rfl⟩ (pi_list (pv 0)) (fun _ _ _ _ _ _ => (pg_name (i := 1) scIsHall.nd rfl (.inl rfl))) (fun _ _ _ _ _ _ hr2 => (pe_call c__is_process.ok (hr2.mono (by decide)) (by rfl) c__is_process.g c__is_process.kp c__is_process.b .nil pass0 (pa_cons (pv 1) pa_nil)))))))), fun M H0 ss d h => ?_⟩)
  · obtain ⟨e, _, rfl, rfl⟩ := h
    rfl
  · obtain ⟨e, hz, rfl, rfl⟩ := h
    by_cases ht : ∃ ds, e = .list ds
    · obtain ⟨ds, rfl⟩ := ht
      refine sd_seq (sd_when (b := false) (et_is (et_not (et_B (ed_isiList (ed_var rfl)))) rfl) (fun hb => by cases hb) (fun _ => ?_))
      refine sd_seq (sd_when (b := !(decide (1 ≤ (ds.length : Int)) && decide ((ds.length : Int) ≤ 4))) (et_not (et_chain (p := fun i j => decide (i ≤ j)) (p' := fun i j => decide (i ≤ j)) (i := 1) (j := (ds.length : Int)) (k := 4) ed_int (ed_lenL (ds := ds) (el_ed (ed_var rfl))) ed_int)) (fun hb => sd_ret ed_bl ?_) (fun hb => ?_))
      · show PyData.bool false = .bool (decide (1 ≤ ds.length) && decide (ds.length ≤ 4) && ds.all procD)
        have : (decide (1 ≤ ds.length) && decide (ds.length ≤ 4)) = false := by
          rw [← Bool.not_eq_true'] at *
          rw [show decide (1 ≤ ds.length) = decide (1 ≤ (ds.length : Int)) from decide_eq_decide.mpr (by omega), show decide (ds.length ≤ 4) = decide ((ds.length : Int) ≤ 4) from decide_eq_decide.mpr (by omega)]
          exact hb
        rw [this, Bool.false_and]
      · refine sd_ret (d := .bool (ds.all procD)) (ed_allG (js := [1]) procD hPT (id_list (ed_var rfl)) (by decide) (fun d hd H1 _ => ⟨[d], tg_name, ed_call (ea_d (ed_var rfl) ea_nil) ⟨d, rfl, rfl⟩⟩)) ?_
        show PyData.bool (ds.all procD) = .bool (decide (1 ≤ ds.length) && decide (ds.length ≤ 4) && ds.all procD)
        have : (decide (1 ≤ ds.length) && decide (ds.length ≤ 4)) = true := by
          rw [show decide (1 ≤ ds.length) = decide (1 ≤ (ds.length : Int)) from decide_eq_decide.mpr (by omega), show decide (ds.length ≤ 4) = decide ((ds.length : Int) ≤ 4) from decide_eq_decide.mpr (by omega)]
          cases hq : (decide (1 ≤ (ds.length : Int)) && decide ((ds.length : Int) ≤ 4)) with
          | true => rfl
          | false => rw [hq] at hb; cases hb
        rw [this, Bool.true_and]
    · have e1 : isList e = false := by
        cases e <;> first | rfl | exact absurd ⟨_, rfl⟩ ht
      have e2 : hallD e = false := by
        cases e <;> first | rfl | exact absurd ⟨_, rfl⟩ ht
      rw [e2]
      exact sd_seq (sd_when (b := true) (et_is (et_not (et_B (ed_isiList (ed_var rfl)))) (by rw [e1]; rfl)) (fun _ => sd_ret ed_bl rfl) (fun hb => by cases hb))
end
abbrev sChHall : Stmt := top 23
abbrev nChHall : List Str := ["value"]
theorem scChHall : FnScope nChHall ["value"] (defScope sChHall) := ⟨rfl, rfl, rfl, by decide +kernel, rfl, by decide +kernel, by decide +kernel⟩
section
variable {P : Program} {w : World} {K : PySem.W.Frag} {mg : Str → Option Value} {base : Heap} {f : Addr} {fd : FuncData} {T : List Addr}
theorem ok_check_hall (F : Fun K "check_hall" "check_hall" sChHall f fd) (G : Glob K mg) {fH : Addr} {dH : FuncData} (c_is_hall : Cal P w K mg base "is_hall" 7 ["value"] (spD K T R_is_hall) fH dH) : FnOk P w K mg base CX0 8 f fd ["value"] (spD K T R_check_hall) := by
  refine fn_sd F scChHall (fun ss d h => ?_) (fun cdv A outer s H E hr => ⟨_, (pss_one (ps_if (pt_not (pt_val (pe_call c_is_hall.ok (hr.mono (by decide)) (by rfl) c_is_hall.g c_is_hall.kp c_is_hall.b .nil pass0 (pa_cons (pv 0) pa_nil)))) (pss_one ps_never) pss_nil)), fun M H0 ss d h => ?_⟩)
  · obtain ⟨e, h1, rfl, rfl⟩ := h
    rfl
  · obtain ⟨e, h1, rfl, rfl⟩ := h
    exact sd_when (b := false) (et_is (et_not (et_B (ed_call (ea_d (ed_var rfl) ea_nil) ⟨e, fun ds z => (by obtain ⟨ds', e', _, l2, _⟩ := hall_inv h1; rw [e'] at z; injection z with z; rw [← z]; omega), rfl, rfl⟩))) (by rw [h1]; rfl)) (fun z => by cases z) (fun _ => rfl)
end
end PT
namespace PT
open PySem PySem.Spec PyProof.Rows L2 DA DL TR TL
theorem et_anyC {c : DC} {ρ : DEnv} {te : TE} {bs : List Bool} (h : EL c te ρ (bs.map PyData.bool)) : ED c (tCB (rAny c.K) (tCons te tNil)) ρ (.bool (bs.any id)) := fun A σ H r Q q => h A σ H r _ fun a xs H1 k1 h1 h2 => by
  have e : xs = bs.map V.bl := by
    clear h1 h q
    induction bs generalizing xs with
    | nil => cases h2; rfl
    | cons b bs ih =>
      cases h2 with
      | cons a1 a2 =>
        rw [List.map_cons, dp_bool a1, ih _ a2]
  subst e
  exact ⟨a, bs, rfl, h1, q _ H1 k1 (.bl _)⟩
theorem atI_at {xs : List PD} {i : Nat} {d : PD} (h : xs[i]? = some d) : atI xs ((i : Nat) : Int) = some d := by
  unfold atI
  rw [show ixN xs.length ((i : Nat) : Int) = some i from by
    unfold ixN
    have := (List.getElem?_eq_some_iff.mp h).1
    rw [if_pos (by omega), if_pos (by omega)]
    simp]
  exact h

theorem atI_nat {α : Type} {xs : List α} {i : Nat} {d : α} (h : xs[i]? = some d) : atI xs ((i : Nat) : Int) = some d := by
  have hi := (List.getElem?_eq_some_iff.mp h).1
  unfold atI
  rw [show ixN xs.length ((i : Nat) : Int) = some i from by
    unfold ixN
    rw [if_pos (by omega), if_pos (by omega)]
    simp]
  exact h
theorem not_dec {p : Prop} [Decidable p] (h : (!decide p) = false) : p := of_decide_eq_true (by
  cases q : decide p with
  | true => rfl
  | false => rw [q] at h; cases h)
/-! ### numbers of at most two signs -/
abbrev digs : Str := "0123456789"
def isDg (n : Nat) : Bool := decide (n ∈ tl digs)
theorem tl_digs : tl digs = [48, 49, 50, 51, 52, 53, 54, 55, 56, 57] := by
  rw [tl_ofString]
  decide
theorem isDg_iff {n : Nat} : isDg n = true ↔ 48 ≤ n ∧ n ≤ 57 := by
  unfold isDg
  rw [decide_eq_true_iff, tl_digs]
  constructor
  · intro h
    simp only [List.mem_cons, List.not_mem_nil, or_false] at h
    omega
  · intro h
    simp only [List.mem_cons, List.not_mem_nil, or_false]
    omega
def numW (l : List Nat) : Option Nat := if l.length = 1 ∨ l.length = 2 then if l.all isDg = true then if l.length = 2 ∧ l.head? = some 48 then none else some (NumText.digitsVal l) else none else none
def R__number : List DS → PD → Prop := fun ss d => ∃ z : Str, z.length ≤ 100000 ∧ ss = [.dat (.str z)] ∧ d = encO (numW (tl z))
theorem big {n : Nat} (h : n ≤ 200000) : n ≤ sizeLine := by rw [sizeLine_eq]; omega
theorem all_dg {l : List Nat} (h : l.all isDg = true) : NumText.AllDigits l := fun c hc => isDg_iff.mp (List.all_eq_true.mp h c hc)
theorem any_dg (l : List Nat) : (l.map fun n => !isDg n).any id = !l.all isDg := by
  induction l with
  | nil => rfl
  | cons a r ih =>
    rw [List.map_cons, List.any_cons, List.all_cons, ih]
    cases isDg a <;> cases r.all isDg <;> rfl
abbrev sNum2 : Stmt := top 28
abbrev nNum2 : List Str := ["word", "sign"]
theorem scNum2 : FnScope nNum2 ["word"] (defScope sNum2) := ⟨rfl, rfl, rfl, by decide +kernel, rfl, by decide +kernel, by decide +kernel⟩
section
variable {P : Program} {w : World} {K : PySem.W.Frag} {mg : Str → Option Value} {base : Heap} {f : Addr} {fd : FuncData} {T : List Addr}
theorem ok__number (F : Fun K "_number" "_number" sNum2 f fd) (G : Glob K mg)  : FnOk P w K mg base CX0 1 f fd ["word"] (spD K T R__number) := by
  refine fn_sd F scNum2 (fun ss d h => ?_) (fun cdv A outer s H E hr => ⟨_, (pss_cons (ps_if (PW.pt (pw_or (pt_not (pt_chain op_le op_le pe_int (pe_callB call_len_str (by rfl) G.len PySem.boot_len (pa_cons (pv 0) pa_nil)) pe_int)) (pw_or1 (pt_val (pe_callB (cr_any rfl) (by rfl) G.any (by decide +kernel) (pa_cons (pe_lc (own := [("sign", 1)]) (g := (gName 1)) (tt := tYes) (te := (tOp (fun x y H Q => ∃ (c : Nat) (z : Str), x = .str ⟨#[c]⟩ ∧ y = .str z ∧ Q (.bl (!decide (c ∈ z.cps.toList))) H) (tVar 1) (tC (.str "0123456789")))) rfl scNum2.nd (pi_str (pv 0)) (blkOk_by (N := nNum2) (sc := defScope sNum2) (by decide +kernel)) (fun _ _ _ _ _ => (pg_name (i := 1) scNum2.nd rfl (.inl rfl))) (fun _ _ _ _ _ => pts_nil) (fun _ _ _ _ _ => (pe_cmpR op_notIn_sign (pv 1) pe_str (by rfl)))) pa_nil)))))) (pss_one (ps_ret pe_non)) pss_nil)
      (pss_cons (ps_if (PW.pt (pw_and (pt_cmpR op_eq (pe_callB call_len_str (by rfl) G.len PySem.boot_len (pa_cons (pv 0) pa_nil)) pe_int (nomark _)) (pw_and1 (pt_cmpR op_eq (pe_ix ix_str (pv 0) pe_int (fun _ _ => rfl)) pe_str (nomark _))))) (pss_one (ps_ret pe_non)) pss_nil)
      (pss_one (ps_ret (pe_callTy call_int_str (by rfl) G.int (by decide +kernel) (pa_cons (pv 0) pa_nil)))))), fun M H0 ss d h => ?_⟩)
  · obtain ⟨z, hz, rfl, rfl⟩ := h
    rfl
  · obtain ⟨z, hz, rfl, rfl⟩ := h
    have zl : z.length = (tl z).length := len_tl z
    have hb := big (show z.length ≤ 200000 by omega)
    have c1 : ET ⟨K, T, M, H0⟩ (tTest (tChain (rI0 fun i j => .bl (decide (i ≤ j))) (rI0 fun i j => .bl (decide (i ≤ j))) (tC (.int 1)) (tCB (fun xs H Q => ∃ z, xs = [.str z] ∧ z.length ≤ sizeLine ∧ Q (.int z.length) H) (tCons (tVar 0) tNil)) (tC (.int 2)))) (startD nNum2 [.dat (.str z)]) (decide ((1 : Int) ≤ (z.length : Int)) && decide ((z.length : Int) ≤ 2)) :=
      et_chain (p := fun i j => decide (i ≤ j)) (p' := fun i j => decide (i ≤ j)) (i := 1) (j := (z.length : Int)) (k := 2) ed_int (ed_lenS (ed_var rfl) hb) ed_int
    have c1' : (decide ((1 : Int) ≤ (z.length : Int)) && decide ((z.length : Int) ≤ 2)) = decide ((tl z).length = 1 ∨ (tl z).length = 2) := by
      rw [← Bool.decide_and]
      exact decide_eq_decide.mpr (by omega)
    refine sd_seq (sd_when (b := !decide ((tl z).length = 1 ∨ (tl z).length = 2) || !(tl z).all isDg) (et_or (et_not (et_is c1 c1')) (fun h => ?_)) (fun h => sd_ret ed_non ?_) (fun h => ?_))
    · have hl : (tl z).length = 1 ∨ (tl z).length = 2 := not_dec h
      refine et_is (et_B (et_anyC (bs := (tl z).map fun n => !isDg n) (el_is (en_el (en_lc (js := [1]) (fun _ => true) (fun d => match d with | .str y => .bool (!isDg ((tl y).headD 0)) | _ => .none) (id_str (z := z) (ed_var rfl)) (by unfold DL.signs; rw [List.length_map]; omega) (by decide) (fun d hd H1 _ => ?_))) ?_))) (any_dg _)
      · obtain ⟨n, hn, rfl⟩ := List.mem_map.mp hd
        exact ⟨[.str ⟨#[n]⟩], tg_name, et_yes, fun _ => ed_notInS (ed_var rfl) ed_str⟩
      · rw [List.filter_eq_self.mpr fun _ _ => rfl]
        unfold DL.signs
        rw [List.map_map, List.map_map]
        rfl
    · show PyData.none = encO (numW (tl z))
      have e : numW (tl z) = none := by
        unfold numW
        by_cases h1 : (tl z).length = 1 ∨ (tl z).length = 2
        · rw [if_pos h1]
          rw [show decide ((tl z).length = 1 ∨ (tl z).length = 2) = true from decide_eq_true h1] at h
          have h2 : ¬ ((tl z).all isDg = true) := fun q => by rw [q] at h; cases h
          rw [if_neg h2]
        · rw [if_neg h1]
      rw [e]
      rfl
    · obtain ⟨h1, h2⟩ := Bool.or_eq_false_iff.mp h
      have h1 : (tl z).length = 1 ∨ (tl z).length = 2 := not_dec h1
      have h2 : (tl z).all isDg = true := by simpa using h2
      obtain ⟨a, r, hz2⟩ : ∃ a r, tl z = a :: r := by
        cases q : tl z with
        | nil => rw [q] at h1; simp at h1
        | cons a r => exact ⟨a, r, rfl⟩
      have hz3 : z.cps.toList = a :: r := hz2
      refine sd_seq (sd_when (b := decide ((tl z).length = 2) && decide ((⟨#[a]⟩ : Str) = "0")) (et_and (et_is (et_test (ed_eq (x := .int (z.length : Int)) (y := .int 2) (ed_lenS (ed_var rfl) hb) ed_int rfl rfl rfl)) ?_) (fun _ => et_is (et_test (ed_eq (x := .str ⟨#[a]⟩) (y := .str "0") (ed_ixS (z := z) (i := ((0 : Nat) : Int)) (ed_var rfl) ed_int hb ?_) ed_str rfl rfl rfl)) (eqStr _ _))) (fun h => sd_ret ed_non ?_) (fun h => ?_))
      · show decide (V.int (z.length : Int) = V.int 2) = decide ((tl z).length = 2)
        rw [zl]
        exact decide_eq_decide.mpr ⟨fun e => by injection e with e; omega, fun e => by rw [e]; rfl⟩
      · show atI z.cps.toList ((0 : Nat) : Int) = some a
        rw [hz3]
        exact atI_nat (i := 0) rfl
      · obtain ⟨h3, h4⟩ := Bool.and_eq_true_iff.mp h
        have h3 := of_decide_eq_true h3
        have h4 := of_decide_eq_true h4
        have ha : a = 48 := by
          have e : tl (⟨#[a]⟩ : Str) = tl ("0" : Str) := by rw [h4]
          rw [tl_ofString] at e
          injection e
        show PyData.none = encO (numW (tl z))
        rw [show numW (tl z) = none from by
          unfold numW
          rw [if_pos h1, if_pos h2, if_pos ⟨h3, by rw [hz2, ha]; rfl⟩]]
        rfl
      · have e : numW (tl z) = some (NumText.digitsVal (tl z)) := by
          unfold numW
          rw [if_pos h1, if_pos h2, if_neg]
          rintro ⟨h3, h4⟩
          rw [hz2] at h4
          have ha : a = 48 := Option.some.inj h4
          subst ha
          rw [decide_eq_true h3, show decide ((⟨#[48]⟩ : Str) = "0") = true from by decide +kernel] at h
          cases h
        rw [e]
        refine sd_ret (d := .int ((NumText.digitsVal (tl z) : Nat) : Int)) (ed_intS (ed_var rfl) ?_ (by omega)) rfl
        exact intText_digits (x := z) (all_dg h2) (by rw [hz3]; simp) (by omega)
end
/-! ### what a text tells -/
abbrev cm : Str := ", "
abbrev sp : Str := " "
abbrev sc : Str := "; "
abbrev co : Str := ": "
def deedT (part : Str) : PD := .tuple [.str (Txt.partition part sp).1, encO (numW (tl (Txt.partition part sp).2.2))]
def toldP (t : Str) : List PD := if t = "" then [] else (Txt.split t cm).map deedT
def okT (t : Str) : Prop := t.length ≤ 100000 ∧ (Txt.split t cm).length ≤ 900 ∧ ∀ part ∈ Txt.split t cm, part.length ≤ 100000 ∧ (Txt.partition part sp).2.2.length ≤ 100000
def R__program_told : List DS → PD → Prop := fun ss d => ∃ t : Str, okT t ∧ ss = [.dat (.str t)] ∧ d = .list (toldP t)
abbrev sTold : Stmt := top 30
abbrev nTold : List Str := ["text", "deeds", "part", "kind", "_", "number"]
theorem scTold : FnScope nTold ["text"] (defScope sTold) := ⟨rfl, rfl, rfl, by decide +kernel, rfl, by decide +kernel, by decide +kernel⟩
section
variable {P : Program} {w : World} {K : PySem.W.Frag} {mg : Str → Option Value} {base : Heap} {f : Addr} {fd : FuncData} {T : List Addr}
theorem ok__program_told (F : Fun K "_program_told" "_program_told" sTold f fd) (G : Glob K mg) {fN : Addr} {dN : FuncData} (c__number : Cal P w K mg base "_number" 1 ["word"] (spD K T R__number) fN dN) : FnOk P w K mg base CX0 2 f fd ["text"] (spD K T R__program_told) := by
  refine fn_sd F scTold (fun ss d h => ?_) (fun cdv A outer s H E hr => ⟨_, (pss_cons (ps_if (pt_cmpR op_eq (pv 0) pe_str (nomark _)) (pss_one (ps_ret (pe_lst pa_nil))) pss_nil)
      (pss_cons (ps_set (i := 1) scTold.nd rfl (.inl rfl) (pe_lst pa_nil))
      (pss_cons (ps_for PassesOwn.never rfl (pi_list (pe_split (pv 0) pe_str)) (pg_name (i := 2) scTold.nd rfl (.inl rfl)) (pss_cons (ps_asg (pe_partition (pv 2) pe_str) (pg_tup (by rfl) (pgs_cons (pg_name (i := 3) scTold.nd rfl (.inl rfl)) (pgs_cons (pg_name (i := 4) scTold.nd rfl (.inl rfl)) (pgs_cons (pg_name (i := 5) scTold.nd rfl (.inl rfl)) pgs_nil)))))
      (pss_one (ps_expr (pe_bm PySem.F.plainAttrs_list PySem.F.slot_list_append PySem.F.type_list_append mt_append (pv 1) (pa_cons (pe_tup (pa_cons (pv 3) (pa_cons (pe_call c__number.ok (hr.mono (by decide)) (by rfl) c__number.g c__number.kp c__number.b .nil pass0 (pa_cons (pv 5) pa_nil)) pa_nil))) pa_nil))))))
      (pss_one (ps_ret (pv 1)))))), fun M H0 ss d h => ?_⟩)
  · obtain ⟨t, h1, rfl, rfl⟩ := h
    rfl
  · obtain ⟨t, ⟨h1, h2, h3⟩, rfl, rfl⟩ := h
    refine sd_seq (sd_when (b := decide (t = "")) (et_is (et_test (ed_eq (x := .str t) (y := .str "") (ed_var rfl) ed_str rfl rfl rfl)) (eqStr t "")) (fun h => ?_) (fun h => ?_))
    · have e := of_decide_eq_true h
      refine sd_ret (ed_en (en_lst (ds := []) ea_nil (by decide))) ?_
      show PyData.list [] = .list (toldP t)
      unfold toldP
      rw [if_pos e]
    · have e := of_decide_eq_false h
      refine sd_seq (sd_setN (en_lst (ds := []) ea_nil (by decide)) ?_)
      have tz : (toldP t) = (Txt.split t cm).map deedT := by
        unfold toldP
        rw [if_neg e]
      refine sd_seq (sd_for (js := [2]) (ds := (Txt.split t cm).map .str) (id_list (ed_en (en_split (x := t) (y := cm) (ed_var rfl) ed_str (by decide +kernel) (by rw [sizeLine_eq]; omega)))) (fun i ρ' => ρ'.length = 6 ∧ ρ'[1]? = some (.own (((Txt.split t cm).take i).map deedT))) ⟨rfl, rfl⟩ (fun i d ρ' H1 hd hv => ?_) (fun ρ' hv => ?_))
      · obtain ⟨hl, hv⟩ := hv
        rw [List.getElem?_map] at hd
        cases q : (Txt.split t cm)[i]? with
        | none => rw [q] at hd; cases hd
        | some part =>
          rw [q] at hd
          cases hd
          obtain ⟨p1, p2⟩ := h3 part (List.mem_of_getElem? q)
          have hi := (List.getElem?_eq_some_iff.mp q).1
          obtain ⟨s0, s1, s2, s3, s4, s5, rfl⟩ : ∃ s0 s1 s2 s3 s4 s5, ρ' = [s0, s1, s2, s3, s4, s5] := by
            match ρ', hl with
            | [s0, s1, s2, s3, s4, s5], _ => exact ⟨s0, s1, s2, s3, s4, s5, rfl⟩
          have hv : s1 = .own (((Txt.split t cm).take i).map deedT) := Option.some.inj hv
          subst hv
          refine ⟨[.str part], tg_name, ?_⟩
          refine sd_seq (sd_unp3 (ed_part (x := part) (y := sp) (ed_var rfl) ed_str (by decide +kernel) (big (by omega))) ?_)
          refine sd_app (d := deedT part) rfl (ed_tup (ds := [.str (Txt.partition part sp).1, encO (numW (tl (Txt.partition part sp).2.2))]) (ea_d (ed_var rfl) (ea_d (ed_call (ea_d (ed_var rfl) ea_nil) ⟨_, p2, rfl, rfl⟩) ea_nil)) (by simp)) (by rw [List.length_map, List.length_take]; omega) ⟨rfl, ?_⟩
          rw [List.take_add_one, q, List.map_append]
          rfl
      · obtain ⟨hl, hv⟩ := hv
        rw [List.length_map, List.take_of_length_le (Nat.le_refl _)] at hv
        refine sd_freeze 1 hv (sd_ret (ed_var ?_) rfl)
        rw [tz]
        exact List.getElem?_set_self (by omega)
end
end PT
namespace PT
open PySem PySem.Spec PyProof.Rows L2 DA DL TR TL
/-! ### texts of programs and halls -/
def okKind (k : Str) : Prop := k = "work" ∨ k = "sleep" ∨ k = "take" ∨ k = "give"
theorem kin_iff {k a b : Str} : K11.kin k a b = true ↔ k = a ∨ k = b := by
  rw [show K11.kin k a b = decide (k = a ∨ k = b) from by
    unfold K11.kin
    rw [inStr2]]
  exact decide_eq_true_iff
theorem num_inv {d : PD} {lo hi : Int} (h : K11.numD d lo hi = true) : ∃ i : Int, d = .int i ∧ lo ≤ i ∧ i ≤ hi := by
  unfold K11.numD at h
  split at h
  · next i =>
    obtain ⟨h1, h2⟩ := Bool.and_eq_true_iff.mp h
    exact ⟨i, rfl, of_decide_eq_true h1, of_decide_eq_true h2⟩
  · cases h
theorem deed_inv {d : PD} (h : K11.deedD d = true) : ∃ (k : Str) (n : Nat), d = .tuple [.str k, intD n] ∧ okKind k ∧ n ≤ 99 := by
  unfold K11.deedD at h
  split at h
  · next k n =>
    split at h
    · next hk =>
      obtain ⟨i, rfl, h1, h2⟩ := num_inv h
      obtain ⟨m, rfl⟩ := Int.eq_ofNat_of_zero_le (show 0 ≤ i by omega)
      exact ⟨k, m, rfl, (kin_iff.mp hk).elim .inl fun z => .inr (.inl z), by omega⟩
    · obtain ⟨h1, h2⟩ := Bool.and_eq_true_iff.mp h
      obtain ⟨i, rfl, h3, h4⟩ := num_inv h2
      obtain ⟨m, rfl⟩ := Int.eq_ofNat_of_zero_le h3
      exact ⟨k, m, rfl, (kin_iff.mp h1).elim (fun z => .inr (.inr (.inl z))) fun z => .inr (.inr (.inr z)), by omega⟩
  · cases h
theorem kind_len {k : Str} (h : okKind k) : k.length ≤ 5 := by
  rcases h with rfl | rfl | rfl | rfl <;> decide
abbrev strN (n : Nat) : Str := Str.ofString (toString ((n : Nat) : Int))
theorem strN_len {n : Nat} (h : n ≤ 99) : (strN n).length ≤ 2 := by
  rw [len_tl, tl_num]
  exact numL_len (k := 2) (by decide) (by omega)
/-- the signs of a deed's word -/
def wordT : PD → Str
  | .tuple [.str k, .int i] => ((Str.empty ++ k) ++ sp) ++ Str.ofString (toString i)
  | _ => Str.empty
def fmtP (ds : List PD) : Str := Txt.join cm (ds.map wordT)
theorem word_eq (k : Str) (n : Nat) : wordT (.tuple [.str k, intD n]) = ((Str.empty ++ k) ++ sp) ++ strN n := rfl
theorem app_len (x y : Str) : (x ++ y).length = x.length + y.length := by rw [len_tl, tl_append, List.length_append, ← len_tl, ← len_tl]
theorem word_len {d : PD} (h : K11.deedD d = true) : (wordT d).length ≤ 8 := by
  obtain ⟨k, n, rfl, hk, hn⟩ := deed_inv h
  rw [word_eq, app_len, app_len, app_len]
  have := kind_len hk
  have := strN_len hn
  have e1 : Str.empty.length = 0 := rfl
  have e2 : sp.length = 1 := by decide
  omega
theorem sum_le {α : Type} {f : α → Nat} {m : Nat} : ∀ {l : List α}, (∀ x ∈ l, f x ≤ m) → (l.map f).sum ≤ l.length * m
  | [], _ => by simp
  | a :: r, h => by
    rw [List.map_cons, List.sum_cons, List.length_cons, Nat.add_mul, Nat.one_mul]
    have := h a List.mem_cons_self
    have := sum_le (f := f) (l := r) fun x hx => h x (List.mem_cons_of_mem _ hx)
    omega
theorem join_len (y : Str) : ∀ parts : List Str, (Txt.join y parts).length ≤ (parts.map (·.length)).sum + parts.length * y.length := by
  have key : ∀ (S : List Nat) (ps : List (List Nat)), (joinL S ps).length ≤ (ps.map (·.length)).sum + ps.length * S.length := by
    intro S ps
    induction ps with
    | nil => exact Nat.zero_le _
    | cons a r ih =>
      cases r with
      | nil => show a.length ≤ _; simp
      | cons b t =>
        show (a ++ (S ++ joinL S (b :: t))).length ≤ _
        rw [List.length_append, List.length_append, List.map_cons, List.sum_cons, List.length_cons, Nat.add_mul, Nat.one_mul]
        omega
  intro parts
  rw [len_tl, join_eq, tl_join]
  refine Nat.le_trans (key _ _) ?_
  rw [List.map_map, List.length_map, ← len_tl]
  have e : (parts.map ((fun l : List Nat => l.length) ∘ tl)) = parts.map (·.length) := List.map_congr_left fun x _ => (len_tl x).symm
  rw [e]
  exact Nat.le_refl _
theorem fmtP_len {ds : List PD} (h : K11.progD (.list ds) = true) : (fmtP ds).length ≤ 400 ∧ ((ds.map wordT).map (·.length)).sum + (ds.map wordT).length * cm.length ≤ 400 := by
  obtain ⟨ds', e, hl, hd, _⟩ := K11.prog_inv h
  cases e
  have e2 : cm.length = 2 := by decide
  have s1 : ((ds.map wordT).map (·.length)).sum ≤ ds.length * 8 := by
    rw [List.map_map]
    exact sum_le fun x hx => word_len (hd x hx)
  have s2 : ((ds.map wordT).map (·.length)).sum + (ds.map wordT).length * cm.length ≤ 400 := by
    rw [List.length_map, e2]
    omega
  exact ⟨Nat.le_trans (join_len _ _) s2, s2⟩
def R_format_program : List DS → PD → Prop := fun ss d => ∃ ds, K11.progD (.list ds) = true ∧ ss = [.dat (.list ds)] ∧ d = .str (fmtP ds)
def procT : PD → Str
  | .tuple [.int i, .list ds] => ((Str.empty ++ Str.ofString (toString i)) ++ co) ++ fmtP ds
  | _ => Str.empty
def fmtH (hs : List PD) : Str := Txt.join sc (hs.map procT)
theorem proc_inv2 {e : PD} (h : procD e = true) : ∃ (n : Nat) (b : List PD), e = .tuple [intD n, .list b] ∧ n ≤ 99 ∧ K11.progD (.list b) = true := by
  obtain ⟨a, b, rfl, h1, h2⟩ := proc_inv h
  obtain ⟨i, rfl, h3, h4⟩ := num_inv h1
  obtain ⟨m, rfl⟩ := Int.eq_ofNat_of_zero_le h3
  exact ⟨m, b, rfl, by omega, h2⟩
theorem proc_eq (n : Nat) (b : List PD) : procT (.tuple [intD n, .list b]) = ((Str.empty ++ strN n) ++ co) ++ fmtP b := rfl
theorem proc_len {e : PD} (h : procD e = true) : (procT e).length ≤ 410 := by
  obtain ⟨n, b, rfl, hn, hb⟩ := proc_inv2 h
  rw [proc_eq, app_len, app_len, app_len]
  have := strN_len hn
  have := (fmtP_len hb).1
  have e1 : Str.empty.length = 0 := rfl
  have e2 : co.length = 2 := by decide
  omega
theorem fmtH_len {hs : List PD} (h : hallD (.list hs) = true) : (fmtH hs).length ≤ 1700 ∧ ((hs.map procT).map (·.length)).sum + (hs.map procT).length * sc.length ≤ 1700 := by
  obtain ⟨ds', e, _, hl, hd⟩ := hall_inv h
  cases e
  have e2 : sc.length = 2 := by decide
  have s1 : ((hs.map procT).map (·.length)).sum ≤ hs.length * 410 := by
    rw [List.map_map]
    exact sum_le fun x hx => proc_len (hd x hx)
  have s2 : ((hs.map procT).map (·.length)).sum + (hs.map procT).length * sc.length ≤ 1700 := by
    rw [List.length_map, e2]
    omega
  exact ⟨Nat.le_trans (join_len _ _) s2, s2⟩
def R_format_hall : List DS → PD → Prop := fun ss d => ∃ hs, hallD (.list hs) = true ∧ ss = [.dat (.list hs)] ∧ d = .str (fmtH hs)
theorem small_log {n : Nat} (h : n ≤ 99) : ((n : Nat) : Int).natAbs.log2 < 1920 := by
  rw [Int.natAbs_natCast]
  have : n.log2 ≤ n := Nat.log2_le_self n
  omega
abbrev sFmtP : Stmt := top 25
abbrev nFmtP : List Str := ["program", "kind", "number"]
theorem scFmtP : FnScope nFmtP ["program"] (defScope sFmtP) := ⟨rfl, rfl, rfl, by decide +kernel, rfl, by decide +kernel, by decide +kernel⟩
section
variable {P : Program} {w : World} {K : PySem.W.Frag} {mg : Str → Option Value} {base : Heap} {f : Addr} {fd : FuncData} {T : List Addr}
theorem ok_format_program (F : Fun K "format_program" "format_program" sFmtP f fd) (G : Glob K mg) {fC : Addr} {dC : FuncData} (c_check_program : Cal P w K mg base "check_program" 5 ["value"] (spD K T R_check_program) fC dC) : FnOk P w K mg base CX0 6 f fd ["program"] (spD K T R_format_program) := by
  refine fn_sd F scFmtP (fun ss d h => ?_) (fun cdv A outer s H E hr => ⟨_, (pss_cons (ps_expr (pe_call c_check_program.ok (hr.mono (by decide)) (by rfl) c_check_program.g c_check_program.kp c_check_program.b .nil pass0 (pa_cons (pv 0) pa_nil)))
      (pss_one (ps_ret (pe_join pe_str (pe_lc (own := [("kind", 1), ("number", 2)]) (g := (gTup K 2 (gCons (gName 1) (gCons (gName 2) gNil)))) (tt := tYes) (te := (fun σ H Q => tJs [tFmt (tVar 1), tC (.str " "), tFmt (tVar 2)] Str.empty σ H fun out H1 => Q (.str out) H1)) rfl scFmtP.nd (pi_list (pv 0)) (blkOk_by (N := nFmtP) (sc := defScope sFmtP) (by decide +kernel)) (fun _ _ _ _ _ => (pg_tup (by rfl) (pgs_cons (pg_name (i := 1) scFmtP.nd rfl (.inl rfl)) (pgs_cons (pg_name (i := 2) scFmtP.nd rfl (.inl rfl)) pgs_nil)))) (fun _ _ _ _ _ => pts_nil) (fun _ _ _ _ _ => (pe_joined (PJ.cons (pe_fmt (pv 1)) (PJ.cons pe_str (PJ.cons (pe_fmt (pv 2)) PJ.nil)))))))))), fun M H0 ss d h => ?_⟩)
  · obtain ⟨ds, h1, rfl, rfl⟩ := h
    rfl
  · obtain ⟨ds, h1, rfl, rfl⟩ := h
    obtain ⟨ds', e, hl, hd, _⟩ := K11.prog_inv h1
    cases e
    refine sd_seq (sd_drop (ed_call (ea_d (ed_var rfl) ea_nil) ⟨.list ds, h1, rfl, rfl⟩) ?_)
    refine sd_ret (d := .str (fmtP ds)) (ed_join (x := cm) (ys := ds.map wordT) ed_str (el_is (en_el (en_lc (js := [1, 2]) (fun _ => true) (fun d => .str (wordT d)) (id_list (ed_var rfl)) (by omega) (by decide) (fun d hm H1 _ => ?_))) ?_) ?_) rfl
    · obtain ⟨k, n, rfl, hk, hn⟩ := deed_inv (hd d hm)
      have b1 := kind_len hk
      have b2 := strN_len hn
      refine ⟨[.str k, intD n], tg_tup2, et_yes, fun _ => ?_⟩
      refine ed_is (ed_joined (zs := [k, sp, strN n]) (.cons (jd_str (ed_var rfl) (big (by omega))) (.cons jd_con (.cons (jd_int (i := (n : Int)) (ed_var rfl) (small_log hn)) .nil))) ?_) rfl
      have e2 : sp.length = 1 := by decide
      refine big ?_
      show k.length + (sp.length + ((strN n).length + 0)) ≤ _
      omega
    · rw [List.filter_eq_self.mpr fun _ _ => rfl, List.map_map]
      rfl
    · exact Nat.le_trans (fmtP_len h1).2 (by decide)
end
abbrev sFmtH : Stmt := top 26
abbrev nFmtH : List Str := ["hall", "comes", "program"]
theorem scFmtH : FnScope nFmtH ["hall"] (defScope sFmtH) := ⟨rfl, rfl, rfl, by decide +kernel, rfl, by decide +kernel, by decide +kernel⟩
section
variable {P : Program} {w : World} {K : PySem.W.Frag} {mg : Str → Option Value} {base : Heap} {f : Addr} {fd : FuncData} {T : List Addr}
theorem ok_format_hall (F : Fun K "format_hall" "format_hall" sFmtH f fd) (G : Glob K mg) {fC : Addr} {dC : FuncData} (c_check_hall : Cal P w K mg base "check_hall" 8 ["value"] (spD K T R_check_hall) fC dC) {fP : Addr} {dP : FuncData} (c_format_program : Cal P w K mg base "format_program" 6 ["program"] (spD K T R_format_program) fP dP) : FnOk P w K mg base CX0 9 f fd ["hall"] (spD K T R_format_hall) := by
  refine fn_sd F scFmtH (fun ss d h => ?_) (fun cdv A outer s H E hr => ⟨_, (pss_cons (ps_expr (pe_call c_check_hall.ok (hr.mono (by decide)) (by rfl) c_check_hall.g c_check_hall.kp c_check_hall.b .nil pass0 (pa_cons (pv 0) pa_nil)))
      (pss_one (ps_ret (pe_join pe_str (pe_lc (own := [("comes", 1), ("program", 2)]) (g := (gTup K 2 (gCons (gName 1) (gCons (gName 2) gNil)))) (tt := tYes) (te := (fun σ H Q => tJs [tFmt (tVar 1), tC (.str ": "), tFmt (tCall (spD K T R_format_program) [] E0 (tCons (tVar 2) tNil))] Str.empty σ H fun out H1 => Q (.str out) H1)) rfl scFmtH.nd (pi_list (pv 0)) (blkOk_by (N := nFmtH) (sc := defScope sFmtH) (by decide +kernel)) (fun _ _ _ _ _ => (pg_tup (by rfl) (pgs_cons (pg_name (i := 1) scFmtH.nd rfl (.inl rfl)) (pgs_cons (pg_name (i := 2) scFmtH.nd rfl (.inl rfl)) pgs_nil)))) (fun _ _ _ _ _ => pts_nil) (fun _ _ _ _ _ => (pe_joined (PJ.cons (pe_fmt (pv 1)) (PJ.cons pe_str (PJ.cons (pe_fmt (pe_call c_format_program.ok (hr.mono (by decide)) (by rfl) c_format_program.g c_format_program.kp c_format_program.b .nil pass0 (pa_cons (pv 2) pa_nil))) PJ.nil)))))))))), fun M H0 ss d h => ?_⟩)
  · obtain ⟨hs, h1, rfl, rfl⟩ := h
    rfl
  · obtain ⟨hs, h1, rfl, rfl⟩ := h
    obtain ⟨ds', e, _, hl, hd⟩ := hall_inv h1
    cases e
    refine sd_seq (sd_drop (ed_call (ea_d (ed_var rfl) ea_nil) ⟨.list hs, h1, rfl, rfl⟩) ?_)
    refine sd_ret (d := .str (fmtH hs)) (ed_join (x := sc) (ys := hs.map procT) ed_str (el_is (en_el (en_lc (js := [1, 2]) (fun _ => true) (fun d => .str (procT d)) (id_list (ed_var rfl)) (by omega) (by decide) (fun d hm H1 _ => ?_))) ?_) ?_) rfl
    · obtain ⟨n, b, rfl, hn, hb⟩ := proc_inv2 (hd d hm)
      have b2 := strN_len hn
      have b3 := (fmtP_len hb).1
      refine ⟨[intD n, .list b], tg_tup2, et_yes, fun _ => ?_⟩
      refine ed_is (ed_joined (zs := [strN n, co, fmtP b]) (.cons (jd_int (i := (n : Int)) (ed_var rfl) (small_log hn)) (.cons jd_con (.cons (jd_str (ed_call (ea_d (ed_var rfl) ea_nil) ⟨b, hb, rfl, rfl⟩) (big (by omega))) .nil))) ?_) rfl
      have e2 : co.length = 2 := by decide
      refine big ?_
      show (strN n).length + (co.length + ((fmtP b).length + 0)) ≤ _
      omega
    · rw [List.filter_eq_self.mpr fun _ _ => rfl, List.map_map]
      rfl
    · exact Nat.le_trans (fmtH_len h1).2 (by decide)
end
end PT
namespace PT
open PySem PySem.Spec PyProof.Rows L2 DA DL TR TL
/-! ### texts read -/
def R__check_text (C : Addr) : List DS → Out → Prop := fun ss o => ∃ e, ss = [.dat e] ∧ o = if isStr e = true then .ok .none else .ex C
def parseP (C : Addr) : PD → Out
  | .str t => if K11.progD (.list (toldP t)) = true then .ok (.list (toldP t)) else .ex C
  | _ => .ex C
def R_parse_program (C : Addr) : List DS → Out → Prop := fun ss o => ∃ e, (∀ t, e = .str t → okT t) ∧ ss = [.dat e] ∧ o = parseP C e
def procTold (part : Str) : PD := .tuple [encO (numW (tl (Txt.partition part co).1)), .list (toldP (Txt.partition part co).2.2)]
def badPart (part : Str) : Bool := decide ((Txt.partition part co).2.1 = "")
def okH (t : Str) : Prop := t.length ≤ 100000 ∧ (Txt.split t sc).length ≤ 900 ∧ ∀ part ∈ Txt.split t sc, part.length ≤ 100000 ∧ (Txt.partition part co).1.length ≤ 100000 ∧ okT (Txt.partition part co).2.2
def parseH (C : Addr) : PD → Out
  | .str t => if (Txt.split t sc).any badPart = true then .ex C else if hallD (.list ((Txt.split t sc).map procTold)) = true then .ok (.list ((Txt.split t sc).map procTold)) else .ex C
  | _ => .ex C
def R_parse_hall (C : Addr) : List DS → Out → Prop := fun ss o => ∃ e, (∀ t, e = .str t → okH t) ∧ ss = [.dat e] ∧ o = parseH C e
abbrev sChText : Stmt := top 27
abbrev nChText : List Str := ["value"]
theorem scChText : FnScope nChText ["value"] (defScope sChText) := ⟨rfl, rfl, rfl, by decide +kernel, rfl, by decide +kernel, by decide +kernel⟩
section
variable {P : Program} {w : World} {K : PySem.W.Frag} {mg : Str → Option Value} {base : Heap} {f : Addr} {fd : FuncData} {T : List Addr}
theorem ok__check_text (F : Fun K "_check_text" "_check_text" sChText f fd) (G : Glob K mg) (B : Bad K mg) : FnOk P w K mg base (L2.CX P w) 1 f fd ["value"] (spE K T (R__check_text B.aBadText)) := by
  refine fn_sdE F scChText (fun ss o h => ?_) (fun cdv A outer s H E hr => ⟨_, (pss_one (ps_if (pt_not (pt_val (pe_callB call_isi (by rfl) G.isinstance boot_isinstance (pa_cons (pv 0) (pa_cons (pe_bltn (v := .ty "str") (by rfl) G.str (by decide +kernel) rfl) pa_nil))))) (pss_one (ps_raise rfl (takes_of rfl rfl rfl rfl) (pmk_own PySem.F.excBase_ValueError B.xBadText B.gBadText B.kBadText (raises_own B.bBadText B.tBadText) rfl))) pss_nil)), fun M H0 ss o h xo => ?_⟩)
  · obtain ⟨e, rfl, rfl⟩ := h
    rfl
  · obtain ⟨e, rfl, rfl⟩ := h
    refine sd_when (b := !isStr e) (et_not (et_B (ed_isiStr (ed_var rfl)))) (fun h => sd_raise fun H' k => xo B.aBadText ?_ H' k) (fun h => ?_)
    · rw [if_neg (fun q => by rw [q] at h; cases h)]
    · show (if isStr e = true then Out.ok .none else .ex B.aBadText) = .ok .none
      rw [if_pos (by cases q : isStr e with | true => rfl | false => rw [q] at h; cases h)]
end
abbrev sParP : Stmt := top 29
abbrev nParP : List Str := ["text", "program"]
theorem scParP : FnScope nParP ["text"] (defScope sParP) := ⟨rfl, rfl, rfl, by decide +kernel, rfl, by decide +kernel, by decide +kernel⟩
section
variable {P : Program} {w : World} {K : PySem.W.Frag} {mg : Str → Option Value} {base : Heap} {f : Addr} {fd : FuncData} {T : List Addr}
theorem ok_parse_program (F : Fun K "parse_program" "parse_program" sParP f fd) (G : Glob K mg) (B : Bad K mg) {fC : Addr} {dC : FuncData} (c__check_text : CalE P w K mg base "_check_text" 1 ["value"] (spE K T (R__check_text B.aBadText)) fC dC) {fT : Addr} {dT : FuncData} (c__program_told : Cal P w K mg base "_program_told" 2 ["text"] (spD K T R__program_told) fT dT) {fP : Addr} {dP : FuncData} (c_is_program : Cal P w K mg base "is_program" 4 ["value"] (spD K T R_is_program) fP dP) : FnOk P w K mg base (L2.CX P w) 5 f fd ["text"] (spE K T (R_parse_program B.aBadText)) := by
  refine fn_sdE F scParP (fun ss o h => ?_) (fun cdv A outer s H E hr => ⟨_, (pss_cons (ps_expr (pe_call c__check_text.ok (hr.mono (by decide)) (by rfl) c__check_text.g c__check_text.kp c__check_text.b .nil (passes_call (takes_of rfl rfl rfl rfl) fun _ _ _ _ z => z) (pa_cons (pv 0) pa_nil)))
      (pss_cons (ps_set (i := 1) scParP.nd rfl (.inl rfl) (pe_call c__program_told.ok (hr.mono (by decide)) (by rfl) c__program_told.g c__program_told.kp c__program_told.b .nil pass0 (pa_cons (pv 0) pa_nil)))
      (pss_cons (ps_if (pt_not (pt_val (pe_call c_is_program.ok (hr.mono (by decide)) (by rfl) c_is_program.g c_is_program.kp c_is_program.b .nil pass0 (pa_cons (pv 1) pa_nil)))) (pss_one (ps_raise rfl (takes_of rfl rfl rfl rfl) (pmk_own PySem.F.excBase_ValueError B.xBadText B.gBadText B.kBadText (raises_own B.bBadText B.tBadText) rfl))) pss_nil)
      (pss_one (ps_ret (pv 1)))))), fun M H0 ss o h xo => ?_⟩)
  · obtain ⟨e, h1, rfl, rfl⟩ := h
    rfl
  · obtain ⟨e, h1, rfl, rfl⟩ := h
    by_cases hs : ∃ t, e = .str t
    · obtain ⟨t, rfl⟩ := hs
      refine sd_seq (sd_dropE (o := .ok .none) (ea_d (ed_var rfl) ea_nil) ⟨.str t, rfl, rfl⟩ (fun C z => nomatch z) fun d e => ?_)
      refine sd_seq (sd_set (d := .list (toldP t)) (ed_call (ea_d (ed_var rfl) ea_nil) ⟨t, h1 t rfl, rfl, rfl⟩) ?_)
      refine sd_seq (sd_when (b := !K11.progD (.list (toldP t))) (et_not (et_B (ed_call (ea_d (ed_var rfl) ea_nil) ⟨_, rfl, rfl⟩))) (fun h => sd_raise fun H' k => xo B.aBadText ?_ H' k) (fun h => sd_ret (ed_var rfl) ?_))
      · show (if K11.progD (.list (toldP t)) = true then Out.ok (.list (toldP t)) else .ex B.aBadText) = .ex B.aBadText
        rw [if_neg (fun q => by rw [q] at h; cases h)]
      · show (if K11.progD (.list (toldP t)) = true then Out.ok (.list (toldP t)) else .ex B.aBadText) = .ok (.list (toldP t))
        rw [if_pos (by cases q : K11.progD (.list (toldP t)) with | true => rfl | false => rw [q] at h; cases h)]
    · have e1 : isStr e = false := by
        cases e <;> first | rfl | exact absurd ⟨_, rfl⟩ hs
      have e2 : parseP B.aBadText e = .ex B.aBadText := by
        cases e <;> first | rfl | exact absurd ⟨_, rfl⟩ hs
      rw [e2] at xo ⊢
      refine sd_seq (sd_dropE (o := .ex B.aBadText) (ea_d (ed_var rfl) ea_nil) ⟨e, rfl, ?_⟩ xo fun d z => nomatch z)
      rw [if_neg (by rw [e1]; decide)]
end
abbrev sParH : Stmt := top 31
abbrev nParH : List Str := ["text", "hall", "part", "comes", "sign", "program"]
theorem scParH : FnScope nParH ["text"] (defScope sParH) := ⟨rfl, rfl, rfl, by decide +kernel, rfl, by decide +kernel, by decide +kernel⟩
section
variable {P : Program} {w : World} {K : PySem.W.Frag} {mg : Str → Option Value} {base : Heap} {f : Addr} {fd : FuncData} {T : List Addr}
theorem ok_parse_hall (F : Fun K "parse_hall" "parse_hall" sParH f fd) (G : Glob K mg) (B : Bad K mg) {fC : Addr} {dC : FuncData} (c__check_text : CalE P w K mg base "_check_text" 1 ["value"] (spE K T (R__check_text B.aBadText)) fC dC) {fT : Addr} {dT : FuncData} (c__program_told : Cal P w K mg base "_program_told" 2 ["text"] (spD K T R__program_told) fT dT) {fH : Addr} {dH : FuncData} (c_is_hall : Cal P w K mg base "is_hall" 7 ["value"] (spD K T R_is_hall) fH dH) {fN : Addr} {dN : FuncData} (c__number : Cal P w K mg base "_number" 1 ["word"] (spD K T R__number) fN dN) : FnOk P w K mg base (L2.CX P w) 8 f fd ["text"] (spE K T (R_parse_hall B.aBadText)) := by
  refine fn_sdE F scParH (fun ss o h => ?_) (fun cdv A outer s H E hr => ⟨_, (pss_cons (ps_expr (pe_call c__check_text.ok (hr.mono (by decide)) (by rfl) c__check_text.g c__check_text.kp c__check_text.b .nil (passes_call (takes_of rfl rfl rfl rfl) fun _ _ _ _ z => z) (pa_cons (pv 0) pa_nil)))
      (pss_cons (ps_set (i := 1) scParH.nd rfl (.inl rfl) (pe_lst pa_nil))
      (pss_cons (ps_for (passes_of rfl) rfl (pi_list (pe_split (pv 0) pe_str)) (pg_name (i := 2) scParH.nd rfl (.inl rfl)) (pss_cons (ps_asg (pe_partition (pv 2) pe_str) (pg_tup (by rfl) (pgs_cons (pg_name (i := 3) scParH.nd rfl (.inl rfl)) (pgs_cons (pg_name (i := 4) scParH.nd rfl (.inl rfl)) (pgs_cons (pg_name (i := 5) scParH.nd rfl (.inl rfl)) pgs_nil)))))
      (pss_cons (ps_if (pt_cmpR op_eq (pv 4) pe_str (nomark _)) (pss_one (ps_raise rfl (takes_of rfl rfl rfl rfl) (pmk_own PySem.F.excBase_ValueError B.xBadText B.gBadText B.kBadText (raises_own B.bBadText B.tBadText) rfl))) pss_nil)
      (pss_one (ps_expr (pe_bm PySem.F.plainAttrs_list PySem.F.slot_list_append PySem.F.type_list_append mt_append (pv 1) (pa_cons (pe_tup (pa_cons (pe_call c__number.ok (hr.mono (by decide)) (by rfl) c__number.g c__number.kp c__number.b .nil pass0 (pa_cons (pv 3) pa_nil)) (pa_cons (pe_call c__program_told.ok (hr.mono (by decide)) (by rfl) c__program_told.g c__program_told.kp c__program_told.b .nil pass0 (pa_cons (pv 5) pa_nil)) pa_nil))) pa_nil)))))))
      (pss_cons (ps_if (pt_not (pt_val (pe_call c_is_hall.ok (hr.mono (by decide)) (by rfl) c_is_hall.g c_is_hall.kp c_is_hall.b .nil pass0 (pa_cons (pv 1) pa_nil)))) (pss_one (ps_raise rfl (takes_of rfl rfl rfl rfl) (pmk_own PySem.F.excBase_ValueError B.xBadText B.gBadText B.kBadText (raises_own B.bBadText B.tBadText) rfl))) pss_nil)
      (pss_one (ps_ret (pv 1))))))), fun M H0 ss o h xo => ?_⟩)
  · obtain ⟨e, h1, rfl, rfl⟩ := h
    rfl
  · obtain ⟨e, h1, rfl, rfl⟩ := h
    by_cases hs : ∃ t, e = .str t
    · obtain ⟨t, rfl⟩ := hs
      obtain ⟨z1, z2, z3⟩ := h1 t rfl
      refine sd_seq (sd_dropE (o := .ok .none) (ea_d (ed_var rfl) ea_nil) ⟨.str t, rfl, rfl⟩ (fun C z => nomatch z) fun d e => ?_)
      refine sd_seq (sd_setN (en_lst (ds := []) ea_nil (by decide)) ?_)
      refine sd_seq (sd_forK (js := [2]) (ds := (Txt.split t sc).map .str) (id_list (ed_en (en_split (x := t) (y := sc) (ed_var rfl) ed_str (by decide +kernel) (by rw [sizeLine_eq]; omega)))) (fun i ρ' => ρ'.length = 6 ∧ ρ'[1]? = some (.own (((Txt.split t sc).take i).map procTold)) ∧ ∀ p ∈ (Txt.split t sc).take i, badPart p = false) ⟨rfl, rfl, by simp⟩ (fun i d ρ' H1 kk hd hv => ?_) (fun ρ' hv => ?_))
      · obtain ⟨hl, hv, hg⟩ := hv
        rw [List.getElem?_map] at hd
        cases q : (Txt.split t sc)[i]? with
        | none => rw [q] at hd; cases hd
        | some part =>
          rw [q] at hd
          cases hd
          have hm := List.mem_of_getElem? q
          obtain ⟨p1, p2, p3⟩ := z3 part hm
          have hi := (List.getElem?_eq_some_iff.mp q).1
          obtain ⟨s0, s1, s2, s3, s4, s5, rfl⟩ : ∃ s0 s1 s2 s3 s4 s5, ρ' = [s0, s1, s2, s3, s4, s5] := by
            match ρ', hl with
            | [s0, s1, s2, s3, s4, s5], _ => exact ⟨s0, s1, s2, s3, s4, s5, rfl⟩
          have hv : s1 = .own (((Txt.split t sc).take i).map procTold) := Option.some.inj hv
          subst hv
          refine ⟨[.str part], tg_name, ?_⟩
          refine sd_seq (sd_unp3 (ed_part (x := part) (y := co) (ed_var rfl) ed_str (by decide +kernel) (big (by omega))) ?_)
          refine sd_seq (sd_when (b := badPart part) (et_is (et_test (ed_eq (x := .str (Txt.partition part co).2.1) (y := .str "") (ed_var rfl) ed_str rfl rfl rfl)) (eqStr _ _)) (fun h => sd_raise fun H' k => xo.up kk B.aBadText ?_ H' k) (fun h => ?_))
          · show (if (Txt.split t sc).any badPart = true then Out.ex B.aBadText else _) = _
            rw [if_pos (List.any_eq_true.mpr ⟨part, hm, h⟩)]
          · refine sd_app (d := procTold part) rfl (ed_tup (ds := [encO (numW (tl (Txt.partition part co).1)), .list (toldP (Txt.partition part co).2.2)]) (ea_d (ed_call (ea_d (ed_var rfl) ea_nil) ⟨_, p2, rfl, rfl⟩) (ea_d (ed_call (ea_d (ed_var rfl) ea_nil) ⟨_, p3, rfl, rfl⟩) ea_nil)) (by simp)) (by rw [List.length_map, List.length_take]; omega) ⟨rfl, ?_, ?_⟩
            · rw [List.take_add_one, q, List.map_append]
              rfl
            · intro p hp
              rw [List.take_add_one, q] at hp
              rcases List.mem_append.mp hp with hp | hp
              · exact hg p hp
              · have e : p = part := by simpa using hp
                rw [e]
                exact h
      · obtain ⟨hl, hv, hg⟩ := hv
        rw [List.length_map, List.take_of_length_le (Nat.le_refl _)] at hv hg
        have ha : ¬ (Txt.split t sc).any badPart = true := fun q => by
          obtain ⟨p, hp, e⟩ := List.any_eq_true.mp q
          rw [hg p hp] at e
          cases e
        have e0 : parseH B.aBadText (.str t) = if hallD (.list ((Txt.split t sc).map procTold)) = true then .ok (.list ((Txt.split t sc).map procTold)) else .ex B.aBadText := by
          show (if (Txt.split t sc).any badPart = true then Out.ex B.aBadText else _) = _
          rw [if_neg ha]
        rw [e0] at xo ⊢
        have hv2 : (ρ'.set 1 (.dat (.list ((Txt.split t sc).map procTold))))[1]? = some (.dat (.list ((Txt.split t sc).map procTold))) := List.getElem?_set_self (by omega)
        refine sd_freeze 1 hv (sd_seq (sd_when (b := !hallD (.list ((Txt.split t sc).map procTold))) (et_not (et_B (ed_call (ea_d (ed_var hv2) ea_nil) ⟨_, fun ds z => by injection z with z; rw [← z, List.length_map]; omega, rfl, rfl⟩))) (fun h => sd_raise fun H' k => xo B.aBadText ?_ H' k) (fun h => sd_ret (ed_var hv2) ?_)))
        · rw [if_neg (fun q => by rw [q] at h; cases h)]
        · show (if hallD (.list ((Txt.split t sc).map procTold)) = true then _ else _) = _
          rw [if_pos (by cases q : hallD (.list ((Txt.split t sc).map procTold)) with | true => rfl | false => rw [q] at h; cases h)]
    · have e1 : isStr e = false := by
        cases e <;> first | rfl | exact absurd ⟨_, rfl⟩ hs
      have e2 : parseH B.aBadText e = .ex B.aBadText := by
        cases e <;> first | rfl | exact absurd ⟨_, rfl⟩ hs
      rw [e2] at xo ⊢
      refine sd_seq (sd_dropE (o := .ex B.aBadText) (ea_d (ed_var rfl) ea_nil) ⟨e, rfl, ?_⟩ xo fun d z => nomatch z)
      rw [if_neg (by rw [e1]; decide)]
end
end PT
namespace LW
open PySem PySem.Spec PyProof.Rows L2 DA DL
/-! ### draws -/
abbrev sStart : Stmt := PT.top 33
abbrev sDraw : Stmt := PT.top 34
/-- the numbers at nu, the counter: what the draws are made of -/
structure Drw (H : Hp) (d nu : Addr) : Prop where
  ex : ∃ (ns : List Int) (c : Int), H d = some (.lst [.ref nu, .int c]) ∧ H nu = some (.lst (ns.map V.int)) ∧ ns ≠ [] ∧ ns.length ≤ 63 ∧ 0 ≤ c
/-- all but the draws' own -/
structure Frm (T : List Addr) (d nu : Addr) (H H' : Hp) : Prop where
  at_ : ∀ b o, H b = some o → b ≠ d → b ≠ nu → b ∉ T → H' b = some o
  tab : ∀ P ∈ T, GxR.TabG H P → GxR.TabG H' P
  drw : Drw H' d nu
theorem scStart : FnScope ["_law_script"] ["_law_script"] (defScope sStart) := ⟨rfl, rfl, rfl, by decide +kernel, rfl, by decide +kernel, by decide +kernel⟩
theorem scDraw : FnScope ["_law_draws", "_law_limit", "_law_numbers", "_law_at", "_law_cell", "_law_mixed"] ["_law_draws", "_law_limit"] (defScope sDraw) := ⟨rfl, rfl, rfl, by decide +kernel, rfl, by decide +kernel, by decide +kernel⟩
theorem ints_lay (ns : List Int) : PyData.canLayAll0 (ns.map PyData.int) = true := by
  induction ns with
  | nil => rfl
  | cons n r ih => simp only [List.map_cons, PyData.canLayAll0, PyData.canLay0, ih, Bool.and_self]
theorem ints_depth (ns : List Int) : PyData.depthAll (ns.map PyData.int) = 0 := by
  induction ns with
  | nil => rfl
  | cons n r ih => simp only [List.map_cons, PyData.depthAll, PyData.depth, ih, Nat.max_self]
theorem ints_shaped (ns : List Int) : SeqAt.shaped (.list (ns.map PyData.int)) = true := by
  show (PyData.canLay0 (.list (ns.map .int)) && decide (PyData.depth (.list (ns.map .int)) ≤ 64)) = true
  simp only [PyData.canLay0, PyData.depth, ints_lay, ints_depth]
  decide
section
variable {P : Program} {w : World} {K : PySem.W.Frag} {mg : Str → Option Value} {base : Heap} {f : Addr} {fd : FuncData}
def spStart (K : PySem.W.Frag) : Sp := fun vs H Q _ => ∃ (a : Addr) (ns : List Int), vs = [.ref a] ∧ SqL K H a (ns.map V.int) ∧ ns.length ≤ 63 ∧ ∀ d nu H', Same H H' → H d = none → H nu = none → Drw H' d nu → Q (.ref d) H'
theorem ok_start (F : Fun K "_law_start" "_law_start" sStart f fd) (G : PT.Glob K mg) : FnOk P w K mg base CX0 1 f fd ["_law_script"] (spStart K) := by
  refine F.ok scStart (fun vs H Q E h => ?_) (fun cdv A outer s H vs Q E hr h => ?_)
  · obtain ⟨a, ns, rfl, _⟩ := h
    rfl
  · obtain ⟨a, ns, rfl, hS, hl, q⟩ := h
    refine ⟨_, pss_one (ps_ret (pe_lst (pa_cons (pe_ifExp (pt_cmpR (op_neD hr.units) (pv 0) (pe_lst pa_nil) (nomark _)) (pe_callTy call_list_of (by rfl) G.list (by decide +kernel) (pa_cons (pv 0) pa_nil)) (pe_lst (pa_cons pe_int pa_nil))) (pa_cons pe_int pa_nil)))), ?_⟩
    refine ⟨.ref a, rfl, Nat.zero_le _, fun p np => ?_⟩
    have s1 : Same H (upd H p (.lst [])) := same_new np
    refine ⟨.list (ns.map .int), .list [], .lst (s1.seq hS) (dps_ints ns), .lst (.of upd_same) .nil, ints_shaped ns, rfl, _, rfl, ite2 (fun e => ?_) fun e => ?_⟩
    · have hne : ns ≠ [] := fun z => by rw [z] at e; cases e
      refine ⟨_, rfl, a, ns.map V.int, rfl, .inl (s1.seq hS), fun l nl => ?_⟩
      refine ⟨by show 2 ≤ sizeLine; decide, fun d nd => ?_⟩
      have s2 := same_new (o := .lst (ns.map V.int)) nl
      have s3 := same_new (o := .lst [.ref l, .int 0]) nd
      refine q d l _ ((s1.trans s2).trans s3) ((s1.trans s2).free nd) (s1.free nl) ⟨ns, 0, upd_same, ?_, hne, hl, Int.le_refl _⟩
      exact s3 _ _ upd_same
    · refine ⟨by show 1 ≤ sizeLine; decide, fun l nl => ?_⟩
      refine ⟨by show 2 ≤ sizeLine; decide, fun d nd => ?_⟩
      have s2 := same_new (o := .lst [.int 0]) nl
      have s3 := same_new (o := .lst [.ref l, .int 0]) nd
      exact q d l _ ((s1.trans s2).trans s3) ((s1.trans s2).free nd) (s1.free nl) ⟨[0], 0, upd_same, s3 _ _ upd_same, by simp, by decide, Int.le_refl _⟩
def spDraw (T : List Addr) : Sp := fun vs H Q _ => ∃ (d nu : Addr) (lim : Int), vs = [.ref d, .int lim] ∧ 1 ≤ lim ∧ lim ≤ 1000 ∧ Drw H d nu ∧ ∀ (r : Int) H', 0 ≤ r → r < lim → Frm T d nu H H' → Q (.int r) H'
theorem ok_draw {T : List Addr} (F : Fun K "_law_draw" "_law_draw" sDraw f fd) (G : PT.Glob K mg) : FnOk P w K mg base CX0 1 f fd ["_law_draws", "_law_limit"] (spDraw T) := by
  refine F.ok scDraw (fun vs H Q E h => ?_) (fun cdv A outer s H vs Q E hr h => ?_)
  · obtain ⟨d, nu, lim, rfl, _⟩ := h
    rfl
  · obtain ⟨d, nu, lim, rfl, l1, l2, ⟨ns, c, hd, hnu, hne, hl, hc⟩, q⟩ := h
    have ndu : d ≠ nu := fun z => by
      rw [z, hnu] at hd
      cases ns with
      | nil => exact hne rfl
      | cons n r => cases hd
    have hpos : 0 < ns.length := List.length_pos_iff.mpr hne
    refine ⟨_, pss_cons (ps_set (i := 2) scDraw.nd rfl (.inl rfl) (pe_ix ix_list (pv 0) pe_int (fun _ _ => rfl)))
      (pss_cons (ps_asg (pe_op op_add (pe_ix ix_list (pv 0) pe_int (fun _ _ => rfl)) pe_int) (pg_sub (pv 0) pe_int set_list))
      (pss_cons (ps_set (i := 3) scDraw.nd rfl (.inl rfl) (pe_op op_mod (pe_ix ix_list (pv 0) pe_int (fun _ _ => rfl)) (pe_callB call_len_seq (by rfl) G.len PySem.boot_len (pa_cons (pv 2) pa_nil))))
      (pss_cons (ps_set (i := 4) scDraw.nd rfl (.inl rfl) (pe_ix ix_list (pv 2) (pv 3) (fun _ _ => rfl)))
      (pss_cons (ps_if (pt_cmpR op_ge (pv 4) pe_int (nomark _)) (pss_cons (ps_asg (pe_op op_fdiv (pv 4) (pv 1)) (pg_sub (pv 2) (pv 3) set_list)) (pss_one (ps_ret (pe_op op_mod (pv 4) (pv 1))))) pss_nil)
      (pss_cons (ps_set (i := 5) scDraw.nd rfl (.inl rfl) (pe_op op_mod (pe_op op_add (pv 4) (pe_op op_mul pe_int (pe_ix ix_list (pv 0) pe_int (fun _ _ => rfl)))) pe_int))
      (pss_cons (ps_set (i := 5) scDraw.nd rfl (.inl rfl) (pe_op op_mod (pe_op op_pow (pv 5) pe_int) pe_int))
      (pss_one (ps_ret (pe_op op_mod (pe_op op_fdiv (pe_op op_mod (pe_op op_add (pe_op op_mul (pe_op op_fdiv (pv 5) pe_int) pe_int) (pv 5)) pe_int) pe_int) (pv 1)))))))))), ?_⟩
    refine ⟨.ref d, rfl, d, _, 0, .ref nu, rfl, rfl, .of hd, rfl, ?_⟩
    refine ⟨.ref d, rfl, d, _, 1, .int c, rfl, rfl, .of hd, rfl, c, 1, rfl, rfl, .ref d, rfl, d, _, 1, 1, rfl, rfl, hd, rfl, ?_⟩
    have hd1 : (upd H d (.lst [.ref nu, .int (c + 1)])) d = some (.lst [.ref nu, .int (c + 1)]) := upd_same
    have hnu1 : (upd H d (.lst [.ref nu, .int (c + 1)])) nu = some (.lst (ns.map V.int)) := by rw [upd_ne ndu.symm]; exact hnu
    generalize hH1 : upd H d (.lst [.ref nu, .int (c + 1)]) = H1 at hd1 hnu1
    have hlen : ((ns.map V.int).length : Int) = ns.length := by rw [List.length_map]
    have hlp : (0 : Int) < (ns.map V.int).length := by rw [hlen]; omega
    generalize hj : (c + 1) % ((ns.map V.int).length : Int) = j
    have j0 : 0 ≤ j := by rw [← hj]; exact Int.emod_nonneg _ (by omega)
    have j1 : j < ns.length := by rw [← hj, ← hlen]; exact Int.emod_lt_of_pos _ hlp
    have hix : ixN (ns.map V.int).length j = some j.toNat := by
      unfold ixN
      rw [if_pos j0, if_pos (by rw [hlen]; exact j1)]
    have hjn : j.toNat < ns.length := by omega
    have hat : atI (ns.map V.int) j = some (.int (ns[j.toNat]'hjn)) := by
      unfold atI
      rw [hix]
      show (ns.map V.int)[j.toNat]? = _
      rw [List.getElem?_map, List.getElem?_eq_getElem hjn]
      rfl
    generalize hcell : ns[j.toNat]'hjn = cell at hat
    have frame1 : ∀ H2, (∀ b, b ≠ nu → H2 b = H1 b) → (∃ ms : List Int, H2 nu = some (.lst (ms.map V.int)) ∧ ms ≠ [] ∧ ms.length ≤ 63) → Frm T d nu H H2 := fun H2 e2 ⟨ms, e3, e4, e5⟩ => by
      refine ⟨fun b o e n1 n2 _ => ?_, fun P hP ⟨ps, e, ok⟩ => ⟨ps, ?_, ok⟩, ⟨ms, c + 1, ?_, e3, e4, e5, by omega⟩⟩
      · rw [e2 b n2, ← hH1, upd_ne n1]; exact e
      · have n1 : P ≠ d := fun z => by rw [z, hd] at e; cases e
        have n2 : P ≠ nu := fun z => by rw [z, hnu] at e; cases e
        rw [e2 P n2, ← hH1, upd_ne n1]; exact e
      · rw [e2 d ndu]; exact hd1
    have eH : upd H d (HO.lst ([V.ref nu, V.int c].set 1 ((fun i j => V.int (i + j)) c 1))) = H1 := hH1
    rw [eH]
    refine ⟨.ref d, rfl, d, _, 1, .int (c + 1), rfl, rfl, .of hd1, rfl, .ref nu, rfl, nu, _, rfl, .inl (.of hnu1), _, _, rfl, rfl, hlp, ?_⟩
    refine ⟨.ref nu, rfl, .int j, by show some (some (V.int ((c + 1) % ((ns.map V.int).length : Int)))) = _; rw [hj], nu, _, j, .int cell, rfl, rfl, .of hnu1, hat, ?_⟩
    refine ⟨.int cell, rfl, _, _, rfl, rfl, _, rfl, ite2 (fun e => ?_) fun e => ?_⟩
    · refine ⟨.int cell, rfl, .int lim, rfl, _, _, rfl, rfl, ⟨by omega, by omega⟩, .ref nu, rfl, .int j, by show some (some (V.int ((c + 1) % ((ns.map V.int).length : Int)))) = _; rw [hj], nu, _, j, j.toNat, rfl, rfl, hnu1, hix, ?_⟩
      refine ⟨.int cell, rfl, .int lim, rfl, _, _, rfl, rfl, by show (0 : Int) < lim; omega, ?_⟩
      refine q (cell % lim) _ (Int.emod_nonneg _ (by omega)) (Int.emod_lt_of_pos _ (by omega)) (frame1 _ (fun b hb => upd_ne hb) ⟨ns.set j.toNat (cell / lim), ?_, ?_, by rw [List.length_set]; exact hl⟩)
      · rw [upd_same, List.map_set]
      · intro z
        have := congrArg List.length z
        rw [List.length_set] at this
        simp at this
        exact hne this
    · refine ⟨.int cell, rfl, .ref d, rfl, d, _, 1, .int (c + 1), rfl, rfl, .of hd1, rfl, 104729, c + 1, rfl, rfl, .inl ⟨by decide, by decide⟩, _, _, rfl, rfl, _, _, rfl, rfl, by show (0 : Int) < 4294967291; decide, ?_⟩
      generalize hm : (cell + 104729 * (c + 1)) % 4294967291 = m
      have m0 : 0 ≤ m := by rw [← hm]; exact Int.emod_nonneg _ (by decide)
      have m1 : m < 4294967291 := by rw [← hm]; exact Int.emod_lt_of_pos _ (by decide)
      refine ⟨.int m, by show some (some (V.int ((cell + 104729 * (c + 1)) % 4294967291))) = _; rw [hm], m, 5, rfl, rfl, ⟨by decide, by decide, by omega⟩, _, _, rfl, rfl, by show (0 : Int) < 4294967279; decide, ?_⟩
      generalize hm2 : m ^ (5 : Int).toNat % 4294967279 = m2
      have n0 : 0 ≤ m2 := by rw [← hm2]; exact Int.emod_nonneg _ (by decide)
      have n1 : m2 < 4294967279 := by rw [← hm2]; exact Int.emod_lt_of_pos _ (by decide)
      refine ⟨.int m2, by show some (some (V.int (m ^ (5 : Int).toNat % 4294967279))) = _; rw [hm2], _, _, rfl, rfl, ⟨by decide, by decide⟩, _, _, rfl, rfl, .inr ⟨by decide, by decide⟩, .int m2, by show some (some (V.int (m ^ (5 : Int).toNat % 4294967279))) = _; rw [hm2], _, _, rfl, rfl, _, _, rfl, rfl, by show (0 : Int) < 4294967231; decide, _, _, rfl, rfl, ⟨by decide, by decide⟩, .int lim, rfl, _, _, rfl, rfl, by show (0 : Int) < lim; omega, ?_⟩
      exact q _ _ (Int.emod_nonneg _ (by omega)) (Int.emod_lt_of_pos _ (by omega)) (frame1 H1 (fun _ _ => rfl) ⟨ns, hnu1, hne, hl⟩)
end
/-! ### frames of draws -/
section
variable {K : PySem.W.Frag} {T : List Addr} {d nu : Addr} {H H1 H2 : Hp}
theorem Frm.refl (h : Drw H d nu) : Frm T d nu H H := ⟨fun _ _ e _ _ _ => e, fun _ _ e => e, h⟩
theorem Frm.trans (a : Frm T d nu H H1) (b : Frm T d nu H1 H2) : Frm T d nu H H2 := ⟨fun c o e n1 n2 n3 => b.at_ c o (a.at_ c o e n1 n2 n3) n1 n2 n3, fun P hP t => b.tab P hP (a.tab P hP t), b.drw⟩
theorem Frm.tabs (a : Frm T d nu H H1) (t : Tabs T H) : Tabs T H1 := fun P hP => a.tab P hP (t P hP)
theorem Drw.keep (h : Drw H d nu) (t : Tabs T H) (k : Keep T H H1) : Drw H1 d nu := by
  obtain ⟨ns, c, h1, h2, h3⟩ := h.ex
  exact ⟨⟨ns, c, k.lst t h1, k.lst t h2, h3⟩⟩
theorem Frm.keep (h : Drw H d nu) (t : Tabs T H) (k : Keep T H H1) : Frm T d nu H H1 := ⟨fun b o e _ _ n => k.at_ b o e n, k.tab, h.keep t k⟩
theorem Drw.ne (h : Drw H d nu) {p : Addr} (hp : H p = none) : p ≠ d ∧ p ≠ nu := by
  obtain ⟨ns, c, h1, h2, h3⟩ := h.ex
  exact ⟨fun z => (by rw [z, h1] at hp; cases hp), fun z => (by rw [z, h2] at hp; cases hp)⟩
theorem Drw.ne' (h : Drw H d nu) : d ≠ nu := fun z => by
  obtain ⟨ns, c, h1, h2, h3, _⟩ := h.ex
  rw [z, h2] at h1
  cases ns with
  | nil => exact h3 rfl
  | cons n r => cases h1
/-- a new object, or one that is none of the first heap's, is written -/
theorem Frm.own (k : Frm T d nu H H1) (h : Drw H d nu) (t : Tabs T H) {p : Addr} {o : HO} (hp : H p = none) : Frm T d nu H (upd H1 p o) := by
  obtain ⟨n1, n2⟩ := h.ne hp
  have nT : p ∉ T := fun m => by
    obtain ⟨ps, e, _⟩ := t p m
    rw [hp] at e; cases e
  refine ⟨fun b x e m1 m2 m3 => ?_, fun P hP tb => ?_, ?_⟩
  · rw [upd_ne (ne_of_none e hp)]
    exact k.at_ b x e m1 m2 m3
  · obtain ⟨ps, e, ok⟩ := k.tab P hP tb
    refine ⟨ps, ?_, ok⟩
    rw [upd_ne (fun z => nT (by rw [← z]; exact hP))]
    exact e
  · obtain ⟨ns, c, h1, h2, h3⟩ := k.drw.ex
    exact ⟨⟨ns, c, by rw [upd_ne n1.symm]; exact h1, by rw [upd_ne n2.symm]; exact h2, h3⟩⟩
theorem Frm.free (k : Frm T d nu H H1) (h : Drw H d nu) (t : Tabs T H) {p : Addr} (hp : H1 p = none) : H p = none := by
  cases e : H p with
  | none => rfl
  | some o =>
    obtain ⟨n1, n2⟩ := k.drw.ne hp
    by_cases m : p ∈ T
    · obtain ⟨ps, e', _⟩ := k.tabs t p m
      rw [hp] at e'; cases e'
    · have := k.at_ p o e n1 n2 m
      rw [hp] at this; cases this
theorem Frm.lst (k : Frm T d nu H H1) (t : Tabs T H) {a : Addr} {xs : List V} (h : H a = some (.lst xs)) (n1 : a ≠ d) (n2 : a ≠ nu) : H1 a = some (.lst xs) := k.at_ _ _ h n1 n2 (nT_of t h fun ps z => by cases z)
theorem Frm.sqT (k : Frm T d nu H H1) (h : Drw H d nu) (t : Tabs T H) {a : Addr} {xs : List V} (hs : SqT K H a xs) : SqT K H1 a xs := by
  obtain ⟨ns, c, h1, h2, h3⟩ := h.ex
  rcases hs with (hs | ⟨o, hs⟩) | hs
  · exact .inl (.inl (k.at_ _ _ hs (ne_of hs h1 (by intro z; cases z)) (ne_of hs h2 (by intro z; cases z)) (nT_of t hs fun ps z => by cases z)))
  · exact .inl (.inr ⟨o, k.at_ _ _ hs (ne_of hs h1 (by intro z; cases z)) (ne_of hs h2 (by intro z; cases z)) (nT_of t hs fun ps z => by cases z)⟩)
  · exact .inr hs
end
end LW
/-! draws beside plain data -/
namespace DL
open PySem PySem.Spec PyProof.Rows L2 DA
structure WC where
  K : PySem.W.Frag
  T : List Addr
  M : List Addr
  d : Addr
  nu : Addr
abbrev WC.at (k : WC) (H : Hp) : DC := ⟨k.K, k.T, k.M, H⟩
abbrev WC.mask (k : WC) (M : List Addr) : WC := ⟨k.K, k.T, M, k.d, k.nu⟩
structure SW (k : WC) (σ : L2.St) (H : Hp) (ρ : DEnv) : Prop where
  sr : SR ⟨k.K, k.T, k.M, H⟩ [] σ H ρ
  dr : LW.Drw H k.d k.nu
  hd : k.d ∈ k.M
  hn : k.nu ∈ k.M
theorem frm_hid {T M : List Addr} {d nu : Addr} {H H' : Hp} (hd : d ∈ M) (hn : nu ∈ M) (f : LW.Frm T d nu H H') : Keep T (hid M H) (hid M H') := by
  refine ⟨fun b o e nT => ?_, fun P hP tb => ?_⟩
  · obtain ⟨m, e⟩ := hid_inv e
    exact hid_of m (f.at_ b o e (fun z => m (by rw [z]; exact hd)) (fun z => m (by rw [z]; exact hn)) nT)
  · obtain ⟨ps, e, ok⟩ := tb
    obtain ⟨m, e⟩ := hid_inv e
    obtain ⟨ps', e', ok'⟩ := f.tab P hP ⟨ps, e, ok⟩
    exact ⟨ps', hid_of m e', ok'⟩
section
variable {k : WC} {σ : L2.St} {H H' H1 : Hp} {ρ : DEnv}
theorem SW.tabm (r : SW k σ H ρ) : Tabs k.T (hid k.M H) := tabs_hid r.sr.tab fun a h => (r.sr.msk a h).1
theorem SW.keepF (r : SW k σ H ρ) (f : Keep k.T H H') : LW.Frm k.T k.d k.nu H H' := LW.Frm.keep r.dr r.sr.tab f
theorem drw_none {T : List Addr} {d nu : Addr} {H H' : Hp} (f : LW.Frm T d nu H H') (t : Tabs T H) {a : Addr} (h : H a ≠ none) : H' a ≠ none := by
  obtain ⟨ns, c, h1, h2, _⟩ := f.drw.ex
  by_cases z : a = d
  · rw [z, h1]; intro z; cases z
  · by_cases y : a = nu
    · rw [y, h2]; intro z; cases z
    · cases e : H a with
      | none => exact absurd e h
      | some o =>
        by_cases m : a ∈ T
        · obtain ⟨ps, e', _⟩ := f.tabs t a m
          rw [e']; intro z; cases z
        · rw [f.at_ a o e z y m]; intro z; cases z
theorem SW.frm (r : SW k σ H ρ) (f : LW.Frm k.T k.d k.nu H H') : SW k σ H' ρ :=
  ⟨r.sr.reb (frm_hid r.hd r.hn f) (f.tabs r.sr.tab) fun a h => ⟨(r.sr.msk a h).1, drw_none f r.sr.tab (r.sr.msk a h).2⟩, f.drw, r.hd, r.hn⟩
theorem SW.more (r : SW k σ H ρ) (f : LW.Frm k.T k.d k.nu H H') {D : Addr} (hD : H D = none) (hD' : H' D ≠ none) (nT : D ∉ k.T) : SW (k.mask (D :: k.M)) σ H' ρ := by
  have h1 := frm_hid r.hd r.hn f
  have km : Keep k.T (hid k.M H) (hid (D :: k.M) H') := by
    refine ⟨fun b o e nb => ?_, fun P hP tb => ?_⟩
    · have e2 := h1.at_ b o e nb
      obtain ⟨m, e2⟩ := hid_inv e2
      refine hid_of (fun q => (List.mem_cons.mp q).elim (fun z => ?_) m) e2
      rw [z] at e
      rw [(hid_inv e).2] at hD
      cases hD
    · obtain ⟨ps, e, ok⟩ := h1.tab P hP tb
      obtain ⟨m, e⟩ := hid_inv e
      exact ⟨ps, hid_of (fun q => (List.mem_cons.mp q).elim (fun z => nT (by rw [← z]; exact hP)) m) e, ok⟩
  exact ⟨r.sr.reb km (f.tabs r.sr.tab) fun a h => (List.mem_cons.mp h).elim (fun z => by rw [z]; exact ⟨nT, hD'⟩) fun h => ⟨(r.sr.msk a h).1, drw_none f r.sr.tab (r.sr.msk a h).2⟩, f.drw, List.mem_cons_of_mem _ r.hd, List.mem_cons_of_mem _ r.hn⟩
theorem SW.wipe (r : SW k σ H ρ) (vs : List Nat) : SW k (L2.wipe σ vs) H (wipeD ρ vs) := ⟨r.sr.wipe vs, r.dr, r.hd, r.hn⟩
theorem SW.setD (r : SW k σ H ρ) (i : Nat) {v : V} {x : PD} (h : Dp k.K (hid k.M H) v x) : SW k (σ.set i (some v)) H (ρ.set i (.dat x)) := ⟨r.sr.setD i (by rw [List.append_nil]; exact h), r.dr, r.hd, r.hn⟩
end
def WE (k : WC) (te : TE) (ρ : DEnv) (P : PD → Prop) : Prop := ∀ σ H, SW k σ H ρ → ∀ Q : VK, (∀ v H' x, LW.Frm k.T k.d k.nu H H' → Dp k.K (hid k.M H') v x → P x → Q v H') → te σ H Q
def WA (k : WC) (ta : TA) (ρ : DEnv) (P : List DS → Prop) : Prop := ∀ σ H, SW k σ H ρ → ∀ Q : List V → Hp → Prop, (∀ vs H' ss, LW.Frm k.T k.d k.nu H H' → ArgsOk k.K (hid k.M H') vs ss → P ss → Q vs H') → ta σ H Q
def WL (k : WC) (te : TE) (ρ : DEnv) (P : List PD → Prop) : Prop := ∀ σ H, SW k σ H ρ → ∀ Q : VK, (∀ p xs H' ds, LW.Frm k.T k.d k.nu H H' → H p = none → H' p = some (.lst xs) → DpAll k.K (hid k.M H') xs ds → P ds → Q (.ref p) H') → te σ H Q
section
variable {k : WC} {ρ : DEnv} {te ta tb : TE} {tr : TA} {P R S : PD → Prop}
theorem we_ed {x : PD} (h : ∀ H, ED (k.at H) te ρ x) (hp : P x) : WE k te ρ P := fun σ H r Q q => h H [] σ H r.sr Q fun v H' k' h' => by
  rw [List.append_nil] at h'
  exact q v H' x (r.keepF k') h' hp
theorem we_is (h : WE k te ρ P) (hp : ∀ x, P x → R x) : WE k te ρ R := fun σ H r Q q => h σ H r Q fun v H' x f h' p => q v H' x f h' (hp x p)
theorem wa_nil {P : List DS → Prop} (h : P []) : WA k tNil ρ P := fun σ H r Q q => q [] H [] (.refl r.dr) .nil h
theorem wa_cons {P : PD → Prop} {R S : List DS → Prop} (h : WE k te ρ P) (hr : WA k tr ρ R) (hs : ∀ x ss, P x → R ss → S (.dat x :: ss)) : WA k (tCons te tr) ρ S := fun σ H r Q q =>
  h σ H r _ fun v H1 x f1 h1 p1 => hr σ H1 (r.frm f1) _ fun vs H2 ss f2 h2 p2 => q _ H2 _ (f1.trans f2) (.cons (ArgOk.keep (s := .dat x) (frm_hid r.hd r.hn f2) (r.frm f1).tabm h1) h2) (hs x ss p1 p2)
theorem wa_raw {i : Nat} {w : V} {R S : List DS → Prop} (h : ρ[i]? = some (.raw w)) (hr : WA k tr ρ R) (hs : ∀ ss, R ss → S (.raw w :: ss)) : WA k (tCons (tVar i) tr) ρ S := fun σ H r Q q => by
  obtain ⟨ov, h1, h2⟩ := r.sr.rel i _ h
  cases ov with
  | none => exact False.elim h2
  | some v =>
    have h2 : v = w := h2
    subst h2
    refine ⟨v, ?_, hr σ H r _ fun vs H2 ss f2 h3 p2 => q _ H2 _ f2 (.cons (show ArgOk k.K (hid k.M H2) v (.raw v) from rfl) h3) (hs ss p2)⟩
    rw [h1]
theorem we_draw {i : Nat} {E : XK} {n : Nat} (h : ρ[i]? = some (.raw (.ref k.d))) (hb : ∀ H, ED (k.at H) tb ρ (.int (n : Int))) (h1 : 1 ≤ n) (h2 : n ≤ 1000) : WE k (tCall (LW.spDraw k.T) [] E (tCons (tVar i) (tCons tb tNil))) ρ (fun x => ∃ r : Nat, r < n ∧ x = .int (r : Int)) := fun σ H r Q q =>
  wa_raw (R := fun ss => ss = [.dat (.int (n : Int))]) (S := fun ss => ss = [.raw (.ref k.d), .dat (.int (n : Int))]) h (wa_cons (we_ed (P := fun x => x = .int (n : Int)) hb rfl) (wa_nil (P := fun ss => ss = []) rfl) fun x ss e1 e2 => by rw [e1, e2]) (fun ss e => by rw [e]) σ H r _ fun vs H1 ss f1 h3 e => by
    subst e
    cases h3 with
    | cons a h3 =>
      have a : _ = V.ref k.d := a
      subst a
      obtain ⟨v, rfl, h4⟩ := args1 h3
      have h4 := dp_int h4
      subst h4
      refine ⟨k.d, k.nu, (n : Int), rfl, by omega, by omega, f1.drw, fun r H2 r0 r1 f2 => q (.int r) H2 (.int ((r.toNat : Nat) : Int)) (f1.trans f2) (by rw [Int.toNat_of_nonneg r0]; exact .int _) ⟨r.toNat, by omega, rfl⟩⟩
theorem we_I0 {g : Int → Int → Int} (ha : WE k ta ρ P) (hb : WE k tb ρ R) (hs : ∀ x y, P x → R y → ∃ i j, x = .int i ∧ y = .int j ∧ S (.int (g i j))) : WE k (tOp (rI0 fun i j => .int (g i j)) ta tb) ρ S := fun σ H r Q q =>
  ha σ H r _ fun v H1 x f1 h1 p1 => hb σ H1 (r.frm f1) _ fun w H2 y f2 h2 p2 => by
    obtain ⟨i, j, rfl, rfl, hs⟩ := hs x y p1 p2
    exact ⟨i, j, dp_int h1, dp_int h2, q _ H2 _ (f1.trans f2) (.int _) hs⟩
theorem we_tup {ta : TA} (h : WA k ta ρ fun ss => ∃ ds : List PD, ss = ds.map .dat ∧ ds.length ≤ 1000 ∧ P (.tuple ds)) : WE k (tTup ta) ρ P := fun σ H r Q q => h σ H r _ fun vs H1 ss f1 h1 ⟨ds, e, hl, hp⟩ => by
  subst e
  have h2 := args_dps h1
  refine ⟨by rw [dps_len h2]; exact Nat.le_of_lt (small1000 hl), fun p hp2 => ?_⟩
  have r1 := r.frm f1
  have kn : Keep k.T H1 (upd H1 p (.tup vs)) := .new hp2
  have pM : p ∉ k.M := fun m => (r1.sr.msk p m).2 hp2
  exact q _ _ _ (f1.trans (r1.keepF kn)) (.tup (.of (hid_of pM upd_same)) (dps_keep (hid_keep kn) r1.tabm h2)) hp
theorem wl_lst {ta : TA} {P : List PD → Prop} (h : WA k ta ρ fun ss => ∃ ds : List PD, ss = ds.map .dat ∧ ds.length ≤ 1000 ∧ P ds) : WL k (tLst ta) ρ P := fun σ H r Q q => h σ H r _ fun vs H1 ss f1 h1 ⟨ds, e, hl, hp⟩ => by
  subst e
  have h2 := args_dps h1
  refine ⟨by rw [dps_len h2]; exact Nat.le_of_lt (small1000 hl), fun p hp2 => ?_⟩
  have r1 := r.frm f1
  have kn : Keep k.T H1 (upd H1 p (.lst vs)) := .new hp2
  exact q p _ _ _ (f1.trans (r1.keepF kn)) (f1.free r.dr r.sr.tab hp2) upd_same (dps_keep (hid_keep kn) r1.tabm h2) hp
theorem wl_rep {P S : List PD → Prop} (ha : WL k ta ρ P) (hb : WE k tb ρ R) (hs : ∀ ds x, P ds → R x → ∃ n : Nat, x = .int (n : Int) ∧ ds.length * n ≤ 1000 ∧ n ≤ 1000000 ∧ S (List.replicate n ds).flatten) : WL k (tOp rRep ta tb) ρ S := fun σ H r Q q =>
  ha σ H r _ fun p xs H1 ds f1 hp e1 h1 p1 => hb σ H1 (r.frm f1) _ fun w H2 y f2 h2 p2 => by
    obtain ⟨n, rfl, hz, hn, hs⟩ := hs ds y p1 p2
    have r1 := r.frm f1
    have r2 := r1.frm f2
    obtain ⟨n1, n2⟩ := r.dr.ne hp
    have e2 : H2 p = some (.lst xs) := f2.lst r1.sr.tab e1 n1 n2
    have h3 := dps_keep (frm_hid r.hd r.hn f2) r1.tabm h1
    refine ⟨p, (n : Int), xs, rfl, dp_int h2, e2, by omega, by omega, ?_, fun z hz2 => ?_⟩
    · rw [Int.toNat_natCast, dps_len h1]
      exact Nat.le_of_lt (small1000 hz)
    · rw [Int.toNat_natCast]
      have kn : Keep k.T H2 (upd H2 z (.lst (List.replicate n xs).flatten)) := .new hz2
      exact q z _ _ _ ((f1.trans f2).trans (r2.keepF kn)) ((f1.trans f2).free r.dr r.sr.tab hz2) upd_same (dps_keep (hid_keep kn) r2.tabm (dps_rep n h3)) hs
theorem we_wl {P : List PD → Prop} (h : WL k te ρ P) (hp : ∀ ds, P ds → R (.list ds)) : WE k te ρ R := fun σ H r Q q => h σ H r _ fun p xs H1 ds f1 e0 e1 h1 p1 =>
  q _ H1 _ f1 (.lst (.of (hid_of (fun m => (r.sr.msk p m).2 e0) e1)) h1) (hp ds p1)
/-- [e for i in range(n)], e may draw -/
theorem wl_lcR {tn : TE} {i n : Nat} {vs : List Nat} (hi : i ∈ vs) (hn : ∀ H, ED (k.at H) tn ρ (.int (n : Int))) (hz : n ≤ 1000) (he : ∀ M j, j < n → WE (k.mask M) te ((wipeD ρ vs).set i (.dat (.int (j : Int)))) R) : WL k (tLc (iRng1 (tCons tn tNil)) (gName i) tYes te vs) ρ (fun ds => ds.length = n ∧ ∀ d ∈ ds, R d) := fun σ H r Q q =>
  hn H [] σ H r.sr _ fun v H1 k1 h1 => by
    have h1 := dp_int h1
    subst h1
    refine ⟨(n : Int), rfl, by omega, by omega, fun D hD => ?_⟩
    have r1 := r.frm (r.keepF k1)
    have nT : D ∉ k.T := fun m => by
      obtain ⟨ps, e, _⟩ := r1.sr.tab D m
      have e : H1 D = _ := e
      rw [hD] at e; cases e
    have f0 := r1.keepF (Keep.new (T := k.T) (o := .lst []) hD)
    obtain ⟨nd, nn⟩ := r1.dr.ne hD
    refine lc_range (lo := 0) (n := (n : Int).toNat) (fun j H2 => ∃ xs ds, LW.Frm k.T k.d k.nu H1 H2 ∧ H2 D = some (.lst xs) ∧ DpAll k.K (hid (D :: k.M) H2) xs ds ∧ ds.length = j ∧ ∀ d ∈ ds, R d) ⟨[], [], f0, upd_same, .nil, rfl, fun _ z => nomatch z⟩ ?_ ?_
    · rintro j H2 hj ⟨xs, ds, f2, e2, h2, hl, hR⟩
      have hj : j < n := by omega
      have r2 : SW (k.mask (D :: k.M)) σ H2 ρ := r1.more f2 hD (by rw [e2]; intro z; cases z) nT
      have r3 := (r2.wipe vs).setD i (v := .int (0 + (j : Int))) (x := .int (j : Int)) (by rw [Int.zero_add]; exact .int _)
      refine ⟨?_, ?_⟩
      · rw [wipe_set_in hi, wipe_wipe (fun _ h => h)]
      · refine he (D :: k.M) j hj _ H2 r3 _ fun y H3 x f3 h3 p3 => ?_
        have e3 : H3 D = some (.lst xs) := f3.lst r2.sr.tab e2 nd nn
        have h4 := dps_keep (frm_hid r2.hd r2.hn f3) r2.tabm h2
        have eh : hid (D :: k.M) (upd H3 D (.lst (xs ++ [y]))) = hid (D :: k.M) H3 := hid_in List.mem_cons_self
        refine ⟨xs, e3, ?_, xs ++ [y], ds ++ [x], (f2.trans f3).own r1.dr r1.sr.tab hD, upd_same, ?_, by rw [List.length_append, hl]; rfl, fun z hz2 => ?_⟩
        · rw [dps_len h2]
          exact small1000 (by omega)
        · rw [eh]
          exact dps_append h4 (.cons h3 .nil)
        · rcases List.mem_append.mp hz2 with m | m
          · exact hR z m
          · rw [List.mem_singleton.mp m]; exact p3
    · rintro H2 ⟨xs, ds, f2, e2, h2, hl, hR⟩
      exact q D xs H2 ds ((r.keepF k1).trans f2) ((r.keepF k1).free r.dr r.sr.tab hD) e2 (dps_same (hid_sub fun a m => List.mem_cons_of_mem _ m) h2) ⟨by omega, hR⟩
/-- x = e -/
theorem sw_set {i : Nat} {σ : L2.St} {H : Hp} {u : TS} {D : Ends} (r : SW k σ H ρ) (h : WE k te ρ P) (q : ∀ v H' x, P x → SW k (σ.set i (some v)) H' (ρ.set i (.dat x)) → u D (σ.set i (some v)) H') : tSeq (tAsg te (gName i)) u D σ H :=
  h σ H r _ fun v H' x f h' p => q v H' x p ((r.frm f).setD i h')
/-- draws begin -/
theorem sw_start {K : PySem.W.Frag} {T M : List Addr} {E : XK} {i j : Nat} {ns : List Int} {σ : L2.St} {H : Hp} {ρ : DEnv} {u : TS} {D : Ends} (r : SR ⟨K, T, M, H⟩ [] σ H ρ) (hj : ρ[j]? = some (.dat (.list (ns.map .int)))) (hl : ns.length ≤ 63)
    (q : ∀ d nu H', SW ⟨K, T, d :: nu :: M, d, nu⟩ (σ.set i (some (.ref d))) H' (ρ.set i (.raw (.ref d))) → u D (σ.set i (some (.ref d))) H') : tSeq (tAsg (tCall (LW.spStart K) [] E (tCons (tVar j) tNil)) (gName i)) u D σ H := by
  obtain ⟨ov, h1, h2⟩ := r.rel j _ hj
  cases ov with
  | none => exact False.elim h2
  | some v =>
    have h2 : Dp K (hid (M ++ []) H) v (.list (ns.map .int)) := h2
    obtain ⟨a, xs, rfl, h3, h4⟩ := dp_list h2
    have h4 := dps_flat h4 (by rw [List.all_map]; exact List.all_eq_true.mpr fun _ _ => rfl)
    rw [List.map_map] at h4
    subst h4
    refine ⟨.ref a, h1, a, ns, rfl, hid_same.seq h3, hl, fun d nu H' s hd hn dr => ?_⟩
    refine q d nu H' ⟨?_, dr, List.mem_cons_self, List.mem_cons_of_mem _ List.mem_cons_self⟩
    have t2 : Tabs T H' := (Keep.same s).tabs r.tab
    obtain ⟨ms, c, e1, e2, _⟩ := dr.ex
    have nT : ∀ {b : Addr} {zs : List V}, H' b = some (.lst zs) → b ∉ T := fun e m => by
      obtain ⟨ps, e', _⟩ := t2 _ m
      rw [e] at e'; cases e'
    have km : Keep T (hid M H) (hid (d :: nu :: M) H') := by
      have nm : ∀ {b : Addr} {o : HO}, H b = some o → b ∉ M → b ∉ d :: nu :: M := fun e m q => by
        rcases List.mem_cons.mp q with z | q
        · rw [z, hd] at e; cases e
        · rcases List.mem_cons.mp q with z | q
          · rw [z, hn] at e; cases e
          · exact m q
      refine ⟨fun b o e nb => ?_, fun P hP tb => ?_⟩
      · obtain ⟨m, e⟩ := hid_inv e
        exact hid_of (nm e m) (s b o e)
      · obtain ⟨ps, e, ok⟩ := tb
        obtain ⟨m, e⟩ := hid_inv e
        exact ⟨ps, hid_of (nm e m) (s P _ e), ok⟩
    have r2 : SR ⟨K, T, d :: nu :: M, H'⟩ [] σ H' ρ := r.reb km t2 fun b hb => by
      rcases List.mem_cons.mp hb with z | hb
      · rw [z]; exact ⟨nT e1, by rw [e1]; intro z; cases z⟩
      · rcases List.mem_cons.mp hb with z | hb
        · rw [z]; exact ⟨nT e2, by rw [e2]; intro z; cases z⟩
        · refine ⟨(r.msk b hb).1, ?_⟩
          cases e : H b with
          | none => exact absurd e (r.msk b hb).2
          | some o => rw [s b o e]; intro z; cases z
    exact r2.setS i (v := .ref d) (s := .raw (.ref d)) rfl (fun ds z => nomatch z)
end
end DL
/-! draws beside lists of one's own -/
namespace DL
open PySem PySem.Spec PyProof.Rows L2 DA
structure VC where
  K : PySem.W.Frag
  T : List Addr
  M : List Addr
  d : Addr
  nu : Addr
  Hs : Hp
abbrev VC.at (k : VC) (H : Hp) : DC := ⟨k.K, k.T, k.M, H⟩
/-- the state: plain data and own lists over a base that the draws went with -/
def SV (k : VC) (A : List Addr) (σ : L2.St) (H : Hp) (ρ : DEnv) : Prop := ∃ H0, SR (k.at H0) A σ H ρ ∧ LW.Frm k.T k.d k.nu k.Hs H0 ∧ k.d ∈ k.M ∧ k.nu ∈ k.M
section
variable {k : VC} {A : List Addr} {σ : L2.St} {H H' : Hp} {ρ : DEnv}
theorem drw_keep {T : List Addr} {d nu : Addr} {H H1 : Hp} (h : LW.Drw H d nu) (t : Tabs T H) (k : Keep T H H1) : LW.Drw H1 d nu := h.keep t k
theorem SV.drw (r : SV k A σ H ρ) : LW.Drw H k.d k.nu := let ⟨_, s, f, _⟩ := r; f.drw.keep s.tab s.keep
theorem SV.fs (r : SV k A σ H ρ) : LW.Frm k.T k.d k.nu k.Hs H := let ⟨_, s, f, _⟩ := r; f.trans (.keep f.drw s.tab s.keep)
theorem SV.tabs (r : SV k A σ H ρ) : Tabs k.T H := let ⟨_, s, _⟩ := r; s.tabs
theorem SV.tabm (r : SV k A σ H ρ) : Tabs k.T (hid (k.M ++ A) H) := let ⟨_, s, _⟩ := r; s.tabm
theorem SV.keepF (r : SV k A σ H ρ) (f : Keep k.T H H') : LW.Frm k.T k.d k.nu H H' := .keep r.drw r.tabs f
theorem SV.move (r : SV k A σ H ρ) (f : Keep k.T H H') : SV k A σ H' ρ := let ⟨H0, s, g⟩ := r; ⟨H0, s.move f, g⟩
theorem SV.hide (r : SV k A σ H ρ) (f : LW.Frm k.T k.d k.nu H H') : Keep k.T (hid (k.M ++ A) H) (hid (k.M ++ A) H') :=
  let ⟨_, _, _, hd, hn⟩ := r; frm_hid (List.mem_append_left _ hd) (List.mem_append_left _ hn) f
/-- the draws go on -/
theorem SV.frm (r : SV k A σ H ρ) (f : LW.Frm k.T k.d k.nu H H') : SV k A σ H' ρ := by
  have kh := r.hide f
  obtain ⟨H0, s, g, hd, hn⟩ := r
  obtain ⟨ns, c, e1, e2, e3⟩ := f.drw.ex
  have dT : k.d ∉ k.T := (s.msk k.d hd).1
  have nT : k.nu ∉ k.T := (s.msk k.nu hn).1
  have aN : ∀ a ∈ A, a ≠ k.d ∧ a ≠ k.nu := fun a ha => ⟨fun z => (s.msk k.d hd).2 (z ▸ (s.new a ha).1), fun z => (s.msk k.nu hn).2 (z ▸ (s.new a ha).1)⟩
  let H1 : Hp := fun b => if b = k.d then H' k.d else if b = k.nu then H' k.nu else H0 b
  have h1d : H1 k.d = H' k.d := if_pos rfl
  have h1n : H1 k.nu = H' k.nu := by
    show (if k.nu = k.d then H' k.d else if k.nu = k.nu then H' k.nu else H0 k.nu) = _
    by_cases z : k.nu = k.d
    · rw [if_pos z, z]
    · rw [if_neg z, if_pos rfl]
  have h1o : ∀ b, b ≠ k.d → b ≠ k.nu → H1 b = H0 b := fun b z1 z2 => by
    show (if b = k.d then H' k.d else if b = k.nu then H' k.nu else H0 b) = _
    rw [if_neg z1, if_neg z2]
  have tN : ∀ P ∈ k.T, P ≠ k.d ∧ P ≠ k.nu := fun P hP => ⟨fun z => dT (z ▸ hP), fun z => nT (z ▸ hP)⟩
  have tb : ∀ P ∈ k.T, GxR.TabG H0 P → GxR.TabG H1 P := fun P hP t => by
    obtain ⟨ps, e, ok⟩ := t
    exact ⟨ps, by rw [h1o P (tN P hP).1 (tN P hP).2]; exact e, ok⟩
  have kp : Keep k.T H1 H' := by
    refine ⟨fun b o e nb => ?_, fun P hP t => ?_⟩
    · by_cases z1 : b = k.d
      · rw [z1] at e ⊢
        rw [h1d] at e
        exact e
      · by_cases z2 : b = k.nu
        · rw [z2] at e ⊢
          rw [h1n] at e
          exact e
        · rw [h1o b z1 z2] at e
          exact f.at_ b o (s.keep.at_ b o e nb) z1 z2 nb
    · obtain ⟨ps, e, ok⟩ := t
      rw [h1o P (tN P hP).1 (tN P hP).2] at e
      exact f.tab P hP (s.keep.tab P hP ⟨ps, e, ok⟩)
  have sl : ∀ ov sx, SlotOk k.K (hid (k.M ++ A) H) H A ov sx → SlotOk k.K (hid (k.M ++ A) H') H' A ov sx := fun ov sx h => by
    cases sx with
    | own ds =>
      cases ov with
      | none =>
        obtain ⟨a, xs, z, _⟩ := h
      | some v =>
        obtain ⟨a, xs, z1, z2, z3, z4⟩ := h
        exact ⟨a, xs, z1, z2, f.at_ a _ z3 (aN a z2).1 (aN a z2).2 (s.nA z2), dps_keep kh s.tabm z4⟩
    | non => cases ov <;> exact h
    | dat d =>
      cases ov with
      | none => exact h
      | some v => exact ArgOk.keep (s := .dat d) kh s.tabm h
    | ob C fs =>
      cases ov with
      | none => exact h
      | some v => exact ArgOk.keep (s := .ob C fs) kh s.tabm h
    | raw w => cases ov <;> exact h
  refine ⟨H1, ⟨fun P hP => tb P hP (s.tab P hP), kp, fun a ha => ⟨(s.msk a ha).1, fun z => ?_⟩, fun a ha => ⟨?_, ?_⟩, s.len, fun i sx e => ?_, s.inj⟩, ⟨fun b o e z1 z2 nb => ?_, fun P hP t => tb P hP (g.tab P hP t), ⟨ns, c, by rw [h1d]; exact e1, by rw [h1n]; exact e2, e3⟩⟩, hd, hn⟩
  · by_cases z1 : a = k.d
    · have z : H1 a = none := z
      rw [z1, h1d, e1] at z
      cases z
    · by_cases z2 : a = k.nu
      · have z : H1 a = none := z
        rw [z2, h1n, e2] at z
        cases z
      · exact (s.msk a ha).2 ((h1o a z1 z2).symm.trans z)
  · show H1 a = none
    rw [h1o a (aN a ha).1 (aN a ha).2]
    exact (s.new a ha).1
  · obtain ⟨xs, e⟩ := (s.new a ha).2
    exact ⟨xs, f.at_ a _ e (aN a ha).1 (aN a ha).2 (s.nA ha)⟩
  · obtain ⟨ov, q1, q2⟩ := s.rel i sx e
    exact ⟨ov, q1, sl ov sx q2⟩
  · show H1 b = some o
    rw [h1o b z1 z2]
    exact g.at_ b o e z1 z2 nb
theorem SV.setD (r : SV k A σ H ρ) (i : Nat) {v : V} {x : PD} (h : Dp k.K (hid (k.M ++ A) H) v x) : SV k A (σ.set i (some v)) H (ρ.set i (.dat x)) := let ⟨H0, s, g⟩ := r; ⟨H0, s.setD i h, g⟩
end
/-! ### expressions -/
def VE (k : VC) (te : TE) (ρ : DEnv) (P : PD → Prop) : Prop := ∀ A σ H, SV k A σ H ρ → ∀ Q : VK, (∀ v H' x, LW.Frm k.T k.d k.nu H H' → Dp k.K (hid (k.M ++ A) H') v x → P x → Q v H') → te σ H Q
def VA (k : VC) (ta : TA) (ρ : DEnv) (P : List DS → Prop) : Prop := ∀ A σ H, SV k A σ H ρ → ∀ Q : List V → Hp → Prop, (∀ vs H' ss, LW.Frm k.T k.d k.nu H H' → ArgsOk k.K (hid (k.M ++ A) H') vs ss → P ss → Q vs H') → ta σ H Q
section
variable {k : VC} {ρ : DEnv} {te ta tb : TE} {tr : TA} {P R S : PD → Prop}
theorem ve_ed {x : PD} (h : ∀ H, ED (k.at H) te ρ x) (hp : P x) : VE k te ρ P := fun A σ H r Q q => by
  obtain ⟨H0, s, g⟩ := r
  exact h H0 A σ H s Q fun v H' k' h' => q v H' x (SV.keepF ⟨H0, s, g⟩ k') h' hp
theorem ve_is (h : VE k te ρ P) (hp : ∀ x, P x → R x) : VE k te ρ R := fun A σ H r Q q => h A σ H r Q fun v H' x f h' p => q v H' x f h' (hp x p)
theorem va_nil {P : List DS → Prop} (h : P []) : VA k tNil ρ P := fun A σ H r Q q => q [] H [] (.refl r.drw) .nil h
theorem va_cons {P : PD → Prop} {R S : List DS → Prop} (h : VE k te ρ P) (hr : VA k tr ρ R) (hs : ∀ x ss, P x → R ss → S (.dat x :: ss)) : VA k (tCons te tr) ρ S := fun A σ H r Q q =>
  h A σ H r _ fun v H1 x f1 h1 p1 => hr A σ H1 (r.frm f1) _ fun vs H2 ss f2 h2 p2 => q _ H2 _ (f1.trans f2) (.cons (ArgOk.keep (s := .dat x) ((r.frm f1).hide f2) (r.frm f1).tabm h1) h2) (hs x ss p1 p2)
theorem va_raw {i : Nat} {w : V} {R S : List DS → Prop} (h : ρ[i]? = some (.raw w)) (hr : VA k tr ρ R) (hs : ∀ ss, R ss → S (.raw w :: ss)) : VA k (tCons (tVar i) tr) ρ S := fun A σ H r Q q => by
  obtain ⟨H0, s, g⟩ := id r
  obtain ⟨ov, h1, h2⟩ := s.rel i _ h
  cases ov with
  | none => exact False.elim h2
  | some v =>
    have h2 : v = w := h2
    subst h2
    refine ⟨v, ?_, hr A σ H r _ fun vs H2 ss f2 h3 p2 => q _ H2 _ f2 (.cons (show ArgOk k.K (hid (k.M ++ A) H2) v (.raw v) from rfl) h3) (hs ss p2)⟩
    rw [h1]
theorem ve_draw {i : Nat} {E : XK} {n : Nat} (h : ρ[i]? = some (.raw (.ref k.d))) (hb : VE k tb ρ fun x => x = .int (n : Int)) (h1 : 1 ≤ n) (h2 : n ≤ 1000) : VE k (tCall (LW.spDraw k.T) [] E (tCons (tVar i) (tCons tb tNil))) ρ (fun x => ∃ r : Nat, r < n ∧ x = .int (r : Int)) := fun A σ H r Q q =>
  va_raw (R := fun ss => ss = [.dat (.int (n : Int))]) (S := fun ss => ss = [.raw (.ref k.d), .dat (.int (n : Int))]) h (va_cons hb (va_nil (P := fun ss => ss = []) rfl) fun x ss e1 e2 => by rw [e1, e2]) (fun ss e => by rw [e]) A σ H r _ fun vs H1 ss f1 h3 e => by
    subst e
    cases h3 with
    | cons a h3 =>
      have a : _ = V.ref k.d := a
      subst a
      obtain ⟨v, rfl, h4⟩ := args1 h3
      have h4 := dp_int h4
      subst h4
      exact ⟨k.d, k.nu, (n : Int), rfl, by omega, by omega, f1.drw, fun r H2 r0 r1 f2 => q (.int r) H2 (.int ((r.toNat : Nat) : Int)) (f1.trans f2) (by rw [Int.toNat_of_nonneg r0]; exact .int _) ⟨r.toNat, by omega, rfl⟩⟩
theorem ve_I0 {g : Int → Int → Int} (ha : VE k ta ρ P) (hb : VE k tb ρ R) (hs : ∀ x y, P x → R y → ∃ i j, x = .int i ∧ y = .int j ∧ S (.int (g i j))) : VE k (tOp (rI0 fun i j => .int (g i j)) ta tb) ρ S := fun A σ H r Q q =>
  ha A σ H r _ fun v H1 x f1 h1 p1 => hb A σ H1 (r.frm f1) _ fun w H2 y f2 h2 p2 => by
    obtain ⟨i, j, rfl, rfl, hs⟩ := hs x y p1 p2
    exact ⟨i, j, dp_int h1, dp_int h2, q _ H2 _ (f1.trans f2) (.int _) hs⟩
theorem SV.fresh {A : List Addr} {σ : L2.St} {H : Hp} (r : SV k A σ H ρ) {p : Addr} (hp : H p = none) : p ∉ k.M ++ A := let ⟨_, s, _⟩ := r; nfresh s hp
theorem ve_tup {ta : TA} (h : VA k ta ρ fun ss => ∃ ds : List PD, ss = ds.map .dat ∧ ds.length ≤ 1000 ∧ P (.tuple ds)) : VE k (tTup ta) ρ P := fun A σ H r Q q => h A σ H r _ fun vs H1 ss f1 h1 ⟨ds, e, hl, hp⟩ => by
  subst e
  have h2 := args_dps h1
  refine ⟨by rw [dps_len h2]; exact Nat.le_of_lt (small1000 hl), fun p hp2 => ?_⟩
  have r1 := r.frm f1
  have kn : Keep k.T H1 (upd H1 p (.tup vs)) := .new hp2
  exact q _ _ _ (f1.trans (r1.keepF kn)) (.tup (.of (hid_of (r1.fresh hp2) upd_same)) (dps_keep (hid_keep kn) r1.tabm h2)) hp
end
/-! ### defs that draw -/
def spW (K : PySem.W.Frag) (T : List Addr) (R : List DS → (PD → Prop) → Prop) : Sp := fun vs H Q _ => ∃ M d nu ss P, (∀ a ∈ M, a ∉ T ∧ H a ≠ none) ∧ d ∈ M ∧ nu ∈ M ∧ Tabs T H ∧ LW.Drw H d nu ∧ ArgsOk K (hid M H) vs (.raw (.ref d) :: ss) ∧ R ss P ∧
  ∀ v H' x, LW.Frm T d nu H H' → Dp K (hid M H') v x → P x → Q v H'
theorem ve_callW {k : VC} {ρ : DEnv} {ta : TA} {E : XK} {R : List DS → (PD → Prop) → Prop} {P : PD → Prop} (h : VA k ta ρ fun ss => ∃ s2, ss = .raw (.ref k.d) :: s2 ∧ R s2 P) : VE k (tCall (spW k.K k.T R) [] E ta) ρ P := fun A σ H r Q q => h A σ H r _ fun vs H1 ss f1 h1 ⟨s2, e, hR⟩ => by
  subst e
  have r1 := r.frm f1
  obtain ⟨H0, s, g, hd, hn⟩ := id r1
  exact ⟨k.M ++ A, k.d, k.nu, s2, P, s.nM, List.mem_append_left _ hd, List.mem_append_left _ hn, s.tabs, f1.drw, by rw [List.append_nil]; exact h1, hR, fun v H' x f h' p => q v H' x (f1.trans f) h' p⟩
/-- the same over draws alone (W1) -/
theorem we_callW {k : WC} {ρ : DEnv} {ta : TA} {E : XK} {R : List DS → (PD → Prop) → Prop} {P : PD → Prop} (h : WA k ta ρ fun ss => ∃ s2, ss = .raw (.ref k.d) :: s2 ∧ R s2 P) : WE k (tCall (spW k.K k.T R) [] E ta) ρ P := fun σ H r Q q => h σ H r _ fun vs H1 ss f1 h1 ⟨s2, e, hR⟩ => by
  subst e
  have r1 := r.frm f1
  exact ⟨k.M, k.d, k.nu, s2, P, r1.sr.msk, r1.hd, r1.hn, r1.sr.tab, f1.drw, by rw [List.append_nil]; exact h1, hR, fun v H' x f h' p => q v H' x (f1.trans f) h' p⟩
/-! ### statements -/
structure VEnds where
  nx : DEnv → Prop
  rt : PD → Prop
  bk : DEnv → Prop := fun _ => False
  ct : DEnv → Prop := fun _ => False
structure LeV (k : VC) (D : VEnds) (E : Ends) : Prop where
  nx : ∀ A σ H ρ, SV k A σ H ρ → D.nx ρ → E.nx σ H
  rt : ∀ v H d, LW.Frm k.T k.d k.nu k.Hs H → Dp k.K (hid k.M H) v d → D.rt d → E.rt v H
  bk : ∀ A σ H ρ, SV k A σ H ρ → D.bk ρ → E.bk σ H
  ct : ∀ A σ H ρ, SV k A σ H ρ → D.ct ρ → E.ct σ H
def VS (k : VC) (t : TS) (D : VEnds) (ρ : DEnv) : Prop := ∀ E, LeV k D E → ∀ A σ H, SV k A σ H ρ → t E σ H
section
variable {k : VC} {ρ : DEnv} {D : VEnds} {t u : TS} {te tk : TE} {P : PD → Prop}
/-- what draws nothing -/
theorem vs_sd (h : ∀ H0, SD (k.at H0) t ⟨D.nx, D.rt, D.bk, D.ct⟩ ρ) : VS k t D ρ := fun E L A σ H r => by
  obtain ⟨H0, s, g, hd, hn⟩ := r
  exact h H0 E ⟨fun A' σ' H' ρ' r' q => L.nx A' σ' H' ρ' ⟨H0, r', g, hd, hn⟩ q, fun v H' d kk hv q => L.rt v H' d (g.trans (.keep g.drw s.tab kk)) hv q, fun A' σ' H' ρ' r' q => L.bk A' σ' H' ρ' ⟨H0, r', g, hd, hn⟩ q, fun A' σ' H' ρ' r' q => L.ct A' σ' H' ρ' ⟨H0, r', g, hd, hn⟩ q⟩ A σ H s
theorem vs_seq (h : VS k t { D with nx := fun ρ' => VS k u D ρ' } ρ) : VS k (tSeq t u) D ρ := fun E L A σ H r => h { E with nx := u E } ⟨fun A' σ' H' ρ' r' q => q E L A' σ' H' r', L.rt, L.bk, L.ct⟩ A σ H r
theorem vs_next (h : D.nx ρ) : VS k tNext D ρ := fun E L A σ H r => L.nx A σ H ρ r h
theorem vs_set {i : Nat} (h : VE k te ρ P) (q : ∀ x, P x → D.nx (ρ.set i (.dat x))) : VS k (tAsg te (gName i)) D ρ := fun E L A σ H r => h A σ H r _ fun v H1 x f h1 p => L.nx _ _ _ _ ((r.frm f).setD i h1) (q x p)
theorem vs_ret (h : VE k te ρ P) (q : ∀ x, P x → D.rt x) : VS k (tRet te) D ρ := fun E L A σ H r => h A σ H r _ fun v H1 x f h1 p => L.rt v H1 x (r.fs.trans f) (dp_same (hid_sub fun a m => List.mem_append_left _ m) h1) (q x p)
theorem vs_if {tt : TT} {b : Bool} (h : ∀ H0, ET (k.at H0) tt ρ b) (h1 : b = true → VS k t D ρ) (h2 : b = false → VS k u D ρ) : VS k (tIfS tt t u) D ρ := fun E L A σ H r => by
  obtain ⟨H0, s, g⟩ := id r
  refine h H0 A σ H s _ fun H1 k1 => ?_
  cases b with
  | true => exact h1 rfl E L A σ H1 (r.move k1)
  | false => exact h2 rfl E L A σ H1 (r.move k1)
/-- xs.append(e), xs one's own, e may draw -/
theorem vs_app {i : Nat} {ds : List PD} (h0 : ρ[i]? = some (.own ds)) (h : VE k te ρ P) (hz : ds.length ≤ 1000) (q : ∀ x, P x → D.nx (ρ.set i (.own (ds ++ [x])))) : VS k (tDrop (tBM k.K "list" rAppend (tVar i) (tCons te tNil))) D ρ := fun E L A σ H r => by
  obtain ⟨H0, s, g⟩ := id r
  obtain ⟨a, xs, e1, e2, e3, e4⟩ := own_at s h0
  refine ⟨_, e1, .inl ⟨rfl, _, SqL.of e3⟩, h A σ H r _ fun v H1 x f h1 p => ?_⟩
  have r1 := r.frm f
  obtain ⟨H2, s2, g2⟩ := id r1
  obtain ⟨a2, ys, y1, y2, y3, y4⟩ := own_at s2 h0
  rw [e1] at y1
  cases y1
  refine ⟨a, ys, v, rfl, rfl, y3, by rw [dps_len y4]; exact small1000 hz, ?_⟩
  exact L.nx _ _ _ _ ⟨H2, s2.mut h0 e1 y2 (dps_append y4 (.cons h1 .nil)), g2⟩ (q x p)
/-- for i in range(n), n drawn or not: a word of the turn and the slots -/
theorem vs_forR {tb : TS} {tn : TE} {j : Nat} {Pn : Nat → Prop} (hn : VE k tn ρ fun x => ∃ n : Nat, n ≤ 1000 ∧ Pn n ∧ x = .int (n : Int)) (Inv : Nat → Nat → DEnv → Prop) (h0 : ∀ n, Pn n → Inv n 0 ρ)
    (hs : ∀ n i ρ', i < n → Inv n i ρ' → VS k tb { D with nx := Inv n (i + 1), ct := Inv n (i + 1), bk := D.nx } (ρ'.set j (.dat (.int (i : Int)))))
    (hd : ∀ n ρ', Inv n n ρ' → D.nx ρ') : VS k (tFor (iRng1 (tCons tn tNil)) (gName j) tb) D ρ := fun E L A σ H r => hn A σ H r _ fun v H1 x f h1 ⟨n, n1, pn, e⟩ => by
  subst e
  have h1 := dp_int h1
  subst h1
  have r1 := r.frm f
  refine ⟨(n : Int), rfl, by omega, by omega, ?_⟩
  refine ⟨fun i m σ' H' => m = n - i ∧ i ≤ n ∧ ∃ A' ρ', SV k A' σ' H' ρ' ∧ Inv n i ρ', ⟨_, rfl, Nat.zero_le _, A, ρ, r1, h0 n pn⟩, ?_⟩
  rintro i m σ' H' ⟨rfl, hle, A', ρ', r', hv⟩
  by_cases hlt : i < n
  · have hz : i < ((n : Nat) : Int).toNat := by rw [Int.toNat_natCast]; exact hlt
    refine .inr ⟨(by first | exact hz | exact hlt), fun σ2 H2 => ∃ A2 ρ2, SV k A2 σ2 H2 ρ2 ∧ Inv n (i + 1) ρ2, fun σ2 H2 ⟨A2, ρ2, r2, q⟩ => ⟨_, by omega, rfl, hlt, A2, ρ2, r2, q⟩, ?_⟩
    rintro x H2 ⟨rfl, rfl⟩
    refine hs n i ρ' hlt hv { E with nx := fun σ2 H2 => ∃ A2 ρ2, SV k A2 σ2 H2 ρ2 ∧ Inv n (i + 1) ρ2, ct := fun σ2 H2 => ∃ A2 ρ2, SV k A2 σ2 H2 ρ2 ∧ Inv n (i + 1) ρ2, bk := E.nx } ⟨fun A3 σ3 H3 ρ3 r3 q => ⟨A3, ρ3, r3, q⟩, L.rt, fun A3 σ3 H3 ρ3 r3 q => L.nx A3 σ3 H3 ρ3 r3 q, fun A3 σ3 H3 ρ3 r3 q => ⟨A3, ρ3, r3, q⟩⟩ A' _ H2 (r'.setD j ?_)
    first
      | exact .int _
      | (rw [Int.zero_add]; exact .int _)
  · have e : i = n := by omega
    subst e
    refine .inl ⟨?_, L.nx A' σ' H' ρ' r' (hd _ ρ' hv)⟩
    first
      | exact Nat.le_refl _
      | (show ((i : Nat) : Int).toNat ≤ i; rw [Int.toNat_natCast]; exact Nat.le_refl _)
end
end DL
/-! more of draws and own lists -/
namespace DL
open PySem PySem.Spec PyProof.Rows L2 DA
section
variable {c : DC} {ρ : DEnv} {D : DEnds} {te ta tb : TE} {d : PD}
/-- a, b = [], [] -/
theorem sd_new2 {i j : Nat} {xs ys : List PD} (hij : i ≠ j) (ha : EN c ta ρ xs) (hb : EN c tb ρ ys) (k : D.nx ((ρ.set i (.own xs)).set j (.own ys))) : SD c (tPar i j (tCons ta (tCons tb tNil))) D ρ := fun E L A σ H r =>
  ha A σ H r _ fun p1 us1 H1 k1 hp1 e1 g1 => by
    have r1 := r.grow k1 hp1 e1
    have g1 : DpAll c.K (hid (c.M ++ p1 :: A) H1) us1 xs := by
      rw [hid_cong (N := p1 :: (c.M ++ A)) (fun a => by simp [or_left_comm])]; exact g1
    refine hb _ σ H1 r1 _ fun p2 us2 H2 k2 hp2 e2 g2 => ?_
    have r2 := r1.grow k2 hp2 e2
    have g2 : DpAll c.K (hid (c.M ++ p2 :: p1 :: A) H2) us2 ys := by
      rw [hid_cong (N := p2 :: (c.M ++ p1 :: A)) (fun a => by simp [or_left_comm])]; exact g2
    have g1 := dps_keep (r1.growK k2 hp2 e2) r1.tabm g1
    have d21 : p1 ≠ p2 := fun z => by rw [← z, e1] at hp2; cases hp2
    have e1 := k2.at_ _ _ e1 (r1.nA List.mem_cons_self)
    have n1 := r.noOwn hp1
    have n2 := r1.noOwn hp2
    have q1 := r2.setO i (List.mem_cons_of_mem _ List.mem_cons_self) e1 g1 fun m gs _ => n1 m gs
    have n2' := noOwn_set (i := i) (s := .own xs) d21 n2
    exact ⟨_, _, rfl, L.nx _ _ _ _ (q1.setO j List.mem_cons_self e2 g2 fun m gs _ => n2' m gs) k⟩
/-- the same by a tuple's target -/
theorem sd_new2T {i j : Nat} {xs ys : List PD} (hij : i ≠ j) (ha : EN c ta ρ xs) (hb : EN c tb ρ ys) (k : D.nx ((ρ.set i (.own xs)).set j (.own ys))) : SD c (tAsg (tTup (tCons ta (tCons tb tNil))) (gTup c.K 2 (gCons (gName i) (gCons (gName j) gNil)))) D ρ := fun E L A σ H r =>
  ha A σ H r _ fun p1 us1 H1 k1 hp1 e1 g1 => by
    have r1 := r.grow k1 hp1 e1
    have g1 : DpAll c.K (hid (c.M ++ p1 :: A) H1) us1 xs := by
      rw [hid_cong (N := p1 :: (c.M ++ A)) (fun a => by simp [or_left_comm])]; exact g1
    refine hb _ σ H1 r1 _ fun p2 us2 H2 k2 hp2 e2 g2 => ?_
    have r2 := r1.grow k2 hp2 e2
    have g2 : DpAll c.K (hid (c.M ++ p2 :: p1 :: A) H2) us2 ys := by
      rw [hid_cong (N := p2 :: (c.M ++ p1 :: A)) (fun a => by simp [or_left_comm])]; exact g2
    have g1 := dps_keep (r1.growK k2 hp2 e2) r1.tabm g1
    have d21 : p1 ≠ p2 := fun z => by rw [← z, e1] at hp2; cases hp2
    have e1 := k2.at_ _ _ e1 (r1.nA List.mem_cons_self)
    refine ⟨by show 2 ≤ sizeLine; decide, fun p hp => ?_⟩
    have kn : Keep c.T H2 (upd H2 p (.tup [.ref p1, .ref p2])) := .new hp
    have r3 := r2.move kn
    have g1 := dps_keep (hid_keep kn) r2.tabm g1
    have g2 := dps_keep (hid_keep kn) r2.tabm g2
    have e1 := kn.at_ _ _ e1 (r2.nA (List.mem_cons_of_mem _ List.mem_cons_self))
    have e2 := kn.at_ _ _ e2 (r2.nA List.mem_cons_self)
    have n1 := r.noOwn hp1
    have n2 := r1.noOwn hp2
    have q1 := r3.setO i (List.mem_cons_of_mem _ List.mem_cons_self) e1 g1 fun m gs _ => n1 m gs
    have n2' := noOwn_set (i := i) (s := .own xs) d21 n2
    have q2 := q1.setO j List.mem_cons_self e2 g2 fun m gs _ => n2' m gs
    exact ⟨p, _, rfl, .of upd_same, rfl, _, _, rfl, _, _, rfl, rfl, L.nx _ _ _ _ q2 k⟩
/-- a list of one's own as a value that is read at once -/
def EV (c : DC) (te : TE) (ρ : DEnv) (d : PD) : Prop := ∀ A σ H, SR c A σ H ρ → ∀ Q : VK, (∀ v H', Keep c.T H H' → Dp c.K H' v d → Q v H') → te σ H Q
theorem ev_ed (h : ED c te ρ d) : EV c te ρ d := fun A σ H s Q q => h A σ H s Q fun v H' k g => q v H' k (dp_same hid_same g)
theorem ev_el {ds : List PD} (h : EL c te ρ ds) : EV c te ρ (.list ds) := fun A σ H s Q q => h A σ H s Q fun a xs H' k g1 g2 => q _ H' k (.lst g1 (dps_same hid_same g2))
theorem ed_eqV {x y : PD} (ha : EV c ta ρ x) (hb : ED c tb ρ y) (hx : SeqAt.shaped x = true) (hy : SeqAt.shaped y = true) (hk : ∀ A σ H H' v, SR c A σ H ρ → Keep c.T H H' → Dp c.K H v x → Dp c.K H' v x := by intro A σ H H' v s k h; exact dp_keep k s.tabs h) : ED c (tOp (rEqD c.K) ta tb) ρ (.bool (PyData.eqv x y)) := fun A σ H s Q q =>
  ha A σ H s _ fun v H1 k1 g1 => hb A σ H1 (s.move k1) _ fun w H2 k2 g2 => ⟨x, y, hk A σ H1 H2 v (s.move k1) k2 g1, dp_same hid_same g2, hx, hy, q _ H2 (k1.trans k2) (.bl _)⟩
theorem ed_neV {x y : PD} (ha : EV c ta ρ x) (hb : ED c tb ρ y) (hx : SeqAt.shaped x = true) (hy : SeqAt.shaped y = true) (hk : ∀ A σ H H' v, SR c A σ H ρ → Keep c.T H H' → Dp c.K H v x → Dp c.K H' v x := by intro A σ H H' v s k h; exact dp_keep k s.tabs h) : ED c (tOp (rNeD c.K) ta tb) ρ (.bool (!PyData.eqv x y)) := fun A σ H s Q q =>
  ha A σ H s _ fun v H1 k1 g1 => hb A σ H1 (s.move k1) _ fun w H2 k2 g2 => ⟨x, y, hk A σ H1 H2 v (s.move k1) k2 g1, dp_same hid_same g2, hx, hy, q _ H2 (k1.trans k2) (.bl _)⟩
/-- xs.remove(n): whole numbers of one's own -/
theorem sd_remove {i : Nat} {ns : List Int} {n : Int} {j : Nat} (h0 : ρ[i]? = some (.own (ns.map .int))) (h : ED c te ρ (.int n)) (e1 : ns[j]? = some n) (e2 : ∀ m : Nat, m < j → ns[m]? ≠ some n) (k : D.nx (ρ.set i (.own ((ns.eraseIdx j).map .int)))) :
    SD c (tDrop (tBM c.K "list" rRemI (tVar i) (tCons te tNil))) D ρ := fun E L A σ H r => by
  obtain ⟨a, xs, h1, ha, h2, h3⟩ := own_at r h0
  have ex : xs = ns.map V.int := by
    have := dps_flat h3 (by rw [List.all_map]; exact List.all_eq_true.mpr fun _ _ => rfl)
    rw [List.map_map] at this
    exact this
  refine ⟨_, h1, .inl ⟨rfl, _, SqL.of h2⟩, h A σ H r _ fun v H1 k1 g1 => ?_⟩
  have g1 := dp_int g1
  subst g1
  have r1 := r.move k1
  have h4 := k1.at_ _ _ h2 (r.nA ha)
  rw [ex] at h4
  refine ⟨a, ns, n, j, rfl, rfl, h4, e1, e2, L.nx _ _ _ _ (r1.mut h0 h1 ha ?_) k⟩
  have : ∀ l : List Int, DpAll c.K (hid (c.M ++ A) H1) (l.map V.int) (l.map .int) := fun l => by
    induction l with
    | nil => exact .nil
    | cons x r ih => exact .cons (.int x) ih
  exact this _
end
section
variable {k : VC} {ρ : DEnv} {te ta tb : TE}
/-- xs[e], e drawn: one of the items -/
theorem ve_ixL {ds : List PD} (ha : ∀ H0, ED (k.at H0) ta ρ (.list ds)) (hb : VE k tb ρ fun x => ∃ r : Nat, r < ds.length ∧ x = .int (r : Int)) : VE k (tOp (rIxL k.K) ta tb) ρ fun x => x ∈ ds := fun A σ H r Q q => by
  obtain ⟨H0, s, g⟩ := id r
  refine ha H0 A σ H s _ fun v H1 k1 h1 => ?_
  have r1 := r.move k1
  refine hb A σ H1 r1 _ fun w H2 y f2 h2 ⟨n, hn, e⟩ => ?_
  subst e
  have h2 := dp_int h2
  subst h2
  have h3 := dp_keep (r1.hide f2) r1.tabm h1
  obtain ⟨a, xs, rfl, g1, g2⟩ := dp_list h3
  have e1 : atI ds ((n : Nat) : Int) = some ds[n] := by
    unfold atI
    rw [show ixN ds.length ((n : Nat) : Int) = some n from by
      unfold ixN
      rw [if_pos (by omega), if_pos (by omega)]
      simp]
    exact List.getElem?_eq_getElem hn
  obtain ⟨z, z1, z2⟩ := atI_map g2 e1
  exact ⟨a, xs, (n : Int), z, rfl, rfl, hid_same.seq g1, z1, q z H2 _ ((r.keepF k1).trans f2) z2 (List.getElem_mem hn)⟩
end
/-- one of a list of one's own, of whole numbers -/
def R_pick : List DS → (PD → Prop) → Prop := fun ss P => ∃ ds : List PD, ds ≠ [] ∧ ds.length ≤ 1000 ∧ ss = [.dat (.list ds)] ∧ P = fun x => x ∈ ds
theorem ve_pickOwn {k : VC} {ρ : DEnv} {E : XK} {i j : Nat} {ds : List PD} (h0 : ρ[j]? = some (.raw (.ref k.d))) (h : ρ[i]? = some (.own ds)) (hn : ds ≠ []) (hl : ds.length ≤ 1000) (hf : ds.all flatD = true) : VE k (tCall (spW k.K k.T R_pick) [] E (tCons (tVar j) (tCons (tVar i) tNil))) ρ fun x => x ∈ ds := fun A σ H r Q q => by
  obtain ⟨H0, s, g, hd, hv⟩ := id r
  obtain ⟨ov, y1, y2⟩ := s.rel j _ h0
  cases ov with
  | none => exact False.elim y2
  | some v =>
    have y2 : v = .ref k.d := y2
    subst y2
    obtain ⟨a, xs, e1, e2, e3, e4⟩ := own_at s h
    have aM : a ∉ k.M := fun m => (s.msk a m).2 (s.new a e2).1
    refine ⟨_, y1, _, e1, ?_⟩
    refine ⟨k.M, k.d, k.nu, [.dat (.list ds)], fun x => x ∈ ds, fun b hb => s.nM b (List.mem_append_left _ hb), hd, hv, s.tabs, r.drw, ?_, ⟨ds, hn, hl, rfl, rfl⟩, fun v H' x f hx p => ?_⟩
    · exact .cons (show ArgOk k.K (hid k.M H) (.ref k.d) (.raw (.ref k.d)) from rfl) (.cons (show Dp k.K (hid k.M H) (.ref a) (.list ds) from .lst (.of (hid_of aM e3)) (dps_same (hid_sub fun b m => List.mem_append_left _ m) e4)) .nil)
    · have fx := List.all_eq_true.mp hf x p
      rw [dp_flat hx fx]
      exact q _ H' x f (flat_dp fx) p
section
variable {P : Program} {w : World} {K : PySem.W.Frag} {mg : Str → Option Value} {base : Heap}
/-- a def that draws -/
theorem fn_vs {T : List Addr} {x qual : Str} {st : Stmt} {f : Addr} {fd : FuncData} {N ps : List Str} {kk : Nat} {R : List DS → (PD → Prop) → Prop} (F : Fun K x qual st f fd) (S : FnScope N ps (defScope st)) (hl : ∀ ss R2, R ss R2 → ss.length + 1 = ps.length)
    (hb : ∀ (cdv : Value) (A : Around) (outer : List Env) (s : Shared) (H : Hp) (E : XK), Room kk (A.deeper (envOfC qual (defScope st) s.heap.objs.size f cdv)) →
      ∃ t, PSs (cxOf CX0 P w K mg base N qual (defScope st) f cdv A outer s H E).nox (defBody st) t ∧ ∀ M d nu Hs ss R2, R ss R2 → VS ⟨K, T, M, d, nu, Hs⟩ t { nx := fun _ => R2 .none, rt := R2 } (startD N (.raw (.ref d) :: ss))) : FnOk P w K mg base CX0 (kk + 1) f fd ps (spW K T R) := by
  refine F.ok S (fun vs H Q E h => ?_) (fun cdv A outer s H vs Q E hr h => ?_)
  · obtain ⟨M, d, nu, ss, R2, _, _, _, _, _, h3, h4, _⟩ := h
    rw [h3.len]
    exact hl ss R2 h4
  · obtain ⟨M, d, nu, ss, R2, h1, hd, hn, h2, hD, h3, h4, q⟩ := h
    obtain ⟨t, ht, hq⟩ := hb cdv A outer s H E hr
    refine ⟨t, ht, hq M d nu H ss R2 h4 _ ⟨fun A' σ' H' ρ' r' e => q .non H' .none r'.fs .non e, fun v H' e f h5 h6 => q v H' e f h5 h6, fun _ _ _ _ _ z => z.elim, fun _ _ _ _ _ z => z.elim⟩ [] _ H ⟨H, start_sr h1 h2 h3, .refl hD, hd, hn⟩⟩
end
end DL
namespace PT
open PySem PySem.Spec PyProof.Rows L2 DA DL TR TL
/-! ### the law's own: programs drawn -/
def Fit (fl : List PD) (hl : List Int) : Prop := ∀ rest, K11.fitGo (fl ++ rest) [] = K11.fitGo rest hl
def dd (k : Str) (n : Int) : PD := .tuple [.str k, .int n]
theorem fit_add {fl : List PD} {hl hl' : List Int} {d : PD} (h : Fit fl hl) (e : ∀ rest, K11.fitGo (d :: rest) hl = K11.fitGo rest hl') : Fit (fl ++ [d]) hl' := fun rest => by
  rw [List.append_assoc, h]
  exact e rest
theorem fit_plain {k : Str} {n : Int} {hl : List Int} {rest : List PD} (h1 : ¬ (k = "sleep" ∧ hl ≠ [])) (h2 : k ≠ "take") (h3 : k ≠ "give") : K11.fitGo (dd k n :: rest) hl = K11.fitGo rest hl := by
  show (if k = "sleep" ∧ hl ≠ [] then false else if k = "take" then _ else if k = "give" then _ else _) = _
  rw [if_neg h1, if_neg h2, if_neg h3]
theorem fit_take {n : Int} {hl : List Int} {rest : List PD} (h : n ∉ hl) : K11.fitGo (dd "take" n :: rest) hl = K11.fitGo rest (hl ++ [n]) := by
  show (if ("take" : Str) = "sleep" ∧ hl ≠ [] then false else if ("take" : Str) = "take" then (if n ∈ hl then false else _) else _) = _
  rw [if_neg (fun z => absurd z.1 (by decide)), if_pos rfl, if_neg h]
theorem fit_give {n : Int} {hl : List Int} {rest : List PD} (h : n ∈ hl) : K11.fitGo (dd "give" n :: rest) hl = K11.fitGo rest (hl.erase n) := by
  show (if ("give" : Str) = "sleep" ∧ hl ≠ [] then false else if ("give" : Str) = "take" then _ else if ("give" : Str) = "give" then (if n ∈ hl then _ else false) else _) = _
  rw [if_neg (fun z => absurd z.1 (by decide)), if_neg (by decide), if_pos rfl, if_pos h]
theorem fit_end : ∀ hl : List Int, K11.fitGo (hl.map (dd "give")) hl = true
  | [] => rfl
  | a :: r => by
    rw [List.map_cons, fit_give List.mem_cons_self, List.erase_cons_head]
    exact fit_end r
theorem deed_lock {k : Str} (hk : k = "take" ∨ k = "give") {n : Int} (hn : n = 0 ∨ n = 1) : K11.deedD (dd k n) = true := by
  have e : K11.kin k "work" "sleep" = false := by rcases hk with rfl | rfl <;> decide +kernel
  have e2 : K11.kin k "take" "give" = true := kin_iff.mpr hk
  show (if K11.kin k "work" "sleep" = true then K11.numD (.int n) 1 99 else (K11.kin k "take" "give" && K11.numD (.int n) 0 1)) = true
  rw [e, e2]
  rcases hn with rfl | rfl <;> decide
theorem deed_time {k : Str} (hk : k = "work" ∨ k = "sleep") {n : Int} (h1 : 1 ≤ n) (h2 : n ≤ 99) : K11.deedD (dd k n) = true := by
  have e : K11.kin k "work" "sleep" = true := kin_iff.mpr hk
  show (if K11.kin k "work" "sleep" = true then K11.numD (.int n) 1 99 else _) = true
  rw [if_pos e]
  show (decide (1 ≤ n) && decide (n ≤ 99)) = true
  rw [decide_eq_true h1, decide_eq_true h2]
  rfl
theorem eqv_nil (ds : List PD) : PyData.eqv (.list ds) (.list []) = ds.isEmpty := by cases ds <;> rfl
def R_program : List DS → (PD → Prop) → Prop := fun ss P => ss = [.dat (.int 2), .dat (.int 8)] ∧ P = fun x => ∃ ds : List PD, x = .list ds ∧ K11.progD (.list ds) = true ∧ ds.length ≤ 10
structure PInv (i : Nat) (fl : List PD) (hl : List Int) : Prop where
  len : fl.length ≤ i
  nd : hl.Nodup
  lk : ∀ n ∈ hl, n = 0 ∨ n = 1
  deed : ∀ d ∈ fl, K11.deedD d = true
  fit : Fit fl hl
theorem two_len : ∀ {hl : List Int}, hl.Nodup → (∀ n ∈ hl, n = 0 ∨ n = 1) → hl.length ≤ 2
  | [], _, _ => by decide
  | [_], _, _ => by simp
  | [_, _], _, _ => by simp
  | a :: b :: c :: r, nd, lk => by
    have h1 := lk a (by simp)
    have h2 := lk b (by simp)
    have h3 := lk c (by simp)
    simp only [List.nodup_cons, List.mem_cons, not_or] at nd
    omega
theorem PInv.end_ {fl : List PD} {hl : List Int} (p : PInv 8 fl hl) : K11.progD (.list (fl ++ hl.map (dd "give"))) = true ∧ (fl ++ hl.map (dd "give")).length ≤ 10 := by
  have l1 := p.len
  have l2 := two_len p.nd p.lk
  have l3 : (fl ++ hl.map (dd "give")).length ≤ 10 := by
    rw [List.length_append, List.length_map]
    omega
  refine ⟨?_, l3⟩
  show (if 40 < (fl ++ hl.map (dd "give")).length then false else ((fl ++ hl.map (dd "give")).all K11.deedD && K11.fitGo (fl ++ hl.map (dd "give")) [])) = true
  rw [if_neg (by omega), p.fit, fit_end, Bool.and_true]
  refine List.all_eq_true.mpr fun d hd => ?_
  rcases List.mem_append.mp hd with h | h
  · exact p.deed d h
  · obtain ⟨n, hn, rfl⟩ := List.mem_map.mp h
    exact deed_lock (.inr rfl) (p.lk n hn)
theorem PInv.mono {i j : Nat} {fl : List PD} {hl : List Int} (p : PInv i fl hl) (h : i ≤ j) : PInv j fl hl := ⟨Nat.le_trans p.len h, p.nd, p.lk, p.deed, p.fit⟩
theorem PInv.add {i : Nat} {fl : List PD} {hl hl' : List Int} {d : PD} (p : PInv i fl hl) (hd : K11.deedD d = true) (nd : hl'.Nodup) (lk : ∀ n ∈ hl', n = 0 ∨ n = 1) (e : ∀ rest, K11.fitGo (d :: rest) hl = K11.fitGo rest hl') : PInv (i + 1) (fl ++ [d]) hl' := by
  refine ⟨?_, nd, lk, fun x hx => ?_, fit_add p.fit e⟩
  · rw [List.length_append]
    have := p.len
    show fl.length + 1 ≤ i + 1
    omega
  · rcases List.mem_append.mp hx with h | h
    · exact p.deed x h
    · rw [List.mem_singleton.mp h]
      exact hd
theorem ed_un_neg {c : DC} {ρ : DEnv} {ta : TE} {i : Int} (h : ED c ta ρ (.int i)) : ED c (tUn (rU fun i => .int (-i)) ta) ρ (.int (-i)) := fun A σ H r Q q => h A σ H r _ fun v H1 k1 h1 => ⟨i, dp_int h1, q _ H1 k1 (.int _)⟩
theorem flat_int (ns : List Int) : (ns.map PyData.int).all flatD = true := by rw [List.all_map]; exact List.all_eq_true.mpr fun _ _ => rfl
theorem shaped_flat {ds : List PD} (h : ∀ d ∈ ds, PyData.canLay0 d = true ∧ PyData.depth d ≤ 3) : SeqAt.shaped (.list ds) = true := shaped_listOf h (by decide)
theorem ints_sh (ns : List Int) : SeqAt.shaped (.list (ns.map PyData.int)) = true := LW.ints_shaped ns
theorem sh_nil : SeqAt.shaped (.list []) = true := by decide
abbrev sPick : Stmt := top 35
abbrev nPick : List Str := ["_law_draws", "_law_choices"]
theorem scPick : FnScope nPick ["_law_draws", "_law_choices"] (defScope sPick) := ⟨rfl, rfl, rfl, by decide +kernel, rfl, by decide +kernel, by decide +kernel⟩
section
variable {P : Program} {w : World} {K : PySem.W.Frag} {mg : Str → Option Value} {base : Heap} {f : Addr} {fd : FuncData} {T : List Addr}
theorem ok__law_pick (F : Fun K "_law_pick" "_law_pick" sPick f fd) (G : Glob K mg) {fD : Addr} {dD : FuncData} (c__law_draw : Cal P w K mg base "_law_draw" 1 ["_law_draws", "_law_limit"] (LW.spDraw T) fD dD) : FnOk P w K mg base CX0 2 f fd ["_law_draws", "_law_choices"] (spW K T R_pick) := by
  refine fn_vs F scPick (fun ss R2 h => ?_) (fun cdv A outer s H E hr => ⟨_, (pss_one (ps_ret (pe_ix ix_list (pv 1) (pe_call c__law_draw.ok (hr.mono (by decide)) (by rfl) c__law_draw.g c__law_draw.kp c__law_draw.b .nil pass0 (pa_cons (pv 0) (pa_cons (pe_callB call_len_seq (by rfl) G.len PySem.boot_len (pa_cons (pv 1) pa_nil)) pa_nil))) (fun _ _ => rfl)))), fun M d nu Hs ss R2 h => ?_⟩)
  · obtain ⟨ds, h1, h2, rfl, rfl⟩ := h
    rfl
  · obtain ⟨ds, h1, h2, rfl, rfl⟩ := h
    have hl : 1 ≤ ds.length := List.length_pos_iff.mpr h1
    exact vs_ret (ve_ixL (ds := ds) (fun H0 => ed_var rfl) (ve_draw (n := ds.length) rfl (ve_ed (fun H0 => ed_lenL (el_ed (ed_var rfl))) rfl) hl h2)) fun x hx => hx
end
abbrev sProg : Stmt := top 37
abbrev nProg : List Str := ["_law_draws", "_law_locks", "_law_most", "_law_found", "_law_held", "_law_turn", "_law_kind", "_law_free", "_law_lock"]
theorem scProg : FnScope nProg ["_law_draws", "_law_locks", "_law_most"] (defScope sProg) := ⟨rfl, rfl, rfl, by decide +kernel, rfl, by decide +kernel, by decide +kernel⟩
section
variable {P : Program} {w : World} {K : PySem.W.Frag} {mg : Str → Option Value} {base : Heap} {f : Addr} {fd : FuncData} {T : List Addr}
theorem ok__law_program (F : Fun K "_law_program" "_law_program" sProg f fd) (G : Glob K mg) {fD : Addr} {dD : FuncData} (c__law_draw : Cal P w K mg base "_law_draw" 1 ["_law_draws", "_law_limit"] (LW.spDraw T) fD dD) {fP : Addr} {dP : FuncData} (c__law_pick : Cal P w K mg base "_law_pick" 2 ["_law_draws", "_law_choices"] (spW K T R_pick) fP dP) : FnOk P w K mg base CX0 3 f fd ["_law_draws", "_law_locks", "_law_most"] (spW K T R_program) := by
  refine fn_vs F scProg (fun ss R2 h => ?_) (fun cdv A outer s H E hr => ⟨_, (pss_cons (ps_asg (pe_tup (pa_cons (pe_lst pa_nil) (pa_cons (pe_lst pa_nil) pa_nil))) (pg_tup (by rfl) (pgs_cons (pg_name (i := 3) scProg.nd rfl (.inl rfl)) (pgs_cons (pg_name (i := 4) scProg.nd rfl (.inr rfl)) pgs_nil))))
      (pss_cons (ps_for PassesOwn.never rfl (pi_range1 (by rfl) G.range (pa_cons (pe_call c__law_draw.ok (hr.mono (by decide)) (by rfl) c__law_draw.g c__law_draw.kp c__law_draw.b .nil pass0 (pa_cons (pv 0) (pa_cons (pe_op op_add (pv 2) pe_int) pa_nil))) pa_nil)) (pg_name (i := 5) scProg.nd rfl (.inl rfl)) (pss_cons (ps_set (i := 6) scProg.nd rfl (.inl rfl) (pe_call c__law_pick.ok (hr.mono (by decide)) (by rfl) c__law_pick.g c__law_pick.kp c__law_pick.b .nil pass0 (pa_cons (pv 0) (pa_cons (pe_lst (pa_cons pe_str (pa_cons pe_str (pa_cons pe_str (pa_cons pe_str (pa_cons pe_str (pa_cons pe_str pa_nil))))))) pa_nil))))
      (pss_cons (ps_setLc (i := 7) (own := [("_law_lock", 8)]) (g := (gName 8)) (tt := (tTest (tOp (rIn K true) (tVar 8) (tVar 4)))) (te := (tVar 8)) rfl scProg.nd rfl rfl (sw_true rfl rfl rfl (by decide +kernel)) (pi_range1 (by rfl) G.range (pa_cons (pv 1) pa_nil)) (blkOk_by (N := nProg) (sc := defScope sProg) (by decide +kernel)) (fun _ _ _ _ _ => (pg_name (i := 8) scProg.nd rfl (.inl rfl))) (fun _ _ _ _ _ => (pts_one (pt_cmpR op_notIn_seq (pv 8) (pv 4) (by rfl)))) (fun _ _ _ _ _ => (pv 8)))
      (pss_one (ps_if (PW.pt (pw_or (pt_cmpR op_eq (pv 6) pe_str (nomark _)) (pw_or1 (PW.pt (pw_and (pt_cmpR op_eq (pv 6) pe_str (nomark _)) (pw_and1 (pt_cmpR (op_eqD hr.units) (pv 4) (pe_lst pa_nil) (nomark _)))))))) (pss_one (ps_expr (pe_bm PySem.F.plainAttrs_list PySem.F.slot_list_append PySem.F.type_list_append mt_append (pv 3) (pa_cons (pe_tup (pa_cons (pv 6) (pa_cons (pe_op op_add pe_int (pe_call c__law_draw.ok (hr.mono (by decide)) (by rfl) c__law_draw.g c__law_draw.kp c__law_draw.b .nil pass0 (pa_cons (pv 0) (pa_cons pe_int pa_nil)))) pa_nil))) pa_nil)))) (pss_one (ps_if (PW.pt (pw_and (pt_cmpR op_eq (pv 6) pe_str (nomark _)) (pw_and1 (pt_cmpR (op_neD hr.units) (pv 7) (pe_lst pa_nil) (nomark _))))) (pss_cons (ps_expr (pe_bm PySem.F.plainAttrs_list PySem.F.slot_list_append PySem.F.type_list_append mt_append (pv 4) (pa_cons (pe_call c__law_pick.ok (hr.mono (by decide)) (by rfl) c__law_pick.g c__law_pick.kp c__law_pick.b .nil pass0 (pa_cons (pv 0) (pa_cons (pv 7) pa_nil))) pa_nil)))
      (pss_one (ps_expr (pe_bm PySem.F.plainAttrs_list PySem.F.slot_list_append PySem.F.type_list_append mt_append (pv 3) (pa_cons (pe_tup (pa_cons pe_str (pa_cons (pe_ix ix_list (pv 4) (pe_un un_neg pe_int) (fun _ _ => rfl)) pa_nil))) pa_nil))))) (pss_one (ps_if (PW.pt (pw_and (pt_cmpR op_eq (pv 6) pe_str (nomark _)) (pw_and1 (pt_cmpR (op_neD hr.units) (pv 4) (pe_lst pa_nil) (nomark _))))) (pss_cons (ps_set (i := 8) scProg.nd rfl (.inl rfl) (pe_call c__law_pick.ok (hr.mono (by decide)) (by rfl) c__law_pick.g c__law_pick.kp c__law_pick.b .nil pass0 (pa_cons (pv 0) (pa_cons (pv 4) pa_nil))))
      (pss_cons (ps_expr (pe_bm PySem.F.plainAttrs_list PySem.F.slot_list_remove PySem.F.type_list_remove mt_remove (pv 4) (pa_cons (pv 8) pa_nil)))
      (pss_one (ps_expr (pe_bm PySem.F.plainAttrs_list PySem.F.slot_list_append PySem.F.type_list_append mt_append (pv 3) (pa_cons (pe_tup (pa_cons pe_str (pa_cons (pv 8) pa_nil))) pa_nil)))))) pss_nil)))))))))
      (pss_one (ps_ret (pe_op op_catL (pv 3) (pe_lc (own := [("_law_lock", 8)]) (g := (gName 8)) (tt := tYes) (te := (tTup (tCons (tC (.str "give")) (tCons (tVar 8) tNil)))) rfl scProg.nd (pi_list (pv 4)) (blkOk_by (N := nProg) (sc := defScope sProg) (by decide +kernel)) (fun _ _ _ _ _ => (pg_name (i := 8) scProg.nd rfl (.inl rfl))) (fun _ _ _ _ _ => pts_nil) (fun _ _ _ _ _ => (pe_tup (pa_cons pe_str (pa_cons (pv 8) pa_nil)))))))))), fun M d nu Hs ss R2 h => ?_⟩)
  · obtain ⟨rfl, rfl⟩ := h
    rfl
  · obtain ⟨rfl, rfl⟩ := h
    refine vs_seq (vs_sd fun H0 => sd_new2T (i := 3) (j := 4) (xs := []) (ys := []) (by decide) (en_lst (ds := []) ea_nil (by decide)) (en_lst (ds := []) ea_nil (by decide)) ?_)
    refine vs_seq (vs_forR (j := 5) (Pn := fun n => n ≤ 8) (ve_is (ve_draw (n := 9) rfl (ve_ed (fun H0 => ed_I0 (i := 8) (j := 1) (g := fun i j => i + j) (ed_var rfl) ed_int) rfl) (by decide) (by decide)) (fun x ⟨r, h, e⟩ => ⟨r, by omega, by omega, e⟩))
      (fun n i ρ' => n ≤ 8 ∧ ρ'.length = 9 ∧ ρ'[0]? = some (.raw (.ref d)) ∧ ρ'[1]? = some (.dat (.int 2)) ∧ ∃ fl hl, ρ'[3]? = some (.own fl) ∧ ρ'[4]? = some (.own (hl.map .int)) ∧ PInv i fl hl) (fun n hn => ⟨hn, rfl, rfl, rfl, [], [], rfl, rfl, ⟨Nat.zero_le _, List.nodup_nil, (fun n z => nomatch z), (fun d z => nomatch z), (fun rest => rfl)⟩⟩) (fun n i ρ' hi hv => ?_) (fun n ρ' hv => ?_))
    · obtain ⟨hn, hlen, h0, h1, fl, hl, h3, h4, p⟩ := hv
      obtain ⟨s0, s1, s2, s3, s4, s5, s6, s7, s8, rfl⟩ : ∃ s0 s1 s2 s3 s4 s5 s6 s7 s8, ρ' = [s0, s1, s2, s3, s4, s5, s6, s7, s8] := by
        match ρ', hlen with
        | [s0, s1, s2, s3, s4, s5, s6, s7, s8], _ => exact ⟨s0, s1, s2, s3, s4, s5, s6, s7, s8, rfl⟩
      have g0 : s0 = .raw (.ref d) := Option.some.inj h0
      have g1 : s1 = .dat (.int 2) := Option.some.inj h1
      have g3 : s3 = .own fl := Option.some.inj h3
      have g4 : s4 = .own (hl.map .int) := Option.some.inj h4
      clear h0 h1 h3 h4
      subst g0
      subst g1
      subst g3
      subst g4
      have pl := p.len
      have hl2 := two_len p.nd p.lk
      refine vs_seq (vs_set (P := fun x => ∃ kd : Str, okKind kd ∧ x = .str kd) (ve_is (ve_callW (P := fun x => x ∈ [PyData.str "work", .str "work", .str "sleep", .str "take", .str "give", .str "take"]) (va_raw (R := fun ss => ss = [.dat (.list [.str "work", .str "work", .str "sleep", .str "take", .str "give", .str "take"])]) rfl (va_cons (P := fun x => x = .list [.str "work", .str "work", .str "sleep", .str "take", .str "give", .str "take"]) (ve_ed (fun H0 => ed_en (en_lst (ds := [.str "work", .str "work", .str "sleep", .str "take", .str "give", .str "take"]) (ea_d ed_str (ea_d ed_str (ea_d ed_str (ea_d ed_str (ea_d ed_str (ea_d ed_str ea_nil)))))) (by decide))) rfl) (va_nil (P := fun ss => ss = []) rfl) (fun x ss e1 e2 => by rw [e1, e2])) (fun ss e => ⟨_, rfl, _, List.cons_ne_nil _ _, by decide, e, rfl⟩))) (fun x hx => ?_)) (fun x hx => ?_))
      · simp only [List.mem_cons, List.not_mem_nil, or_false] at hx
        rcases hx with e | e | e | e | e | e
        · exact ⟨_, .inl rfl, e⟩
        · exact ⟨_, .inl rfl, e⟩
        · exact ⟨_, .inr (.inl rfl), e⟩
        · exact ⟨_, .inr (.inr (.inl rfl)), e⟩
        · exact ⟨_, .inr (.inr (.inr rfl)), e⟩
        · exact ⟨_, .inr (.inr (.inl rfl)), e⟩
      obtain ⟨kd, hk, rfl⟩ := hx
      have efr : ((rngD 0 (2 : Int).toNat).filter fun d => match d with | .int n => !decide (n ∈ hl) | _ => false).map (fun d => d) = (([0, 1] : List Int).filter fun n => !decide (n ∈ hl)).map PyData.int := by
        have e : rngD 0 (2 : Int).toNat = ([0, 1] : List Int).map PyData.int := rfl
        rw [e, List.map_id', List.filter_map]
        rfl
      refine vs_seq (vs_sd fun H0 => sd_setN (en_is (en_lc (js := [8]) (fun d => match d with | .int n => !decide (n ∈ hl) | _ => false) (fun d => d) (id_rng1 (n := 2) (ea_d (ed_var rfl) ea_nil)) (by decide) (by decide) (fun x hx H1 _ => ?_)) efr) ?_)
      · obtain ⟨m, hm⟩ := List.getElem?_of_mem hx
        obtain ⟨_, rfl⟩ := rngD_get hm
        refine ⟨[_], tg_name, et_is (et_test (ed_inL (neg := true) (x := .int (0 + (m : Int))) (ys := hl.map .int) (ed_var rfl) (el_own rfl) rfl (flat_int hl))) ?_, fun _ => ed_var rfl⟩
        show (!inV (.int (0 + (m : Int))) ((hl.map PyData.int).map vOf)) = _
        rw [List.map_map]
        have := K11.inV_ints (0 + (m : Int)) hl
        exact congrArg (fun b => !b) this
      have lt : ∀ z : Str, ∀ H0, ET ((⟨K, T, M, d, nu, Hs⟩ : VC).at H0) (tTest (tOp rEq (tVar 6) (tC (.str z)))) [.raw (.ref d), .dat (.int 2), s2, .own fl, .own (hl.map .int), .dat (.int (i : Int)), .dat (.str kd), .own ((([0, 1] : List Int).filter fun n => !decide (n ∈ hl)).map .int), s8] (decide (kd = z)) := fun z H0 => et_is (et_test (ed_eq (x := .str kd) (y := .str z) (ed_var rfl) ed_str rfl rfl rfl)) (eqStr kd z)
      refine vs_if (b := decide (kd = "work") || (decide (kd = "sleep") && hl.isEmpty)) (fun H0 => et_or (lt "work" H0) fun _ => et_and (lt "sleep" H0) fun _ => et_is (et_test (ed_eqV (x := .list (hl.map .int)) (y := .list []) (ev_el (el_own rfl)) (ed_en (en_lst (ds := []) ea_nil (by decide))) (ints_sh hl) sh_nil)) (by rw [eqv_nil]; cases hl <;> rfl)) (fun hb => ?_) (fun hb => ?_)
      · -- work, sleep
        have hw : (kd = "work" ∨ kd = "sleep") ∧ ¬ (kd = "sleep" ∧ hl ≠ []) ∧ kd ≠ "take" ∧ kd ≠ "give" := by
          rcases Bool.or_eq_true_iff.mp hb with h | h
          · have e := of_decide_eq_true h
            subst e
            exact ⟨.inl rfl, fun z => absurd z.1 (by decide), by decide, by decide⟩
          · obtain ⟨h5, h6⟩ := Bool.and_eq_true_iff.mp h
            have e := of_decide_eq_true h5
            subst e
            refine ⟨.inr rfl, fun z => z.2 ?_, by decide, by decide⟩
            cases hl with
            | nil => rfl
            | cons a r => cases h6
        refine vs_app (P := fun x => ∃ r : Nat, r < 3 ∧ x = dd kd (1 + (r : Int))) rfl (ve_tup (va_cons (P := fun x => x = .str kd) (R := fun ss => ∃ r : Nat, r < 3 ∧ ss = [.dat (.int (1 + (r : Int)))]) (ve_ed (fun H0 => ed_var rfl) rfl) (va_cons (P := fun x => ∃ r : Nat, r < 3 ∧ x = .int (1 + (r : Int))) (R := fun ss => ss = []) (ve_I0 (g := fun i j => i + j) (P := fun x => x = .int 1) (ve_ed (fun H0 => ed_int) rfl) (ve_draw (n := 3) rfl (ve_ed (fun H0 => ed_int) rfl) (by decide) (by decide)) (fun x y e1 ⟨r, h5, e2⟩ => ⟨1, (r : Int), e1, e2, r, h5, rfl⟩)) (va_nil rfl) (fun x ss ⟨r, h5, e1⟩ e2 => ⟨r, h5, by rw [e1, e2]⟩)) (fun x ss e1 ⟨r, h5, e2⟩ => ⟨[.str kd, .int (1 + (r : Int))], by rw [e1, e2]; rfl, by simp, r, h5, rfl⟩))) (by omega) (fun x ⟨r, h5, e⟩ => ?_)
        subst e
        refine ⟨hn, rfl, rfl, rfl, fl ++ [dd kd (1 + (r : Int))], hl, rfl, rfl, p.add (deed_time hw.1 (by omega) (by omega)) p.nd p.lk fun rest => fit_plain hw.2.1 hw.2.2.1 hw.2.2.2⟩
      · obtain ⟨b1, b2⟩ := Bool.or_eq_false_iff.mp hb
        refine vs_if (b := decide (kd = "take") && !((([0, 1] : List Int).filter fun n => !decide (n ∈ hl)).map PyData.int).isEmpty) (fun H0 => et_and (lt "take" H0) fun _ => et_is (et_test (ed_neV (x := .list ((([0, 1] : List Int).filter fun n => !decide (n ∈ hl)).map .int)) (y := .list []) (ev_el (el_own rfl)) (ed_en (en_lst (ds := []) ea_nil (by decide))) (ints_sh _) sh_nil)) (by rw [eqv_nil])) (fun hc => ?_) (fun hc => ?_)
        · obtain ⟨c1, c2⟩ := Bool.and_eq_true_iff.mp hc
          have e := of_decide_eq_true c1
          subst e
          have hne : (([0, 1] : List Int).filter fun n => !decide (n ∈ hl)).map PyData.int ≠ [] := fun z => by rw [z] at c2; cases c2
          refine vs_seq (vs_app (P := fun x => ∃ n : Int, (n = 0 ∨ n = 1) ∧ n ∉ hl ∧ x = .int n) rfl (ve_is (ve_pickOwn (i := 7) (j := 0) rfl rfl hne (by rw [List.length_map]; exact Nat.le_trans (List.length_filter_le _ _) (by decide)) (flat_int _)) (fun x hx => ?_)) (by rw [List.length_map]; omega) (fun x ⟨n, n1, n2, e⟩ => ?_))
          · obtain ⟨n, hm, rfl⟩ := List.mem_map.mp hx
            obtain ⟨m1, m2⟩ := List.mem_filter.mp hm
            refine ⟨n, by simpa using m1, ?_, rfl⟩
            intro z
            rw [decide_eq_true z] at m2
            cases m2
          · subst e
            have eh : hl.map PyData.int ++ [.int n] = (hl ++ [n]).map .int := by rw [List.map_append]; rfl
            rw [eh]
            refine vs_sd fun H0 => sd_app (d := dd "take" n) rfl (ed_tup (ds := [.str "take", .int n]) (ea_d ed_str (ea_d (ed_ixL (ds := (hl ++ [n]).map .int) (i := -1) (el_own rfl) (ed_un_neg ed_int) ?_) ea_nil)) (by simp)) (by omega) ⟨hn, rfl, rfl, rfl, fl ++ [dd "take" n], hl ++ [n], rfl, rfl, p.add (deed_lock (.inl rfl) n1) ?_ ?_ fun rest => fit_take n2⟩
            · unfold atI
              rw [List.length_map, List.length_append, show ixN (hl.length + [n].length) (-1) = some hl.length from by
                show ixN (hl.length + 1) (-1) = _
                unfold ixN
                first
                  | (rw [if_neg (by omega), if_pos (by omega)]; simp; omega)
                  | (rw [if_neg (by omega)]; simp; omega)
                  | (rw [if_neg (by omega), if_pos (by omega)]; simp)
                  | (simp; omega)]
              show ((hl ++ [n]).map PyData.int)[hl.length]? = _
              rw [List.getElem?_map, List.getElem?_append, if_neg (by omega), Nat.sub_self]
              rfl
            · rw [List.nodup_append]
              exact ⟨p.nd, by simp, fun a ha b hb => by rw [List.mem_singleton.mp hb]; exact fun z => n2 (z ▸ ha)⟩
            · intro m hm
              rcases List.mem_append.mp hm with h | h
              · exact p.lk m h
              · rw [List.mem_singleton.mp h]; exact n1
        · refine vs_if (b := decide (kd = "give") && !hl.isEmpty) (fun H0 => et_and (lt "give" H0) fun _ => et_is (et_test (ed_neV (x := .list (hl.map .int)) (y := .list []) (ev_el (el_own rfl)) (ed_en (en_lst (ds := []) ea_nil (by decide))) (ints_sh hl) sh_nil)) (by rw [eqv_nil]; cases hl <;> rfl)) (fun hd => ?_) (fun hd => ?_)
          · obtain ⟨c1, c2⟩ := Bool.and_eq_true_iff.mp hd
            have hne : hl.map PyData.int ≠ [] := fun z => by
              cases hl with
              | nil => cases c2
              | cons a r => cases z
            refine vs_seq (vs_set (P := fun x => ∃ n : Int, n ∈ hl ∧ x = .int n) (ve_is (ve_pickOwn (i := 4) (j := 0) rfl rfl hne (by rw [List.length_map]; omega) (flat_int _)) (fun x hx => ?_)) (fun x ⟨n, n1, e⟩ => ?_))
            · obtain ⟨n, hm, rfl⟩ := List.mem_map.mp hx
              exact ⟨n, hm, rfl⟩
            · subst e
              obtain ⟨f1, f2, f3⟩ := K11.first_ix n1
              refine vs_seq (vs_sd fun H0 => sd_remove (ns := hl) (n := n) (j := hl.idxOf n) rfl (ed_var rfl) f1 f2 ?_)
              rw [f3]
              refine vs_sd fun H0 => sd_app (d := dd "give" n) rfl (ed_tup (ds := [.str "give", .int n]) (ea_d ed_str (ea_d (ed_var rfl) ea_nil)) (by simp)) (by omega) ⟨hn, rfl, rfl, rfl, fl ++ [dd "give" n], hl.erase n, rfl, rfl, p.add (deed_lock (.inr rfl) (p.lk n n1)) (p.nd.erase n) (fun m hm => p.lk m (List.mem_of_mem_erase hm)) fun rest => fit_give n1⟩
          · exact vs_next ⟨hn, rfl, rfl, rfl, fl, hl, rfl, rfl, p.mono (Nat.le_succ i)⟩
    · obtain ⟨hn, hlen, h0, h1, fl, hl, h3, h4, p⟩ := hv
      have p8 := (p.mono hn)
      have pl := p8.len
      have hl2 := two_len p.nd p.lk
      obtain ⟨e1, e2⟩ := p8.end_
      have hv3 : (ρ'.set 4 (.dat (.list (hl.map .int))))[3]? = some (.own fl) := by rw [List.getElem?_set_ne (by decide)]; exact h3
      have hv4 : (ρ'.set 4 (.dat (.list (hl.map .int))))[4]? = some (.dat (.list (hl.map .int))) := List.getElem?_set_self (by omega)
      refine vs_sd fun H0 => sd_freeze 4 h4 (sd_ret (d := .list (fl ++ hl.map (dd "give"))) (ed_en (en_catL (el_own hv3) (en_el (en_is (en_lc (js := [8]) (fun _ => true) (fun d => match d with | .int n => dd "give" n | _ => .none) (id_list (ed_var hv4)) (by rw [List.length_map]; omega) (by decide) (fun x hx H1 _ => ?_)) ?_)) (by rw [List.length_map]; omega))) ⟨_, rfl, e1, e2⟩)
      · obtain ⟨n, hm, rfl⟩ := List.mem_map.mp hx
        exact ⟨[.int n], tg_name, et_yes, fun _ => ed_tup (ds := [.str "give", .int n]) (ea_d ed_str (ea_d (ed_var (by
          show ((wipeD (ρ'.set 4 (.dat (.list (hl.map .int)))) [8]).set 8 (.dat (.int n)))[8]? = _
          exact List.getElem?_set_self (by
            show 8 < ((ρ'.set 4 (.dat (.list (hl.map .int)))).set 8 .non).length
            rw [List.length_set, List.length_set]
            omega))) ea_nil)) (by simp)⟩
      · rw [List.filter_eq_self.mpr fun _ _ => rfl, List.map_map]
        rfl
end
end PT
namespace PT
open PySem PySem.Spec PyProof.Rows L2 DA DL TR TL
/-! ### the law's own words -/
def R_law_words : List DS → PD → Prop := fun ss d => ∃ ds, K11.progD (.list ds) = true ∧ ss = [.dat (.list ds)] ∧ d = .str (fmtP ds)
def R_law_written : List DS → PD → Prop := fun ss d => ∃ hs, hallD (.list hs) = true ∧ ss = [.dat (.list hs)] ∧ d = .str (fmtH hs)
theorem emp_app (x : Str) : Str.empty ++ x = x := ext_tl (by rw [tl_append]; rfl)
abbrev sWords : Stmt := top 38
abbrev nWords : List Str := ["_law_program_here", "_law_kind", "_law_number"]
theorem scWords : FnScope nWords ["_law_program_here"] (defScope sWords) := ⟨rfl, rfl, rfl, by decide +kernel, rfl, by decide +kernel, by decide +kernel⟩
section
variable {P : Program} {w : World} {K : PySem.W.Frag} {mg : Str → Option Value} {base : Heap} {f : Addr} {fd : FuncData} {T : List Addr}
theorem ok__law_words (F : Fun K "_law_words" "_law_words" sWords f fd) (G : Glob K mg)  : FnOk P w K mg base CX0 1 f fd ["_law_program_here"] (spD K T R_law_words) := by
  refine fn_sd F scWords (fun ss d h => ?_) (fun cdv A outer s H E hr => ⟨_, (pss_one (ps_ret (pe_join pe_str (pe_lc (own := [("_law_kind", 1), ("_law_number", 2)]) (g := (gTup K 2 (gCons (gName 1) (gCons (gName 2) gNil)))) (tt := tYes) (te := (tOp (fun x y H Q => ∃ i j, x = .str i ∧ y = .str j ∧ i.length + j.length ≤ sizeLine ∧ Q (.str (i ++ j)) H) (tOp (fun x y H Q => ∃ i j, x = .str i ∧ y = .str j ∧ i.length + j.length ≤ sizeLine ∧ Q (.str (i ++ j)) H) (tVar 1) (tC (.str " "))) (tCB (fun xs H Q => ∃ i, xs = [.int i] ∧ i.natAbs.log2 < 1920 ∧ Q (.str (toString i)) H) (tCons (tVar 2) tNil)))) rfl scWords.nd (pi_list (pv 0)) (blkOk_by (N := nWords) (sc := defScope sWords) (by decide +kernel)) (fun _ _ _ _ _ => (pg_tup (by rfl) (pgs_cons (pg_name (i := 1) scWords.nd rfl (.inl rfl)) (pgs_cons (pg_name (i := 2) scWords.nd rfl (.inl rfl)) pgs_nil)))) (fun _ _ _ _ _ => pts_nil) (fun _ _ _ _ _ => (pe_op op_add_str (pe_op op_add_str (pv 1) pe_str) (pe_callTy call_str_int (by rfl) G.str (by decide +kernel) (pa_cons (pv 2) pa_nil)))))))), fun M H0 ss d h => ?_⟩)
  · obtain ⟨ds, h1, rfl, rfl⟩ := h
    rfl
  · obtain ⟨ds, h1, rfl, rfl⟩ := h
    obtain ⟨ds', e, hl, hd, _⟩ := K11.prog_inv h1
    cases e
    refine sd_ret (d := .str (fmtP ds)) (ed_join (x := cm) (ys := ds.map wordT) ed_str (el_is (en_el (en_lc (js := [1, 2]) (fun _ => true) (fun d => .str (wordT d)) (id_list (ed_var rfl)) (by omega) (by decide) (fun d hm H1 _ => ?_))) ?_) ?_) rfl
    · obtain ⟨k, n, rfl, hk, hn⟩ := deed_inv (hd d hm)
      have b1 := kind_len hk
      have b2 := strN_len hn
      have e2 : sp.length = 1 := by decide
      refine ⟨[.str k, intD n], tg_tup2, et_yes, fun _ => ?_⟩
      refine ed_is (ed_addS (x := k ++ sp) (y := strN n) (ed_addS (x := k) (y := sp) (ed_var rfl) ed_str (big (by omega))) (ed_strI (i := (n : Int)) (ed_var rfl) (small_log hn)) (big (by rw [app_len]; omega))) ?_
      rw [word_eq, emp_app]
    · rw [List.filter_eq_self.mpr fun _ _ => rfl, List.map_map]
      rfl
    · exact Nat.le_trans (fmtP_len h1).2 (by decide)
end
abbrev sWritten : Stmt := top 39
abbrev nWritten : List Str := ["_law_hall", "_law_comes", "_law_program_here"]
theorem scWritten : FnScope nWritten ["_law_hall"] (defScope sWritten) := ⟨rfl, rfl, rfl, by decide +kernel, rfl, by decide +kernel, by decide +kernel⟩
section
variable {P : Program} {w : World} {K : PySem.W.Frag} {mg : Str → Option Value} {base : Heap} {f : Addr} {fd : FuncData} {T : List Addr}
theorem ok__law_written (F : Fun K "_law_written" "_law_written" sWritten f fd) (G : Glob K mg) {fP : Addr} {dP : FuncData} (c__law_words : Cal P w K mg base "_law_words" 1 ["_law_program_here"] (spD K T R_law_words) fP dP) : FnOk P w K mg base CX0 2 f fd ["_law_hall"] (spD K T R_law_written) := by
  refine fn_sd F scWritten (fun ss d h => ?_) (fun cdv A outer s H E hr => ⟨_, (pss_one (ps_ret (pe_join pe_str (pe_lc (own := [("_law_comes", 1), ("_law_program_here", 2)]) (g := (gTup K 2 (gCons (gName 1) (gCons (gName 2) gNil)))) (tt := tYes) (te := (tOp (fun x y H Q => ∃ i j, x = .str i ∧ y = .str j ∧ i.length + j.length ≤ sizeLine ∧ Q (.str (i ++ j)) H) (tOp (fun x y H Q => ∃ i j, x = .str i ∧ y = .str j ∧ i.length + j.length ≤ sizeLine ∧ Q (.str (i ++ j)) H) (tCB (fun xs H Q => ∃ i, xs = [.int i] ∧ i.natAbs.log2 < 1920 ∧ Q (.str (toString i)) H) (tCons (tVar 1) tNil)) (tC (.str ": "))) (tCall (spD K T R_law_words) [] E0 (tCons (tVar 2) tNil)))) rfl scWritten.nd (pi_list (pv 0)) (blkOk_by (N := nWritten) (sc := defScope sWritten) (by decide +kernel)) (fun _ _ _ _ _ => (pg_tup (by rfl) (pgs_cons (pg_name (i := 1) scWritten.nd rfl (.inl rfl)) (pgs_cons (pg_name (i := 2) scWritten.nd rfl (.inl rfl)) pgs_nil)))) (fun _ _ _ _ _ => pts_nil) (fun _ _ _ _ _ => (pe_op op_add_str (pe_op op_add_str (pe_callTy call_str_int (by rfl) G.str (by decide +kernel) (pa_cons (pv 1) pa_nil)) pe_str) (pe_call c__law_words.ok (hr.mono (by decide)) (by rfl) c__law_words.g c__law_words.kp c__law_words.b .nil pass0 (pa_cons (pv 2) pa_nil)))))))), fun M H0 ss d h => ?_⟩)
  · obtain ⟨hs, h1, rfl, rfl⟩ := h
    rfl
  · obtain ⟨hs, h1, rfl, rfl⟩ := h
    obtain ⟨ds', e, _, hl, hd⟩ := hall_inv h1
    cases e
    refine sd_ret (d := .str (fmtH hs)) (ed_join (x := sc) (ys := hs.map procT) ed_str (el_is (en_el (en_lc (js := [1, 2]) (fun _ => true) (fun d => .str (procT d)) (id_list (ed_var rfl)) (by omega) (by decide) (fun d hm H1 _ => ?_))) ?_) ?_) rfl
    · obtain ⟨n, b, rfl, hn, hb⟩ := proc_inv2 (hd d hm)
      have b2 := strN_len hn
      have b3 := (fmtP_len hb).1
      have e2 : co.length = 2 := by decide
      refine ⟨[intD n, .list b], tg_tup2, et_yes, fun _ => ?_⟩
      refine ed_is (ed_addS (x := strN n ++ co) (y := fmtP b) (ed_addS (x := strN n) (y := co) (ed_strI (i := (n : Int)) (ed_var rfl) (small_log hn)) ed_str (big (by omega))) (ed_call (ea_d (ed_var rfl) ea_nil) ⟨b, hb, rfl, rfl⟩) (big (by rw [app_len]; omega))) ?_
      rw [proc_eq, emp_app]
    · rw [List.filter_eq_self.mpr fun _ _ => rfl, List.map_map]
      rfl
    · exact Nat.le_trans (fmtH_len h1).2 (by decide)
end
/-! ### an error told -/
structure GlobE (K : PySem.W.Frag) (mg : Str → Option Value) (C : Addr) where
  isinstance : mg "isinstance" = none
  ValueError : mg "ValueError" = none
  aBadProgram : Addr
  BadProgram : mg "BadProgram" = some (.ref aBadProgram)
  aBadHall : Addr
  BadHall : mg "BadHall" = some (.ref aBadHall)
  aBadScheduler : Addr
  BadScheduler : mg "BadScheduler" = some (.ref aBadScheduler)
  aBadNumber : Addr
  BadNumber : mg "BadNumber" = some (.ref aBadNumber)
  aBadRecord : Addr
  BadRecord : mg "BadRecord" = some (.ref aBadRecord)
  aBadText : Addr
  BadText : mg "BadText" = some (.ref aBadText)
  aNotFound : Addr
  NotFound : mg "NotFound" = some (.ref aNotFound)
  aTurnError : Addr
  TurnError : mg "TurnError" = some (.ref aTurnError)
  ex : ExcC K C
  k1 : PySem.W.kitOne K (.ref C) (.ref aBadProgram) = some false
  k2 : PySem.W.kitOne K (.ref C) (.ref aBadHall) = some false
  k3 : PySem.W.kitOne K (.ref C) (.ref aBadScheduler) = some false
  k4 : PySem.W.kitOne K (.ref C) (.ref aBadNumber) = some false
  k5 : PySem.W.kitOne K (.ref C) (.ref aBadRecord) = some false
  k6 : PySem.W.kitOne K (.ref C) (.ref aBadText) = some true
  k7 : PySem.W.kitOne K (.ref C) (.ref aNotFound) = some false
  k8 : PySem.W.kitOne K (.ref C) (.ref aTurnError) = some true
  k9 : PySem.W.kitOne K (.ref C) (.type "ValueError") = some true
  ct : PySem.W.exmOne K (.ref C) (.ref aTurnError) = some true
theorem ed_isK {c : DC} {ρ : DEnv} {i : Nat} {a D : Addr} {cX : V} {cv : Value} {b : Bool} (h : ρ[i]? = some (.raw (.ref a))) (hH : c.H0 a = some (ExK (.ref D) none a)) (Z : ExcC c.K D) (k : ClsV cX cv) (e : PySem.W.kitOne c.K (.ref D) cv = some b) :
    ED c (tCB (rIsK c.K) (tCons (tVar i) (tCons (tC cX) tNil))) ρ (.bool b) := fun A σ H s Q q => by
  obtain ⟨ov, y1, y2⟩ := s.rel i _ h
  cases ov with
  | none => exact False.elim y2
  | some v =>
    have y2 : v = .ref a := y2
    subst y2
    exact ⟨_, y1, a, D, cX, cv, b, rfl, s.keep.at_ a _ hH (nT_of s.tab hH fun ps z => by cases z), Z, k, e, q _ H .refl (.bl b)⟩
theorem hu65 {A : Around} {k : Nat} (hr : Room k A) : A.units + 65 < cLine := by have := hr.un; omega
def R_law_error (C : Addr) : List Addr → Hp → List DS → PD → Prop := fun M H ss d => ∃ a, H a = some (ExK (.ref C) none a) ∧ ss = [.raw (.ref a)] ∧ d = .str "text"
abbrev sLErr : Stmt := top 36
abbrev nLErr : List Str := ["_law_caught", "_law_kinds"]
theorem scLErr : FnScope nLErr ["_law_caught"] (defScope sLErr) := ⟨rfl, rfl, rfl, by decide +kernel, rfl, by decide +kernel, by decide +kernel⟩
section
variable {P : Program} {w : World} {K : PySem.W.Frag} {mg : Str → Option Value} {base : Heap} {f : Addr} {fd : FuncData} {T : List Addr}
theorem ok__law_error {C : Addr} (F : Fun K "_law_error" "_law_error" sLErr f fd) (G : GlobE K mg C) : FnOk P w K mg base CX0 1 f fd ["_law_caught"] (spX K T (R_law_error C)) := by
  refine fn_sdX F scLErr (fun M H ss d h => ?_) (fun cdv A outer s H E hr => ⟨_, (pss_cons (ps_set (i := 1) scLErr.nd rfl (.inl rfl) (pe_lst (pa_cons (pe_callB call_isK (by rfl) G.isinstance boot_isinstance (pa_cons (pv 0) (pa_cons (pe_glob (v := .ref G.aBadProgram) (by rfl) G.BadProgram rfl) pa_nil))) (pa_cons (pe_callB call_isK (by rfl) G.isinstance boot_isinstance (pa_cons (pv 0) (pa_cons (pe_glob (v := .ref G.aBadHall) (by rfl) G.BadHall rfl) pa_nil))) (pa_cons (pe_callB call_isK (by rfl) G.isinstance boot_isinstance (pa_cons (pv 0) (pa_cons (pe_glob (v := .ref G.aBadScheduler) (by rfl) G.BadScheduler rfl) pa_nil))) pa_nil)))))
      (pss_cons (ps_set (i := 1) scLErr.nd rfl (.inl rfl) (pe_op op_catL (pv 1) (pe_lst (pa_cons (pe_callB call_isK (by rfl) G.isinstance boot_isinstance (pa_cons (pv 0) (pa_cons (pe_glob (v := .ref G.aBadNumber) (by rfl) G.BadNumber rfl) pa_nil))) (pa_cons (pe_callB call_isK (by rfl) G.isinstance boot_isinstance (pa_cons (pv 0) (pa_cons (pe_glob (v := .ref G.aBadRecord) (by rfl) G.BadRecord rfl) pa_nil))) (pa_cons (pe_callB call_isK (by rfl) G.isinstance boot_isinstance (pa_cons (pv 0) (pa_cons (pe_glob (v := .ref G.aBadText) (by rfl) G.BadText rfl) pa_nil))) pa_nil))))))
      (pss_cons (ps_expr (pe_bm PySem.F.plainAttrs_list PySem.F.slot_list_append PySem.F.type_list_append mt_append (pv 1) (pa_cons (pe_callB call_isK (by rfl) G.isinstance boot_isinstance (pa_cons (pv 0) (pa_cons (pe_glob (v := .ref G.aNotFound) (by rfl) G.NotFound rfl) pa_nil))) pa_nil)))
      (pss_cons (ps_if (PW.pt (pw_or (pt_cmpR op_ne (pe_bm PySem.F.plainAttrs_list PySem.F.slot_list_count PySem.F.type_list_count (mt_countD (hu65 hr)) (pv 1) (pa_cons pe_bl pa_nil)) pe_int (nomark _)) (pw_or (pt_not (pt_val (pe_callB call_isK (by rfl) G.isinstance boot_isinstance (pa_cons (pv 0) (pa_cons (pe_glob (v := .ref G.aTurnError) (by rfl) G.TurnError rfl) pa_nil))))) (pw_or1 (pt_not (pt_val (pe_callB call_isK (by rfl) G.isinstance boot_isinstance (pa_cons (pv 0) (pa_cons (pe_bltn (v := .ty "ValueError") (by rfl) G.ValueError (by decide +kernel) rfl) pa_nil))))))))) (pss_one (ps_ret pe_str)) pss_nil)
      (pss_one (ps_ret (pe_ix ix_list (pe_lst (pa_cons pe_str (pa_cons pe_str (pa_cons pe_str (pa_cons pe_str (pa_cons pe_str (pa_cons pe_str (pa_cons pe_str pa_nil)))))))) (pe_bm PySem.F.plainAttrs_list PySem.F.slot_list_index PySem.F.type_list_index (mt_indexD (hu65 hr)) (pv 1) (pa_cons pe_bl pa_nil)) (fun _ _ => rfl)))))))), fun M H0 ss d h _ _ => ?_⟩)
  · obtain ⟨a, _, rfl, rfl⟩ := h
    rfl
  · obtain ⟨a, ha, rfl, rfl⟩ := h
    have is1 : ∀ {cX : V} {cv : Value} {b : Bool} {ρ : DEnv}, ρ[0]? = some (.raw (.ref a)) → ClsV cX cv → PySem.W.kitOne K (.ref C) cv = some b → ED ⟨K, T, M, H0⟩ (tCB (rIsK K) (tCons (tVar 0) (tCons (tC cX) tNil))) ρ (.bool b) := fun h k e => ed_isK h ha G.ex k e
    refine sd_seq (sd_setN (en_lst (ds := [.bool false, .bool false, .bool false]) (ea_d (is1 rfl (.own _) G.k1) (ea_d (is1 rfl (.own _) G.k2) (ea_d (is1 rfl (.own _) G.k3) ea_nil))) (by decide)) ?_)
    refine sd_seq (sd_setN (en_catL (xs := [.bool false, .bool false, .bool false]) (ys := [.bool false, .bool false, .bool true]) (el_own rfl) (en_el (en_lst (ds := [.bool false, .bool false, .bool true]) (ea_d (is1 rfl (.own _) G.k4) (ea_d (is1 rfl (.own _) G.k5) (ea_d (is1 rfl (.own _) G.k6) ea_nil))) (by decide))) (by decide)) ?_)
    refine sd_seq (sd_app (d := .bool false) rfl (is1 rfl (.own _) G.k7) (by decide) ?_)
    have hsh : SeqAt.shaped (.list [PyData.bool false, .bool false, .bool false, .bool false, .bool false, .bool true, .bool false]) = true := by decide
    refine sd_seq (sd_when (b := (false || (!true || !true))) (et_or (et_is (et_test (ed_ne (x := .int 1) (y := .int 1) (ed_is (ed_countD (ds := [.bool false, .bool false, .bool false, .bool false, .bool false, .bool true, .bool false]) (d := .bool true) (el_own rfl) ed_bl hsh (by decide)) rfl) ed_int rfl rfl rfl)) rfl) fun _ => et_or (et_not (et_B (is1 rfl (.own _) G.k8))) fun _ => et_not (et_B (is1 rfl (.ty _) G.k9))) (fun z => by cases z) (fun _ => ?_))
    exact sd_ret (d := .str "text") (ed_ixL (ds := [.str "program", .str "hall", .str "scheduler", .str "number", .str "record", .str "text", .str "none"]) (i := ((5 : Nat) : Int)) (en_el (en_lst (ds := [.str "program", .str "hall", .str "scheduler", .str "number", .str "record", .str "text", .str "none"]) (ea_d ed_str (ea_d ed_str (ea_d ed_str (ea_d ed_str (ea_d ed_str (ea_d ed_str (ea_d ed_str ea_nil))))))) (by decide))) (ed_indexD (ds := [.bool false, .bool false, .bool false, .bool false, .bool false, .bool true, .bool false]) (d := .bool true) (j := 5) (z := .bool true) (el_own rfl) ed_bl hsh (by decide) rfl rfl (fun m z' hm e => by
      match m, hm with
      | 0, _ => cases e; rfl
      | 1, _ => cases e; rfl
      | 2, _ => cases e; rfl
      | 3, _ => cases e; rfl
      | 4, _ => cases e; rfl)) (atI_nat (i := 5) rfl)) rfl
end
end PT
namespace PT
open PySem PySem.Spec PyProof.Rows L2 DA DL TR TL
/-! ### a text read, or an error told -/
def told : Out → PD
  | .ok d => d
  | .ex _ => .str "text"
def R_law_parsed (C : Addr) : List DS → PD → Prop := fun ss d => ∃ (n : Nat) (e : PD), (∀ t, e = .str t → okT t ∧ okH t) ∧ ss = [.dat (intD n), .dat e] ∧ d = told (if n = 0 then parseH C e else parseP C e)
theorem parse_notN (C : Addr) (n : Nat) (e : PD) (d : PD) (h : (if n = 0 then parseH C e else parseP C e) = .ok d) : ∃ ds, d = .list ds := by
  split at h
  · unfold parseH at h
    split at h
    · split at h
      · cases h
      · split at h
        · cases h; exact ⟨_, rfl⟩
        · cases h
    · cases h
  · unfold parseP at h
    split at h
    · split at h
      · cases h; exact ⟨_, rfl⟩
      · cases h
    · cases h
abbrev sParsed : Stmt := top 40
abbrev nParsed : List Str := ["_law_kind", "_law_text", "_law_found", "_law_caught", "e"]
theorem scParsed : FnScope nParsed ["_law_kind", "_law_text"] (defScope sParsed) := ⟨rfl, rfl, rfl, by decide +kernel, rfl, by decide +kernel, by decide +kernel⟩
section
variable {P : Program} {w : World} {K : PySem.W.Frag} {mg : Str → Option Value} {base : Heap} {f : Addr} {fd : FuncData} {T : List Addr}
theorem parse_any {C : Addr} {n : Nat} {e : PD} {D : Addr} (h : (if n = 0 then parseH C e else parseP C e) = .ex D) : D = C := by
  split at h
  · unfold parseH at h
    split at h
    · split at h
      · cases h; rfl
      · split at h
        · cases h
        · cases h; rfl
    · cases h; rfl
  · unfold parseP at h
    split at h
    · split at h
      · cases h
      · cases h; rfl
    · cases h; rfl
theorem ok__law_parsed {C : Addr} (F : Fun K "_law_parsed" "_law_parsed" sParsed f fd) (G : GlobE K mg C) {fH : Addr} {dH : FuncData} (c_parse_hall : CalE P w K mg base "parse_hall" 8 ["text"] (spE K T (R_parse_hall C)) fH dH) {fP : Addr} {dP : FuncData} (c_parse_program : CalE P w K mg base "parse_program" 5 ["text"] (spE K T (R_parse_program C)) fP dP)
    {fE : Addr} {dE : FuncData} (c__law_error : Cal P w K mg base "_law_error" 1 ["_law_caught"] (spX K T (R_law_error C)) fE dE) : FnOk P w K mg base CX0 9 f fd ["_law_kind", "_law_text"] (spD K T (R_law_parsed C)) := by
  refine F.ok scParsed (fun vs H Q E h => ?_) (fun cdv A outer s H vs Q E hr h => ?_)
  · obtain ⟨M, ss, d, _, _, h3, ⟨n, e, _, rfl, _⟩, _⟩ := h
    rw [h3.len]
    rfl
  · obtain ⟨M, ss, d, h1, h2, h3, ⟨n, e, hk, rfl, hd⟩, q⟩ := h
    refine ⟨_, (pss_cons (ps_set (i := 2) scParsed.nd rfl (.inl rfl) pe_non)
      (pss_cons (ps_set (i := 3) scParsed.nd rfl (.inl rfl) pe_non)
      (pss_cons (ps_try_keep (i := 4) (tb := fun W => tAsg (tIf (tTest (tOp rEq (tVar 0) (tC (.int 0)))) (tCallS (spE K T (R_parse_hall C)) (WE W) (tCons (tVar 1) tNil)) (tCallS (spE K T (R_parse_program C)) (WE W) (tCons (tVar 1) tNil))) (gName 2)) (ts := fun _ _ _ => tAsg (tVar 4) (gName 3)) (Wo := fun _ _ _ _ => False) rfl rfl scParsed.nd rfl rfl ⟨rfl, by decide, .inl G.TurnError⟩ takes0
          (fun W pn xe tk _ => pss_one (ps_set (i := 2) scParsed.nd rfl (.inl rfl) (pe_ifExp (pt_cmpR op_eq (pv 0) pe_int (nomark _)) (pe_callS c_parse_hall.ok (hr.mono (by decide)) (by rfl) c_parse_hall.g c_parse_hall.kp c_parse_hall.b (fun σ => passAt tk σ) (pa_cons (pv 1) pa_nil)) (pe_callS c_parse_program.ok (hr.mono (by decide)) (by rfl) c_parse_program.g c_parse_program.kp c_parse_program.b (fun σ => passAt tk σ) (pa_cons (pv 1) pa_nil)))))
          (fun a cls dd pn => pss_one (ps_set (i := 3) scParsed.nd rfl (.inl rfl) (pv 4))))
      (pss_one (ps_ret (pe_ifExp (pt_cmp (pc_isN (pv 3))) (pv 2) (pe_call c__law_error.ok (hr.mono (by decide)) (by rfl) c__law_error.g c__law_error.kp c__law_error.b .nil pass0 (pa_cons (pv 3) pa_nil)))))))), ?_⟩
    have r0 := start_sr (N := nParsed) h1 h2 h3
    have r1 : SR ⟨K, T, M, H⟩ [] _ H [.dat (intD n), .dat e, .dat .none, .non, .non] := r0.setD 2 (v := .non) (d := .none) .non
    have r2 : SR ⟨K, T, M, H⟩ [] _ H [.dat (intD n), .dat e, .dat .none, .dat .none, .non] := r1.setD 3 (v := .non) (d := .none) .non
    -- what follows the try where nothing was raised
    have good : ∀ {v : V} {H1 : Hp} {x : PD}, Keep T H H1 → Dp K (hid (M ++ []) H1) v x → (if n = 0 then parseH C e else parseP C e) = .ok x → Q v H1 := fun {v H1 x} k g hx => by
      rw [hd, hx] at q
      rw [List.append_nil] at g
      exact q v H1 g k
    have bad : ∀ {D : Addr}, (if n = 0 then parseH C e else parseP C e) = .ex D → ∀ {v : V} {H1 : Hp}, v = .str "text" → Keep T H H1 → Q v H1 := fun {D} hx {v H1} hv k => by
      rw [hd, hx] at q
      subst hv
      exact q _ H1 (.str _) k
    -- the call
    have both : ∀ (o : Out), o = (if n = 0 then parseH C e else parseP C e) → ∀ (R : List DS → Out → Prop), R [.dat e] o → ∀ H1, Keep T H H1 → ∀ {Dx : Ends} {σ : L2.St}, SR ⟨K, T, M, H⟩ [] σ H1 [.dat (intD n), .dat e, .dat .none, .dat .none, .non] →
        (∀ v H2 x, Keep T H H2 → SR ⟨K, T, M, H⟩ [] (σ.set 2 (some v)) H2 [.dat (intD n), .dat e, .dat x, .dat .none, .non] → Dp K (hid (M ++ []) H2) v x → o = .ok x → Dx.nx (σ.set 2 (some v)) H2) →
        (∀ D a H2, o = .ex D → H2 a = none → Keep T H H2 → SR ⟨K, T, M, H⟩ [] σ H2 [.dat (intD n), .dat e, .dat .none, .dat .none, .non] → Dx.nx ((((σ.set 4 (some (.ref a))).set 3 (some (.ref a)))).set 4 none) (upd H2 a (ExK (.ref D) none a))) →
        tCallS (spE K T R) (WE (wKeep K (.ref G.aTurnError) 4 (fun _ _ _ => tAsg (tVar 4) (gName 3)) (fun _ _ _ _ => False) Dx)) (tCons (tVar 1) tNil) σ H1 (fun v H2 => Dx.nx (σ.set 2 (some v)) H2) := fun o ho R hR H1 k1 Dx σ r hg hb => by
      refine (ea_d (c := ⟨K, T, M, H⟩) (ρ := [.dat (intD n), .dat e, .dat .none, .dat .none, .non]) (ed_var (i := 1) rfl) ea_nil) [] σ H1 r _ fun vs H2 k2 g2 => ?_
      have ra := r.move k2
      refine ⟨M ++ [], [.dat e], o, ra.nM, ra.tabs, g2, hR, fun x hx v H3 g3 k3 => ?_, fun D hx H3 k3 => ?_⟩
      · exact hg v H3 x (ra.move k3).keep ((ra.move k3).setD 2 g3) g3 hx
      · have rb := ra.move k3
        have hD : D = C := parse_any (ho.symm.trans hx)
        refine ⟨true, by rw [hD]; exact G.ct, fun z => (by cases z), fun _ a ha => ?_⟩
        exact ⟨.ref a, by rw [List.getElem?_set_self (by have := rb.len; simp at this; omega)], hb D a H3 hx ha rb.keep rb⟩
    have eN : ∀ {σ : L2.St} {H1 : Hp}, SR ⟨K, T, M, H⟩ [] σ H1 [.dat (intD n), .dat e, .dat .none, .dat .none, .non] → ∀ {Q2 : Bool → Hp → Prop}, (∀ H2, Keep T H1 H2 → Q2 (decide (n = 0)) H2) → tTest (tOp rEq (tVar 0) (tC (.int 0))) σ H1 Q2 := fun {σ H1} r {Q2} q2 =>
      (et_is (et_test (ed_eq (c := ⟨K, T, M, H⟩) (ρ := [.dat (intD n), .dat e, .dat .none, .dat .none, .non]) (x := intD n) (y := .int 0) (ed_var (i := 0) rfl) ed_int rfl rfl rfl)) (show decide (V.int (n : Int) = V.int 0) = decide (n = 0) from decide_eq_decide.mpr ⟨fun z => by injection z with z; omega, fun z => by rw [z]; rfl⟩)) [] σ H1 r _ q2
    -- behind the try
    have after1 : ∀ (v : V) (H2 : Hp) (x : PD), Keep T H H2 → ∀ {σ : L2.St}, SR ⟨K, T, M, H⟩ [] (σ.set 2 (some v)) H2 [.dat (intD n), .dat e, .dat x, .dat .none, .non] → (if n = 0 then parseH C e else parseP C e) = .ok x →
        tRet (tIf (tB (tIsN (tVar 3))) (tVar 2) (tCall (spX K T (R_law_error C)) [] E0 (tCons (tVar 3) tNil))) { nx := fun _ H' => Q .non H', rt := Q } (σ.set 2 (some v)) H2 := fun v H2 x k {σ} r hx => by
      exact sd_ret (c := ⟨K, T, M, H⟩) (D := { nx := fun _ => False, rt := fun y => y = x }) (ed_if (b := true) (et_is (et_B (ed_isN (d := .none) (ed_var (i := 3) rfl))) rfl) (fun _ => ed_var (i := 2) (d := x) rfl) (fun z => by cases z)) rfl _
        ⟨fun _ _ _ _ _ z => z.elim, fun v' H' y kk g ey => by
          subst ey
          exact good kk (by rw [List.append_nil]; exact g) hx, fun _ _ _ _ _ z => z.elim, fun _ _ _ _ _ z => z.elim⟩ [] _ H2 r
    have after2 : ∀ (D a : Addr) (H2 : Hp), (if n = 0 then parseH C e else parseP C e) = .ex D → H2 a = none → Keep T H H2 → ∀ {σ : L2.St}, SR ⟨K, T, M, H⟩ [] σ H2 [.dat (intD n), .dat e, .dat .none, .dat .none, .non] →
        tRet (tIf (tB (tIsN (tVar 3))) (tVar 2) (tCall (spX K T (R_law_error C)) [] E0 (tCons (tVar 3) tNil))) { nx := fun _ H' => Q .non H', rt := Q } ((((σ.set 4 (some (.ref a))).set 3 (some (.ref a)))).set 4 none) (upd H2 a (ExK (.ref D) none a)) := fun D a H2 hx ha k {σ} r => by
      have hD : D = C := parse_any hx
      subst hD
      have kn : Keep T H2 (upd H2 a (ExK (.ref D) none a)) := .new ha
      have rc := r.move kn
      have rd : SR ⟨K, T, M, H⟩ [] ((((σ.set 4 (some (.ref a))).set 3 (some (.ref a)))).set 4 none) (upd H2 a (ExK (.ref D) none a)) [.dat (intD n), .dat e, .dat .none, .raw (.ref a), .non] :=
        ((rc.setX 4 (ov := some (.ref a))).setS 3 (s := .raw (.ref a)) rfl (fun _ z => nomatch z)).setX 4 (ov := none)
      have re : SR ⟨K, T, M, upd H2 a (ExK (.ref D) none a)⟩ [] ((((σ.set 4 (some (.ref a))).set 3 (some (.ref a)))).set 4 none) (upd H2 a (ExK (.ref D) none a)) [.dat (intD n), .dat e, .dat .none, .raw (.ref a), .non] :=
        ⟨rd.tabs, .refl, fun b hb => ⟨(rd.msk b hb).1, (rd.nM b (List.mem_append_left _ hb)).2⟩, fun b hb => (nomatch hb), rd.len, rd.rel, rd.inj⟩
      obtain ⟨ov, y1, y2⟩ := rd.rel 3 (.raw (.ref a)) rfl
      cases ov with
      | none => exact False.elim y2
      | some v3 =>
        have y2 : v3 = .ref a := y2
        subst y2
        refine ⟨.ref a, y1, false, rfl, ?_⟩
        refine ⟨.ref a, y1, M ++ [], [.raw (.ref a)], .str "text", rd.nM, rd.tabs, .cons rfl .nil, ⟨a, upd_same, rfl, rfl⟩, fun v H5 g k5 => ?_⟩
        exact bad hx (DL.dp_str g) ((k.trans kn).trans k5)
    refine eN r2 fun H1 k1 => ?_
    have r3 := r2.move k1
    by_cases hn : n = 0
    · rw [decide_eq_true hn]
      refine both _ rfl (R_parse_hall C) ⟨e, fun t ht => (hk t ht).2, rfl, by rw [if_pos hn]⟩ H1 k1 r3 (fun v H2 x k r g hx => after1 v H2 x k r hx) fun D a H2 hx ha k r => after2 D a H2 hx ha k r
    · rw [decide_eq_false hn]
      refine both _ rfl (R_parse_program C) ⟨e, fun t ht => (hk t ht).1, rfl, by rw [if_neg hn]⟩ H1 k1 r3 (fun v H2 x k r g hx => after1 v H2 x k r hx) fun D a H2 hx ha k r => after2 D a H2 hx ha k r
end
end PT
/-! The mathematics of the texts: what is formatted is read back; what is read is formatted to the same text. -/
namespace PT
open PySem PySem.Spec PyProof.Rows L2 DA DL TR TL
/-! ### split and join, over lists of signs -/
theorem pre_app {S l : List Nat} (h : pre S l = true) : l = S ++ l.drop S.length := by
  have e : l.take S.length = S := by simpa [pre] using h
  have := List.take_append_drop S.length l
  rw [e] at this
  exact this.symm
theorem spl_ne (S : List Nat) : ∀ (l : List Nat) (k : Nat) (acc : List Nat), spl S k acc l ≠ []
  | [], k, acc => by rw [spl_nil]; simp
  | c :: r, 0, acc => by
    show (if pre S (c :: r) = true then acc :: spl S (S.length - 1) [] r else spl S 0 (acc ++ [c]) r) ≠ []
    split
    · simp
    · exact spl_ne S r 0 _
  | c :: r, k + 1, acc => spl_ne S r k acc
theorem joinL_cons (S p : List Nat) {r : List (List Nat)} (h : r ≠ []) : joinL S (p :: r) = p ++ (S ++ joinL S r) := by
  cases r with
  | nil => exact absurd rfl h
  | cons q t => rfl
theorem join_spl {S : List Nat} (hS : S ≠ []) : ∀ (n : Nat) (l acc : List Nat), l.length ≤ n → joinL S (spl S 0 acc l) = acc ++ l
  | 0, l, acc, h => by
    have e : l = [] := List.length_eq_zero_iff.mp (by omega)
    subst e
    rw [spl_nil, List.append_nil]
    rfl
  | n + 1, [], acc, _ => by rw [spl_nil, List.append_nil]; rfl
  | n + 1, c :: r, acc, h => by
    cases e : pre S (c :: r) with
    | false =>
      rw [spl_miss e, join_spl hS n r (acc ++ [c]) (by simpa using h), List.append_assoc]
      rfl
    | true =>
      rw [spl_hit e, spl_pass, joinL_cons S acc (spl_ne S _ 0 []), join_spl hS n _ [] (by
        have : r.length ≤ n := by simpa using h
        rw [List.length_drop]; omega), List.nil_append]
      have e2 := pre_app e
      have hl : 0 < S.length := List.length_pos_iff.mpr hS
      have e3 : (c :: r).drop S.length = r.drop (S.length - 1) := by
        rw [show S.length = (S.length - 1) + 1 by omega, List.drop_succ_cons]
        rfl
      rw [e3] at e2
      rw [← e2]
theorem split_tl {x y : Str} (hy : tl y ≠ []) (hk : y.cps.all (· < 256) = true) : (Txt.split x y).map tl = spl (tl y) 0 [] (tl x) := split_spl x y hy (kind_ok hk)
/-- join(split(x)) = x -/
theorem join_split {x y : Str} (hy : tl y ≠ []) (hk : y.cps.all (· < 256) = true) : Txt.join y (Txt.split x y) = x := by
  refine ext_tl ?_
  rw [join_eq, tl_join, split_tl hy hk, join_spl hy _ _ _ (Nat.le_refl _), List.nil_append]
theorem joinL_part {S : List Nat} : ∀ {ps : List (List Nat)} {p : List Nat}, p ∈ ps → p.length ≤ (joinL S ps).length
  | [a], p, h => by
    rw [List.mem_singleton.mp h]
    exact Nat.le_refl _
  | a :: b :: r, p, h => by
    show p.length ≤ (a ++ (S ++ joinL S (b :: r))).length
    rw [List.length_append, List.length_append]
    rcases List.mem_cons.mp h with rfl | h
    · omega
    · have := joinL_part (S := S) h
      omega
theorem joinL_many {S : List Nat} (hS : S ≠ []) : ∀ {ps : List (List Nat)}, ps.length ≤ (joinL S ps).length + 1
  | [] => by simp
  | [a] => by simp
  | a :: b :: r => by
    have := joinL_many hS (ps := b :: r)
    have hl : 0 < S.length := List.length_pos_iff.mpr hS
    show (a :: b :: r).length ≤ (a ++ (S ++ joinL S (b :: r))).length + 1
    rw [List.length_append, List.length_append, List.length_cons]
    omega
theorem split_part {x y : Str} (hy : tl y ≠ []) (hk : y.cps.all (· < 256) = true) {p : Str} (h : p ∈ Txt.split x y) : p.length ≤ x.length := by
  have e := join_spl hy _ (tl x) [] (Nat.le_refl _)
  rw [← split_tl hy hk] at e
  have h2 := joinL_part (S := tl y) (List.mem_map_of_mem (f := tl) h)
  rw [e, List.nil_append] at h2
  rw [len_tl, len_tl]
  exact h2
theorem split_many {x y : Str} (hy : tl y ≠ []) (hk : y.cps.all (· < 256) = true) : (Txt.split x y).length ≤ x.length + 1 := by
  have e := join_spl hy _ (tl x) [] (Nat.le_refl _)
  rw [← split_tl hy hk] at e
  have h2 := joinL_many hy (ps := (Txt.split x y).map tl)
  rw [e, List.nil_append, List.length_map, ← len_tl] at h2
  exact h2
theorem split_one {x y : Str} {s : Nat} {S : List Nat} (ey : tl y = s :: S) (hk : y.cps.all (· < 256) = true) (h : s ∉ tl x) : Txt.split x y = [x] := by
  refine map_tl_inj ?_
  rw [split_tl (by rw [ey]; simp) hk, ey, spl_last1 h]
  rfl
theorem par_eq {S : List Nat} : ∀ (l acc a b : List Nat), par S acc l = some (a, b) → a ++ (S ++ b) = acc ++ l
  | [], acc, a, b, h => by cases h
  | c :: r, acc, a, b, h => by
    cases e : pre S (c :: r) with
    | true =>
      rw [par_hit e] at h
      cases h
      rw [← pre_app e]
    | false =>
      rw [par_miss e] at h
      rw [par_eq r _ a b h, List.append_assoc]
      rfl
/-- a text is put together again from its two parts -/
theorem part_eq {x y : Str} (hy : tl y ≠ []) : ((Txt.partition x y).2.1 = y ∧ (Txt.partition x y).1 ++ y ++ (Txt.partition x y).2.2 = x) ∨ (Txt.partition x y = (x, Str.empty, Str.empty)) := by
  rw [partition_par x y hy]
  cases e : par (tl y) [] (tl x) with
  | none => exact .inr rfl
  | some q =>
    obtain ⟨a, b⟩ := q
    refine .inl ⟨rfl, ext_tl ?_⟩
    have h := par_eq _ _ _ _ e
    rw [tl_append, tl_append, List.append_assoc]
    exact h
theorem part_len {x y : Str} (hy : tl y ≠ []) : (Txt.partition x y).1.length ≤ x.length ∧ (Txt.partition x y).2.2.length ≤ x.length := by
  rcases part_eq (x := x) hy with ⟨_, h⟩ | h
  · have e := congrArg Str.length h
    rw [app_len, app_len] at e
    omega
  · rw [h]
    exact ⟨Nat.le_refl _, Nat.zero_le _⟩
/-! ### the separators -/
theorem tl_cm : tl cm = [44, 32] := by rw [tl_ofString]; decide
theorem tl_sp : tl sp = [32] := by rw [tl_ofString]; decide
theorem tl_sc : tl sc = [59, 32] := by rw [tl_ofString]; decide
theorem tl_co : tl co = [58, 32] := by rw [tl_ofString]; decide
theorem cm_ne : tl cm ≠ [] := by rw [tl_cm]; simp
theorem sp_ne : tl sp ≠ [] := by rw [tl_sp]; simp
theorem sc_ne : tl sc ≠ [] := by rw [tl_sc]; simp
theorem co_ne : tl co ≠ [] := by rw [tl_co]; simp
theorem low_cm : cm.cps.all (· < 256) = true := by decide +kernel
theorem low_sc : sc.cps.all (· < 256) = true := by decide +kernel
theorem okT_of {t : Str} (h : t.length ≤ 890) : okT t :=
  ⟨by omega, Nat.le_trans (split_many cm_ne low_cm) (by omega), fun p hp => by
    have h1 := split_part cm_ne low_cm hp
    have h2 := (part_len (x := p) sp_ne).2
    exact ⟨by omega, by omega⟩⟩
theorem okH_of {t : Str} (h : t.length ≤ 890) : okH t :=
  ⟨by omega, Nat.le_trans (split_many sc_ne low_sc) (by omega), fun p hp => by
    have h1 := split_part sc_ne low_sc hp
    obtain ⟨h2, h3⟩ := part_len (x := p) co_ne
    exact ⟨by omega, by omega, okT_of (by omega)⟩⟩
/-! ### numbers -/
theorem numW_num {n : Nat} (h : n ≤ 99) : numW (numL n) = some n := by
  have hd : (numL n).all isDg = true := List.all_eq_true.mpr fun c hc => isDg_iff.mpr (numL_digits n c hc)
  by_cases h1 : n < 10
  · have e := numL_lt h1
    unfold numW
    rw [if_pos (by rw [e]; simp), if_pos hd, if_neg (by rw [e]; simp), numL_val]
  · have e := numL_step (n := n) (by omega)
    have e2 := numL_lt (n := n / 10) (by omega)
    rw [e2] at e
    unfold numW
    rw [if_pos (by rw [e]; simp), if_pos hd, if_neg, numL_val]
    rintro ⟨_, z⟩
    rw [e] at z
    have z : 48 + n / 10 = 48 := Option.some.inj z
    omega
theorem numW_inv {l : List Nat} {n : Nat} (h : numW l = some n) : l = numL n ∧ n ≤ 99 := by
  unfold numW at h
  split at h
  · rename_i h1
    split at h
    · rename_i h2
      split at h
      · cases h
      · rename_i h3
        have hd := all_dg h2
        have e : NumText.digitsVal l = n := Option.some.inj h
        rcases h1 with h1 | h1
        · obtain ⟨a, rfl⟩ := List.length_eq_one_iff.mp h1
          have ha := hd a (by simp)
          have e2 : NumText.digitsVal [a] = a - 48 := by
            show 0 * 10 + (a - 48) = _
            omega
          rw [e2] at e
          subst e
          rw [numL_lt (by omega)]
          exact ⟨by rw [show 48 + (a - 48) = a by omega], by omega⟩
        · obtain ⟨a, b, rfl⟩ : ∃ a b, l = [a, b] := by
            match l, h1 with
            | [a, b], _ => exact ⟨a, b, rfl⟩
          have ha := hd a (by simp)
          have hb := hd b (by simp)
          have h4 : a ≠ 48 := fun z => h3 ⟨rfl, by rw [z]; rfl⟩
          have e2 : NumText.digitsVal [a, b] = (a - 48) * 10 + (b - 48) := by
            show (0 * 10 + (a - 48)) * 10 + (b - 48) = _
            omega
          rw [e2] at e
          subst e
          rw [numL_step (by omega), show ((a - 48) * 10 + (b - 48)) / 10 = a - 48 by omega, show ((a - 48) * 10 + (b - 48)) % 10 = b - 48 by omega, numL_lt (by omega)]
          refine ⟨?_, by omega⟩
          rw [show 48 + (a - 48) = a by omega, show 48 + (b - 48) = b by omega]
          rfl
    · cases h
  · cases h
theorem encO_num {o : Option Nat} {lo hi : Int} (h : K11.numD (encO o) lo hi = true) : ∃ n, o = some n := by
  cases o with
  | none => cases h
  | some n => exact ⟨n, rfl⟩
theorem tl_strN (n : Nat) : tl (strN n) = numL n := tl_num n
/-! ### deeds -/
theorem kind_free {k : Str} (h : okKind k) : 32 ∉ tl k ∧ 44 ∉ tl k ∧ 58 ∉ tl k ∧ 59 ∉ tl k := by
  rcases h with rfl | rfl | rfl | rfl <;> (rw [tl_ofString]; decide)
theorem word_read {d : PD} (h : K11.deedD d = true) : deedT (wordT d) = d := by
  obtain ⟨k, n, rfl, hk, hn⟩ := deed_inv h
  rw [word_eq, emp_app]
  unfold deedT
  rw [partition_app (y := sp) (s := 32) (S := []) tl_sp (kind_free hk).1]
  show PyData.tuple [.str k, encO (numW (tl (strN n)))] = _
  rw [tl_strN, numW_num hn]
  rfl
theorem word_free {d : PD} (h : K11.deedD d = true) : 44 ∉ tl (wordT d) ∧ 59 ∉ tl (wordT d) := by
  obtain ⟨k, n, rfl, hk, hn⟩ := deed_inv h
  rw [word_eq, emp_app, tl_append, tl_append, tl_sp, tl_strN]
  obtain ⟨_, k1, _, k2⟩ := kind_free hk
  have n1 : (44 : Nat) ∉ numL n := numL_free (by omega)
  have n2 : (59 : Nat) ∉ numL n := numL_free (by omega)
  constructor
  · intro z
    rcases List.mem_append.mp z with z | z
    · rcases List.mem_append.mp z with z | z
      · exact k1 z
      · simp at z
    · exact n1 z
  · intro z
    rcases List.mem_append.mp z with z | z
    · rcases List.mem_append.mp z with z | z
      · exact k2 z
      · simp at z
    · exact n2 z
theorem deed_word {p : Str} (h : K11.deedD (deedT p) = true) : wordT (deedT p) = p := by
  have key : ∃ k n, (Txt.partition p sp).1 = k ∧ numW (tl (Txt.partition p sp).2.2) = some n := by
    obtain ⟨k, n, e, _, _⟩ := deed_inv h
    unfold deedT at e
    refine ⟨_, n, rfl, ?_⟩
    injection e with e
    injection e with e1 e2
    injection e2 with e2 _
    cases q : numW (tl (Txt.partition p sp).2.2) with
    | none => rw [q] at e2; cases e2
    | some m =>
      rw [q] at e2
      injection e2 with e2
      exact congrArg some (by omega)
  obtain ⟨k, n, hk, hn⟩ := key
  rcases part_eq (x := p) (y := sp) sp_ne with ⟨_, e⟩ | e
  · have hb := (numW_inv hn).1
    have eb : (Txt.partition p sp).2.2 = strN n := ext_tl (by rw [hb, tl_strN])
    have ed : deedT p = .tuple [.str k, intD n] := by
      unfold deedT
      rw [hn, hk]
      rfl
    rw [ed, word_eq, emp_app, ← eb, ← hk]
    exact e
  · rw [e] at hn
    cases hn
/-! ### programs -/
theorem fmtP_free {ds : List PD} (h : ∀ d ∈ ds, K11.deedD d = true) : 59 ∉ tl (fmtP ds) := by
  have key : ∀ ps : List (List Nat), (∀ p ∈ ps, 59 ∉ p) → 59 ∉ joinL [44, 32] ps := by
    intro ps
    induction ps with
    | nil => intro _ z; cases z
    | cons a r ih =>
      intro hp
      cases r with
      | nil => exact hp a (by simp)
      | cons b t =>
        intro z
        have z : 59 ∈ a ++ ([44, 32] ++ joinL [44, 32] (b :: t)) := z
        rcases List.mem_append.mp z with z | z
        · exact hp a (by simp) z
        · rcases List.mem_append.mp z with z | z
          · simp at z
          · exact ih (fun p hpp => hp p (List.mem_cons_of_mem _ hpp)) z
  unfold fmtP
  rw [join_eq, tl_join, tl_cm]
  refine key _ fun p hp => ?_
  obtain ⟨w, hw, rfl⟩ := List.mem_map.mp hp
  obtain ⟨d, hd, rfl⟩ := List.mem_map.mp hw
  exact (word_free (h d hd)).2
theorem word_ne {d : PD} (h : K11.deedD d = true) : tl (wordT d) ≠ [] := by
  obtain ⟨k, n, rfl, hk, hn⟩ := deed_inv h
  rw [word_eq, tl_append, tl_append, tl_sp]
  intro z
  have := congrArg List.length z
  simp at this
theorem fmtP_ne {a : PD} {r : List PD} (h : K11.deedD a = true) : fmtP (a :: r) ≠ "" := by
  intro z
  have z2 := congrArg tl z
  unfold fmtP at z2
  rw [join_eq, tl_join, List.map_cons, List.map_cons] at z2
  have e0 : tl ("" : Str) = [] := rfl
  rw [e0] at z2
  cases r with
  | nil => exact word_ne h z2
  | cons b t =>
    have z2 : tl (wordT a) ++ (tl cm ++ joinL (tl cm) (((b :: t).map wordT).map tl)) = [] := z2
    rw [tl_cm] at z2
    simp at z2
theorem read_fmtP {ds : List PD} (h : ∀ d ∈ ds, K11.deedD d = true) : toldP (fmtP ds) = ds := by
  cases ds with
  | nil => rfl
  | cons a r =>
    unfold toldP
    rw [if_neg (fmtP_ne (h a List.mem_cons_self))]
    unfold fmtP
    rw [split_join (y := cm) (s := 44) (S := [32]) tl_cm low_cm (by simp) (fun p hp => by
      obtain ⟨d, hd, rfl⟩ := List.mem_map.mp hp
      exact (word_free (h d hd)).1), List.map_map]
    have e : ∀ l : List PD, (∀ d ∈ l, K11.deedD d = true) → l.map (deedT ∘ wordT) = l := by
      intro l
      induction l with
      | nil => intro _; rfl
      | cons x t ih =>
        intro hl
        rw [List.map_cons, ih fun d hd => hl d (List.mem_cons_of_mem _ hd)]
        show deedT (wordT x) :: t = x :: t
        rw [word_read (hl x List.mem_cons_self)]
    exact e _ h
theorem fmt_told {t : Str} (h : ∀ d ∈ toldP t, K11.deedD d = true) : fmtP (toldP t) = t := by
  by_cases ht : t = ""
  · subst ht
    rfl
  · have e : toldP t = (Txt.split t cm).map deedT := by
      unfold toldP
      rw [if_neg ht]
    rw [e] at h
    unfold fmtP
    rw [e, List.map_map]
    have e2 : ∀ l : List Str, (∀ p ∈ l, K11.deedD (deedT p) = true) → l.map (wordT ∘ deedT) = l := by
      intro l
      induction l with
      | nil => intro _; rfl
      | cons x r ih =>
        intro hl
        rw [List.map_cons, ih fun p hp => hl p (List.mem_cons_of_mem _ hp)]
        show wordT (deedT x) :: r = x :: r
        rw [deed_word (hl x List.mem_cons_self)]
    rw [e2 _ fun p hp => h _ (List.mem_map_of_mem (f := deedT) hp)]
    exact join_split cm_ne low_cm
theorem prog_deeds {ds : List PD} (h : K11.progD (.list ds) = true) : ∀ d ∈ ds, K11.deedD d = true := by
  obtain ⟨ds', e, _, hd, _⟩ := K11.prog_inv h
  cases e
  exact hd
/-- RT1: what is formatted is read back -/
theorem parseP_fmt {C : Addr} {ds : List PD} (h : K11.progD (.list ds) = true) : parseP C (.str (fmtP ds)) = .ok (.list ds) := by
  show (if K11.progD (.list (toldP (fmtP ds))) = true then Out.ok (.list (toldP (fmtP ds))) else .ex C) = _
  rw [read_fmtP (prog_deeds h), if_pos h]
/-- RT2: what is read is a program, and is formatted to the same text -/
theorem parseP_ok {C : Addr} {t : Str} {d : PD} (h : parseP C (.str t) = .ok d) : ∃ ds, d = .list ds ∧ K11.progD (.list ds) = true ∧ fmtP ds = t := by
  have h : (if K11.progD (.list (toldP t)) = true then Out.ok (.list (toldP t)) else .ex C) = .ok d := h
  split at h
  · rename_i hp
    cases h
    exact ⟨_, rfl, hp, fmt_told (prog_deeds hp)⟩
  · cases h
/-! ### halls -/
theorem proc_read {e : PD} (h : procD e = true) : procTold (procT e) = e ∧ badPart (procT e) = false := by
  obtain ⟨n, b, rfl, hn, hb⟩ := proc_inv2 h
  rw [proc_eq, emp_app]
  unfold procTold badPart
  rw [partition_app (y := co) (s := 58) (S := [32]) tl_co (by rw [tl_strN]; exact numL_free (by omega))]
  refine ⟨?_, show decide (co = "") = false by decide⟩
  show PyData.tuple [encO (numW (tl (strN n))), .list (toldP (fmtP b))] = _
  rw [tl_strN, numW_num hn, read_fmtP (prog_deeds hb)]
  rfl
theorem proc_free {e : PD} (h : procD e = true) : 59 ∉ tl (procT e) := by
  obtain ⟨n, b, rfl, hn, hb⟩ := proc_inv2 h
  rw [proc_eq, emp_app, tl_append, tl_append, tl_co, tl_strN]
  have n1 : (59 : Nat) ∉ numL n := numL_free (by omega)
  intro z
  rcases List.mem_append.mp z with z | z
  · rcases List.mem_append.mp z with z | z
    · exact n1 z
    · simp at z
  · exact fmtP_free (prog_deeds hb) z
theorem proc_word {p : Str} (h1 : procD (procTold p) = true) (h2 : badPart p = false) : procT (procTold p) = p := by
  obtain ⟨n, b, e, hn, hb⟩ := proc_inv2 h1
  unfold procTold at e
  injection e with e
  injection e with e1 e2
  injection e2 with e2 _
  injection e2 with e2
  have en : numW (tl (Txt.partition p co).1) = some n := by
    cases q : numW (tl (Txt.partition p co).1) with
    | none => rw [q] at e1; cases e1
    | some m =>
      rw [q] at e1
      injection e1 with e1
      exact congrArg some (by omega)
  rcases part_eq (x := p) (y := co) co_ne with ⟨_, ex⟩ | ex
  · have ea : (Txt.partition p co).1 = strN n := ext_tl (by rw [(numW_inv en).1, tl_strN])
    have ef : fmtP b = (Txt.partition p co).2.2 := by
      rw [← e2]
      exact fmt_told (by rw [e2]; exact prog_deeds hb)
    unfold procTold
    rw [en, e2]
    show procT (.tuple [intD n, .list b]) = p
    rw [proc_eq, emp_app, ef, ← ea]
    exact ex
  · unfold badPart at h2
    rw [ex] at h2
    cases h2
theorem map_back {l : List PD} (h : ∀ e ∈ l, procD e = true) : (l.map procT).map procTold = l := by
  induction l with
  | nil => rfl
  | cons x t ih =>
    rw [List.map_cons, List.map_cons, ih fun d hd => h d (List.mem_cons_of_mem _ hd), (proc_read (h x List.mem_cons_self)).1]
theorem hall_procs {hs : List PD} (h : hallD (.list hs) = true) : (∀ e ∈ hs, procD e = true) ∧ hs ≠ [] := by
  obtain ⟨ds', e, h1, _, hd⟩ := hall_inv h
  cases e
  exact ⟨hd, fun z => by rw [z] at h1; simp at h1⟩
theorem parseH_fmt {C : Addr} {hs : List PD} (h : hallD (.list hs) = true) : parseH C (.str (fmtH hs)) = .ok (.list hs) := by
  obtain ⟨hp, hn⟩ := hall_procs h
  have es : Txt.split (fmtH hs) sc = hs.map procT := split_join (y := sc) (s := 59) (S := [32]) tl_sc low_sc (by simpa using hn) fun p hpp => by
    obtain ⟨d, hd, rfl⟩ := List.mem_map.mp hpp
    exact proc_free (hp d hd)
  show (if (Txt.split (fmtH hs) sc).any badPart = true then Out.ex C else if hallD (.list ((Txt.split (fmtH hs) sc).map procTold)) = true then .ok (.list ((Txt.split (fmtH hs) sc).map procTold)) else .ex C) = _
  rw [es, map_back hp, if_neg, if_pos h]
  intro z
  obtain ⟨p, hpp, e⟩ := List.any_eq_true.mp z
  obtain ⟨d, hd, rfl⟩ := List.mem_map.mp hpp
  rw [(proc_read (hp d hd)).2] at e
  cases e
theorem parseH_ok {C : Addr} {t : Str} {d : PD} (h : parseH C (.str t) = .ok d) : ∃ hs, d = .list hs ∧ hallD (.list hs) = true ∧ fmtH hs = t := by
  have h : (if (Txt.split t sc).any badPart = true then Out.ex C else if hallD (.list ((Txt.split t sc).map procTold)) = true then .ok (.list ((Txt.split t sc).map procTold)) else .ex C) = .ok d := h
  split at h
  · cases h
  · rename_i hb
    split at h
    · rename_i hh
      cases h
      refine ⟨_, rfl, hh, ?_⟩
      have e2 : ∀ l : List Str, (∀ p ∈ l, procD (procTold p) = true ∧ badPart p = false) → (l.map procTold).map procT = l := by
        intro l
        induction l with
        | nil => intro _; rfl
        | cons x r ih =>
          intro hl
          rw [List.map_cons, List.map_cons, ih fun p hp => hl p (List.mem_cons_of_mem _ hp), proc_word (hl x List.mem_cons_self).1 (hl x List.mem_cons_self).2]
      unfold fmtH
      rw [e2 _ fun p hp => ⟨(hall_procs hh).1 _ (List.mem_map_of_mem (f := procTold) hp), by
        cases q : badPart p with
        | false => rfl
        | true => exact absurd (List.any_eq_true.mpr ⟨p, hp, q⟩) hb⟩]
      exact join_split sc_ne low_sc
    · cases h
end PT
/-! text * number; is not True -/
namespace L2
open PySem PySem.Spec PyProof.Rows TL
def rMulS : R2 := fun x y H Q => ∃ (z : Str) (n : Int), x = .str z ∧ y = .int n ∧ MulOk z n ∧ Q (.str (Txt.mul z n)) H
theorem op_mul_str {X : Cx} : OpR X (binaryOp .Mult) rMulS := by
  intro pins s σ H x y v u Q I rx ry h
  obtain ⟨z, n, rfl, rfl, hok, q⟩ := h
  obtain ⟨t, rfl⟩ := rx
  obtain ⟨t', rfl⟩ := ry
  exact SB.mul hok fun t2 k => ⟨.str (Txt.mul z n), H, I.tok k, ⟨_, rfl⟩, q⟩
theorem mul_one {z : Str} {c : Nat} {n : Nat} (h : tl z = [c]) (hn : 2 ≤ n) : tl (Txt.mul z (n : Int)) = List.replicate n c := by
  have hl : z.length = 1 := by rw [len_tl, h]; rfl
  unfold Txt.mul
  rw [if_neg (by omega), if_neg (by rw [hl]; simp; omega)]
  have key : ∀ (m : Nat) (a : Array Nat), ((List.replicate m z.cps).foldl (· ++ ·) a).toList = a.toList ++ List.replicate m c := by
    intro m
    induction m with
    | zero => intro a; simp
    | succ m ih =>
      intro a
      rw [List.replicate_succ, List.foldl_cons, ih, Array.toList_append, show z.cps.toList = [c] from h, List.replicate_succ, List.append_assoc]
      rfl
  show ((List.replicate ((n : Int)).toNat z.cps).foldl (· ++ ·) #[]).toList = _
  rw [Int.toNat_natCast, key]
  rfl
end L2
namespace DL
open PySem PySem.Spec PyProof.Rows L2 DA TL
section
variable {c : DC} {ρ : DEnv} {ta tb : TE}
theorem ed_mulS {z : Str} {n : Int} (ha : ED c ta ρ (.str z)) (hb : ED c tb ρ (.int n)) (hok : MulOk z n) : ED c (tOp rMulS ta tb) ρ (.str (Txt.mul z n)) :=
  ed_op ha hb fun A σ H v w s h1 h2 Q q => ⟨z, n, dp_str h1, dp_int h2, hok, q _ H .refl (.str _)⟩
theorem ed_notB {a b : Bool} (ha : ED c ta ρ (.bool a)) (hb : ED c tb ρ (.bool b)) : ED c (tOp rNotB ta tb) ρ (.bool (!decide (a = b))) :=
  ed_op ha hb fun A σ H v w s h1 h2 Q q => ⟨a, b, dp_bool h1, dp_bool h2, q _ H .refl (.bl _)⟩
end
end DL
namespace PT
open PySem PySem.Spec PyProof.Rows L2 DA DL TR TL
/-! ### texts that are rejected -/
def deedT' (l : List Nat) : PD := match par [32] [] l with | some (a, b) => .tuple [.str ⟨a.toArray⟩, encO (numW b)] | none => .tuple [.str ⟨l.toArray⟩, encO (numW [])]
def toldP' (l : List Nat) : List PD := if l = [] then [] else (spl [44, 32] 0 [] l).map deedT'
def badPart' (l : List Nat) : Bool := (par [58, 32] [] l).isNone
def procTold' (l : List Nat) : PD := match par [58, 32] [] l with | some (a, b) => .tuple [encO (numW a), .list (toldP' b)] | none => .tuple [encO (numW l), .list (toldP' [])]
def pPd : PD → Bool
  | .str t => K11.progD (.list (toldP' (tl t)))
  | _ => false
def pHd : PD → Bool
  | .str t => !(spl [59, 32] 0 [] (tl t)).any badPart' && hallD (.list ((spl [59, 32] 0 [] (tl t)).map procTold'))
  | _ => false
theorem deedT_eq (p : Str) : deedT p = deedT' (tl p) := by
  unfold deedT deedT'
  rw [partition_par p sp sp_ne, tl_sp]
  cases par [32] [] (tl p) with
  | none =>
    show PyData.tuple [.str p, encO (numW (tl Str.empty))] = .tuple [.str ⟨(tl p).toArray⟩, encO (numW [])]
    rw [mk_tl]
    rfl
  | some q => rfl
theorem toldP_eq (t : Str) : toldP t = toldP' (tl t) := by
  unfold toldP toldP'
  by_cases h : t = ""
  · subst h
    rfl
  · rw [if_neg h, if_neg (fun z => h (ext_tl (z.trans rfl))), ← tl_cm, ← split_tl cm_ne low_cm, List.map_map]
    exact List.map_congr_left fun p _ => deedT_eq p
theorem procTold_eq (p : Str) : procTold p = procTold' (tl p) ∧ badPart p = badPart' (tl p) := by
  unfold procTold procTold' badPart badPart'
  rw [partition_par p co co_ne, tl_co]
  cases par [58, 32] [] (tl p) with
  | none =>
    refine ⟨?_, rfl⟩
    show PyData.tuple [encO (numW (tl p)), .list (toldP Str.empty)] = _
    rw [toldP_eq]
    rfl
  | some q =>
    refine ⟨?_, show decide (co = "") = false by decide⟩
    show PyData.tuple [encO (numW q.1), .list (toldP ⟨q.2.toArray⟩)] = _
    rw [toldP_eq]
theorem parseP_ex {C : Addr} {d : PD} (h : pPd d = false) : parseP C d = .ex C := by
  unfold parseP
  split
  · rename_i t
    rw [toldP_eq, if_neg (by rw [show K11.progD (.list (toldP' (tl t))) = false from h]; decide)]
  · rfl
theorem parseH_ex {C : Addr} {d : PD} (h : pHd d = false) : parseH C d = .ex C := by
  unfold parseH
  split
  · rename_i t
    have e1 : (Txt.split t sc).any badPart = (spl [59, 32] 0 [] (tl t)).any badPart' := by
      rw [← tl_sc, ← split_tl sc_ne low_sc, List.any_map]
      exact congrArg (fun f => (Txt.split t sc).any f) (funext fun p => (procTold_eq p).2)
    have e2 : (Txt.split t sc).map procTold = (spl [59, 32] 0 [] (tl t)).map procTold' := by
      rw [← tl_sc, ← split_tl sc_ne low_sc, List.map_map]
      exact List.map_congr_left fun p _ => (procTold_eq p).1
    rw [e1, e2]
    have h : (!(spl [59, 32] 0 [] (tl t)).any badPart' && hallD (.list ((spl [59, 32] 0 [] (tl t)).map procTold'))) = false := h
    split
    · rfl
    · rename_i q
      rw [if_neg (fun z => by
        rw [z] at h
        cases y : (spl [59, 32] 0 [] (tl t)).any badPart' with
        | true => exact q y
        | false => rw [y] at h; cases h)]
  · rfl
def lenOk : PD → Bool
  | .str t => decide (t.length ≤ 890)
  | _ => true
theorem len_ok {d : PD} (h : lenOk d = true) : ∀ t, d = .str t → okT t ∧ okH t := fun t e => by
  subst e
  have h := of_decide_eq_true h
  exact ⟨okT_of h, okH_of h⟩
def oddL : List PD := ([.none, .int 5, .str "", .str "0", .str "0:", .str "0:work 1", .str "00: work 1", .str "100: work 1"] : List PD) ++ ([.str "0: work 01", .str "0: work 0", .str "0: work 100", .str "0: work", .str "0: works 1", .str "0: take 2", .str "0: take 0", .str "0: give 0"] : List PD) ++ ([.str "0: take 0, sleep 1, give 0", .str "0: work 1,work 2", .str "0: work 1; ", .str "0: work 1;1: work 1", .str "-1: work 1", .str " 0: work 1", .list [.str "0: work 1"], .str "0: ; 0: ; 0: ; 0: ; 0: "] : List PD)
def loneL : List PD := ([.str "work 1 ", .str "work 1, ", .str " ", .str "work 1; work 2", .str "take 0", .str "work +1", .none, .int 7] : List PD) ++ ([.list [.str "work 1"], .str "0: work 1"] : List PD)
def oddT : List PD := [.str "0: work 1\n", .str "0: work 1;\n1: ", .str "0:\twork 1"]
theorem odd_ok : (oddL.all fun d => lenOk d && !pHd d) = true := by decide +kernel
theorem lone_ok : (loneL.all fun d => lenOk d && !pPd d) = true := by decide +kernel
theorem oddT_ok : (oddT.all fun d => lenOk d && !pHd d) = true := by decide +kernel
/-- many signs -/
abbrev one : Str := "1"
theorem tl_one : tl one = [49] := by rw [tl_ofString]; decide
def Long (longT : Str) : Prop := tl longT = List.replicate 4000 49
theorem long_mul : Long (Txt.mul one 4000) := mul_one (n := 4000) tl_one (by decide)
section
variable {longT : Str} (hL : Long longT)
include hL
theorem long_len : longT.length = 4000 := by rw [len_tl, show tl longT = _ from hL, List.length_replicate]
theorem numW_long : numW (tl longT) = none := by
  unfold numW
  rw [if_neg]
  rw [show tl longT = _ from hL, List.length_replicate]
  omega
theorem long_free {s : Nat} (h : s ≠ 49) : s ∉ tl longT := by
  rw [show tl longT = _ from hL]
  intro z
  exact h (List.eq_of_mem_replicate z)
abbrev hd1 : Str := "0: work "
abbrev hd2 : Str := "work "
omit hL in
theorem tl_hd1 : tl hd1 = [48, 58, 32, 119, 111, 114, 107, 32] := by rw [tl_ofString]; decide
omit hL in
theorem tl_hd2 : tl hd2 = [119, 111, 114, 107, 32] := by rw [tl_ofString]; decide
omit hL in
theorem free_app {x y : Str} {s : Nat} (h1 : s ∉ tl x) (h2 : s ∉ tl y) : s ∉ tl (x ++ y) := by
  rw [tl_append]
  intro z
  exact (List.mem_append.mp z).elim h1 h2
omit hL in
theorem hd2_split : hd2 = ("work" : Str) ++ sp := ext_tl (by rw [tl_append, tl_hd2, tl_sp, tl_ofString]; decide)
omit hL in
theorem hd1_split : hd1 = (("0" : Str) ++ co) ++ hd2 := ext_tl (by rw [tl_append, tl_append, tl_hd1, tl_hd2, tl_co, tl_ofString]; decide)
theorem work_long : toldP (hd2 ++ longT) = [.tuple [.str "work", .none]] := by
  unfold toldP
  rw [if_neg (fun z => by
    have e := congrArg Str.length z
    rw [app_len, long_len hL] at e
    have : ("" : Str).length = 0 := rfl
    omega), split_one (y := cm) (s := 44) (S := [32]) tl_cm low_cm (free_app (by rw [tl_hd2]; decide) (long_free hL (by decide)))]
  show [deedT (hd2 ++ longT)] = _
  unfold deedT
  rw [hd2_split, partition_app (y := sp) (s := 32) (S := []) tl_sp (by rw [tl_ofString]; decide)]
  show [PyData.tuple [.str "work", encO (numW (tl longT))]] = _
  rw [numW_long hL]
  rfl
theorem okT_long : okT (hd2 ++ longT) := by
  refine ⟨by rw [app_len, long_len hL]; decide, ?_, fun p hp => ?_⟩
  · rw [split_one (y := cm) (s := 44) (S := [32]) tl_cm low_cm (free_app (by rw [tl_hd2]; decide) (long_free hL (by decide)))]
    simp
  · have h1 := split_part cm_ne low_cm hp
    have h2 := (part_len (x := p) sp_ne).2
    have h3 : (hd2 ++ longT).length ≤ 4100 := by rw [app_len, long_len hL]; decide
    exact ⟨by omega, by omega⟩
theorem pP_long {C : Addr} : parseP C (.str (hd2 ++ longT)) = .ex C := by
  show (if K11.progD (.list (toldP (hd2 ++ longT))) = true then Out.ok (.list (toldP (hd2 ++ longT))) else .ex C) = _
  rw [work_long hL, if_neg (by decide +kernel)]
omit hL in
theorem okX_of {t : Str} (h1 : t.length ≤ 5000) (h2 : 44 ∉ tl t) (h3 : 59 ∉ tl t) : okT t ∧ okH t := by
  have key : ∀ {u : Str}, u.length ≤ 5000 → (Txt.split u cm).length ≤ 900 → okT u := fun {u} l1 l2 => ⟨by omega, l2, fun p hp => by
    have g1 := split_part cm_ne low_cm hp
    have g2 := (part_len (x := p) sp_ne).2
    exact ⟨by omega, by omega⟩⟩
  refine ⟨key h1 (by rw [split_one (y := cm) (s := 44) (S := [32]) tl_cm low_cm h2]; exact (by simp)), by omega, by rw [split_one (y := sc) (s := 59) (S := [32]) tl_sc low_sc h3]; exact (by simp), fun p hp => ?_⟩
  rw [split_one (y := sc) (s := 59) (S := [32]) tl_sc low_sc h3] at hp
  have e : p = t := by simpa using hp
  subst e
  obtain ⟨g1, g2⟩ := part_len (x := p) co_ne
  refine ⟨by omega, by omega, key (by omega) ?_⟩
  have f2 : 44 ∉ tl (Txt.partition p co).2.2 := by
    rcases part_eq (x := p) co_ne with ⟨_, e⟩ | e
    · intro z
      refine h2 ?_
      rw [← e, tl_append]
      exact List.mem_append_right _ z
    · rw [e]
      intro z
      cases z
  rw [split_one (y := cm) (s := 44) (S := [32]) tl_cm low_cm f2]
  simp
theorem pH_long1 {C : Addr} : parseH C (.str (hd1 ++ longT)) = .ex C := by
  have es : Txt.split (hd1 ++ longT) sc = [hd1 ++ longT] := split_one (y := sc) (s := 59) (S := [32]) tl_sc low_sc (free_app (by rw [tl_hd1]; decide) (long_free hL (by decide)))
  have ea : hd1 ++ longT = (("0" : Str) ++ co) ++ (hd2 ++ longT) := ext_tl (by rw [hd1_split]; simp only [tl_append, List.append_assoc])
  have ep : Txt.partition (hd1 ++ longT) co = (("0" : Str), co, hd2 ++ longT) := by
    rw [ea]
    exact partition_app (y := co) (s := 58) (S := [32]) tl_co (by rw [tl_ofString]; decide)
  show (if (Txt.split (hd1 ++ longT) sc).any badPart = true then Out.ex C else if hallD (.list ((Txt.split (hd1 ++ longT) sc).map procTold)) = true then .ok (.list ((Txt.split (hd1 ++ longT) sc).map procTold)) else .ex C) = _
  rw [es]
  show (if (badPart (hd1 ++ longT) || false) = true then Out.ex C else if hallD (.list [procTold (hd1 ++ longT)]) = true then .ok (.list [procTold (hd1 ++ longT)]) else .ex C) = _
  have e1 : procTold (hd1 ++ longT) = .tuple [encO (numW (tl ("0" : Str))), .list [.tuple [.str "work", .none]]] := by
    unfold procTold
    rw [ep]
    show PyData.tuple [encO (numW (tl ("0" : Str))), .list (toldP (hd2 ++ longT))] = _
    rw [work_long hL]
  have e2 : hallD (.list [procTold (hd1 ++ longT)]) = false := by
    rw [e1]
    show (decide (1 ≤ 1) && decide (1 ≤ 4) && (procD (.tuple [encO (numW (tl ("0" : Str))), .list [.tuple [.str "work", .none]]]) && true)) = false
    show (decide (1 ≤ 1) && decide (1 ≤ 4) && ((K11.numD (encO (numW (tl ("0" : Str)))) 0 99 && K11.progD (.list [.tuple [.str "work", .none]])) && true)) = false
    rw [show K11.progD (.list [.tuple [.str "work", .none]]) = false by decide +kernel, Bool.and_false]
    rfl
  rw [e2]
  split
  · rfl
  · rfl
theorem pH_long2 {C : Addr} : parseH C (.str (longT ++ co)) = .ex C := by
  have es : Txt.split (longT ++ co) sc = [longT ++ co] := split_one (y := sc) (s := 59) (S := [32]) tl_sc low_sc (free_app (long_free hL (by decide)) (by rw [tl_co]; decide))
  have ea : longT ++ co = (longT ++ co) ++ ("" : Str) := ext_tl (by rw [tl_append (longT ++ co)]; show _ = _ ++ []; rw [List.append_nil])
  have ep : Txt.partition (longT ++ co) co = (longT, co, ("" : Str)) := by
    rw [ea]
    exact partition_app (y := co) (s := 58) (S := [32]) tl_co (long_free hL (by decide))
  show (if (Txt.split (longT ++ co) sc).any badPart = true then Out.ex C else if hallD (.list ((Txt.split (longT ++ co) sc).map procTold)) = true then .ok (.list ((Txt.split (longT ++ co) sc).map procTold)) else .ex C) = _
  rw [es]
  show (if (badPart (longT ++ co) || false) = true then Out.ex C else if hallD (.list [procTold (longT ++ co)]) = true then .ok (.list [procTold (longT ++ co)]) else .ex C) = _
  have e2 : hallD (.list [procTold (longT ++ co)]) = false := by
    unfold procTold
    rw [ep]
    show (decide (1 ≤ 1) && decide (1 ≤ 4) && ((K11.numD (encO (numW (tl longT))) 0 99 && K11.progD (.list (toldP ""))) && true)) = false
    rw [numW_long hL]
    rfl
  rw [e2]
  split
  · rfl
  · rfl
end
def R_law_rejected : List DS → PD → Prop := fun ss d => ss = [] ∧ d = .bool true
theorem sh_texts (n : Nat) : SeqAt.shaped (.list (List.replicate n (.str "text"))) = true := shaped_listOf (n := 1) (fun d hd => by
  rw [List.eq_of_mem_replicate hd]
  exact ⟨by decide +kernel, by decide⟩) (by decide)
theorem all_text {l : List PD} {f : PD → PD} (h : ∀ d ∈ l, f d = .str "text") : (l.filter fun _ => true).map f = List.replicate l.length (.str "text") := by
  rw [List.filter_eq_self.mpr fun _ _ => rfl]
  induction l with
  | nil => rfl
  | cons a r ih =>
    rw [List.map_cons, h a List.mem_cons_self, ih fun d hd => h d (List.mem_cons_of_mem _ hd)]
    rfl
theorem both_of {l : List PD} {p : PD → Bool} (h : (l.all fun d => lenOk d && !p d) = true) {d : PD} (hd : d ∈ l) : lenOk d = true ∧ p d = false := by
  obtain ⟨h1, h2⟩ := Bool.and_eq_true_iff.mp (List.all_eq_true.mp h d hd)
  exact ⟨h1, by cases q : p d with | false => rfl | true => rw [q] at h2; cases h2⟩
abbrev sRej : Stmt := top 41
abbrev nRej : List Str := ["_law_odd", "_law_lone", "_law_bad", "_law_long"]
theorem scRej : FnScope nRej [] (defScope sRej) := ⟨rfl, rfl, rfl, by decide +kernel, rfl, by decide +kernel, by decide +kernel⟩
section
variable {P : Program} {w : World} {K : PySem.W.Frag} {mg : Str → Option Value} {base : Heap} {f : Addr} {fd : FuncData} {T : List Addr}
theorem eqv_same {d : PD} (h : SeqAt.shaped d = true) : PyData.eqv d d = true := SeqAt.eqv_refl d (Bool.and_eq_true_iff.mp h).1
theorem ok__law_rejected {C : Addr} (F : Fun K "_law_rejected" "_law_rejected" sRej f fd) (G : Glob K mg) {fL : Addr} {dL : FuncData} (c__law_parsed : Cal P w K mg base "_law_parsed" 9 ["_law_kind", "_law_text"] (spD K T (R_law_parsed C)) fL dL) : FnOk P w K mg base CX0 10 f fd [] (spD K T R_law_rejected) := by
  refine fn_sd F scRej (fun ss d h => ?_) (fun cdv A outer s H E hr => ⟨_, (pss_cons (ps_set (i := 0) scRej.nd rfl (.inl rfl) (pe_lst (pa_cons pe_non (pa_cons pe_int (pa_cons pe_str (pa_cons pe_str (pa_cons pe_str (pa_cons pe_str (pa_cons pe_str (pa_cons pe_str (pa_cons pe_str (pa_cons pe_str (pa_cons pe_str (pa_cons pe_str (pa_cons pe_str (pa_cons pe_str (pa_cons pe_str (pa_cons pe_str (pa_cons pe_str (pa_cons pe_str (pa_cons pe_str (pa_cons pe_str (pa_cons pe_str (pa_cons pe_str (pa_cons (pe_lst (pa_cons pe_str pa_nil)) (pa_cons pe_str pa_nil))))))))))))))))))))))))))
      (pss_cons (ps_set (i := 1) scRej.nd rfl (.inl rfl) (pe_lst (pa_cons pe_str (pa_cons pe_str (pa_cons pe_str (pa_cons pe_str (pa_cons pe_str (pa_cons pe_str (pa_cons pe_non (pa_cons pe_int (pa_cons (pe_lst (pa_cons pe_str pa_nil)) (pa_cons pe_str pa_nil))))))))))))
      (pss_cons (ps_if (PW.pt (pw_or (pt_cmpR (op_neD hr.units) (pe_lc (own := [("_law_bad", 2)]) (g := (gName 2)) (tt := tYes) (te := (tCall (spD K T (R_law_parsed C)) [] E0 (tCons (tC (.int 0)) (tCons (tVar 2) tNil)))) rfl scRej.nd (pi_list (pv 0)) (blkOk_by (N := nRej) (sc := defScope sRej) (by decide +kernel)) (fun _ _ _ _ _ => (pg_name (i := 2) scRej.nd rfl (.inl rfl))) (fun _ _ _ _ _ => pts_nil) (fun _ _ _ _ _ => (pe_call c__law_parsed.ok (hr.mono (by decide)) (by rfl) c__law_parsed.g c__law_parsed.kp c__law_parsed.b .nil pass0 (pa_cons pe_int (pa_cons (pv 2) pa_nil))))) (pe_op op_rep (pe_lst (pa_cons pe_str pa_nil)) pe_int) (nomark _)) (pw_or1 (pt_cmpR (op_neD hr.units) (pe_lc (own := [("_law_bad", 2)]) (g := (gName 2)) (tt := tYes) (te := (tCall (spD K T (R_law_parsed C)) [] E0 (tCons (tC (.int 1)) (tCons (tVar 2) tNil)))) rfl scRej.nd (pi_list (pv 1)) (blkOk_by (N := nRej) (sc := defScope sRej) (by decide +kernel)) (fun _ _ _ _ _ => (pg_name (i := 2) scRej.nd rfl (.inl rfl))) (fun _ _ _ _ _ => pts_nil) (fun _ _ _ _ _ => (pe_call c__law_parsed.ok (hr.mono (by decide)) (by rfl) c__law_parsed.g c__law_parsed.kp c__law_parsed.b .nil pass0 (pa_cons pe_int (pa_cons (pv 2) pa_nil))))) (pe_op op_rep (pe_lst (pa_cons pe_str pa_nil)) pe_int) (nomark _))))) (pss_one (ps_ret pe_bl)) pss_nil)
      (pss_cons (ps_if (pt_cmpR (op_neD hr.units) (pe_op op_catL (pe_lc (own := [("_law_bad", 2)]) (g := (gName 2)) (tt := tYes) (te := (tCall (spD K T (R_law_parsed C)) [] E0 (tCons (tC (.int 0)) (tCons (tVar 2) tNil)))) rfl scRej.nd (pi_tup (pe_tup (pa_cons pe_str (pa_cons pe_str (pa_cons pe_str pa_nil))))) (blkOk_by (N := nRej) (sc := defScope sRej) (by decide +kernel)) (fun _ _ _ _ _ => (pg_name (i := 2) scRej.nd rfl (.inl rfl))) (fun _ _ _ _ _ => pts_nil) (fun _ _ _ _ _ => (pe_call c__law_parsed.ok (hr.mono (by decide)) (by rfl) c__law_parsed.g c__law_parsed.kp c__law_parsed.b .nil pass0 (pa_cons pe_int (pa_cons (pv 2) pa_nil))))) (pe_lst (pa_cons (pe_call c__law_parsed.ok (hr.mono (by decide)) (by rfl) c__law_parsed.g c__law_parsed.kp c__law_parsed.b .nil pass0 (pa_cons pe_int (pa_cons pe_str pa_nil))) pa_nil))) (pe_op op_rep (pe_lst (pa_cons pe_str pa_nil)) pe_int) (nomark _)) (pss_one (ps_ret pe_bl)) pss_nil)
      (pss_cons (ps_set (i := 3) scRej.nd rfl (.inl rfl) (pe_op op_mul_str pe_str pe_int))
      (pss_cons (ps_if (pt_cmpR (op_neD hr.units) (pe_lst (pa_cons (pe_call c__law_parsed.ok (hr.mono (by decide)) (by rfl) c__law_parsed.g c__law_parsed.kp c__law_parsed.b .nil pass0 (pa_cons pe_int (pa_cons (pe_op op_add_str pe_str (pv 3)) pa_nil))) (pa_cons (pe_call c__law_parsed.ok (hr.mono (by decide)) (by rfl) c__law_parsed.g c__law_parsed.kp c__law_parsed.b .nil pass0 (pa_cons pe_int (pa_cons (pe_op op_add_str (pv 3) pe_str) pa_nil))) (pa_cons (pe_call c__law_parsed.ok (hr.mono (by decide)) (by rfl) c__law_parsed.g c__law_parsed.kp c__law_parsed.b .nil pass0 (pa_cons pe_int (pa_cons (pe_op op_add_str pe_str (pv 3)) pa_nil))) pa_nil)))) (pe_op op_rep (pe_lst (pa_cons pe_str pa_nil)) pe_int) (nomark _)) (pss_one (ps_ret pe_bl)) pss_nil)
      (pss_one (ps_ret (pe_and (pe_cmpR (op_eqD hr.units) (pe_call c__law_parsed.ok (hr.mono (by decide)) (by rfl) c__law_parsed.g c__law_parsed.kp c__law_parsed.b .nil pass0 (pa_cons pe_int (pa_cons pe_str pa_nil))) (pe_lst (pa_cons (pe_tup (pa_cons pe_int (pa_cons (pe_lst pa_nil) pa_nil))) pa_nil)) (nomark _)) (pe_and (pe_cmpR (op_eqD hr.units) (pe_call c__law_parsed.ok (hr.mono (by decide)) (by rfl) c__law_parsed.g c__law_parsed.kp c__law_parsed.b .nil pass0 (pa_cons pe_int (pa_cons pe_str pa_nil))) (pe_lst pa_nil) (nomark _)) (pe_one (pe_cmpR (op_eqD hr.units) (pe_call c__law_parsed.ok (hr.mono (by decide)) (by rfl) c__law_parsed.g c__law_parsed.kp c__law_parsed.b .nil pass0 (pa_cons pe_int (pa_cons pe_str pa_nil))) (pe_lst (pa_cons (pe_tup (pa_cons pe_str (pa_cons pe_int pa_nil))) pa_nil)) (nomark _))))))))))))), fun M H0 ss d h => ?_⟩)
  · obtain ⟨rfl, rfl⟩ := h
    rfl
  · obtain ⟨rfl, rfl⟩ := h
    have t24 : (24 : Nat) = oddL.length := rfl
    refine sd_seq (sd_set (d := .list oddL) (ed_en (en_lst (ds := oddL) (ea_d ed_non (ea_d ed_int (ea_d ed_str (ea_d ed_str (ea_d ed_str (ea_d ed_str (ea_d ed_str (ea_d ed_str (ea_d ed_str (ea_d ed_str (ea_d ed_str (ea_d ed_str (ea_d ed_str (ea_d ed_str (ea_d ed_str (ea_d ed_str (ea_d ed_str (ea_d ed_str (ea_d ed_str (ea_d ed_str (ea_d ed_str (ea_d ed_str (ea_d (ed_en (en_lst (ds := [.str "0: work 1"]) (ea_d ed_str ea_nil) (by decide))) (ea_d ed_str ea_nil)))))))))))))))))))))))) (by decide))) ?_)
    refine sd_seq (sd_set (d := .list loneL) (ed_en (en_lst (ds := loneL) (ea_d ed_str (ea_d ed_str (ea_d ed_str (ea_d ed_str (ea_d ed_str (ea_d ed_str (ea_d ed_non (ea_d ed_int (ea_d (ed_en (en_lst (ds := [.str "work 1"]) (ea_d ed_str ea_nil) (by decide))) (ea_d ed_str ea_nil)))))))))) (by decide))) ?_)
    have rep : ∀ (n : Nat) {ρ : DEnv}, n ≤ 100 → ED ⟨K, T, M, H0⟩ (tOp rRep (tLst (tCons (tC (.str "text")) tNil)) (tC (.int (n : Int)))) ρ (.list (List.replicate n (.str "text"))) := fun n {ρ} hn =>
      ed_en (en_is (en_rep (xs := [.str "text"]) (k := n) (en_lst (ds := [.str "text"]) (ea_d ed_str ea_nil) (by decide)) ed_int (by simp; omega) (by omega)) (rep_one n _))
    have pH : ∀ {ρ : DEnv} {te : TE} {e : PD}, ED ⟨K, T, M, H0⟩ te ρ e → (∀ t, e = .str t → okT t ∧ okH t) → parseH C e = .ex C → ED ⟨K, T, M, H0⟩ (tCall (spD K T (R_law_parsed C)) [] E0 (tCons (tC (.int 0)) (tCons te tNil))) ρ (.str "text") := fun {ρ te e} h1 h2 h3 =>
      ed_call (ea_d ed_int (ea_d h1 ea_nil)) ⟨0, e, h2, rfl, by rw [if_pos rfl, h3]; rfl⟩
    have pP : ∀ {ρ : DEnv} {te : TE} {e : PD}, ED ⟨K, T, M, H0⟩ te ρ e → (∀ t, e = .str t → okT t ∧ okH t) → parseP C e = .ex C → ED ⟨K, T, M, H0⟩ (tCall (spD K T (R_law_parsed C)) [] E0 (tCons (tC (.int 1)) (tCons te tNil))) ρ (.str "text") := fun {ρ te e} h1 h2 h3 =>
      ed_call (ea_d ed_int (ea_d h1 ea_nil)) ⟨1, e, h2, rfl, by rw [if_neg (by decide), h3]; rfl⟩
    have ne : ∀ {ρ : DEnv} {ta tb : TE} {n : Nat}, ED ⟨K, T, M, H0⟩ ta ρ (.list (List.replicate n (.str "text"))) → ED ⟨K, T, M, H0⟩ tb ρ (.list (List.replicate n (.str "text"))) → ET ⟨K, T, M, H0⟩ (tTest (tOp (rNeD K) ta tb)) ρ false := fun {ρ ta tb n} h1 h2 =>
      et_is (et_test (ed_neD h1 h2 (sh_texts n) (sh_texts n))) (by rw [eqv_same (sh_texts n)]; rfl)
    have lcH : ∀ {ρ : DEnv} {wi : TI} {l : List PD}, 2 < ρ.length → ID ⟨K, T, M, H0⟩ wi ρ l → l.length ≤ 100 → (l.all fun d => lenOk d && !pHd d) = true → EN ⟨K, T, M, H0⟩ (tLc wi (gName 2) tYes (tCall (spD K T (R_law_parsed C)) [] E0 (tCons (tC (.int 0)) (tCons (tVar 2) tNil))) [2]) ρ (List.replicate l.length (.str "text")) := fun {ρ wi l} hρ hi hz hl =>
      en_is (en_lc (js := [2]) (fun _ => true) (fun d => told (parseH C d)) hi (by omega) (by decide) (fun d hd H1 _ => by
        obtain ⟨h1, h2⟩ := both_of hl hd
        refine ⟨[d], tg_name, et_yes, fun _ => ?_⟩
        have e3 : ((wipeD ρ [2]).set 2 (.dat d))[2]? = some (.dat d) := List.getElem?_set_self (by show 2 < (ρ.set 2 .non).length; rw [List.length_set]; exact hρ)
        exact ed_call (ea_d ed_int (ea_d (ed_var e3) ea_nil)) ⟨0, d, len_ok h1, rfl, by rw [if_pos rfl]⟩)) (all_text fun d hd => by rw [parseH_ex (both_of hl hd).2]; rfl)
    have lcP : ∀ {ρ : DEnv} {wi : TI} {l : List PD}, 2 < ρ.length → ID ⟨K, T, M, H0⟩ wi ρ l → l.length ≤ 100 → (l.all fun d => lenOk d && !pPd d) = true → EN ⟨K, T, M, H0⟩ (tLc wi (gName 2) tYes (tCall (spD K T (R_law_parsed C)) [] E0 (tCons (tC (.int 1)) (tCons (tVar 2) tNil))) [2]) ρ (List.replicate l.length (.str "text")) := fun {ρ wi l} hρ hi hz hl =>
      en_is (en_lc (js := [2]) (fun _ => true) (fun d => told (parseP C d)) hi (by omega) (by decide) (fun d hd H1 _ => by
        obtain ⟨h1, h2⟩ := both_of hl hd
        refine ⟨[d], tg_name, et_yes, fun _ => ?_⟩
        have e3 : ((wipeD ρ [2]).set 2 (.dat d))[2]? = some (.dat d) := List.getElem?_set_self (by show 2 < (ρ.set 2 .non).length; rw [List.length_set]; exact hρ)
        exact ed_call (ea_d ed_int (ea_d (ed_var e3) ea_nil)) ⟨1, d, len_ok h1, rfl, by rw [if_neg (by decide)]⟩)) (all_text fun d hd => by rw [parseP_ex (both_of hl hd).2]; rfl)
    refine sd_seq (sd_when (b := false || false) (et_or (ne (n := 24) (ed_en (lcH (l := oddL) (by decide) (id_list (ed_var rfl)) (by decide) odd_ok)) (rep 24 (by decide))) fun _ => ne (n := 10) (ed_en (lcP (l := loneL) (by decide) (id_list (ed_var rfl)) (by decide) lone_ok)) (rep 10 (by decide))) (fun z => by cases z) fun _ => ?_)
    refine sd_seq (sd_when (b := false) (ne (n := 4) (ed_en (en_is (en_catL (xs := List.replicate 3 (.str "text")) (ys := [.str "text"]) (en_el (lcH (l := oddT) (by decide) (id_tup (ed_tup (ds := oddT) (ea_d ed_str (ea_d ed_str (ea_d ed_str ea_nil))) (by decide))) (by decide) oddT_ok)) (en_el (en_lst (ds := [.str "text"]) (ea_d (pP (e := .str "work 1\n") ed_str (len_ok (d := .str "work 1\n") (by decide +kernel)) (parseP_ex (by decide +kernel))) ea_nil) (by decide))) (by decide)) rfl)) (rep 4 (by decide))) (fun z => by cases z) fun _ => ?_)
    refine sd_seq (sd_set (d := .str (Txt.mul one 4000)) (ed_mulS (z := one) (n := 4000) ed_str ed_int ⟨by decide, fun _ _ => by decide +kernel, fun _ _ => by decide +kernel⟩) ?_)
    have hL := long_mul
    generalize Txt.mul one 4000 = longT at hL ⊢
    have lb : ∀ {x : Str}, x.length ≤ 10 → x.length + longT.length ≤ sizeLine ∧ longT.length + x.length ≤ sizeLine := fun {x} h => by rw [long_len hL]; exact ⟨big (by omega), big (by omega)⟩
    refine sd_seq (sd_when (b := false) (ne (n := 3) (ed_en (en_lst (ds := [.str "text", .str "text", .str "text"]) (ea_d (pH (e := .str (hd1 ++ longT)) (ed_addS ed_str (ed_var rfl) (lb (by decide)).1) (fun t e => by cases e; exact okX_of (by rw [app_len, long_len hL]; decide) (free_app (by rw [tl_hd1]; decide) (long_free hL (by decide))) (free_app (by rw [tl_hd1]; decide) (long_free hL (by decide)))) (pH_long1 hL))
      (ea_d (pH (e := .str (longT ++ co)) (ed_addS (ed_var rfl) ed_str (lb (by decide)).2) (fun t e => by cases e; exact okX_of (by rw [app_len, long_len hL]; decide) (free_app (long_free hL (by decide)) (by rw [tl_co]; decide)) (free_app (long_free hL (by decide)) (by rw [tl_co]; decide))) (pH_long2 hL))
      (ea_d (pP (e := .str (hd2 ++ longT)) (ed_addS ed_str (ed_var rfl) (lb (by decide)).1) (fun t e => by cases e; exact okX_of (by rw [app_len, long_len hL]; decide) (free_app (by rw [tl_hd2]; decide) (long_free hL (by decide))) (free_app (by rw [tl_hd2]; decide) (long_free hL (by decide)))) (pP_long hL)) ea_nil))) (by decide))) (rep 3 (by decide))) (fun z => by cases z) fun _ => ?_)
    have good0 : ∀ {ρ : DEnv} {n : Nat} {z : Str} {x : List PD}, lenOk (.str z) = true → told (if n = 0 then parseH C (.str z) else parseP C (.str z)) = .list x → ED ⟨K, T, M, H0⟩ (tCall (spD K T (R_law_parsed C)) [] E0 (tCons (tC (.int (n : Int))) (tCons (tC (.str z)) tNil))) ρ (.list x) := fun {ρ n z x} h1 h2 =>
      ed_call (ea_d ed_int (ea_d ed_str ea_nil)) ⟨n, .str z, len_ok h1, rfl, h2.symm⟩
    have g1 : parseH C (.str "0: ") = .ok (.list [.tuple [.int 0, .list []]]) := parseH_fmt (C := C) (hs := [.tuple [.int 0, .list []]]) (by decide +kernel)
    have g2 : parseP C (.str "") = .ok (.list []) := parseP_fmt (C := C) (ds := []) (by decide +kernel)
    have g3 : parseP C (.str "work 99") = .ok (.list [.tuple [.str "work", .int 99]]) := by
      have e : fmtP [.tuple [.str "work", .int 99]] = "work 99" := by
        refine ext_tl ?_
        unfold fmtP
        rw [join_eq, tl_join]
        show tl (wordT (.tuple [.str "work", intD 99])) = _
        rw [word_eq, emp_app, tl_append, tl_append, tl_strN, tl_sp, tl_ofString, tl_ofString, numL_step (by decide), numL_lt (by decide)]
        decide
      rw [← e]
      exact parseP_fmt (by decide +kernel)
    have eqD : ∀ {ρ : DEnv} {ta tb : TE} {x : PD}, ED ⟨K, T, M, H0⟩ ta ρ x → ED ⟨K, T, M, H0⟩ tb ρ x → SeqAt.shaped x = true → ED ⟨K, T, M, H0⟩ (tOp (rEqD K) ta tb) ρ (.bool true) := fun {ρ ta tb x} h1 h2 h3 => ed_is (ed_eqD h1 h2 h3 h3) (by rw [eqv_same h3])
    refine sd_ret (d := .bool (true && (true && true))) (ed_andV (eqD (x := .list [.tuple [.int 0, .list []]]) (good0 (n := 0) (by decide +kernel) (by rw [if_pos rfl, g1]; rfl)) (ed_en (en_lst (ds := [.tuple [.int 0, .list []]]) (ea_d (ed_tup (ds := [.int 0, .list []]) (ea_d ed_int (ea_d (ed_en (en_lst (ds := []) ea_nil (by decide))) ea_nil)) (by decide)) ea_nil) (by decide))) (by decide +kernel)) fun _ =>
      ed_andV (eqD (x := .list []) (good0 (n := 1) (by decide +kernel) (by rw [if_neg (by decide), g2]; rfl)) (ed_en (en_lst (ds := []) ea_nil (by decide))) (by decide)) fun _ =>
      eqD (x := .list [.tuple [.str "work", .int 99]]) (good0 (n := 1) (by decide +kernel) (by rw [if_neg (by decide), g3]; rfl)) (ed_en (en_lst (ds := [.tuple [.str "work", .int 99]]) (ea_d (ed_tup (ds := [.str "work", .int 99]) (ea_d ed_str (ea_d ed_int ea_nil)) (by decide)) ea_nil) (by decide))) (by decide +kernel)) rfl
end
end PT
namespace PT
open PySem PySem.Spec PyProof.Rows L2 DA DL TR TL
/-! ### the law of the texts -/
def spLaw (K : PySem.W.Frag) (T : List Addr) : Sp := fun vs H Q _ => ∃ (a : Addr) (ns : List Int), vs = [.ref a] ∧ SqL K H a (ns.map V.int) ∧ ns.length ≤ 63 ∧ Tabs T H ∧ ∀ H', Q (.bl true) H'
def okX (d : PD) : Prop := ∃ (n : Nat) (b : List PD), n ≤ 99 ∧ K11.progD (.list b) = true ∧ b.length ≤ 10 ∧ d = .tuple [intD n, .list b]
theorem fmtP_10 {b : List PD} (h : K11.progD (.list b) = true) (hl : b.length ≤ 10) : (fmtP b).length ≤ 100 := by
  have hd := prog_deeds h
  have e2 : cm.length = 2 := by decide
  have s1 : ((b.map wordT).map (·.length)).sum ≤ b.length * 8 := by
    rw [List.map_map]
    exact sum_le fun x hx => word_len (hd x hx)
  refine Nat.le_trans (join_len _ _) ?_
  rw [List.length_map, e2]
  omega
theorem procX {d : PD} (h : okX d) : procD d = true ∧ (procT d).length ≤ 104 := by
  obtain ⟨n, b, hn, hb, hl, rfl⟩ := h
  refine ⟨?_, ?_⟩
  · show (K11.numD (.int (n : Int)) 0 99 && K11.progD (.list b)) = true
    rw [hb, Bool.and_true]
    show (decide ((0 : Int) ≤ (n : Int)) && decide ((n : Int) ≤ 99)) = true
    rw [decide_eq_true (by omega), decide_eq_true (by omega)]
    rfl
  · rw [proc_eq, app_len, app_len, app_len]
    have := strN_len hn
    have := fmtP_10 hb hl
    have e1 : Str.empty.length = 0 := rfl
    have e2 : co.length = 2 := by decide
    omega
theorem hallX {hs : List PD} (h1 : 1 ≤ hs.length) (h2 : hs.length ≤ 4) (h : ∀ d ∈ hs, okX d) : hallD (.list hs) = true ∧ (fmtH hs).length ≤ 424 := by
  refine ⟨?_, ?_⟩
  · show (decide (1 ≤ hs.length) && decide (hs.length ≤ 4) && hs.all procD) = true
    rw [decide_eq_true h1, decide_eq_true h2, List.all_eq_true.mpr fun d hd => (procX (h d hd)).1]
    rfl
  · have e2 : sc.length = 2 := by decide
    have s1 : ((hs.map procT).map (·.length)).sum ≤ hs.length * 104 := by
      rw [List.map_map]
      exact sum_le fun x hx => (procX (h x hx)).2
    refine Nat.le_trans (join_len _ _) ?_
    rw [List.length_map, e2]
    omega
theorem deed_lay {d : PD} (h : K11.deedD d = true) : PyData.canLay0 d = true ∧ PyData.depth d ≤ 2 := by
  obtain ⟨k, n, rfl, hk, hn⟩ := deed_inv h
  have hs : PyData.canLay0 (.str k) = true := by rcases hk with rfl | rfl | rfl | rfl <;> decide +kernel
  refine ⟨?_, ?_⟩
  · simp only [PyData.canLay0, PyData.canLayAll0, intD] at hs ⊢
    simp [hs]
  · simp [PyData.depth, PyData.depthAll, intD]
theorem prog_lay {ds : List PD} (h : K11.progD (.list ds) = true) : PyData.canLay0 (.list ds) = true ∧ PyData.depth (.list ds) ≤ 3 := by
  have hd := prog_deeds h
  refine ⟨?_, ?_⟩
  · simp only [PyData.canLay0]
    exact canAll fun d hm => (deed_lay (hd d hm)).1
  · have := depAll fun d hm => (deed_lay (hd d hm)).2
    simp only [PyData.depth]
    omega
theorem proc_lay {d : PD} (h : procD d = true) : PyData.canLay0 d = true ∧ PyData.depth d ≤ 4 := by
  obtain ⟨n, b, rfl, hn, hb⟩ := proc_inv2 h
  obtain ⟨l1, l2⟩ := prog_lay hb
  refine ⟨?_, ?_⟩
  · simp only [PyData.canLay0, PyData.canLayAll0, intD] at l1 ⊢
    simp [l1]
  · simp only [PyData.depth, PyData.depthAll, intD] at l2 ⊢
    omega
theorem prog_sh {ds : List PD} (h : K11.progD (.list ds) = true) : SeqAt.shaped (.list ds) = true := shaped_listOf (n := 2) (fun d hm => deed_lay (prog_deeds h d hm)) (by decide)
theorem hall_sh {hs : List PD} (h : hallD (.list hs) = true) : SeqAt.shaped (.list hs) = true := shaped_listOf (n := 4) (fun d hm => proc_lay ((hall_procs h).1 d hm)) (by decide)
theorem text_sh : SeqAt.shaped (.str "text") = true := by decide +kernel
theorem eqv_txt (ds : List PD) (t : Str) : PyData.eqv (.list ds) (.str t) = false := by cases ds <;> rfl
theorem dec_no {p : Prop} [Decidable p] (h : p) : (!decide p) = false := by rw [decide_eq_true h]; rfl
abbrev sLaw : Stmt := top 42
abbrev nLaw : List Str := ["_law_script", "_law_draws", "_law_size", "_law_hall", "_law_slot", "_law_text", "_law_comes", "_law_program_here", "_law_turn", "_law_at", "_law_mark", "_law_other", "_law_found"]
theorem scLaw : FnScope nLaw ["_law_script"] (defScope sLaw) := ⟨rfl, rfl, rfl, by decide +kernel, rfl, by decide +kernel, by decide +kernel⟩
abbrev marks : List PD := [.str "0", .str "1", .str "9", .str " ", .str ",", .str ";", .str ":", .str "x", .str "", .str "work 1, "]
theorem marks_all : (marks.all fun d => match d with | .str m => decide (m.length ≤ 8) | _ => false) = true := by decide +kernel
theorem marks_ok : ∀ x ∈ marks, ∃ m : Str, m.length ≤ 8 ∧ x = .str m := fun x hx => by
  have h := List.all_eq_true.mp marks_all x hx
  cases x with
  | str m => exact ⟨m, of_decide_eq_true h, rfl⟩
  | _ => cases h
section
variable {P : Program} {w : World} {K : PySem.W.Frag} {mg : Str → Option Value} {base : Heap} {f : Addr} {fd : FuncData} {T : List Addr}
theorem ok_law (F : Fun K "law" "law" sLaw f fd) (G : Glob K mg) {C : Addr} {f1 : Addr} {d1 : FuncData} (c__law_start : Cal P w K mg base "_law_start" 1 ["_law_script"] (LW.spStart K) f1 d1) {f2 : Addr} {d2 : FuncData} (c__law_draw : Cal P w K mg base "_law_draw" 1 ["_law_draws", "_law_limit"] (LW.spDraw T) f2 d2) {f3 : Addr} {d3 : FuncData} (c__law_pick : Cal P w K mg base "_law_pick" 2 ["_law_draws", "_law_choices"] (spW K T R_pick) f3 d3) {f4 : Addr} {d4 : FuncData} (c__law_program : Cal P w K mg base "_law_program" 3 ["_law_draws", "_law_locks", "_law_most"] (spW K T R_program) f4 d4) {f5 : Addr} {d5 : FuncData} (c_format_hall : Cal P w K mg base "format_hall" 9 ["hall"] (spD K T R_format_hall) f5 d5) {f6 : Addr} {d6 : FuncData} (c_format_program : Cal P w K mg base "format_program" 6 ["program"] (spD K T R_format_program) f6 d6) {f7 : Addr} {d7 : FuncData} (c__law_written : Cal P w K mg base "_law_written" 2 ["_law_hall"] (spD K T R_law_written) f7 d7) {f8 : Addr} {d8 : FuncData} (c__law_words : Cal P w K mg base "_law_words" 1 ["_law_program_here"] (spD K T R_law_words) f8 d8) {f9 : Addr} {d9 : FuncData} (c__law_parsed : Cal P w K mg base "_law_parsed" 9 ["_law_kind", "_law_text"] (spD K T (R_law_parsed C)) f9 d9) {f10 : Addr} {d10 : FuncData} (c_is_hall : Cal P w K mg base "is_hall" 7 ["value"] (spD K T R_is_hall) f10 d10) {f11 : Addr} {d11 : FuncData} (c_is_program : Cal P w K mg base "is_program" 4 ["value"] (spD K T R_is_program) f11 d11) {f12 : Addr} {d12 : FuncData} (c__law_rejected : Cal P w K mg base "_law_rejected" 10 [] (spD K T R_law_rejected) f12 d12) : FnOk P w K mg base CX0 11 f fd ["_law_script"] (spLaw K T) := by
  refine F.ok scLaw (fun vs H Q E h => ?_) (fun cdv A outer s H vs Q E hr h => ?_)
  · obtain ⟨a, ns, rfl, _⟩ := h
    rfl
  · obtain ⟨a, ns, rfl, hS, hl63, ht, q⟩ := h
    refine ⟨_, (pss_cons (ps_set (i := 1) scLaw.nd rfl (.inr rfl) (pe_call c__law_start.ok (hr.mono (by decide)) (by rfl) c__law_start.g c__law_start.kp c__law_start.b .nil pass0 (pa_cons (pv 0) pa_nil)))
      (pss_cons (ps_set (i := 2) scLaw.nd rfl (.inl rfl) (pe_op op_add pe_int (pe_call c__law_draw.ok (hr.mono (by decide)) (by rfl) c__law_draw.g c__law_draw.kp c__law_draw.b .nil pass0 (pa_cons (pv 1) (pa_cons pe_int pa_nil)))))
      (pss_cons (ps_setLc (i := 3) (own := [("_law_slot", 4)]) (g := (gName 4)) (tt := tYes) (te := (tTup (tCons (tCall (LW.spDraw T) [] E0 (tCons (tVar 1) (tCons (tC (.int 100)) tNil))) (tCons (tCall (spW K T R_program) [] E0 (tCons (tVar 1) (tCons (tC (.int 2)) (tCons (tC (.int 8)) tNil)))) tNil)))) rfl scLaw.nd rfl rfl (sw_true rfl rfl rfl (by decide +kernel)) (pi_range1 (by rfl) G.range (pa_cons (pv 2) pa_nil)) (blkOk_by (N := nLaw) (sc := defScope sLaw) (by decide +kernel)) (fun _ _ _ _ _ => (pg_name (i := 4) scLaw.nd rfl (.inl rfl))) (fun _ _ _ _ _ => pts_nil) (fun _ _ _ _ _ => (pe_tup (pa_cons (pe_call c__law_draw.ok (hr.mono (by decide)) (by rfl) c__law_draw.g c__law_draw.kp c__law_draw.b .nil pass0 (pa_cons (pv 1) (pa_cons pe_int pa_nil))) (pa_cons (pe_call c__law_program.ok (hr.mono (by decide)) (by rfl) c__law_program.g c__law_program.kp c__law_program.b .nil pass0 (pa_cons (pv 1) (pa_cons pe_int (pa_cons pe_int pa_nil)))) pa_nil)))))
      (pss_cons (ps_set (i := 5) scLaw.nd rfl (.inl rfl) (pe_call c_format_hall.ok (hr.mono (by decide)) (by rfl) c_format_hall.g c_format_hall.kp c_format_hall.b .nil pass0 (pa_cons (pv 3) pa_nil)))
      (pss_cons (ps_if (PW.pt (pw_or (pt_cmpR op_ne (pv 5) (pe_call c__law_written.ok (hr.mono (by decide)) (by rfl) c__law_written.g c__law_written.kp c__law_written.b .nil pass0 (pa_cons (pv 3) pa_nil)) (nomark _)) (pw_or1 (pt_cmpR (op_neD hr.units) (pe_call c__law_parsed.ok (hr.mono (by decide)) (by rfl) c__law_parsed.g c__law_parsed.kp c__law_parsed.b .nil pass0 (pa_cons pe_int (pa_cons (pv 5) pa_nil))) (pv 3) (nomark _))))) (pss_one (ps_ret pe_bl)) pss_nil)
      (pss_cons (ps_for PassesOwn.never rfl (pi_list (pv 3)) (pg_tup (by rfl) (pgs_cons (pg_name (i := 6) scLaw.nd rfl (.inl rfl)) (pgs_cons (pg_name (i := 7) scLaw.nd rfl (.inl rfl)) pgs_nil))) (pss_one (ps_if (PW.pt (pw_or (pt_cmpR op_ne (pe_call c_format_program.ok (hr.mono (by decide)) (by rfl) c_format_program.g c_format_program.kp c_format_program.b .nil pass0 (pa_cons (pv 7) pa_nil)) (pe_call c__law_words.ok (hr.mono (by decide)) (by rfl) c__law_words.g c__law_words.kp c__law_words.b .nil pass0 (pa_cons (pv 7) pa_nil)) (nomark _)) (pw_or1 (pt_cmpR (op_neD hr.units) (pe_call c__law_parsed.ok (hr.mono (by decide)) (by rfl) c__law_parsed.g c__law_parsed.kp c__law_parsed.b .nil pass0 (pa_cons pe_int (pa_cons (pe_call c__law_words.ok (hr.mono (by decide)) (by rfl) c__law_words.g c__law_words.kp c__law_words.b .nil pass0 (pa_cons (pv 7) pa_nil)) pa_nil))) (pv 7) (nomark _))))) (pss_one (ps_ret pe_bl)) pss_nil)))
      (pss_cons (ps_for PassesOwn.never rfl (pi_range1 (by rfl) G.range (pa_cons pe_int pa_nil)) (pg_name (i := 8) scLaw.nd rfl (.inl rfl)) (pss_cons (ps_set (i := 9) scLaw.nd rfl (.inl rfl) (pe_call c__law_draw.ok (hr.mono (by decide)) (by rfl) c__law_draw.g c__law_draw.kp c__law_draw.b .nil pass0 (pa_cons (pv 1) (pa_cons (pe_op op_add (pe_callB call_len_str (by rfl) G.len PySem.boot_len (pa_cons (pv 5) pa_nil)) pe_int) pa_nil))))
      (pss_cons (ps_set (i := 10) scLaw.nd rfl (.inl rfl) (pe_call c__law_pick.ok (hr.mono (by decide)) (by rfl) c__law_pick.g c__law_pick.kp c__law_pick.b .nil pass0 (pa_cons (pv 1) (pa_cons (pe_lst (pa_cons pe_str (pa_cons pe_str (pa_cons pe_str (pa_cons pe_str (pa_cons pe_str (pa_cons pe_str (pa_cons pe_str (pa_cons pe_str (pa_cons pe_str (pa_cons pe_str pa_nil))))))))))) pa_nil))))
      (pss_cons (ps_set (i := 11) scLaw.nd rfl (.inl rfl) (pe_call c__law_pick.ok (hr.mono (by decide)) (by rfl) c__law_pick.g c__law_pick.kp c__law_pick.b .nil pass0 (pa_cons (pv 1) (pa_cons (pe_lst (pa_cons (pe_op op_add_str (pe_op op_add_str (pe_slice sl_str (pv 5) po_none (po_some (pv 9))) (pv 10)) (pe_slice sl_str (pv 5) (po_some (pe_op op_add (pv 9) pe_int)) po_none)) (pa_cons (pe_op op_add_str (pe_op op_add_str (pe_slice sl_str (pv 5) po_none (po_some (pv 9))) (pv 10)) (pe_slice sl_str (pv 5) (po_some (pv 9)) po_none)) pa_nil))) pa_nil))))
      (pss_cons (ps_set (i := 12) scLaw.nd rfl (.inl rfl) (pe_call c__law_parsed.ok (hr.mono (by decide)) (by rfl) c__law_parsed.g c__law_parsed.kp c__law_parsed.b .nil pass0 (pa_cons pe_int (pa_cons (pv 11) pa_nil))))
      (pss_cons (ps_if (PW.pt (pw_and (pt_cmpR (op_neD hr.units) (pv 12) pe_str (nomark _)) (pw_and1 (PW.pt (pw_or (pt_cmpR op_ne (pv 11) (pe_call c__law_written.ok (hr.mono (by decide)) (by rfl) c__law_written.g c__law_written.kp c__law_written.b .nil pass0 (pa_cons (pv 12) pa_nil)) (nomark _)) (pw_or1 (pt_cmpR op_notBl (pe_call c_is_hall.ok (hr.mono (by decide)) (by rfl) c_is_hall.g c_is_hall.kp c_is_hall.b .nil pass0 (pa_cons (pv 12) pa_nil)) pe_bl (nomark _)))))))) (pss_one (ps_ret pe_bl)) pss_nil)
      (pss_cons (ps_set (i := 12) scLaw.nd rfl (.inl rfl) (pe_call c__law_parsed.ok (hr.mono (by decide)) (by rfl) c__law_parsed.g c__law_parsed.kp c__law_parsed.b .nil pass0 (pa_cons pe_int (pa_cons (pv 11) pa_nil))))
      (pss_one (ps_if (PW.pt (pw_and (pt_cmpR (op_neD hr.units) (pv 12) pe_str (nomark _)) (pw_and1 (PW.pt (pw_or (pt_cmpR op_ne (pv 11) (pe_call c__law_words.ok (hr.mono (by decide)) (by rfl) c__law_words.g c__law_words.kp c__law_words.b .nil pass0 (pa_cons (pv 12) pa_nil)) (nomark _)) (pw_or1 (pt_cmpR op_notBl (pe_call c_is_program.ok (hr.mono (by decide)) (by rfl) c_is_program.g c_is_program.kp c_is_program.b .nil pass0 (pa_cons (pv 12) pa_nil)) pe_bl (nomark _)))))))) (pss_one (ps_ret pe_bl)) pss_nil)))))))))
      (pss_one (ps_ret (pe_call0 c__law_rejected.ok (hr.mono (by decide)) (by rfl) c__law_rejected.g c__law_rejected.kp c__law_rejected.b .nil pass0)))))))))), ?_⟩
    have r0 : SR ⟨K, T, [], H⟩ [] (L2.start nLaw [.ref a]) H (startD nLaw [.dat (.list (ns.map .int))]) := start_sr (fun _ z => nomatch z) ht (by rw [hid_nil]; exact .cons (show ArgOk K H (.ref a) (.dat (.list (ns.map .int))) from .lst hS (dps_ints ns)) .nil)
    refine sw_start (j := 0) (i := 1) r0 rfl hl63 fun dr nu H1 w1 => ?_
    refine sw_set (i := 2) w1 (we_I0 (g := fun a b => a + b) (P := fun x => x = .int 1) (S := fun x => ∃ n : Nat, 1 ≤ n ∧ n ≤ 4 ∧ x = intD n) (we_ed (fun _ => ed_int) rfl) (we_draw (n := 4) rfl (fun _ => ed_int) (by decide) (by decide)) ?_) fun v2 H2 x2 hx2 w2 => ?_
    · rintro x y rfl ⟨r, h4, rfl⟩
      exact ⟨1, r, rfl, rfl, r + 1, by omega, by omega, by show PyData.int _ = PyData.int _; congr 1; omega⟩
    obtain ⟨n, n1, n4, rfl⟩ := hx2
    refine sw_set (i := 3) w2 (we_wl (R := fun x => ∃ ds : List PD, x = .list ds ∧ ds.length = n ∧ ∀ d ∈ ds, okX d) (wl_lcR (n := n) (R := okX) (by decide) (fun _ => ed_var rfl) (by omega) fun M j hj => ?_) fun ds hds => ⟨ds, rfl, hds⟩) fun v3 H3 x3 hx3 w3 => ?_
    · refine we_tup (wa_cons (P := fun x => ∃ r : Nat, r < 100 ∧ x = .int (r : Int)) (R := fun ss => ∃ b : List PD, K11.progD (.list b) = true ∧ b.length ≤ 10 ∧ ss = [.dat (.list b)]) (we_draw (n := 100) rfl (fun _ => ed_int) (by decide) (by decide)) (wa_cons (P := fun x => ∃ b : List PD, x = .list b ∧ K11.progD (.list b) = true ∧ b.length ≤ 10) (R := fun ss => ss = []) (we_callW (wa_raw (R := fun ss => ss = [.dat (.int 2), .dat (.int 8)]) rfl (wa_cons (P := fun x => x = .int 2) (R := fun ss => ss = [.dat (.int 8)]) (we_ed (fun _ => ed_int) rfl) (wa_cons (P := fun x => x = .int 8) (R := fun ss => ss = []) (we_ed (fun _ => ed_int) rfl) (wa_nil rfl) (fun x ss e1 e2 => by rw [e1, e2])) (fun x ss e1 e2 => by rw [e1, e2])) (fun ss e => ⟨_, rfl, e, rfl⟩))) (wa_nil rfl) ?_) ?_)
      · rintro x ss ⟨b, rfl, hb, hl⟩ rfl
        exact ⟨b, hb, hl, rfl⟩
      · rintro x ss ⟨r, hr, rfl⟩ ⟨b, hb, hl, rfl⟩
        exact ⟨[.int (r : Int), .list b], rfl, by simp, r, b, by omega, hb, hl, rfl⟩
    obtain ⟨hs, rfl, hlen, hok⟩ := hx3
    subst hlen
    obtain ⟨hH, hT⟩ := hallX n1 n4 hok
    refine (?_ : VS ⟨K, T, [dr, nu], dr, nu, H3⟩ _ ⟨fun _ => False, fun x => x = .bool true, fun _ => False, fun _ => False⟩ _) _ ⟨fun _ _ _ _ _ z => z.elim, fun v H' x _ h6 e => ?_, fun _ _ _ _ _ z => z.elim, fun _ _ _ _ _ z => z.elim⟩ [] _ H3 ⟨H3, w3.sr, .refl w3.dr, w3.hd, w3.hn⟩
    rotate_left
    · have e : x = .bool true := e
      subst e
      rw [dp_bool h6]
      exact q H'
    obtain ⟨okt1, okh1⟩ : okT (fmtH hs) ∧ okH (fmtH hs) := ⟨okT_of (by omega), okH_of (by omega)⟩
    refine vs_seq (vs_sd fun H0 => sd_set (d := .str (fmtH hs)) (ed_call (ea_d (ed_var rfl) ea_nil) ⟨hs, hH, rfl, rfl⟩) ?_)
    refine vs_seq (vs_sd fun H0 => sd_when (b := false || false) (et_or (et_is (et_test (ed_ne (x := .str (fmtH hs)) (y := .str (fmtH hs)) (ed_var rfl) (ed_call (R := R_law_written) (ea_d (ed_var rfl) ea_nil) ⟨hs, hH, rfl, rfl⟩) rfl rfl rfl)) (dec_no rfl)) fun _ => et_is (et_test (ed_neD (x := .list hs) (y := .list hs) (ed_call (R := R_law_parsed C) (ea_d ed_int (ea_d (ed_var rfl) ea_nil)) ⟨0, .str (fmtH hs), (fun t e => by cases e; exact ⟨okt1, okh1⟩), rfl, by rw [if_pos rfl, parseH_fmt hH]; rfl⟩) (ed_var rfl) (hall_sh hH) (hall_sh hH))) (by rw [eqv_same (hall_sh hH)]; rfl)) (fun z => by cases z) fun _ => ?_)
    refine vs_seq (vs_sd fun H0 => sd_for (js := [6, 7]) (id_list (ed_var rfl)) (fun _ ρ' => ρ'.length = 13 ∧ ρ'[1]? = some (.raw (.ref dr)) ∧ ρ'[5]? = some (.dat (.str (fmtH hs)))) ⟨rfl, rfl, rfl⟩ ?_ ?_)
    · rintro i d ρ' H1 hd ⟨hlen, h1, h5⟩
      obtain ⟨m, b, hm, hb, hl, rfl⟩ := hok d (List.mem_of_getElem? hd)
      obtain ⟨s0, s1, s2, s3, s4, s5, s6, s7, s8, s9, s10, s11, s12, rfl⟩ : ∃ s0 s1 s2 s3 s4 s5 s6 s7 s8 s9 s10 s11 s12, ρ' = [s0, s1, s2, s3, s4, s5, s6, s7, s8, s9, s10, s11, s12] := by
        match ρ', hlen with
        | [s0, s1, s2, s3, s4, s5, s6, s7, s8, s9, s10, s11, s12], _ => exact ⟨s0, s1, s2, s3, s4, s5, s6, s7, s8, s9, s10, s11, s12, rfl⟩
      have fl := fmtP_10 hb hl
      refine ⟨[intD m, .list b], tg_tup2, sd_when (b := false || false) (et_or (et_is (et_test (ed_ne (x := .str (fmtP b)) (y := .str (fmtP b)) (ed_call (R := R_format_program) (ea_d (ed_var rfl) ea_nil) ⟨b, hb, rfl, rfl⟩) (ed_call (R := R_law_words) (ea_d (ed_var rfl) ea_nil) ⟨b, hb, rfl, rfl⟩) rfl rfl rfl)) (dec_no rfl)) fun _ => et_is (et_test (ed_neD (x := .list b) (y := .list b) (ed_call (R := R_law_parsed C) (ea_d ed_int (ea_d (ed_call (R := R_law_words) (ea_d (ed_var rfl) ea_nil) ⟨b, hb, rfl, rfl⟩) ea_nil)) ⟨1, .str (fmtP b), (fun t e => by cases e; exact ⟨okT_of (by omega), okH_of (by omega)⟩), rfl, by rw [if_neg (by decide), parseP_fmt hb]; rfl⟩) (ed_var rfl) (prog_sh hb) (prog_sh hb))) (by rw [eqv_same (prog_sh hb)]; rfl)) (fun z => by cases z) fun _ => ⟨rfl, h1, h5⟩⟩
    rintro ρ1 ⟨hlen, h1, h5⟩
    refine vs_seq (vs_forR (j := 8) (Pn := fun n => n = 16) (ve_ed (fun H0 => ed_int) ⟨16, by decide, rfl, rfl⟩) (fun _ _ ρ' => ρ'.length = 13 ∧ ρ'[1]? = some (.raw (.ref dr)) ∧ ρ'[5]? = some (.dat (.str (fmtH hs)))) (fun _ _ => ⟨hlen, h1, h5⟩) ?_ ?_)
    rotate_left
    · rintro _ ρ2 ⟨_, _, _⟩
      exact vs_ret (ve_ed (fun H0 => ed_call (R := R_law_rejected) ea_nil ⟨rfl, rfl⟩) (P := fun x => x = .bool true) rfl) fun x e => e
    clear h1 h5 hlen ρ1
    rintro n i ρ' hi ⟨hlen, h1, h5⟩
    obtain ⟨s0, s1, s2, s3, s4, s5, s6, s7, s8, s9, s10, s11, s12, rfl⟩ : ∃ s0 s1 s2 s3 s4 s5 s6 s7 s8 s9 s10 s11 s12, ρ' = [s0, s1, s2, s3, s4, s5, s6, s7, s8, s9, s10, s11, s12] := by
      match ρ', hlen with
      | [s0, s1, s2, s3, s4, s5, s6, s7, s8, s9, s10, s11, s12], _ => exact ⟨s0, s1, s2, s3, s4, s5, s6, s7, s8, s9, s10, s11, s12, rfl⟩
    have g1 : s1 = .raw (.ref dr) := Option.some.inj h1
    have g5 : s5 = .dat (.str (fmtH hs)) := Option.some.inj h5
    clear h1 h5
    subst g1
    subst g5
    have bg : (fmtH hs).length ≤ sizeLine := big (by omega)
    refine vs_seq (vs_set (P := fun x => ∃ r : Nat, r < (fmtH hs).length + 1 ∧ x = .int (r : Int)) (ve_draw (n := (fmtH hs).length + 1) rfl (ve_ed (fun H0 => ed_is (ed_I0 (g := fun i j => i + j) (ed_lenS (ed_var rfl) bg) ed_int) rfl) rfl) (by omega) (by omega)) fun x hx => ?_)
    obtain ⟨at_, hat, rfl⟩ := hx
    refine vs_seq (vs_set (P := fun x => ∃ m : Str, m.length ≤ 8 ∧ x = .str m) (ve_is (ve_callW (P := fun x => x ∈ marks) (va_raw (R := fun ss => ss = [.dat (.list marks)]) rfl (va_cons (P := fun x => x = .list marks) (ve_ed (fun H0 => ed_en (en_lst (ds := marks) (ea_d ed_str (ea_d ed_str (ea_d ed_str (ea_d ed_str (ea_d ed_str (ea_d ed_str (ea_d ed_str (ea_d ed_str (ea_d ed_str (ea_d ed_str ea_nil)))))))))) (by decide))) rfl) (va_nil (P := fun ss => ss = []) rfl) (fun x ss e1 e2 => by rw [e1, e2])) (fun ss e => ⟨_, rfl, _, List.cons_ne_nil _ _, by decide, e, rfl⟩))) marks_ok) fun x hx => ?_)
    obtain ⟨mark, hmark, rfl⟩ := hx
    have c1 := L2.cutS_length (fmtH hs) none (some (at_ : Int))
    have c2 := L2.cutS_length (fmtH hs) (some ((at_ : Int) + 1)) none
    have c3 := L2.cutS_length (fmtH hs) (some (at_ : Int)) none
    have oth : ∀ {lo : Int} {tl' : TE} {ρ2 : DEnv}, ρ2[5]? = some (.dat (.str (fmtH hs))) → ρ2[9]? = some (.dat (.int (at_ : Int))) → ρ2[10]? = some (.dat (.str mark)) → ∀ {c : DC}, ED c tl' ρ2 (.int lo) → ED c (tOp (fun x y H Q => ∃ i j, x = .str i ∧ y = .str j ∧ i.length + j.length ≤ sizeLine ∧ Q (.str (i ++ j)) H) (tOp (fun x y H Q => ∃ i j, x = .str i ∧ y = .str j ∧ i.length + j.length ≤ sizeLine ∧ Q (.str (i ++ j)) H) (tSl L2.rSlS (tVar 5) tNoPart (tPart (tVar 9))) (tVar 10)) (tSl L2.rSlS (tVar 5) (tPart tl') tNoPart)) ρ2 (.str ((L2.cutS (fmtH hs) none (some (at_ : Int)) ++ mark) ++ L2.cutS (fmtH hs) (some lo) none)) := fun {lo tl' ρ2} h5 h9 h10 {c} hlo => by
      have c4 := L2.cutS_length (fmtH hs) (some lo) none
      refine ed_addS (ed_addS (ed_slS (ed_var h5) eo_none (eo_some (ed_var h9)) bg) (ed_var h10) (big (by omega))) (ed_slS (ed_var h5) (eo_some hlo) eo_none bg) (big ?_)
      rw [app_len]
      omega
    refine vs_seq (vs_set (P := fun x => ∃ t : Str, t.length ≤ 890 ∧ x = .str t) (ve_is (ve_callW (P := fun x => x ∈ [PyData.str ((L2.cutS (fmtH hs) none (some (at_ : Int)) ++ mark) ++ L2.cutS (fmtH hs) (some ((at_ : Int) + 1)) none), .str ((L2.cutS (fmtH hs) none (some (at_ : Int)) ++ mark) ++ L2.cutS (fmtH hs) (some (at_ : Int)) none)]) (va_raw (R := fun ss => ss = [.dat (.list [PyData.str ((L2.cutS (fmtH hs) none (some (at_ : Int)) ++ mark) ++ L2.cutS (fmtH hs) (some ((at_ : Int) + 1)) none), .str ((L2.cutS (fmtH hs) none (some (at_ : Int)) ++ mark) ++ L2.cutS (fmtH hs) (some (at_ : Int)) none)])]) rfl (va_cons (P := fun x => x = .list [PyData.str ((L2.cutS (fmtH hs) none (some (at_ : Int)) ++ mark) ++ L2.cutS (fmtH hs) (some ((at_ : Int) + 1)) none), .str ((L2.cutS (fmtH hs) none (some (at_ : Int)) ++ mark) ++ L2.cutS (fmtH hs) (some (at_ : Int)) none)]) (ve_ed (fun H0 => ed_en (en_lst (ds := [PyData.str ((L2.cutS (fmtH hs) none (some (at_ : Int)) ++ mark) ++ L2.cutS (fmtH hs) (some ((at_ : Int) + 1)) none), .str ((L2.cutS (fmtH hs) none (some (at_ : Int)) ++ mark) ++ L2.cutS (fmtH hs) (some (at_ : Int)) none)]) (ea_d (oth rfl rfl rfl (ed_I0 (g := fun i j => i + j) (ed_var rfl) ed_int)) (ea_d (oth rfl rfl rfl (ed_var rfl)) ea_nil)) (by simp))) rfl) (va_nil (P := fun ss => ss = []) rfl) (fun x ss e1 e2 => by rw [e1, e2])) (fun ss e => ⟨_, rfl, _, List.cons_ne_nil _ _, by simp, e, rfl⟩))) (fun x hx => ?_)) fun x hx => ?_)
    · simp only [List.mem_cons, List.not_mem_nil, or_false] at hx
      rcases hx with e | e
      · exact ⟨_, by rw [app_len, app_len]; omega, e⟩
      · exact ⟨_, by rw [app_len, app_len]; omega, e⟩
    obtain ⟨ot, hot, rfl⟩ := hx
    have okO : ∀ t, PyData.str ot = .str t → okT t ∧ okH t := fun t e => by cases e; exact ⟨okT_of hot, okH_of hot⟩
    refine vs_sd fun H0 => sd_seq (sd_set (d := told (parseH C (.str ot))) (ed_call (R := R_law_parsed C) (ea_d ed_int (ea_d (ed_var rfl) ea_nil)) ⟨0, .str ot, okO, rfl, by rw [if_pos rfl]⟩) (sd_seq (sd_when (b := false) ?_ (fun z => by cases z) fun _ => sd_seq (sd_set (d := told (parseP C (.str ot))) (ed_call (R := R_law_parsed C) (ea_d ed_int (ea_d (ed_var rfl) ea_nil)) ⟨1, .str ot, okO, rfl, by rw [if_neg (by decide)]⟩) (sd_when (b := false) ?_ (fun z => by cases z) fun _ => ⟨rfl, rfl, rfl⟩)))))
    · cases o : parseH C (.str ot) with
      | ex D => exact et_is (et_and (a := !true) (b := false) (et_is (et_test (ed_neD (x := .str "text") (y := .str "text") (ed_var rfl) ed_str text_sh text_sh)) (by rw [eqv_same text_sh])) fun z => by cases z) rfl
      | ok d =>
        obtain ⟨hs2, rfl, h2, e2⟩ := parseH_ok o
        obtain ⟨_, e, _, hl2, _⟩ := hall_inv h2
        cases e
        exact et_is (et_and (a := true) (b := false) (et_is (et_test (ed_neD (x := .list hs2) (y := .str "text") (ed_var rfl) ed_str (hall_sh h2) text_sh)) (by rw [eqv_txt]; rfl)) fun _ => et_is (et_or (a := false) (b := false) (et_is (et_test (ed_ne (x := .str ot) (y := .str (fmtH hs2)) (ed_var rfl) (ed_call (R := R_law_written) (ea_d (ed_var rfl) ea_nil) ⟨hs2, h2, rfl, rfl⟩) rfl rfl rfl)) (dec_no (by rw [e2]))) fun _ => et_is (et_test (ed_notB (a := true) (b := true) (ed_call (R := R_is_hall) (ea_d (ed_var rfl) ea_nil) ⟨.list hs2, (fun ds e => by cases e; omega), rfl, by rw [h2]⟩) ed_bl)) rfl) rfl) rfl
    · cases o : parseP C (.str ot) with
      | ex D => exact et_is (et_and (a := !true) (b := false) (et_is (et_test (ed_neD (x := .str "text") (y := .str "text") (ed_var rfl) ed_str text_sh text_sh)) (by rw [eqv_same text_sh])) fun z => by cases z) rfl
      | ok d =>
        obtain ⟨hs2, rfl, h2, e2⟩ := parseP_ok o
        exact et_is (et_and (a := true) (b := false) (et_is (et_test (ed_neD (x := .list hs2) (y := .str "text") (ed_var rfl) ed_str (prog_sh h2) text_sh)) (by rw [eqv_txt]; rfl)) fun _ => et_is (et_or (a := false) (b := false) (et_is (et_test (ed_ne (x := .str ot) (y := .str (fmtP hs2)) (ed_var rfl) (ed_call (R := R_law_words) (ea_d (ed_var rfl) ea_nil) ⟨hs2, h2, rfl, rfl⟩) rfl rfl rfl)) (dec_no (by rw [e2]))) fun _ => et_is (et_test (ed_notB (a := true) (b := true) (ed_call (R := R_is_program) (ea_d (ed_var rfl) ea_nil) ⟨.list hs2, rfl, by rw [h2]⟩) ed_bl)) rfl) rfl) rfl
end
end PT
namespace PT
open PySem PySem.Spec PyProof.Rows L2 DA DL
open HD (fa2 fn2 ts2 tf2 ex2 hD)
theorem funD_fun {K : PySem.W.Frag} {x q : Str} {st : Stmt} {f : Addr} {fd : FuncData} (F : FunD K x q (defArgs st) (defBody st) (defScope st) [] [] f fd) : Fun K x q st f fd := by
  obtain ⟨oc, od, dV, kV, doc, pm, an, cdv, ct, osl, h1, h2, h3, h4, h5⟩ := F.ex
  rcases h4 with ⟨_, rfl⟩ | ⟨e, _⟩
  · exact ⟨⟨oc, od, kV, doc, pm, an, cdv, ct, osl, h1, h2, h3⟩, F.kp⟩
  · exact absurd rfl e
theorem funD_funC {K : PySem.W.Frag} {x : Str} {st : Stmt} {fd : FuncData} (F : FunD K x x (defArgs st) (defBody st) (defScope st) [] [] (He.fAd K (x, none)) fd) : FunC K x x st (He.fAd K (x, none)) fd (He.codeOf K (x, none)) := by
  obtain ⟨oc, od, dV, kV, doc, pm, an, cdv, ct, osl, h1, h2, h3, h4, h5⟩ := F.ex
  rcases h4 with ⟨_, rfl⟩ | ⟨e, _⟩
  · obtain ⟨c, rfl⟩ := He.codeIn_ref h3
    have ec : He.codeOf K (x, none) = c := He.codeOf_eq h2 (by rw [h1])
    rw [ec]
    exact ⟨⟨oc, od, kV, doc, pm, an, ct, osl, h1, h2, h3⟩, F.kp⟩
  · exact absurd rfl e
theorem triples_nil : TriplesOk (#[] : Array Value).toList := by first | trivial | exact True.intro | (unfold TriplesOk; trivial) | constructor
theorem law_at {w : World} {K : PySem.W.Frag} {h : Heap} {mg : Str → Option Value} {fl : Addr} (X : K.In h) (Gm : h.Ns mainGlobals mg) (hfa : mg ("law" : Str) = some (.ref fl)) (c : He.SaysX fa2 fn2 ts2 tf2 ex2 w h K) :
    LamX.LawAtS PySem.Challenge.rw_processturns_k32_whole_texts w K CX0 11 63 "_law_script" mg fl h := by
  have cd : He.SaysD fa2 fn2 K := c.t.d
  have cx := c.more
  unfold ex2 at cx
  obtain ⟨x0, cx⟩ := He.ba cx
  obtain ⟨x1, cx⟩ := He.ba cx
  obtain ⟨x2, cx⟩ := He.ba cx
  obtain ⟨x3, cx⟩ := He.ba cx
  obtain ⟨x4, cx⟩ := He.ba cx
  obtain ⟨x5, cx⟩ := He.ba cx
  obtain ⟨x6, cx⟩ := He.ba cx
  obtain ⟨x7, cx⟩ := He.ba cx
  obtain ⟨x8, cx⟩ := He.ba cx
  obtain ⟨x9, cx⟩ := He.ba cx
  obtain ⟨x10, cx⟩ := He.ba cx
  obtain ⟨x11, cx⟩ := He.ba cx
  obtain ⟨x12, cx⟩ := He.ba cx
  obtain ⟨x13, cx⟩ := He.ba cx
  obtain ⟨x14, cx⟩ := He.ba cx
  obtain ⟨x15, cx⟩ := He.ba cx
  have x16 := cx
  have x0 := of_decide_eq_true x0
  have x1 := of_decide_eq_true x1
  have x2 := of_decide_eq_true x2
  have x3 := of_decide_eq_true x3
  have x4 := of_decide_eq_true x4
  have x5 := of_decide_eq_true x5
  have x6 := of_decide_eq_true x6
  have x7 := of_decide_eq_true x7
  have x8 := of_decide_eq_true x8
  have x9 := of_decide_eq_true x9
  have x10 := of_decide_eq_true x10
  have x11 := of_decide_eq_true x11
  have x12 := of_decide_eq_true x12
  have x13 := of_decide_eq_true x13
  have x14 := of_decide_eq_true x14
  have x15 := of_decide_eq_true x15
  have x16 := of_decide_eq_true x16
  obtain ⟨d_is_number, D_is_number⟩ := cd.def_ 0 (d := hD "is_number" 10) rfl
  have D_is_number : FunD K "is_number" "is_number" (defArgs (top 10)) (defBody (top 10)) (defScope (top 10)) [] [] (He.fAd K ("is_number", none)) d_is_number := D_is_number
  have g_is_number : mg "is_number" = some (.ref (He.fAd K ("is_number", none))) := He.glo_ok X Gm (cd.fact 0 (f := .glo "is_number") rfl)
  have F_is_number := funD_fun (st := top 10) D_is_number
  have b_is_number : Binds K d_is_number ["value", "least", "greatest"] [] := D_is_number.bindsN fun _ _ _ _ _ _ us hl => match us, hl with | [_, _, _], _ => rfl
  obtain ⟨d_is_deed, D_is_deed⟩ := cd.def_ 1 (d := hD "is_deed" 14) rfl
  have D_is_deed : FunD K "is_deed" "is_deed" (defArgs (top 14)) (defBody (top 14)) (defScope (top 14)) [] [] (He.fAd K ("is_deed", none)) d_is_deed := D_is_deed
  have g_is_deed : mg "is_deed" = some (.ref (He.fAd K ("is_deed", none))) := He.glo_ok X Gm (cd.fact 1 (f := .glo "is_deed") rfl)
  have F_is_deed := funD_fun (st := top 14) D_is_deed
  have b_is_deed : Binds K d_is_deed ["value"] [] := D_is_deed.bindsN fun _ _ _ _ _ _ us hl => match us, hl with | [_], _ => rfl
  obtain ⟨d_is_program, D_is_program⟩ := cd.def_ 2 (d := hD "is_program" 15) rfl
  have D_is_program : FunD K "is_program" "is_program" (defArgs (top 15)) (defBody (top 15)) (defScope (top 15)) [] [] (He.fAd K ("is_program", none)) d_is_program := D_is_program
  have g_is_program : mg "is_program" = some (.ref (He.fAd K ("is_program", none))) := He.glo_ok X Gm (cd.fact 2 (f := .glo "is_program") rfl)
  have F_is_program := funD_funC (st := top 15) D_is_program
  have b_is_program : Binds K d_is_program ["value"] [] := D_is_program.bindsN fun _ _ _ _ _ _ us hl => match us, hl with | [_], _ => rfl
  obtain ⟨d__locks_fit, D__locks_fit⟩ := cd.def_ 3 (d := hD "_locks_fit" 16) rfl
  have D__locks_fit : FunD K "_locks_fit" "_locks_fit" (defArgs (top 16)) (defBody (top 16)) (defScope (top 16)) [] [] (He.fAd K ("_locks_fit", none)) d__locks_fit := D__locks_fit
  have g__locks_fit : mg "_locks_fit" = some (.ref (He.fAd K ("_locks_fit", none))) := He.glo_ok X Gm (cd.fact 3 (f := .glo "_locks_fit") rfl)
  have F__locks_fit := funD_fun (st := top 16) D__locks_fit
  have b__locks_fit : Binds K d__locks_fit ["deeds"] [] := D__locks_fit.bindsN fun _ _ _ _ _ _ us hl => match us, hl with | [_], _ => rfl
  obtain ⟨d_check_program, D_check_program⟩ := cd.def_ 4 (d := hD "check_program" 17) rfl
  have D_check_program : FunD K "check_program" "check_program" (defArgs (top 17)) (defBody (top 17)) (defScope (top 17)) [] [] (He.fAd K ("check_program", none)) d_check_program := D_check_program
  have g_check_program : mg "check_program" = some (.ref (He.fAd K ("check_program", none))) := He.glo_ok X Gm (cd.fact 4 (f := .glo "check_program") rfl)
  have F_check_program := funD_fun (st := top 17) D_check_program
  have b_check_program : Binds K d_check_program ["value"] [] := D_check_program.bindsN fun _ _ _ _ _ _ us hl => match us, hl with | [_], _ => rfl
  obtain ⟨d_is_hall, D_is_hall⟩ := cd.def_ 5 (d := hD "is_hall" 21) rfl
  have D_is_hall : FunD K "is_hall" "is_hall" (defArgs (top 21)) (defBody (top 21)) (defScope (top 21)) [] [] (He.fAd K ("is_hall", none)) d_is_hall := D_is_hall
  have g_is_hall : mg "is_hall" = some (.ref (He.fAd K ("is_hall", none))) := He.glo_ok X Gm (cd.fact 5 (f := .glo "is_hall") rfl)
  have F_is_hall := funD_funC (st := top 21) D_is_hall
  have b_is_hall : Binds K d_is_hall ["value"] [] := D_is_hall.bindsN fun _ _ _ _ _ _ us hl => match us, hl with | [_], _ => rfl
  obtain ⟨d__is_process, D__is_process⟩ := cd.def_ 6 (d := hD "_is_process" 22) rfl
  have D__is_process : FunD K "_is_process" "_is_process" (defArgs (top 22)) (defBody (top 22)) (defScope (top 22)) [] [] (He.fAd K ("_is_process", none)) d__is_process := D__is_process
  have g__is_process : mg "_is_process" = some (.ref (He.fAd K ("_is_process", none))) := He.glo_ok X Gm (cd.fact 6 (f := .glo "_is_process") rfl)
  have F__is_process := funD_fun (st := top 22) D__is_process
  have b__is_process : Binds K d__is_process ["value"] [] := D__is_process.bindsN fun _ _ _ _ _ _ us hl => match us, hl with | [_], _ => rfl
  obtain ⟨d_check_hall, D_check_hall⟩ := cd.def_ 7 (d := hD "check_hall" 23) rfl
  have D_check_hall : FunD K "check_hall" "check_hall" (defArgs (top 23)) (defBody (top 23)) (defScope (top 23)) [] [] (He.fAd K ("check_hall", none)) d_check_hall := D_check_hall
  have g_check_hall : mg "check_hall" = some (.ref (He.fAd K ("check_hall", none))) := He.glo_ok X Gm (cd.fact 7 (f := .glo "check_hall") rfl)
  have F_check_hall := funD_fun (st := top 23) D_check_hall
  have b_check_hall : Binds K d_check_hall ["value"] [] := D_check_hall.bindsN fun _ _ _ _ _ _ us hl => match us, hl with | [_], _ => rfl
  obtain ⟨d_format_program, D_format_program⟩ := cd.def_ 8 (d := hD "format_program" 25) rfl
  have D_format_program : FunD K "format_program" "format_program" (defArgs (top 25)) (defBody (top 25)) (defScope (top 25)) [] [] (He.fAd K ("format_program", none)) d_format_program := D_format_program
  have g_format_program : mg "format_program" = some (.ref (He.fAd K ("format_program", none))) := He.glo_ok X Gm (cd.fact 8 (f := .glo "format_program") rfl)
  have F_format_program := funD_fun (st := top 25) D_format_program
  have b_format_program : Binds K d_format_program ["program"] [] := D_format_program.bindsN fun _ _ _ _ _ _ us hl => match us, hl with | [_], _ => rfl
  obtain ⟨d_format_hall, D_format_hall⟩ := cd.def_ 9 (d := hD "format_hall" 26) rfl
  have D_format_hall : FunD K "format_hall" "format_hall" (defArgs (top 26)) (defBody (top 26)) (defScope (top 26)) [] [] (He.fAd K ("format_hall", none)) d_format_hall := D_format_hall
  have g_format_hall : mg "format_hall" = some (.ref (He.fAd K ("format_hall", none))) := He.glo_ok X Gm (cd.fact 9 (f := .glo "format_hall") rfl)
  have F_format_hall := funD_fun (st := top 26) D_format_hall
  have b_format_hall : Binds K d_format_hall ["hall"] [] := D_format_hall.bindsN fun _ _ _ _ _ _ us hl => match us, hl with | [_], _ => rfl
  obtain ⟨d__check_text, D__check_text⟩ := cd.def_ 10 (d := hD "_check_text" 27) rfl
  have D__check_text : FunD K "_check_text" "_check_text" (defArgs (top 27)) (defBody (top 27)) (defScope (top 27)) [] [] (He.fAd K ("_check_text", none)) d__check_text := D__check_text
  have g__check_text : mg "_check_text" = some (.ref (He.fAd K ("_check_text", none))) := He.glo_ok X Gm (cd.fact 10 (f := .glo "_check_text") rfl)
  have F__check_text := funD_fun (st := top 27) D__check_text
  have b__check_text : Binds K d__check_text ["value"] [] := D__check_text.bindsN fun _ _ _ _ _ _ us hl => match us, hl with | [_], _ => rfl
  obtain ⟨d__number, D__number⟩ := cd.def_ 11 (d := hD "_number" 28) rfl
  have D__number : FunD K "_number" "_number" (defArgs (top 28)) (defBody (top 28)) (defScope (top 28)) [] [] (He.fAd K ("_number", none)) d__number := D__number
  have g__number : mg "_number" = some (.ref (He.fAd K ("_number", none))) := He.glo_ok X Gm (cd.fact 11 (f := .glo "_number") rfl)
  have F__number := funD_fun (st := top 28) D__number
  have b__number : Binds K d__number ["word"] [] := D__number.bindsN fun _ _ _ _ _ _ us hl => match us, hl with | [_], _ => rfl
  obtain ⟨d_parse_program, D_parse_program⟩ := cd.def_ 12 (d := hD "parse_program" 29) rfl
  have D_parse_program : FunD K "parse_program" "parse_program" (defArgs (top 29)) (defBody (top 29)) (defScope (top 29)) [] [] (He.fAd K ("parse_program", none)) d_parse_program := D_parse_program
  have g_parse_program : mg "parse_program" = some (.ref (He.fAd K ("parse_program", none))) := He.glo_ok X Gm (cd.fact 12 (f := .glo "parse_program") rfl)
  have F_parse_program := funD_fun (st := top 29) D_parse_program
  have b_parse_program : Binds K d_parse_program ["text"] [] := D_parse_program.bindsN fun _ _ _ _ _ _ us hl => match us, hl with | [_], _ => rfl
  obtain ⟨d__program_told, D__program_told⟩ := cd.def_ 13 (d := hD "_program_told" 30) rfl
  have D__program_told : FunD K "_program_told" "_program_told" (defArgs (top 30)) (defBody (top 30)) (defScope (top 30)) [] [] (He.fAd K ("_program_told", none)) d__program_told := D__program_told
  have g__program_told : mg "_program_told" = some (.ref (He.fAd K ("_program_told", none))) := He.glo_ok X Gm (cd.fact 13 (f := .glo "_program_told") rfl)
  have F__program_told := funD_fun (st := top 30) D__program_told
  have b__program_told : Binds K d__program_told ["text"] [] := D__program_told.bindsN fun _ _ _ _ _ _ us hl => match us, hl with | [_], _ => rfl
  obtain ⟨d_parse_hall, D_parse_hall⟩ := cd.def_ 14 (d := hD "parse_hall" 31) rfl
  have D_parse_hall : FunD K "parse_hall" "parse_hall" (defArgs (top 31)) (defBody (top 31)) (defScope (top 31)) [] [] (He.fAd K ("parse_hall", none)) d_parse_hall := D_parse_hall
  have g_parse_hall : mg "parse_hall" = some (.ref (He.fAd K ("parse_hall", none))) := He.glo_ok X Gm (cd.fact 14 (f := .glo "parse_hall") rfl)
  have F_parse_hall := funD_fun (st := top 31) D_parse_hall
  have b_parse_hall : Binds K d_parse_hall ["text"] [] := D_parse_hall.bindsN fun _ _ _ _ _ _ us hl => match us, hl with | [_], _ => rfl
  obtain ⟨d__law_start, D__law_start⟩ := cd.def_ 15 (d := hD "_law_start" 33) rfl
  have D__law_start : FunD K "_law_start" "_law_start" (defArgs (top 33)) (defBody (top 33)) (defScope (top 33)) [] [] (He.fAd K ("_law_start", none)) d__law_start := D__law_start
  have g__law_start : mg "_law_start" = some (.ref (He.fAd K ("_law_start", none))) := He.glo_ok X Gm (cd.fact 15 (f := .glo "_law_start") rfl)
  have F__law_start := funD_fun (st := top 33) D__law_start
  have b__law_start : Binds K d__law_start ["_law_script"] [] := D__law_start.bindsN fun _ _ _ _ _ _ us hl => match us, hl with | [_], _ => rfl
  obtain ⟨d__law_draw, D__law_draw⟩ := cd.def_ 16 (d := hD "_law_draw" 34) rfl
  have D__law_draw : FunD K "_law_draw" "_law_draw" (defArgs (top 34)) (defBody (top 34)) (defScope (top 34)) [] [] (He.fAd K ("_law_draw", none)) d__law_draw := D__law_draw
  have g__law_draw : mg "_law_draw" = some (.ref (He.fAd K ("_law_draw", none))) := He.glo_ok X Gm (cd.fact 16 (f := .glo "_law_draw") rfl)
  have F__law_draw := funD_fun (st := top 34) D__law_draw
  have b__law_draw : Binds K d__law_draw ["_law_draws", "_law_limit"] [] := D__law_draw.bindsN fun _ _ _ _ _ _ us hl => match us, hl with | [_, _], _ => rfl
  obtain ⟨d__law_pick, D__law_pick⟩ := cd.def_ 17 (d := hD "_law_pick" 35) rfl
  have D__law_pick : FunD K "_law_pick" "_law_pick" (defArgs (top 35)) (defBody (top 35)) (defScope (top 35)) [] [] (He.fAd K ("_law_pick", none)) d__law_pick := D__law_pick
  have g__law_pick : mg "_law_pick" = some (.ref (He.fAd K ("_law_pick", none))) := He.glo_ok X Gm (cd.fact 17 (f := .glo "_law_pick") rfl)
  have F__law_pick := funD_fun (st := top 35) D__law_pick
  have b__law_pick : Binds K d__law_pick ["_law_draws", "_law_choices"] [] := D__law_pick.bindsN fun _ _ _ _ _ _ us hl => match us, hl with | [_, _], _ => rfl
  obtain ⟨d__law_error, D__law_error⟩ := cd.def_ 18 (d := hD "_law_error" 36) rfl
  have D__law_error : FunD K "_law_error" "_law_error" (defArgs (top 36)) (defBody (top 36)) (defScope (top 36)) [] [] (He.fAd K ("_law_error", none)) d__law_error := D__law_error
  have g__law_error : mg "_law_error" = some (.ref (He.fAd K ("_law_error", none))) := He.glo_ok X Gm (cd.fact 18 (f := .glo "_law_error") rfl)
  have F__law_error := funD_fun (st := top 36) D__law_error
  have b__law_error : Binds K d__law_error ["_law_caught"] [] := D__law_error.bindsN fun _ _ _ _ _ _ us hl => match us, hl with | [_], _ => rfl
  obtain ⟨d__law_program, D__law_program⟩ := cd.def_ 19 (d := hD "_law_program" 37) rfl
  have D__law_program : FunD K "_law_program" "_law_program" (defArgs (top 37)) (defBody (top 37)) (defScope (top 37)) [] [] (He.fAd K ("_law_program", none)) d__law_program := D__law_program
  have g__law_program : mg "_law_program" = some (.ref (He.fAd K ("_law_program", none))) := He.glo_ok X Gm (cd.fact 19 (f := .glo "_law_program") rfl)
  have F__law_program := funD_fun (st := top 37) D__law_program
  have b__law_program : Binds K d__law_program ["_law_draws", "_law_locks", "_law_most"] [] := D__law_program.bindsN fun _ _ _ _ _ _ us hl => match us, hl with | [_, _, _], _ => rfl
  obtain ⟨d__law_words, D__law_words⟩ := cd.def_ 20 (d := hD "_law_words" 38) rfl
  have D__law_words : FunD K "_law_words" "_law_words" (defArgs (top 38)) (defBody (top 38)) (defScope (top 38)) [] [] (He.fAd K ("_law_words", none)) d__law_words := D__law_words
  have g__law_words : mg "_law_words" = some (.ref (He.fAd K ("_law_words", none))) := He.glo_ok X Gm (cd.fact 20 (f := .glo "_law_words") rfl)
  have F__law_words := funD_fun (st := top 38) D__law_words
  have b__law_words : Binds K d__law_words ["_law_program_here"] [] := D__law_words.bindsN fun _ _ _ _ _ _ us hl => match us, hl with | [_], _ => rfl
  obtain ⟨d__law_written, D__law_written⟩ := cd.def_ 21 (d := hD "_law_written" 39) rfl
  have D__law_written : FunD K "_law_written" "_law_written" (defArgs (top 39)) (defBody (top 39)) (defScope (top 39)) [] [] (He.fAd K ("_law_written", none)) d__law_written := D__law_written
  have g__law_written : mg "_law_written" = some (.ref (He.fAd K ("_law_written", none))) := He.glo_ok X Gm (cd.fact 21 (f := .glo "_law_written") rfl)
  have F__law_written := funD_fun (st := top 39) D__law_written
  have b__law_written : Binds K d__law_written ["_law_hall"] [] := D__law_written.bindsN fun _ _ _ _ _ _ us hl => match us, hl with | [_], _ => rfl
  obtain ⟨d__law_parsed, D__law_parsed⟩ := cd.def_ 22 (d := hD "_law_parsed" 40) rfl
  have D__law_parsed : FunD K "_law_parsed" "_law_parsed" (defArgs (top 40)) (defBody (top 40)) (defScope (top 40)) [] [] (He.fAd K ("_law_parsed", none)) d__law_parsed := D__law_parsed
  have g__law_parsed : mg "_law_parsed" = some (.ref (He.fAd K ("_law_parsed", none))) := He.glo_ok X Gm (cd.fact 22 (f := .glo "_law_parsed") rfl)
  have F__law_parsed := funD_fun (st := top 40) D__law_parsed
  have b__law_parsed : Binds K d__law_parsed ["_law_kind", "_law_text"] [] := D__law_parsed.bindsN fun _ _ _ _ _ _ us hl => match us, hl with | [_, _], _ => rfl
  obtain ⟨d__law_rejected, D__law_rejected⟩ := cd.def_ 23 (d := hD "_law_rejected" 41) rfl
  have D__law_rejected : FunD K "_law_rejected" "_law_rejected" (defArgs (top 41)) (defBody (top 41)) (defScope (top 41)) [] [] (He.fAd K ("_law_rejected", none)) d__law_rejected := D__law_rejected
  have g__law_rejected : mg "_law_rejected" = some (.ref (He.fAd K ("_law_rejected", none))) := He.glo_ok X Gm (cd.fact 23 (f := .glo "_law_rejected") rfl)
  have F__law_rejected := funD_fun (st := top 41) D__law_rejected
  have b__law_rejected : Binds K d__law_rejected [] [] := D__law_rejected.bindsN fun _ _ _ _ _ _ us hl => match us, hl with | [], _ => rfl
  obtain ⟨d_law, D_law⟩ := cd.def_ 24 (d := hD "law" 42) rfl
  have D_law : FunD K "law" "law" (defArgs (top 42)) (defBody (top 42)) (defScope (top 42)) [] [] (He.fAd K ("law", none)) d_law := D_law
  have g_law : mg "law" = some (.ref (He.fAd K ("law", none))) := He.glo_ok X Gm (cd.fact 24 (f := .glo "law") rfl)
  have F_law := funD_fun (st := top 42) D_law
  have b_law : Binds K d_law ["_law_script"] [] := D_law.bindsN fun _ _ _ _ _ _ us hl => match us, hl with | [_], _ => rfl
  obtain ⟨t_MOST_DEEDS, i_MOST_DEEDS⟩ := He.int_ok X Gm (cd.fact 48 (f := .int "MOST_DEEDS" 40) rfl)
  obtain ⟨t_MOST_UNITS, i_MOST_UNITS⟩ := He.int_ok X Gm (cd.fact 49 (f := .int "MOST_UNITS" 99) rfl)
  obtain ⟨t_MOST_PROCESSES, i_MOST_PROCESSES⟩ := He.int_ok X Gm (cd.fact 50 (f := .int "MOST_PROCESSES" 4) rfl)
  obtain ⟨t_LAST_TIME, i_LAST_TIME⟩ := He.int_ok X Gm (cd.fact 51 (f := .int "LAST_TIME" 99) rfl)
  have g_TurnError : mg "TurnError" = some (.ref (He.ga K "TurnError")) := He.glo_ok X Gm (cd.fact 25 (f := .glo "TurnError") rfl)
  have g_BadProgram : mg "BadProgram" = some (.ref (He.ga K "BadProgram")) := He.glo_ok X Gm (cd.fact 26 (f := .glo "BadProgram") rfl)
  have g_BadHall : mg "BadHall" = some (.ref (He.ga K "BadHall")) := He.glo_ok X Gm (cd.fact 27 (f := .glo "BadHall") rfl)
  have g_BadScheduler : mg "BadScheduler" = some (.ref (He.ga K "BadScheduler")) := He.glo_ok X Gm (cd.fact 28 (f := .glo "BadScheduler") rfl)
  have g_BadNumber : mg "BadNumber" = some (.ref (He.ga K "BadNumber")) := He.glo_ok X Gm (cd.fact 29 (f := .glo "BadNumber") rfl)
  have g_BadRecord : mg "BadRecord" = some (.ref (He.ga K "BadRecord")) := He.glo_ok X Gm (cd.fact 30 (f := .glo "BadRecord") rfl)
  have g_BadText : mg "BadText" = some (.ref (He.ga K "BadText")) := He.glo_ok X Gm (cd.fact 31 (f := .glo "BadText") rfl)
  have g_NotFound : mg "NotFound" = some (.ref (He.ga K "NotFound")) := He.glo_ok X Gm (cd.fact 32 (f := .glo "NotFound") rfl)
  have G : Glob K mg := ⟨He.free_ok X Gm (cd.fact 33 (f := .free "isinstance") rfl), He.free_ok X Gm (cd.fact 34 (f := .free "int") rfl), He.free_ok X Gm (cd.fact 35 (f := .free "bool") rfl), He.free_ok X Gm (cd.fact 36 (f := .free "tuple") rfl), He.free_ok X Gm (cd.fact 37 (f := .free "list") rfl), He.free_ok X Gm (cd.fact 38 (f := .free "str") rfl), He.free_ok X Gm (cd.fact 39 (f := .free "len") rfl), He.free_ok X Gm (cd.fact 40 (f := .free "all") rfl), He.free_ok X Gm (cd.fact 41 (f := .free "any") rfl), He.free_ok X Gm (cd.fact 42 (f := .free "range") rfl), He.free_ok X Gm (cd.fact 43 (f := .free "ValueError") rfl)⟩
  have GC : GlobC K mg := ⟨t_MOST_PROCESSES, i_MOST_PROCESSES, t_LAST_TIME, i_LAST_TIME⟩
  have G11 : K11.Glob mg := ⟨He.free_ok X Gm (cd.fact 33 (f := .free "isinstance") rfl), He.free_ok X Gm (cd.fact 34 (f := .free "int") rfl), He.free_ok X Gm (cd.fact 35 (f := .free "bool") rfl), He.free_ok X Gm (cd.fact 36 (f := .free "tuple") rfl), He.free_ok X Gm (cd.fact 37 (f := .free "list") rfl), He.free_ok X Gm (cd.fact 38 (f := .free "str") rfl), He.free_ok X Gm (cd.fact 39 (f := .free "len") rfl), He.free_ok X Gm (cd.fact 40 (f := .free "all") rfl), He.free_ok X Gm (cd.fact 44 (f := .free "sum") rfl), He.free_ok X Gm (cd.fact 45 (f := .free "set") rfl), He.free_ok X Gm (cd.fact 46 (f := .free "sorted") rfl), He.free_ok X Gm (cd.fact 47 (f := .free "max") rfl), He.free_ok X Gm (cd.fact 42 (f := .free "range") rfl)⟩
  obtain ⟨e1, e2, e3, e4⟩ := He.exc_ok (cd.fact 52 (f := .exc "BadText") rfl)
  have em := He.exm_ok (cd.fact 53 (f := .exm "BadText" "TurnError" true) rfl)
  have EC : ExcC K (He.ga K "BadText") := ⟨x0, x1, x2, x3, x4, x5, x6, x7⟩
  have GE : GlobE K mg (He.ga K "BadText") := ⟨He.free_ok X Gm (cd.fact 33 (f := .free "isinstance") rfl), He.free_ok X Gm (cd.fact 43 (f := .free "ValueError") rfl), He.ga K "BadProgram", g_BadProgram, He.ga K "BadHall", g_BadHall, He.ga K "BadScheduler", g_BadScheduler, He.ga K "BadNumber", g_BadNumber, He.ga K "BadRecord", g_BadRecord, He.ga K "BadText", g_BadText, He.ga K "NotFound", g_NotFound, He.ga K "TurnError", g_TurnError, EC, x8, x9, x10, x11, x12, x13, x14, x15, x16, em⟩
  have el := hfa.symm.trans g_law
  cases el
  refine ⟨d_law, tf2.map (He.cT K), spLaw K (tf2.map fun d => He.tabOf K (He.codeOf K d)), fun p hp => ?_, fun p hp => ?_, fun p hp => ?_, fun s u => FunD.bindsA (ps := ["_law_script"]) D_law (fun _ _ _ _ _ _ us hl => match us, hl with | [_], _ => rfl) s [u] rfl, fun H a ns hl _ hT hS => ⟨a, ns, rfl, hS, hl, fun P hP => ?_, fun _ => rfl⟩, fun base hK hN hTB => ?_⟩
  · obtain ⟨d, hd, rfl⟩ := List.mem_map.mp hp
    exact c.empty _ hd
  · obtain ⟨d, hd, rfl⟩ := List.mem_map.mp hp
    exact c.out _ hd
  · obtain ⟨d, hd, rfl⟩ := List.mem_map.mp hp
    exact PySem.W.codeHd_of_K X (c.hd _ hd)
  · obtain ⟨d, hd, rfl⟩ := List.mem_map.mp hP
    exact ⟨#[], hT _ (List.mem_map.mpr ⟨d, hd, rfl⟩), triples_nil⟩
  · have TBs : ∀ d ∈ tf2, GxR.TabB base mg (He.codeOf K d) (He.tabOf K (He.codeOf K d)) := fun d hd => by
      have tb := hTB (He.cT K d) (List.mem_map.mpr ⟨d, hd, rfl⟩)
      exact ⟨tb.code, tb.bm, tb.gP⟩
    have hPs : ∀ d ∈ tf2, He.tabOf K (He.codeOf K d) ∈ tf2.map fun d => He.tabOf K (He.codeOf K d) := fun d hd => List.mem_map.mpr ⟨d, hd, rfl⟩
    generalize hT : (tf2.map fun d => He.tabOf K (He.codeOf K d)) = T at hPs
    have m_is_program : (("is_program", none) : He.Defn) ∈ tf2 := List.mem_cons_self
    have TB_is_program := TBs _ m_is_program
    have P_is_program := hPs _ m_is_program
    have m_is_hall : (("is_hall", none) : He.Defn) ∈ tf2 := (List.mem_cons_of_mem _ List.mem_cons_self)
    have TB_is_hall := TBs _ m_is_hall
    have P_is_hall := hPs _ m_is_hall
    have GI := K11.ok_prog (P := PySem.Challenge.pw_processturns_k32_whole_texts) (w := w) (T := T) F_is_program TB_is_program P_is_program G11 F_is_deed b_is_deed g_is_deed F_is_number b_is_number g_is_number F__locks_fit b__locks_fit g__locks_fit i_MOST_DEEDS i_MOST_UNITS
    have c_is_number : Cal PySem.Challenge.pw_processturns_k32_whole_texts w K mg base "is_number" 1 ["value", "least", "greatest"] (spD K T R_is_number) _ _ := ⟨g_is_number, F_is_number.kp, b_is_number, is_number_D (K11.ok_num F_is_number G11)⟩
    have c_is_program : Cal PySem.Challenge.pw_processturns_k32_whole_texts w K mg base "is_program" 4 ["value"] (spD K T R_is_program) _ _ := ⟨g_is_program, F_is_program.fun.kp, b_is_program, is_program_D GI⟩
    have c_check_program : Cal PySem.Challenge.pw_processturns_k32_whole_texts w K mg base "check_program" 5 ["value"] (spD K T R_check_program) _ _ := ⟨g_check_program, F_check_program.kp, b_check_program, check_program_D (K11.ok_chk F_check_program F_is_program GI b_is_program g_is_program)⟩
    have c__is_process : Cal PySem.Challenge.pw_processturns_k32_whole_texts w K mg base "_is_process" 5 ["value"] (spD K T R__is_process) _ _ := ⟨g__is_process, F__is_process.kp, b__is_process, ok__is_process F__is_process G GC c_is_number c_is_program⟩
    have c_is_hall : Cal PySem.Challenge.pw_processturns_k32_whole_texts w K mg base "is_hall" 7 ["value"] (spD K T R_is_hall) _ _ := ⟨g_is_hall, F_is_hall.fun.kp, b_is_hall, ok_is_hall F_is_hall G GC TB_is_hall P_is_hall c__is_process⟩
    have c_check_hall : Cal PySem.Challenge.pw_processturns_k32_whole_texts w K mg base "check_hall" 8 ["value"] (spD K T R_check_hall) _ _ := ⟨g_check_hall, F_check_hall.kp, b_check_hall, ok_check_hall F_check_hall G c_is_hall⟩
    have c_format_program : Cal PySem.Challenge.pw_processturns_k32_whole_texts w K mg base "format_program" 6 ["program"] (spD K T R_format_program) _ _ := ⟨g_format_program, F_format_program.kp, b_format_program, ok_format_program F_format_program G c_check_program⟩
    have c_format_hall : Cal PySem.Challenge.pw_processturns_k32_whole_texts w K mg base "format_hall" 9 ["hall"] (spD K T R_format_hall) _ _ := ⟨g_format_hall, F_format_hall.kp, b_format_hall, ok_format_hall F_format_hall G c_check_hall c_format_program⟩
    have c__number : Cal PySem.Challenge.pw_processturns_k32_whole_texts w K mg base "_number" 1 ["word"] (spD K T R__number) _ _ := ⟨g__number, F__number.kp, b__number, ok__number F__number G⟩
    have c__program_told : Cal PySem.Challenge.pw_processturns_k32_whole_texts w K mg base "_program_told" 2 ["text"] (spD K T R__program_told) _ _ := ⟨g__program_told, F__program_told.kp, b__program_told, ok__program_told F__program_told G c__number⟩
    have c__check_text : CalE PySem.Challenge.pw_processturns_k32_whole_texts w K mg base "_check_text" 1 ["value"] (spE K T (R__check_text (He.ga K "BadText"))) _ _ := ⟨g__check_text, F__check_text.kp, b__check_text, ok__check_text F__check_text G (⟨He.ga K "BadText", g_BadText, e1, e2, e3, e4⟩ : Bad K mg)⟩
    have c_parse_program : CalE PySem.Challenge.pw_processturns_k32_whole_texts w K mg base "parse_program" 5 ["text"] (spE K T (R_parse_program (He.ga K "BadText"))) _ _ := ⟨g_parse_program, F_parse_program.kp, b_parse_program, ok_parse_program F_parse_program G (⟨He.ga K "BadText", g_BadText, e1, e2, e3, e4⟩ : Bad K mg) c__check_text c__program_told c_is_program⟩
    have c_parse_hall : CalE PySem.Challenge.pw_processturns_k32_whole_texts w K mg base "parse_hall" 8 ["text"] (spE K T (R_parse_hall (He.ga K "BadText"))) _ _ := ⟨g_parse_hall, F_parse_hall.kp, b_parse_hall, ok_parse_hall F_parse_hall G (⟨He.ga K "BadText", g_BadText, e1, e2, e3, e4⟩ : Bad K mg) c__check_text c__program_told c_is_hall c__number⟩
    have c__law_start : Cal PySem.Challenge.pw_processturns_k32_whole_texts w K mg base "_law_start" 1 ["_law_script"] (LW.spStart K) _ _ := ⟨g__law_start, F__law_start.kp, b__law_start, LW.ok_start F__law_start G⟩
    have c__law_draw : Cal PySem.Challenge.pw_processturns_k32_whole_texts w K mg base "_law_draw" 1 ["_law_draws", "_law_limit"] (LW.spDraw T) _ _ := ⟨g__law_draw, F__law_draw.kp, b__law_draw, LW.ok_draw F__law_draw G⟩
    have c__law_pick : Cal PySem.Challenge.pw_processturns_k32_whole_texts w K mg base "_law_pick" 2 ["_law_draws", "_law_choices"] (spW K T R_pick) _ _ := ⟨g__law_pick, F__law_pick.kp, b__law_pick, ok__law_pick F__law_pick G c__law_draw⟩
    have c__law_program : Cal PySem.Challenge.pw_processturns_k32_whole_texts w K mg base "_law_program" 3 ["_law_draws", "_law_locks", "_law_most"] (spW K T R_program) _ _ := ⟨g__law_program, F__law_program.kp, b__law_program, ok__law_program F__law_program G c__law_draw c__law_pick⟩
    have c__law_words : Cal PySem.Challenge.pw_processturns_k32_whole_texts w K mg base "_law_words" 1 ["_law_program_here"] (spD K T R_law_words) _ _ := ⟨g__law_words, F__law_words.kp, b__law_words, ok__law_words F__law_words G⟩
    have c__law_written : Cal PySem.Challenge.pw_processturns_k32_whole_texts w K mg base "_law_written" 2 ["_law_hall"] (spD K T R_law_written) _ _ := ⟨g__law_written, F__law_written.kp, b__law_written, ok__law_written F__law_written G c__law_words⟩
    have c__law_error : Cal PySem.Challenge.pw_processturns_k32_whole_texts w K mg base "_law_error" 1 ["_law_caught"] (spX K T (R_law_error (He.ga K "BadText"))) _ _ := ⟨g__law_error, F__law_error.kp, b__law_error, ok__law_error F__law_error GE⟩
    have c__law_parsed : Cal PySem.Challenge.pw_processturns_k32_whole_texts w K mg base "_law_parsed" 9 ["_law_kind", "_law_text"] (spD K T (R_law_parsed (He.ga K "BadText"))) _ _ := ⟨g__law_parsed, F__law_parsed.kp, b__law_parsed, ok__law_parsed F__law_parsed GE c_parse_hall c_parse_program c__law_error⟩
    have c__law_rejected : Cal PySem.Challenge.pw_processturns_k32_whole_texts w K mg base "_law_rejected" 10 [] (spD K T R_law_rejected) _ _ := ⟨g__law_rejected, F__law_rejected.kp, b__law_rejected, ok__law_rejected F__law_rejected G c__law_parsed⟩
    exact ok_law F_law G c__law_start c__law_draw c__law_pick c__law_program c_format_hall c_format_program c__law_written c__law_words c__law_parsed c_is_hall c_is_program c__law_rejected
end PT
open PySem PySem.W PySem.Calls PyProof.Rows
theorem PySem.Challenge.cw_processturns_k32_whole_texts_holds : PySem.Challenge.rw_processturns_k32_whole_texts.Holds := by
  w_on; o_law
  refine HandSHeadRun.head_any (r := HD.R2w) (q := view HD.R2w.prog [42]) (H := HD.hk2) (ob := HD.ob2) (M := 8000) (loose := HD.loose2) (d := HandSHeadRun.topDef HD.R2w.prog 42) (kwd := []) HD.ob2_eq
    (by kernel_rfl) (fun s => by kernel_rfl) HD.run2 (by kernel_rfl) (by kernel_rfl) (by kernel_rfl) (by rfl) (by first | assumption | decide +kernel) (by decide +kernel) ⟨rfl, rfl, rfl, rfl, rfl, by decide +kernel⟩ ?hw ?hc
  case hw => w_witness2
  case hc =>
    refine LamX.walk_ofTsE (l := PySem.Challenge.rw_processturns_k32_whole_texts) (n := 63) (k := 11) (x := "_law_script") (CX := fun _ => L2.CX0) rfl (by decide) (by kernel_rfl) ⟨rfl, by decide, by decide⟩ ?F (fun _ _ _ _ _ z => z)
    intro w mg fa h Y G hmg0
    obtain ⟨K, KX, c⟩ := Y
    have hmg : mg ("law" : PySem.Str) = some (.ref fa) := by
      have e : (HandSHeadRun.topDef HD.R2w.prog 42).name = ("law" : PySem.Str) := by kernel_rfl
      rw [← e]
      exact hmg0
    exact ⟨K, KX, PT.law_at KX G hmg c⟩
