import PyProof.Rows.All
import Wide.All
import OpenK.AllK
import Wide.FinOn
import HandS.ForMost
import HandS.EndTab
import HandS.AnyAll
import HandS.GenList
import HandS.IsInst
import HandS.Deep
import HandS.SortInts
import HandS.List
import HandS.Iter
import HandS.RepeatKit
import HandS.Conv
import HandS.MapObj
import HandS.Comp
import HandS.Words
import HandS.TupMul
import HandS.TupAny
import HandS.Flow
import HandS.Style
import HandS.More
import HandS.CallLocal
import PySem.Challenge.RW_processturns_k13_whole_family
import HandS.HeadHook3
import HandS.SetFor
import HandS.Text
import HandS.Head0
import HandS.Head1
import HandS.Head2
import HandS.HeadEnd
import HandS.HeadHook1
import HandS.HeadHook2
import HandS.HeadHook4
import HandS.HeadWalk
import HandS.Defaults
set_option Elab.async false
set_option linter.all false
set_option maxRecDepth 100000
set_option maxHeartbeats 0
namespace GE
open PySem PySem.Spec PyProof.Rows L2 GenW

/-- the context of a generator expression's frame -/
abbrev gcx (X : Cx) (A : Around) (s : Shared) (H : Hp) (env : Env) (fp : List Addr) (pn : List (Addr × Obj)) : Cx :=
  { X with A := A, s_0 := s, H_0 := H, env := env, outer := X.stack, stack := env :: X.stack, ex := fp, fn := fun _ => false, pn := pn, xe := fun _ _ => False }

/-- the names of a generator expression: its own, or captured; none is captured further in -/
structure GxOk (N : List Str) (sc scope : Scope) (own : List (Str × Nat)) : Prop where
  blk : BlkOk N sc scope own
  co : scope.isCoroutine = false
  cell : ∀ y ∈ scope.names, y.2 ≠ .cell
  dot : scope.names.lookup (".0" : Str) = some NameKind.local

abbrev clo (X : Cx) (scope : Scope) : List (Str × Addr) := cloFrom X.env.cells scope.names []

theorem gx_start {X : Cx} {pins : List (Addr × Obj)} {σ : L2.St} {H : Hp} {s : Shared} {scope : Scope} {own : List (Str × Nat)} {fp : List Addr} {code it : Value} {A : Around} {h' : Heap} {go : Obj} {g' : Array GenState} {tk : Nat}
    (I : Inv X pins σ H s) (ok : GxOk X.N X.env.scope scope own) (hN : X.N.Nodup) (hfp : ∀ b ∈ fp, FpOk X pins H b ∧ b < s.heap.objs.size) (hA : X.calm = true → A.handled = none)
    (hAf : A.frames = some (genEnv scope (clo X scope) s.heap.objs.size code builtinsNs X.env :: X.stack))
    (ns : h'.Ns s.heap.objs.size (fun y => if y = ".0" then some it else none)) (sb : Heap.SameBut s.heap.objs.size (s.heap.push { cls := .type "frame", data := .dict #[] }) h') (hgo : ∀ v, go.data ≠ .cell v) (hg : AllBare g') (hgp : ∀ h : Heap, (h.push go).get? h.objs.size = some go) :
    Inv (gcx X A s H (genEnv scope (clo X scope) s.heap.objs.size code builtinsNs X.env) fp [(h'.objs.size, go)]) [] (wipe σ (own.map (·.2))) H { s with gens := g', toks := tk, heap := h'.push go } := by
  have hfree : ∀ y ∈ scope.names, y.2 = .free → ∃ c, X.env.cells.lookup y.1 = some c := fun y hy e => by
    rcases ok.blk.free y hy e with k | k
    · exact I.ok.has _ (.inl k)
    · exact I.ok.has _ (.inr k)
  have sz : h'.objs.size = s.heap.objs.size + 1 := by rw [sb.1, Heap.size_push]
  generalize hcenv : genEnv scope (clo X scope) s.heap.objs.size code builtinsNs X.env = cenv at hAf ⊢
  have kp : ∀ b o, s.heap.get? b = some o → (h'.push go).get? b = some o := fun b o e => Heap.get?_push_of_some _ (sb.extBut b o (Nat.ne_of_lt (Heap.lt_size e)) (Heap.get?_push_of_some _ e))
  have hL : cenv.locals = s.heap.objs.size := by rw [← hcenv]; rfl
  have hcl : cenv.cells = clo X scope := by rw [← hcenv]; rfl
  have hsc : cenv.scope = scope := by rw [← hcenv]; rfl
  have cm : ∀ {y c}, (y, c) ∈ clo X scope → X.env.cells.lookup y = some c ∧ c < s.heap.objs.size := fun {y c} hm => by
    rcases cloFrom_mem hm with hm | ⟨h1, rfl⟩
    · cases hm
    · obtain ⟨c, hc⟩ := hfree _ h1 rfl
      rw [hc]
      obtain ⟨w, z⟩ := I.cell _ _ hc
      exact ⟨rfl, z.lt⟩
  have mem : ∀ {y c}, cenv.cells.lookup y = some c → X.env.cells.lookup y = some c ∧ c < s.heap.objs.size := fun {y c} e => by
    rw [hcl] at e
    exact cm (PySem.mem_of_lookup e)
  have look : ∀ {y}, scope.names.lookup y = some .free → ∃ c, cenv.cells.lookup y = some c ∧ X.env.cells.lookup y = some c := fun {y} hl => by
    have hy : (y, NameKind.free) ∈ scope.names := PySem.mem_of_lookup hl
    obtain ⟨c', e'⟩ := L2.mem_lookup (cloFrom_has (cells := X.env.cells) (acc := []) hy)
    have e2 : cenv.cells.lookup y = some c' := by rw [hcl]; exact e'
    exact ⟨c', e2, (mem e2).1⟩
  have okB : (gcx X A s H cenv fp [(h'.objs.size, go)]).Ok := by
    refine ⟨I.ok.mod, by show cenv.scope.kind = _; rw [hsc]; exact ok.blk.kind, by show cenv.globals = _; rw [← hcenv]; exact I.ok.glob, by show cenv.builtins = _; rw [← hcenv]; rfl, by show s.heap.objs.size ≤ cenv.locals; rw [hL]; exact Nat.le_refl _,
      fun y z c e1 e2 => I.ok.inj y z c (mem e1).1 (mem e2).1, fun y hy => ?_, fun y c z e => absurd z Bool.false_ne_true, hA, hAf, .inr ⟨rfl, ?_⟩, fun b hb => ⟨?_, fun y c e z => ?_⟩, I.bs, Nat.le_trans I.ok.bsz I.sz, fun b o e hb => ?_, fun b hb z => ?_, I.stack, I.stkFree⟩
    · show ∃ c, cenv.cells.lookup y = some c
      have key : ∀ k, cenv.scope.names.lookup y = some k → (k = .cell ∨ k = .free) → ∃ c, cenv.cells.lookup y = some c := fun k hk hk' => by
        rw [hsc] at hk
        rcases hk' with rfl | rfl
        · exact absurd rfl (ok.cell _ (PySem.mem_of_lookup hk))
        · obtain ⟨c, h1, _⟩ := look hk
          exact ⟨c, h1⟩
      rcases hy with hy | hy
      · exact key _ hy (.inl rfl)
      · exact key _ hy (.inr rfl)
    · show cenv.frame = some cenv.locals
      rw [← hcenv]; rfl
    · show b ≠ cenv.locals
      rw [hL]; exact Nat.ne_of_lt (hfp b hb).2
    · exact (hfp b hb).1.2.2.2.2.1 y c (mem (show cenv.cells.lookup y = some c from e)).1 z
    · rcases (hfp b hb).1.2.2.2.1 with z | z
      · exact I.ok.noex b o e z
      · exact absurd (Nat.lt_of_lt_of_le (Heap.lt_size e) (Nat.le_trans I.ok.bsz z)) (Nat.lt_irrefl _)
    · rcases List.mem_cons.mp (I.stkSub b z) with z | z
      · exact (hfp b hb).1.2.1 z
      · exact (hfp b hb).1.2.2.1 z
  refine ⟨okB, rfl, hg, Un.kept kp, ⟨fun y => if y = ".0" then some it else none, ?_, fun i y av e1 e2 e3 => ?_⟩, fun y c e => ?_, ?_, fun y c e => I.freeC y c (mem e).1, fun p hp => ?_, I.hok.kept kp, by rw [wipe_length]; exact I.len⟩
  · show Heap.Ns _ cenv.locals _
    rw [hL]
    exact Heap.Ns.keeps ns fun b o e => Heap.get?_push_of_some _ e
  · obtain ⟨e2, hne⟩ := wipe_some e2
    have e3 : Vis cenv.scope y := e3
    have hfr : scope.names.lookup y = some .free := by
      have no : ∀ k', scope.names.lookup y = some k' → ¬ (k' = .local ∨ k' = .cell) := fun k' e hh => by
        rcases ok.blk.own _ (PySem.mem_of_lookup e) hh with e' | e'
        · obtain ⟨p, hp, hpy⟩ := List.mem_map.mp e'
          have e4 := ok.blk.ix p hp
          have : p.1 = y := hpy
          rw [this] at e4
          exact hne (List.mem_map.mpr ⟨p, hp, nodup_ix hN e4 e1⟩)
        · exact e' (List.mem_of_getElem? e1)
      unfold Vis at e3
      rw [hsc] at e3
      rcases e3 with e3 | e3 | e3
      · exact absurd (.inl rfl) (no _ e3)
      · exact absurd (.inr rfl) (no _ e3)
      · exact e3
    obtain ⟨m, hn, hl⟩ := I.loc
    have hvis : Vis X.env.scope y := (ok.blk.free _ (PySem.mem_of_lookup hfr) rfl).elim (fun k => .inr (.inl k)) (fun k => .inr (.inr k))
    obtain ⟨w, r, q⟩ := hl i y av e1 e2 hvis
    refine ⟨w, r, .inr ⟨.inr (by show cenv.scope.names.lookup y = _; rw [hsc]; exact hfr), ?_⟩⟩
    obtain ⟨c, h1, h2⟩ := look hfr
    rcases q with ⟨k, _⟩ | ⟨_, c', e', z⟩
    · have k : X.env.scope.names.lookup y = some .local := k
      rcases ok.blk.free _ (PySem.mem_of_lookup hfr) rfl with k' | k' <;> rw [show X.env.scope.names.lookup y = _ from k'] at k <;> cases k
    · rw [h2] at e'; cases e'
      exact ⟨c, h1, z.keeps kp⟩
  · obtain ⟨w, z⟩ := I.cell y c (mem (show cenv.cells.lookup y = some c from e)).1
    exact ⟨w, z.keeps kp⟩
  · show H cenv.locals = none
    rw [hL]; exact I.hok.fresh (Nat.le_refl _)
  · have hp' : p = (h'.objs.size, go) := by
      have q : p ∈ [(h'.objs.size, go)] ++ ([] : List (Addr × Obj)) := hp
      simpa using q
    subst hp'
    have hge : s.heap.objs.size ≤ h'.objs.size := by rw [sz]; exact Nat.le_succ _
    refine ⟨hgp h', I.hok.fresh hge, ?_, fun z => ?_, hgo⟩
    · show h'.objs.size ≠ cenv.locals
      rw [hL, sz]; exact Nat.succ_ne_self _
    · rcases List.mem_cons.mp (I.stkSub _ z) with z | z
      · have z' : h'.objs.size = X.env.locals := z
        have q := Nat.lt_of_lt_of_le I.lt hge
        rw [z'] at q
        exact absurd q (Nat.lt_irrefl _)
      · exact I.nofs hge z

/-! ### the generator's run -/
section
variable {X : Cx} {Ag : Around} {s4 : Shared} {H4 : Hp} {cenv : Env} {fp : List Addr} {pn : List (Addr × Obj)} {elt tg iter : Expr} {scope : Scope} {gpos : Pos} {it : Addr} {tn : Nat → Heap → Prop} {J : It} {g : TG} {te : TE}

abbrev gcode (elt tg iter : Expr) (scope : Scope) (gpos : Pos) (it : Addr) (cenv : Env) : Code := .compLoop (.GeneratorExp elt [⟨tg, iter, [], 0⟩] scope gpos) 0 (.ref it) .none cenv
abbrev gstart (elt tg iter : Expr) (scope : Scope) (gpos : Pos) (it : Addr) (cenv : Env) : Code := .compStart (.GeneratorExp elt [⟨tg, iter, [], 0⟩] scope gpos) 0 (.ref it) .none cenv

/-- the end; what is handed out -/
def GR (Z : Cx) (σw : L2.St) (N : Nat) (W : Nat → Hp → Prop) : GenEnd := fun n _ r s1 => r = .ok .next ∧ (n = 1 ∧ ∃ H, W N H ∧ Inv Z [] σw H s1)
def GYd (Z : Cx) (σw : L2.St) (fp : List Addr) (tn : Nat → Heap → Prop) (N : Nat) (f : Nat → V) (W Vv : Nat → Hp → Prop) : Protocol := fun n _ v s1 kap =>
  ∃ i H, (n + i = N ∧ i < N) ∧ RelV (f i) v ∧ Vv i H ∧ Inv Z [] σw H s1 ∧ tn (i + 1) s1.heap ∧ (∀ b ∈ fp, H b = none) ∧
    ∀ s' H', Inv Z [] σw H' s' → tn (i + 1) s'.heap → (∀ b ∈ fp, H' b = none) → W (i + 1) H' → kap (.send .none) s'

theorem seg_loop {N : Nat} {f : Nat → V} {W Vv : Nat → Hp → Prop} {σw : L2.St} {vs : List Nat} (hc : X.calm = true) (hco : cenv.scope.isCoroutine = false) (T : Turn X.prog X.w X.K tg J fp it tn)
    (Z : Cx) (hZ : Z = gcx X (Ag.over (gcode elt tg iter scope gpos it cenv) []) s4 H4 cenv fp pn) (hpn : ∀ b ∈ fp, ∀ p ∈ pn, p.1 ≠ b) (pg : PG Z tg g) (pe : PE Z elt te) (hσ : wipe σw vs = σw)
    (turn : ∀ i H, i < N → W i H → J.go i H ∧ ∀ x H', J.yld i H x H' → g x σw H' fun σ2 H2 => wipe σ2 vs = σw ∧ te σ2 H2 fun y H3 => y = f i ∧ Vv i H3) (stop : ∀ H, W N H → J.stop N H) :
    ∀ (k i : Nat) (s₀ s : Shared) (H : Hp), N - i = k → i ≤ N → Inv Z [] σw H s → tn i s.heap → (∀ b ∈ fp, H b = none) → W i H →
      Seg (model X.prog X.w) Ag (GR Z σw N W) (GYd Z σw fp tn N f W Vv) (N - i + 1) s₀ (gcode elt tg iter scope gpos it cenv) ((model X.prog X.w).den (gcode elt tg iter scope gpos it cenv)) [] s := by
  have stat : ∀ {σ' : L2.St} {H' : Hp} {s' : Shared}, Inv Z [] σ' H' s' → (∀ b ∈ fp, H' b = none) → ∀ b ∈ fp, FpOk Z [] H' b := fun {σ' H' s'} I' hn b hb => by
    subst hZ
    exact ⟨hn b hb, (I'.ok.exf b hb).1, I'.ok.exfs b hb, .inl hb, fun x c e => (I'.ok.exf b hb).2 x c e, fun p hp => hpn b hb p (by simpa using hp)⟩
  have hA : Z.A = Ag.over (gcode elt tg iter scope gpos it cenv) [] := by subst hZ; rfl
  have hP : Z.prog = X.prog := by subst hZ; rfl
  have hw : Z.w = X.w := by subst hZ; rfl
  have hK : Z.K = X.K := by subst hZ; rfl
  have hcZ : Z.calm = true := by subst hZ; exact hc
  have hxe : Z.xe = fun _ _ => False := by subst hZ; rfl
  have henv : Z.env = cenv := by subst hZ; rfl
  intro k
  induction k with
  | zero =>
    intro i s₀ s H hk hi I st nf w
    have hin : i = N := by omega
    subst hin
    show Seg _ Ag _ _ _ s₀ _ ((compTurn (.GeneratorExp elt [⟨tg, iter, [], 0⟩] scope gpos) 0 (.ref it) .none cenv).onRaise (leaving cenv)) [] s
    rw [compTurn_gen, Sem.onRaise_eq_wrap]
    refine seg_bind_wrap (wpAny_standAt ?_)
    have td := T.done Z hP hw hK hcZ i [] s σw H (fun _ _ => False) I (stat I nf) st (stop H w)
    rw [hA] at td
    refine seg_bind_wrap (thnF td fun r s6 ⟨hr, I6⟩ => ?_)
    subst hr
    exact seg_end (.ok .next) ⟨rfl, by omega, H, w, I6⟩
  | succ k ih =>
    intro i s₀ s H hk hi I st nf w
    have hlt : i < N := by omega
    obtain ⟨go, step⟩ := turn i H hlt w
    show Seg _ Ag _ _ _ s₀ _ ((compTurn (.GeneratorExp elt [⟨tg, iter, [], 0⟩] scope gpos) 0 (.ref it) .none cenv).onRaise (leaving cenv)) [] s
    rw [compTurn_gen, Sem.onRaise_eq_wrap]
    refine seg_bind_wrap (wpAny_standAt ?_)
    have ti := T.item Z hP hw hK hcZ i [] s σw H (fun _ _ => False) I (stat I nf) st go
    rw [hA] at ti
    refine seg_bind_wrap (thnF ti fun r s6 ⟨u, hr, h6⟩ => ?_)
    subst hr
    refine seg_bind_wrap (thnF h6 fun _ s7 ⟨x, H7, I7, r7, y7, st7, n7⟩ => ?_)
    have I7' := I7.pinned (stat I7 n7) (T.obj _ _ st7)
    have hpg := pg.run _ s7 _ H7 x u _ I7' r7 (step x H7 y7)
    rw [hP, hw, hA, hxe, henv] at hpg
    refine seg_bind_wrap (thnF hpg fun _ s8 ⟨σ8, H8, I8, hw8, q8⟩ => ?_)
    refine seg_bind_wrap (wpAny_tests_nil ?_)
    simp only [if_true]
    have hy : ∀ v, yieldOut cenv v = yieldValue v := fun v => by simp only [yieldOut, hco, Bool.false_eq_true, if_false]
    simp only [hy]
    rw [Sem.bind_eq_wrap', Sem.bind_eq_wrap', Sem.wrap_wrap, Sem.wrap_wrap]
    have hpe := pe.run _ s8 σ8 H8 _ I8 q8
    rw [hP, hw, hA, hxe, henv] at hpe
    refine seg_wrap (thnF hpe fun z s9 ⟨y, H9, I9, r9, ey, v9⟩ => ?_)
    subst ey
    have pin' : ∀ b ∈ fp, ∀ o, s7.heap.get? b = some o → s9.heap.get? b = some o ∧ H9 b = none := fun b hb o e =>
      let z := I9.pin (b, o) (List.mem_append_right _ (List.mem_append_right _ (mem_pinsAt hb e)))
      ⟨z.1, z.2.1⟩
    have hl : σw.length = σ8.length := by rw [← hw8, wipe_length]
    have I10 : Inv Z [] σw H9 s9 := (I9.unpinned (pins := [])).weak hl fun j v e => by
      rw [← hw8] at e
      exact (wipe_some e).1
    have st9 : tn (i + 1) s9.heap := T.keep _ _ _ st7 fun b hb o e => (pin' b hb o e).1
    have n9 : ∀ b ∈ fp, H9 b = none := fun b hb => by
      obtain ⟨o, e, _⟩ := T.obj _ _ st7 b hb
      exact (pin' b hb o e).2
    refine seg_at (seg_yield rfl rfl rfl ⟨i, H9, ⟨by omega, hlt⟩, r9, v9, I10, st9, n9, fun s' H' I' st' n' w' => ?_⟩)
    have e2 : N - i = N - (i + 1) + 1 := by omega
    rw [e2]
    exact seg_again rfl (ih (i + 1) s' s' H' (by omega) hlt I' st' n' w')

theorem seg_start {N : Nat} {f : Nat → V} {W Vv : Nat → Hp → Prop} {σw : L2.St} {vs : List Nat} (hc : X.calm = true) (hco : cenv.scope.isCoroutine = false) (T : Turn X.prog X.w X.K tg J fp it tn)
    (Z : Cx) (hZ : Z = gcx X (Ag.over (gcode elt tg iter scope gpos it cenv) []) s4 H4 cenv fp pn) (hpn : ∀ b ∈ fp, ∀ p ∈ pn, p.1 ≠ b) (pg : PG Z tg g) (pe : PE Z elt te) (hσ : wipe σw vs = σw)
    (turn : ∀ i H, i < N → W i H → J.go i H ∧ ∀ x H', J.yld i H x H' → g x σw H' fun σ2 H2 => wipe σ2 vs = σw ∧ te σ2 H2 fun y H3 => y = f i ∧ Vv i H3) (stop : ∀ H, W N H → J.stop N H)
    (s₀ s : Shared) (H : Hp) (I : Inv Z [] σw H s) (st : tn 0 s.heap) (nf : ∀ b ∈ fp, H b = none) (w : W 0 H) :
    Seg (model X.prog X.w) Ag (GR Z σw N W) (GYd Z σw fp tn N f W Vv) (N + 1) s₀ (gstart elt tg iter scope gpos it cenv) ((model X.prog X.w).den (gstart elt tg iter scope gpos it cenv)) [] s := by
  have loop := seg_loop (s4 := s4) (H4 := H4) (pn := pn) hc hco T Z hZ hpn pg pe hσ turn stop N 0 s₀ s H (Nat.sub_zero _) (Nat.zero_le _) I st nf w
  rw [Nat.sub_zero] at loop
  show Seg _ Ag _ _ _ s₀ _ ((compStart (.GeneratorExp elt [⟨tg, iter, [], 0⟩] scope gpos) 0 (.ref it) .none cenv).onRaise (leaving cenv)) [] s
  unfold compStart
  rw [Sem.onRaise_eq_wrap]
  show Seg _ Ag _ _ _ s₀ _ ((ask >>= _).wrap _ _ _ _) [] s
  refine seg_bind_wrap (wpAny_askSetting ?_)
  split
  · exact seg_again rfl loop
  · first
      | exact seg_bind_wrap (wpAny_rule (seg_bind_wrap (wpAny_standAt (seg_bind_wrap (T.self _ 0 s _ _ st (seg_again rfl loop))))))
      | (refine seg_bind_wrap (wpAny_rule ?_); show Seg _ Ag _ _ _ s₀ _ ((standAt iter.pos >>= _).wrap _ _ _ _) [] s; exact seg_bind_wrap (wpAny_standAt (seg_bind_wrap (T.self _ 0 s _ _ st (seg_again rfl loop)))))

/-- before turn i; behind the i-th item -/
def St (Z : Cx) (Ag : Around) (σw : L2.St) (fp : List Addr) (tn : Nat → Heap → Prop) (N : Nat) (f : Nat → V) (W Vv : Nat → Hp → Prop) (gn i : Nat) (s : Shared) : Prop :=
  ∃ H gs, Inv Z [] σw H s ∧ tn i s.heap ∧ (∀ b ∈ fp, H b = none) ∧ W i H ∧ s.gens[gn]? = some gs ∧ gs.Goes (model Z.prog Z.w) Ag (GR Z σw N W) (GYd Z σw fp tn N f W Vv) (N - i + 1) (.send .none) (s.setGen gn .running)
def Mid (Z : Cx) (Ag : Around) (σw : L2.St) (fp : List Addr) (tn : Nat → Heap → Prop) (N : Nat) (f : Nat → V) (W Vv : Nat → Hp → Prop) (gn i : Nat) (s : Shared) : Prop :=
  ∃ H, Inv Z [] σw H s ∧ Vv i H ∧ (∀ b ∈ fp, H b = none) ∧ ∀ s' H', s'.gens = s.gens → Inv Z [] σw H' s' → (∀ b ∈ fp, ∀ o, s.heap.get? b = some o → s'.heap.get? b = some o) → (∀ b ∈ fp, H' b = none) → W (i + 1) H' → St Z Ag σw fp tn N f W Vv gn (i + 1) s'

theorem Inv.gens {Z : Cx} {σ : L2.St} {H : Hp} {s : Shared} {pins : List (Addr × Obj)} (I : Inv Z pins σ H s) {g' : Array GenState} (hg : AllBare g') : Inv Z pins σ H { s with gens := g' } :=
  ⟨I.ok, I.os, hg, I.base, I.loc, I.cell, I.free, I.freeC, I.pin, I.hok, I.len⟩
theorem Inv.setGen {Z : Cx} {σ : L2.St} {H : Hp} {s : Shared} {pins : List (Addr × Obj)} (I : Inv Z pins σ H s) {gn : Nat} {x : GenState} (hx : x.bare = true) : Inv Z pins σ H (s.setGen gn x) :=
  Inv.gens I (allBare_setGen I.bare hx)

theorem next_item {Z : Cx} {Ac : Around} {σw : L2.St} {N : Nat} {f : Nat → V} {W Vv : Nat → Hp → Prop} {gn i a : Nat} {s : Shared} {go : Obj} {Q : Option Value → Shared → Prop} {E : Value → Shared → Prop}
    (T : Turn X.prog X.w X.K tg J fp it tn)
    (hpn : (a, go) ∈ Z.pn) (hgo : ∀ h : Heap, h.get? a = some go → h.IsGen a gn) (hh : Ac.handled = none) (hroom : Ac.depth < recursionLimit) (hi : i < N) (st : St Z Ac.in1 σw fp tn N f W Vv gn i s)
    (hQ : ∀ v s', RelV (f i) v → Mid Z Ac.in1 σw fp tn N f W Vv gn i s' → Q (some v) s') : wpAny (model Z.prog Z.w) Ac (pyNext (.ref a)) Q E s := by
  obtain ⟨H, gs, I, t, nf, w, hgs, hgoes⟩ := st
  have hlt : gn < s.gens.size := (Array.getElem?_eq_some_iff.mp hgs).1
  have hg := hgo s.heap (I.pin (a, go) (List.mem_append_left _ hpn)).1
  refine wpAny_gsz (n := s.gens.size) (Nat.le_refl _) ?_
  refine wpAny_pyNext_genexpQ (P := fun n _ s1 => n = 1 ∧ ∃ H, W N H ∧ Inv Z [] σw H s1) hh I.nolimit hroom hg hgs hgoes (fun v s₁ gs' hb hv => ?_) (fun s₁ hp h' hk => ?_)
  · obtain ⟨j, H3, hj, rv, vv, I3, t3, n3, kap⟩ := hv
    have hji : j = i := by omega
    subst hji
    intro hsz
    have hsz : s.gens.size ≤ (s₁.setGen gn gs').gens.size := hsz
    have hsz2 : gn < (s₁.setGen gn gs').gens.size := Nat.lt_of_lt_of_le hlt hsz
    have hsz3 : gn < s₁.gens.size := by rw [setGen_size] at hsz2; exact hsz2
    refine hQ v _ rv ⟨H3, Inv.setGen I3 hb, vv, n3, fun s' H' eg I' hk hn' w' => ?_⟩
    have egs : s'.gens[gn]? = some gs' := by rw [eg]; exact setGen_at hsz3
    refine ⟨H', gs', I', T.keep _ _ _ t3 fun b hb o e => hk b hb o e, hn', w', egs, ?_⟩
    have e2 : N - (j + 1) + 1 = N - j := by omega
    rw [e2]
    exact kap (s'.setGen gn .running) H' (Inv.setGen I' rfl) (T.keep _ _ _ t3 fun b hb o e => hk b hb o e) hn' w'
  · have := hp.1
    omega
theorem next_done {Z : Cx} {Ac : Around} {σw : L2.St} {N : Nat} {f : Nat → V} {W Vv : Nat → Hp → Prop} {gn a : Nat} {s : Shared} {go : Obj} {Q : Option Value → Shared → Prop} {E : Value → Shared → Prop}
    (hpn : (a, go) ∈ Z.pn) (hgo : ∀ h : Heap, h.get? a = some go → h.IsGen a gn) (hh : Ac.handled = none) (hroom : Ac.depth < recursionLimit) (st : St Z Ac.in1 σw fp tn N f W Vv gn N s)
    (hQ : ∀ s' H, W N H → Inv Z [] σw H s' → Q none s') : wpAny (model Z.prog Z.w) Ac (pyNext (.ref a)) Q E s := by
  obtain ⟨H, gs, I, t, nf, w, hgs, hgoes⟩ := st
  have hg := hgo s.heap (I.pin (a, go) (List.mem_append_left _ hpn)).1
  refine wpAny_pyNext_genexpQ (P := fun n _ s1 => n = 1 ∧ ∃ H, W N H ∧ Inv Z [] σw H s1) hh I.nolimit hroom hg hgs hgoes (fun v s₁ gs' hb hv => ?_) (fun s₁ hp h' hk => ?_)
  · obtain ⟨j, H3, hj, _⟩ := hv
    omega
  · obtain ⟨_, H3, w3, I3⟩ := hp
    exact hQ _ H3 w3 (Inv.setGen (I3.kept (t' := s₁.toks) hk) rfl)
end

section
variable {X : Cx} {pins : List (Addr × Obj)} {σ : L2.St} {H : Hp} {s : Shared}

def Turns (J : It) (g : TG) (te : TE) (vs : List Nat) (σw : L2.St) (N : Nat) (f : Nat → V) (W Vv : Nat → Hp → Prop) : Prop :=
  ∀ i H, i < N → W i H → J.go i H ∧ ∀ x H', J.yld i H x H' → g x σw H' fun σ2 H2 => wipe σ2 vs = σw ∧ te σ2 H2 fun y H3 => y = f i ∧ Vv i H3
/-- the generator at a, made and not begun -/
def Ready (X : Cx) (pins : List (Addr × Obj)) (σ : L2.St) (J : It) (g : TG) (te : TE) (vs : List Nat) (a : Addr) (H2 : Hp) (s5 : Shared) : Prop :=
  ∃ (Z : Cx) (tg : Expr) (go : Obj) (gn : Nat) (fp : List Addr) (it : Addr) (tn : Nat → Heap → Prop), Z.prog = X.prog ∧ Z.w = X.w ∧ Z.K = X.K ∧ Turn X.prog X.w X.K tg J fp it tn ∧ (a, go) ∈ Z.pn ∧ (∀ h : Heap, h.get? a = some go → h.IsGen a gn) ∧ Inv Z [] (wipe σ vs) H2 s5 ∧ (∀ b ∈ fp, H2 b = none ∧ b < s5.heap.objs.size) ∧
    (∀ H' s', Inv Z [] (wipe σ vs) H' s' → Inv X pins σ H' s') ∧
    ∀ N f W Vv, Turns J g te vs (wipe σ vs) N f W Vv → (∀ H, W N H → J.stop N H) → ∀ s' H', s'.gens = s5.gens → Inv Z [] (wipe σ vs) H' s' → (∀ b ∈ fp, ∀ o, s5.heap.get? b = some o → s'.heap.get? b = some o) → (∀ b ∈ fp, H' b = none) → W 0 H' →
      St Z X.A.in1.in1 (wipe σ vs) fp tn N f W Vv gn 0 s'

theorem wipe_wipe (σ : L2.St) : ∀ vs : List Nat, wipe (wipe σ vs) vs = wipe σ vs := by
  intro vs
  refine List.ext_getElem? fun i => ?_
  by_cases hi : i ∈ vs
  · have e : ∀ τ : L2.St, (wipe τ vs)[i]? = if i < τ.length then some none else none := fun τ => by
      have hl : (wipe τ vs).length = τ.length := wipe_length τ vs
      by_cases hl2 : i < τ.length
      · rw [if_pos hl2]
        cases e1 : (wipe τ vs)[i]? with
        | none => rw [List.getElem?_eq_none_iff] at e1; omega
        | some o =>
          cases o with
          | none => rfl
          | some v => exact absurd hi (wipe_some e1).2
      · rw [if_neg hl2, List.getElem?_eq_none_iff]; omega
    rw [e, e, wipe_length]
  · rw [wipe_out hi]

theorem over_g {A : Around} {elt tg iter : Expr} {scope : Scope} {gpos : Pos} {it : Addr} {cenv : Env} {l : List Env} (h : A.frames = some l) : (A.over (gcode elt tg iter scope gpos it cenv) []).frames = some (cenv :: l) := by
  show pushEnvs [cenv] (pushEnvs [] A.frames) = _
  rw [h]
  rfl
theorem room_g {X : Cx} {k : Nat} {elt tg iter : Expr} {scope : Scope} {gpos : Pos} {it : Addr} {cenv : Env} (hr : Room (k + 1) X.A) : Room k (X.A.in1.in1.over (gcode elt tg iter scope gpos it cenv) []) := by
  refine ⟨hr.hd, ?_, ?_⟩
  · have := hr.dp
    show X.A.depth + 0 + 1 + 3 * k + 5 < _
    omega
  · have := hr.un
    show X.A.units + 1 + 1 + 0 + 3 + 16 * k + 200 < _
    omega

theorem gen_make {c P : Addr} {elt tg iter : Expr} {gpos : Pos} {scope : Scope} {own : List (Str × Nat)} {k : Nat} {wi : TI} {g : TG} {te : TE} {Q' : Value → Shared → Prop} {R : It → Hp → Prop}
    (hr : Room (k + 1) X.A) (hc : X.calm = true) (hN : X.N.Nodup) (TB : GxR.TabB X.base X.mg c P) (hcode : X.env.code = .ref c) (ok : GxOk X.N X.env.scope scope own) (hi : PI X tg iter wi)
    (hg : ∀ (A : Around) (s : Shared) (H : Hp) (code : Value) (fp : List Addr) (pn : List (Addr × Obj)), PG (gcx X A s H (genEnv scope (clo X scope) s.heap.objs.size code builtinsNs X.env) fp pn) tg g)
    (he : ∀ (A : Around) (s : Shared) (H : Hp) (code : Value) (fp : List Addr) (pn : List (Addr × Obj)), Room k A → PE (gcx X A s H (genEnv scope (clo X scope) s.heap.objs.size code builtinsNs X.env) fp pn) elt te)
    (hs : ∀ v, genFold iter X.env v = pure v) (I : Inv X pins σ H s) (h : wi σ H fun J H1 => GxR.TabG H1 P ∧ R J H1)
    (hQ : ∀ J H1 H2 a s5, R J H1 → GxR.Tabbed P H1 H2 → Ready X pins σ J g te (own.map (·.2)) a H2 s5 → Q' (.ref a) s5) :
    wpAny (model X.prog X.w) X.A (eval (.GeneratorExp elt [⟨tg, iter, [], 0⟩] scope gpos) X.env) Q' X.xe s := by
  have hfree : ∀ y ∈ scope.names, y.2 = .free → ∃ c, X.env.cells.lookup y.1 = some c := fun y hy e => by
    rcases ok.blk.free y hy e with k | k
    · exact I.ok.has _ (.inl k)
    · exact I.ok.has _ (.inr k)
  refine wpAny_GeneratorExp_make ok.co (closure_ok hfree) ok.cell ok.dot ok.blk.kind hr.depth ?_ hs
  refine thn (hi.run pins s σ H _ I h) fun xv s1 hx => thn hx fun itv s2 h2 => ?_
  obtain ⟨it, fp, tn, J, H2, e, I2, T, st2, f2, ⟨ps, hP, ht⟩, q⟩ := h2
  subst e
  have hPs : s2.heap.get? P = some { cls := .none, data := .fields ps } := I2.hok P _ hP
  have cd : PySem.W.CodeHd s2.heap c P := TB.code.keeps fun b u e => I2.bk b u e
  refine ⟨I2.nolimit, ?_⟩
  have cont : ∀ (code : Value) (h3 : Heap) (tk : Nat) (ps' : Array Value), Heap.ExtBut P s2.heap h3 → h3.get? P = some { cls := .none, data := .fields ps' } → (∃ more, ps' = ps ++ more) → TriplesOk ps'.toList →
      wpAny (model X.prog X.w) X.A (builtinsFor X.env.globals X.env.builtins) (fun bi s₄ =>
        ∀ h', h'.Ns s₄.heap.objs.size (fun y => if y = ".0" then some (.ref it) else none) → Heap.SameBut s₄.heap.objs.size (s₄.heap.push { cls := .type "frame", data := .dict #[] }) h' →
          Q' (.ref h'.objs.size) { s₄ with
            gens := s₄.gens.push (.fresh (.compStart (.GeneratorExp elt [⟨tg, iter, [], 0⟩] scope gpos) 0 (.ref it) .none (genEnv scope (clo X scope) s₄.heap.objs.size code bi X.env))),
            toks := s₄.toks + 1 + 1 + 1,
            heap := h'.push { cls := .type "generator", data := .fields #[.int s₄.gens.size 0, .str "<genexpr>" (s₄.toks + 1), .str (X.env.qual ++ "<genexpr>") (s₄.toks + 1 + 1)] } }) X.xe { s2 with heap := h3, toks := tk } := by
    intro code h3 tk ps' hx hP3 hmore ht3
    obtain ⟨more, em⟩ := hmore
    obtain ⟨bm, ob, e1, e2, e3, e4, e5, e6, e7, e8⟩ := TB.bm
    have J3 : Inv X pins σ (upd H2 P (.tbl (ps ++ more))) { s2 with heap := h3, gens := s2.gens, drawn := s2.drawn, toks := tk } :=
      GxR.inv_tab (more := more) (h' := h3) (g' := s2.gens) (d' := s2.drawn) (t' := tk) I2 hP (fun b u hb e => hx b u hb e) (by rw [← em]; exact hP3) I2.bare
    refine wpAny_builtinsFor (m := X.mg) (by rw [I2.ok.glob]; exact (I2.mod.glob.keeps I2.bk).extBut hx TB.gP) e1 e2 (hx _ _ e4 (I2.bk _ _ e5)) e6 e7 e8 ?_
    intro h' ns sb
    have nP : ∀ b, H2 b = none → b ≠ P := fun b n z => by rw [z, hP] at n; cases n
    have f3 : ∀ b ∈ fp, FpOk X pins (upd H2 P (.tbl (ps ++ more))) b ∧ b < h3.objs.size := fun b hb => by
      obtain ⟨o, e, _⟩ := T.obj _ _ st2 b hb
      refine ⟨⟨?_, (f2 b hb).2⟩, ?_⟩
      · rw [upd_ne (nP b (f2 b hb).1)]
        exact (f2 b hb).1
      · exact Heap.lt_size (hx b o (nP b (f2 b hb).1) e)
    have st3 : tn 0 h3 := T.keep _ _ _ st2 fun b hb o e => hx b o (nP b (f2 b hb).1) e
    have sz : h'.objs.size = h3.objs.size + 1 := by rw [sb.1]; exact Heap.size_push ..
    generalize hcenv : genEnv scope (clo X scope) h3.objs.size code builtinsNs X.env = cenv
    generalize hgo : ({ cls := .type "generator", data := .fields #[.int s2.gens.size 0, .str "<genexpr>" (tk + 1), .str (X.env.qual ++ "<genexpr>") (tk + 1 + 1)] } : Obj) = go
    have hgd : ∀ v, go.data ≠ .cell v := fun v z => by rw [← hgo] at z; cases z
    have hgp : ∀ h : Heap, (h.push go).get? h.objs.size = some go := fun h => by rw [← hgo]; exact Heap.get?_push_size _ rfl
    have hgen : ∀ (a : Addr) (h : Heap), h.get? a = some go → h.IsGen a s2.gens.size := fun a h e => by
      rw [← hgo] at e
      exact ⟨_, _, _, e, rfl, rfl, rfl⟩
    have hAf : (X.A.in1.in1.over (gcode elt tg iter scope gpos it cenv) []).frames = some (cenv :: X.stack) := over_g (show X.A.in1.in1.frames = some X.stack from I2.ok.frames)
    generalize hZ : gcx X (X.A.in1.in1.over (gcode elt tg iter scope gpos it cenv) []) { s2 with heap := h3, toks := tk } (upd H2 P (.tbl (ps ++ more))) cenv fp [(h'.objs.size, go)] = Z
    have I5 : Inv Z [] (wipe σ (own.map (·.2))) (upd H2 P (.tbl (ps ++ more))) { s2 with gens := s2.gens.push (.fresh (gstart elt tg iter scope gpos it cenv)), toks := tk + 1 + 1 + 1, heap := h'.push go } := by
      rw [← hZ, ← hcenv]
      exact gx_start (A := X.A.in1.in1.over (gcode elt tg iter scope gpos it (genEnv scope (clo X scope) h3.objs.size code builtinsNs X.env)) []) J3 ok hN f3 (fun _ => hr.hd) (by rw [hcenv]; exact hAf) ns sb hgd (I2.bare.push rfl) hgp
    have pg := hg (X.A.in1.in1.over (gcode elt tg iter scope gpos it cenv) []) { s2 with heap := h3, toks := tk } (upd H2 P (.tbl (ps ++ more))) code fp [(h'.objs.size, go)]
    have pe := he (X.A.in1.in1.over (gcode elt tg iter scope gpos it cenv) []) { s2 with heap := h3, toks := tk } (upd H2 P (.tbl (ps ++ more))) code fp [(h'.objs.size, go)] (room_g hr)
    have ezz : genEnv scope (clo X scope) ({ s2 with heap := h3, toks := tk } : Shared).heap.objs.size code builtinsNs X.env = cenv := hcenv
    rw [ezz, hZ] at pg pe
    have hzpn : (h'.objs.size, go) ∈ Z.pn := by rw [← hZ]; exact List.mem_singleton.mpr rfl
    have n5 : ∀ b ∈ fp, (upd H2 P (.tbl (ps ++ more))) b = none := fun b hb => (f3 b hb).1.1
    have hfpn : ∀ b ∈ fp, ∀ p ∈ [(h'.objs.size, go)], p.1 ≠ b := fun b hb p hp z => by
      rw [List.mem_singleton.mp hp] at z
      have z' : h'.objs.size = b := z
      have q := (f3 b hb).2
      rw [← z', sz] at q
      exact absurd q (Nat.not_lt.mpr (Nat.le_succ _))
    refine hQ J H2 (upd H2 P (.tbl (ps ++ more))) h'.objs.size _ q ⟨⟨ps ++ more, upd_same, by rw [← em]; exact ht3⟩, fun b hb => upd_ne hb⟩ ?_
    refine ⟨Z, tg, go, s2.gens.size, fp, it, tn, by rw [← hZ], by rw [← hZ], by rw [← hZ], T, hzpn, hgen _, I5, fun b hb => ⟨n5 b hb, ?_⟩, fun H' s' I' => ?_, fun N f W Vv ht hst s' H' eg I' hk hn w' => ?_⟩
    · show b < (h'.push go).objs.size
      rw [Heap.size_push, sz]
      exact Nat.lt_succ_of_lt (Nat.lt_succ_of_lt (f3 b hb).2)
    · have I6 : Inv (gcx X (X.A.in1.in1.over (gcode elt tg iter scope gpos it cenv) []) { s2 with heap := h3, toks := tk } (upd H2 P (.tbl (ps ++ more))) cenv fp [(h'.objs.size, go)]) [] (wipe σ (own.map (·.2))) H' s' := by rw [hZ]; exact I'
      exact J3.call' (ch := fp) I6.os I6.base I6.hok I6.bare fun b hb => ⟨(f3 b hb).1.2.2.2.1, (f3 b hb).1.2.1, (f3 b hb).1.2.2.2.2.1, (f3 b hb).1.2.2.2.2.2⟩
    · have st5 : tn 0 s'.heap := T.keep _ _ _ st3 fun b hb o e => by
        have hb3 := (f3 b hb).2
        have e1 : (h3.push { cls := .type "frame", data := .dict #[] }).get? b = some o := Heap.get?_push_of_some _ e
        have e2 : h'.get? b = some o := sb.extBut b o (Nat.ne_of_lt hb3) e1
        exact hk b hb o (Heap.get?_push_of_some _ e2)
      have egs : s'.gens[s2.gens.size]? = some (.fresh (gstart elt tg iter scope gpos it cenv)) := by rw [eg]; exact Array.getElem?_push_size ..
      have hp' : Z.prog = X.prog := by rw [← hZ]
      have hw' : Z.w = X.w := by rw [← hZ]
      refine ⟨H', _, I', st5, hn, w', egs, ?_⟩
      rw [hp', hw']
      refine ⟨rfl, ?_⟩
      exact seg_start (s4 := { s2 with heap := h3, toks := tk }) (H4 := upd H2 P (.tbl (ps ++ more))) (pn := [(h'.objs.size, go)]) hc (by rw [← hcenv]; exact ok.co) T Z hZ.symm hfpn pg pe (wipe_wipe _ _) ht hst _ _ H' (Inv.setGen I' rfl) st5 hn w'
  cases hf : codeAmong gpos ps.toList with
  | none =>
    refine wpAny_genexprCodeX hcode (cd.code hPs ht) (cd.tab hPs) hf fun c' h' tk hx hge hlt hco' _ htab' _ => ?_
    obtain ⟨o1, vs, f1, tf, fl, tg', inF, tx, tt, op, _, _, _, _, _, _, _, _, _, htr, _⟩ := hco'
    exact cont _ h' tk _ hx htab'.2 ⟨_, rfl⟩ htr
  | some cv =>
    refine wpAny_genexprCode_hit hcode (cd.code hPs ht) hf ?_
    exact cont cv s2.heap s2.toks ps (Heap.ExtBut.refl _ _) hPs ⟨#[], by simp⟩ ht
end

/-! ### all, any -/
section
variable {X : Cx}
def tAllG (P : Addr) (wi : TI) (g : TG) (te : TE) (vs : List Nat) : TE := fun σ H Q => wi σ H fun J H1 => GxR.TabG H1 P ∧ ∀ H2, GxR.Tabbed P H1 H2 → ∃ (N : Nat) (f : Nat → Bool) (W : Nat → Hp → Prop),
  W 0 H2 ∧ Turns J g te vs (wipe σ vs) N (fun i => .bl (f i)) W (fun i => W (i + 1)) ∧ (∀ H, W N H → J.stop N H) ∧ ∀ i H, i ≤ N → W i H → Q (.bl ((List.range N).all f)) H
def tAnyG (P : Addr) (wi : TI) (g : TG) (te : TE) (vs : List Nat) : TE := fun σ H Q => wi σ H fun J H1 => GxR.TabG H1 P ∧ ∀ H2, GxR.Tabbed P H1 H2 → ∃ (N : Nat) (f : Nat → Bool) (W : Nat → Hp → Prop),
  W 0 H2 ∧ Turns J g te vs (wipe σ vs) N (fun i => .bl (f i)) W (fun i => W (i + 1)) ∧ (∀ H, W N H → J.stop N H) ∧ ∀ i H, i ≤ N → W i H → Q (.bl ((List.range N).any f)) H

theorem all_loop {Z : Cx} {A : Around} {R : Result → Shared → Prop} {tg : Expr} {J : It} {it a : Addr} {go : Obj} {gn : Nat} {fp : List Addr} {tn : Nat → Heap → Prop} {σw : L2.St} {N : Nat} {f : Nat → Bool} {W : Nat → Hp → Prop} (T : Turn Z.prog Z.w Z.K tg J fp it tn)
    (hpn : (a, go) ∈ Z.pn) (hgo : ∀ h : Heap, h.get? a = some go → h.IsGen a gn) (hh : A.handled = none) (hroom : A.depth < recursionLimit)
    (hR : ∀ i s' H, i ≤ N → W i H → Inv Z [] σw H s' → R (.ok (.ret (.bool ((List.range N).all f)))) s') :
    ∀ (k i : Nat) (s : Shared), N - i = k → i ≤ N → ((List.range N).all f = ((List.range N).drop i).all f) → St Z A.in1.in1 σw fp tn N (fun i => .bl (f i)) W (fun i => W (i + 1)) gn i s → codeAny (model Z.prog Z.w) A (.builtin "all.loop" ⟨[.ref a], []⟩) R s := by
  intro k
  induction k with
  | zero =>
    intro i s hk hi hall st
    have hin : i = N := by omega
    subst hin
    refine codeAny_builtin F.entry_all_loop ?_
    rw [Around.under_plainId F.plain_all_loop _]
    show wpAny _ A.in1 (pyNext (.ref a) >>= _) _ _ s
    refine wpAny_bind (next_done hpn hgo hh hroom st fun s' H w I => ?_)
    refine wpAny_bind (wpAny_rule (wpAny_pure ?_))
    have h9 := hR i s' H (Nat.le_refl _) w I
    rw [hall, List.drop_of_length_le (by simp)] at h9
    exact h9
  | succ k ih =>
    intro i s hk hi hall st
    have hlt : i < N := by omega
    have hd : (List.range N).drop i = i :: (List.range N).drop (i + 1) := by
      rw [List.drop_eq_getElem_cons (by simpa using hlt)]; simp
    refine codeAny_builtin F.entry_all_loop ?_
    rw [Around.under_plainId F.plain_all_loop _]
    show wpAny _ A.in1 (pyNext (.ref a) >>= _) _ _ s
    refine wpAny_bind (next_item T hpn hgo hh hroom hlt st fun v s' rv hm => ?_)
    obtain rfl : v = Value.bool (f i) := rv
    obtain ⟨H, I, w, nfp, mid⟩ := hm
    refine wpAny_bind (wpAny_holding (wpAny_truthy_bool ?_))
    refine wpAny_bind (wpAny_letGo ?_)
    cases hb : f i with
    | true =>
      simp only [if_true]
      refine wpAny_pure ⟨plainId_quiet F.plain_all_loop _, ih (i + 1) _ (by omega) hlt ?_ (mid s' H rfl I (fun _ _ _ e => e) nfp w)⟩
      rw [hall, hd, List.all_cons, hb, Bool.true_and]
    | false =>
      simp only [Bool.false_eq_true, if_false]
      refine wpAny_bind (wpAny_rule (wpAny_pure ?_))
      have h9 := hR (i + 1) s' H hlt w I
      rw [hall, hd, List.all_cons, hb, Bool.false_and] at h9
      exact h9
theorem any_loop {Z : Cx} {A : Around} {R : Result → Shared → Prop} {tg : Expr} {J : It} {it a : Addr} {go : Obj} {gn : Nat} {fp : List Addr} {tn : Nat → Heap → Prop} {σw : L2.St} {N : Nat} {f : Nat → Bool} {W : Nat → Hp → Prop} (T : Turn Z.prog Z.w Z.K tg J fp it tn)
    (hpn : (a, go) ∈ Z.pn) (hgo : ∀ h : Heap, h.get? a = some go → h.IsGen a gn) (hh : A.handled = none) (hroom : A.depth < recursionLimit)
    (hR : ∀ i s' H, i ≤ N → W i H → Inv Z [] σw H s' → R (.ok (.ret (.bool ((List.range N).any f)))) s') :
    ∀ (k i : Nat) (s : Shared), N - i = k → i ≤ N → ((List.range N).any f = ((List.range N).drop i).any f) → St Z A.in1.in1 σw fp tn N (fun i => .bl (f i)) W (fun i => W (i + 1)) gn i s → codeAny (model Z.prog Z.w) A (.builtin "any.loop" ⟨[.ref a], []⟩) R s := by
  intro k
  induction k with
  | zero =>
    intro i s hk hi hall st
    have hin : i = N := by omega
    subst hin
    refine codeAny_builtin F.entry_any_loop ?_
    rw [Around.under_plainId F.plain_any_loop _]
    show wpAny _ A.in1 (pyNext (.ref a) >>= _) _ _ s
    refine wpAny_bind (next_done hpn hgo hh hroom st fun s' H w I => ?_)
    refine wpAny_bind (wpAny_rule (wpAny_pure ?_))
    have h9 := hR i s' H (Nat.le_refl _) w I
    rw [hall, List.drop_of_length_le (by simp)] at h9
    exact h9
  | succ k ih =>
    intro i s hk hi hall st
    have hlt : i < N := by omega
    have hd : (List.range N).drop i = i :: (List.range N).drop (i + 1) := by
      rw [List.drop_eq_getElem_cons (by simpa using hlt)]; simp
    refine codeAny_builtin F.entry_any_loop ?_
    rw [Around.under_plainId F.plain_any_loop _]
    show wpAny _ A.in1 (pyNext (.ref a) >>= _) _ _ s
    refine wpAny_bind (next_item T hpn hgo hh hroom hlt st fun v s' rv hm => ?_)
    obtain rfl : v = Value.bool (f i) := rv
    obtain ⟨H, I, w, nfp, mid⟩ := hm
    refine wpAny_bind (wpAny_holding (wpAny_truthy_bool ?_))
    refine wpAny_bind (wpAny_letGo ?_)
    cases hb : f i with
    | false =>
      simp only [Bool.false_eq_true, if_false]
      refine wpAny_pure ⟨plainId_quiet F.plain_any_loop _, ih (i + 1) _ (by omega) hlt ?_ (mid s' H rfl I (fun _ _ _ e => e) nfp w)⟩
      rw [hall, hd, List.any_cons, hb, Bool.false_or]
    | true =>
      simp only [if_true]
      refine wpAny_bind (wpAny_rule (wpAny_pure ?_))
      have h9 := hR (i + 1) s' H hlt w I
      rw [hall, hd, List.any_cons, hb, Bool.true_or] at h9
      exact h9

theorem pe_allG {c P : Addr} {elt tg iter : Expr} {p pos gpos : Pos} {scope : Scope} {own : List (Str × Nat)} {k : Nat} {wi : TI} {g : TG} {te : TE}
    (hr : Room (k + 1) X.A) (hc : X.calm = true) (hN : X.N.Nodup) (hgl : Gl X "all") (hm : X.mg "all" = none) (TB : GxR.TabB X.base X.mg c P) (hcode : X.env.code = .ref c) (ok : GxOk X.N X.env.scope scope own) (hi : PI X tg iter wi)
    (hg : ∀ (A : Around) (s : Shared) (H : Hp) (code : Value) (fp : List Addr) (pn : List (Addr × Obj)), PG (gcx X A s H (genEnv scope (clo X scope) s.heap.objs.size code builtinsNs X.env) fp pn) tg g)
    (he : ∀ (A : Around) (s : Shared) (H : Hp) (code : Value) (fp : List Addr) (pn : List (Addr × Obj)), Room k A → PE (gcx X A s H (genEnv scope (clo X scope) s.heap.objs.size code builtinsNs X.env) fp pn) elt te)
    (hs : ∀ v, genFold iter X.env v = pure v := by intro _; rfl)
    (hst : starEach [.GeneratorExp elt [⟨tg, iter, [], 0⟩] scope gpos] X.env = (false, eval (.GeneratorExp elt [⟨tg, iter, [], 0⟩] scope gpos) X.env) :: starEach [] X.env := by rfl) :
    PE X (.Call (.Name "all" p) [.GeneratorExp elt [⟨tg, iter, [], 0⟩] scope gpos] [] pos) (tAllG P wi g te (own.map (·.2))) := by
  refine ⟨fun pins s σ H Q I h => ?_⟩
  refine wpAny_Call_Name_kw (ld_blt I hgl hm boot_all ?_)
  refine PyProof.Rows.callWith_builtin1 ?_ hst (by rfl)
  rw [hst]
  show wpAny _ _ (spliced ((false, eval (.GeneratorExp elt [⟨tg, iter, [], 0⟩] scope gpos) X.env) :: backTo pos (starEach [] X.env))) _ _ s
  refine Calls.spliced_cons (gen_make hr hc hN TB hcode ok hi hg he hs I h fun J H1 H2 a s5 hR hT hrdy => ?_)
  refine Calls.spliced_nil ?_
  obtain ⟨N, f, W, w0, ht, hstop, hQ⟩ := hR H2 hT
  obtain ⟨Z, tg', go, gn, fp, it, tn, hp, hw, hK, T, hpn, hgo, I5, n5, back, mk⟩ := hrdy
  have st := mk N (fun i => .bl (f i)) W (fun i => W (i + 1)) ht hstop s5 H2 rfl I5 (fun _ _ _ e => e) (fun b hb => (n5 b hb).1) w0
  rw [← hp, ← hw, ← hK] at T
  refine call_function_tree F.kind_all F.plain_all F.entry_all (F.args_all1 _) ?_
  unfold Builtin.«all»
  refine wpAny_bind (m := oneArg "all" _) (wpAny_pure ?_)
  have hG := hgo s5.heap (I5.pin (a, go) (List.mem_append_left _ hpn)).1
  refine wpAny_bind (wpAny_pyIter_gen hG ?_)
  have lp := all_loop (A := X.A) (R := fun r s' => ∃ v, r = .ok (.ret v) ∧ EP X pins σ Q v s') T hpn hgo hr.hd hr.depth (fun i s' H hi w I' => ⟨_, rfl, .bl _, H, back H s' I', rfl, hQ i H hi w⟩) N 0 s5 (Nat.sub_zero _) (Nat.zero_le _) (by rw [List.drop_zero]) st
  rw [hp, hw] at lp
  refine wpAny_pure ⟨plainId_quiet F.plain_all_loop _, codeAny_mono lp fun r s' ⟨v, e, q⟩ => ?_⟩
  subst e
  exact q
theorem pe_anyG {c P : Addr} {elt tg iter : Expr} {p pos gpos : Pos} {scope : Scope} {own : List (Str × Nat)} {k : Nat} {wi : TI} {g : TG} {te : TE}
    (hr : Room (k + 1) X.A) (hc : X.calm = true) (hN : X.N.Nodup) (hgl : Gl X "any") (hm : X.mg "any" = none) (TB : GxR.TabB X.base X.mg c P) (hcode : X.env.code = .ref c) (ok : GxOk X.N X.env.scope scope own) (hi : PI X tg iter wi)
    (hg : ∀ (A : Around) (s : Shared) (H : Hp) (code : Value) (fp : List Addr) (pn : List (Addr × Obj)), PG (gcx X A s H (genEnv scope (clo X scope) s.heap.objs.size code builtinsNs X.env) fp pn) tg g)
    (he : ∀ (A : Around) (s : Shared) (H : Hp) (code : Value) (fp : List Addr) (pn : List (Addr × Obj)), Room k A → PE (gcx X A s H (genEnv scope (clo X scope) s.heap.objs.size code builtinsNs X.env) fp pn) elt te)
    (hs : ∀ v, genFold iter X.env v = pure v := by intro _; rfl)
    (hst : starEach [.GeneratorExp elt [⟨tg, iter, [], 0⟩] scope gpos] X.env = (false, eval (.GeneratorExp elt [⟨tg, iter, [], 0⟩] scope gpos) X.env) :: starEach [] X.env := by rfl) :
    PE X (.Call (.Name "any" p) [.GeneratorExp elt [⟨tg, iter, [], 0⟩] scope gpos] [] pos) (tAnyG P wi g te (own.map (·.2))) := by
  refine ⟨fun pins s σ H Q I h => ?_⟩
  refine wpAny_Call_Name_kw (ld_blt I hgl hm boot_any ?_)
  refine PyProof.Rows.callWith_builtin1 ?_ hst (by rfl)
  rw [hst]
  show wpAny _ _ (spliced ((false, eval (.GeneratorExp elt [⟨tg, iter, [], 0⟩] scope gpos) X.env) :: backTo pos (starEach [] X.env))) _ _ s
  refine Calls.spliced_cons (gen_make hr hc hN TB hcode ok hi hg he hs I h fun J H1 H2 a s5 hR hT hrdy => ?_)
  refine Calls.spliced_nil ?_
  obtain ⟨N, f, W, w0, ht, hstop, hQ⟩ := hR H2 hT
  obtain ⟨Z, tg', go, gn, fp, it, tn, hp, hw, hK, T, hpn, hgo, I5, n5, back, mk⟩ := hrdy
  have st := mk N (fun i => .bl (f i)) W (fun i => W (i + 1)) ht hstop s5 H2 rfl I5 (fun _ _ _ e => e) (fun b hb => (n5 b hb).1) w0
  rw [← hp, ← hw, ← hK] at T
  refine call_function_tree F.kind_any F.plain_any F.entry_any (F.args_any1 _) ?_
  unfold Builtin.«any»
  refine wpAny_bind (m := oneArg "any" _) (wpAny_pure ?_)
  have hG := hgo s5.heap (I5.pin (a, go) (List.mem_append_left _ hpn)).1
  refine wpAny_bind (wpAny_pyIter_gen hG ?_)
  have lp := any_loop (A := X.A) (R := fun r s' => ∃ v, r = .ok (.ret v) ∧ EP X pins σ Q v s') T hpn hgo hr.hd hr.depth (fun i s' H hi w I' => ⟨_, rfl, .bl _, H, back H s' I', rfl, hQ i H hi w⟩) N 0 s5 (Nat.sub_zero _) (Nat.zero_le _) (by rw [List.drop_zero]) st
  rw [hp, hw] at lp
  refine wpAny_pure ⟨plainId_quiet F.plain_any_loop _, codeAny_mono lp fun r s' ⟨v, e, q⟩ => ?_⟩
  subst e
  exact q
end

/-! ### sum -/
def preS (f : Nat → Int) : Nat → Int
  | 0 => 0
  | n + 1 => preS f n + f n
section
variable {X : Cx}
def tSumG (P : Addr) (wi : TI) (g : TG) (te : TE) (vs : List Nat) : TE := fun σ H Q => wi σ H fun J H1 => GxR.TabG H1 P ∧ ∀ H2, GxR.Tabbed P H1 H2 → ∀ D, H2 D = none → ∃ (N : Nat) (f : Nat → Int) (W Vv : Nat → Hp → Prop),
  W 0 (upd H2 D (.lst [.int 0])) ∧ Turns J g te vs (wipe σ vs) N (fun i => .int (f i)) W Vv ∧ (∀ H, W N H → J.stop N H) ∧ (∀ i H, i ≤ N → W i H → H D = some (.lst [.int (preS f i)])) ∧
  (∀ i H, i < N → Vv i H → H D = some (.lst [.int (preS f i)]) ∧ W (i + 1) (upd H D (.lst [.int (preS f (i + 1))]))) ∧ ∀ H, W N H → Q (.int (preS f N)) H
theorem inv_S {Z : Cx} {σ : L2.St} {H : Hp} {s : Shared} {S : Addr} {acc : Int} (I : Inv Z [] σ H s) (hS : H S = some (.lst [.int acc])) :
    ∃ tA c, s.heap.get? S = some { cls := .type "list", dict := none, data := .seq #[.int acc tA] c, slots := #[] } ∧
      ∀ (m : Int) (t : Tok) (tk : Nat), Inv Z [] σ (upd H S (.lst [.int m])) { s with heap := s.heap.update S (Obj.mapSeq fun _ => #[.int m t]), toks := tk } := by
  obtain ⟨hz, its, n, ri, e⟩ := I.hok S _ hS
  cases ri with
  | cons r1 r2 =>
    cases r2
    obtain ⟨tA, rfl⟩ := r1
    refine ⟨tA, n, e, fun m t tk => ?_⟩
    have e2 := Heap.get?_update_self (Obj.mapSeq fun _ => #[Value.int m t]) e rfl
    exact I.write (t' := tk) (by rw [hS]; trivial) (.inl rfl) (fun b u hb q => (Heap.get?_update_other _ _ (Ne.symm hb)).trans q) ⟨_, e2⟩ ⟨hz, [.int m t], n, .cons ⟨t, rfl⟩ .nil, e2⟩
theorem sum_loop {Z : Cx} {A : Around} {R : Result → Shared → Prop} {tg : Expr} {J : It} {it a S : Addr} {go : Obj} {gn : Nat} {fp : List Addr} {tn : Nat → Heap → Prop} {σw : L2.St} {N : Nat} {f : Nat → Int} {W Vv : Nat → Hp → Prop} (T : Turn Z.prog Z.w Z.K tg J fp it tn)
    (hpn : (a, go) ∈ Z.pn) (hgo : ∀ h : Heap, h.get? a = some go → h.IsGen a gn) (hh : A.handled = none) (hroom : A.depth < recursionLimit)
    (hW : ∀ i H, i ≤ N → W i H → H S = some (.lst [.int (preS f i)])) (hV : ∀ i H, i < N → Vv i H → H S = some (.lst [.int (preS f i)]) ∧ W (i + 1) (upd H S (.lst [.int (preS f (i + 1))])))
    (hR : ∀ s' H t, W N H → Inv Z [] σw H s' → R (.ok (.ret (.int (preS f N) t))) s') :
    ∀ (k i : Nat) (s : Shared) (st : Int), (st = 0 ∨ st = 2) → N - i = k → i ≤ N → St Z A.in1.in1 σw fp tn N (fun i => .int (f i)) W Vv gn i s → codeAny (model Z.prog Z.w) A (.builtin "sum.loop" ⟨[.ref a, .ref S, rawInt st, rawInt 0], []⟩) R s := by
  intro k
  induction k with
  | zero =>
    intro i s st hst2 hk hi hst
    have hin : i = N := by omega
    subst hin
    obtain ⟨tA, c, hS, _⟩ : ∃ tA c, s.heap.get? S = some { cls := .type "list", dict := none, data := .seq #[.int (preS f i) tA] c, slots := #[] } ∧ True := by
      obtain ⟨H, gs, I, _, _, w, _⟩ := hst
      obtain ⟨tA, c, e, _⟩ := inv_S I (hW i H (Nat.le_refl _) w)
      exact ⟨tA, c, e, trivial⟩
    refine codeAny_builtin F.entry_sum_loop ?_
    rw [Around.under_plainId F.plain_sum_loop _]
    show wpAny _ A.in1 (seqItems? (.ref S) >>= _) _ _ s
    refine wpAny_bind (wpAny_seqItems hS rfl ?_)
    show wpAny _ A.in1 (tryCatch (pyNext (.ref a)) _ >>= _) _ _ s
    refine wpAny_bind (wpAny_tryCatch (next_done hpn hgo hh hroom hst fun s' H w I => ?_))
    exact wpAny_pure (hR s' H tA w I)
  | succ k ih =>
    intro i s st hst2 hk hi hst
    have hlt : i < N := by omega
    obtain ⟨tA, c, hS, _⟩ : ∃ tA c, s.heap.get? S = some { cls := .type "list", dict := none, data := .seq #[.int (preS f i) tA] c, slots := #[] } ∧ True := by
      obtain ⟨H, gs, I, _, _, w, _⟩ := hst
      obtain ⟨tA, c, e, _⟩ := inv_S I (hW i H hi w)
      exact ⟨tA, c, e, trivial⟩
    refine codeAny_builtin F.entry_sum_loop ?_
    rw [Around.under_plainId F.plain_sum_loop _]
    show wpAny _ A.in1 (seqItems? (.ref S) >>= _) _ _ s
    refine wpAny_bind (wpAny_seqItems hS rfl ?_)
    show wpAny _ A.in1 (tryCatch (pyNext (.ref a)) _ >>= _) _ _ s
    refine wpAny_bind (wpAny_tryCatch (next_item T hpn hgo hh hroom hlt hst fun v s' rv hm => ?_))
    obtain ⟨t, rfl⟩ := (show ∃ t, v = Value.int (f i) t from rv)
    obtain ⟨H, I, vv, nfp, mid⟩ := hm
    obtain ⟨hSH, w'⟩ := hV i H hlt vv
    obtain ⟨tB, c', hS', up1⟩ := inv_S I hSH
    have nS : ∀ b ∈ fp, b ≠ S := fun b hb z => by
      have q := nfp b hb
      rw [z, hSH] at q; cases q
    have nf : ∀ b ∈ fp, upd H S (.lst [.int (preS f (i + 1))]) b = none := fun b hb => by
      rw [upd_ne (nS b hb)]; exact nfp b hb
    rcases hst2 with rfl | rfl
    · show wpAny _ A.in1 (if (_ : Bool) = true then (mkInt (preS f i + f i) >>= _) else _) _ _ _
      split
      · refine wpAny_bind (wpAny_mkInt ?_)
        show wpAny _ A.in1 (updateSeq S (fun _ => #[.int (preS f i + f i) s'.toks]) >>= _) _ _ _
        refine wpAny_bind ?_
        refine wpAny_updateSeq hS' rfl (wpAny_pure ⟨plainId_quiet F.plain_sum_loop _, ih (i + 1) _ 0 (.inl rfl) (by omega) hlt (mid _ _ rfl (up1 (preS f i + f i) s'.toks (s'.toks + 1)) (fun b hb o e => ?_) nf w')⟩)
        exact (Heap.get?_update_other _ _ (Ne.symm (nS b hb))).trans e
      · refine wpAny_bind (wpAny_rule ?_)
        refine wpAny_bind (wpAny_attempt (wpAny_holding (wpAny_add_int ?_)))
        show wpAny _ A.in1 (updateSeq S (fun _ => #[.int (preS f i + f i) s'.toks]) >>= _) _ _ _
        refine wpAny_bind (wpAny_updateSeq hS' rfl ?_)
        have I2 := up1 (preS f i + f i) s'.toks (s'.toks + 1)
        obtain ⟨tC, c2, hS2, up2⟩ := inv_S I2 upd_same
        have I3 := up2 (preS f i + f i) s'.toks (s'.toks + 1)
        rw [upd_upd] at I3
        refine wpAny_bind (wpAny_letGo ?_)
        refine wpAny_bind (wpAny_updateSeq hS2 rfl (wpAny_pure ⟨plainId_quiet F.plain_sum_loop _, ih (i + 1) _ 2 (.inr rfl) (by omega) hlt (mid _ _ rfl I3 (fun b hb o e => ?_) nf w')⟩))
        exact (Heap.get?_update_other _ _ (Ne.symm (nS b hb))).trans ((Heap.get?_update_other _ _ (Ne.symm (nS b hb))).trans e)
    · show wpAny _ A.in1 ((holding [Value.int (f i) t] (binaryOp .Add (.int (preS f i) tA) (.int (f i) t))).attempt >>= _) _ _ _
      refine wpAny_bind (wpAny_attempt (wpAny_holding (wpAny_add_int ?_)))
      show wpAny _ A.in1 (updateSeq S (fun _ => #[.int (preS f i + f i) s'.toks]) >>= _) _ _ _
      refine wpAny_bind (wpAny_updateSeq hS' rfl ?_)
      have I2 := up1 (preS f i + f i) s'.toks (s'.toks + 1)
      obtain ⟨tC, c2, hS2, up2⟩ := inv_S I2 upd_same
      have I3 := up2 (preS f i + f i) s'.toks (s'.toks + 1)
      rw [upd_upd] at I3
      refine wpAny_bind (wpAny_letGo ?_)
      refine wpAny_bind (wpAny_updateSeq hS2 rfl (wpAny_pure ⟨plainId_quiet F.plain_sum_loop _, ih (i + 1) _ 2 (.inr rfl) (by omega) hlt (mid _ _ rfl I3 (fun b hb o e => ?_) nf w')⟩))
      exact (Heap.get?_update_other _ _ (Ne.symm (nS b hb))).trans ((Heap.get?_update_other _ _ (Ne.symm (nS b hb))).trans e)

theorem pe_sumG {c P : Addr} {elt tg iter : Expr} {p pos gpos : Pos} {scope : Scope} {own : List (Str × Nat)} {k : Nat} {wi : TI} {g : TG} {te : TE}
    (hr : Room (k + 1) X.A) (hc : X.calm = true) (hN : X.N.Nodup) (hgl : Gl X "sum") (hm : X.mg "sum" = none) (TB : GxR.TabB X.base X.mg c P) (hcode : X.env.code = .ref c) (ok : GxOk X.N X.env.scope scope own) (hi : PI X tg iter wi)
    (hg : ∀ (A : Around) (s : Shared) (H : Hp) (code : Value) (fp : List Addr) (pn : List (Addr × Obj)), PG (gcx X A s H (genEnv scope (clo X scope) s.heap.objs.size code builtinsNs X.env) fp pn) tg g)
    (he : ∀ (A : Around) (s : Shared) (H : Hp) (code : Value) (fp : List Addr) (pn : List (Addr × Obj)), Room k A → PE (gcx X A s H (genEnv scope (clo X scope) s.heap.objs.size code builtinsNs X.env) fp pn) elt te)
    (hs : ∀ v, genFold iter X.env v = pure v := by intro _; rfl)
    (hst : starEach [.GeneratorExp elt [⟨tg, iter, [], 0⟩] scope gpos] X.env = (false, eval (.GeneratorExp elt [⟨tg, iter, [], 0⟩] scope gpos) X.env) :: starEach [] X.env := by rfl) :
    PE X (.Call (.Name "sum" p) [.GeneratorExp elt [⟨tg, iter, [], 0⟩] scope gpos] [] pos) (tSumG P wi g te (own.map (·.2))) := by
  refine ⟨fun pins s σ H Q I h => ?_⟩
  refine wpAny_Call_Name_kw (ld_blt I hgl hm boot_sum ?_)
  refine PyProof.Rows.callWith_builtin1 ?_ hst (by rfl)
  rw [hst]
  show wpAny _ _ (spliced ((false, eval (.GeneratorExp elt [⟨tg, iter, [], 0⟩] scope gpos) X.env) :: backTo pos (starEach [] X.env))) _ _ s
  refine Calls.spliced_cons (gen_make hr hc hN TB hcode ok hi hg he hs I h fun J H1 H2 a s5 hR hT hrdy => ?_)
  refine Calls.spliced_nil ?_
  obtain ⟨Z, tg', go, gn, fp, it, tn, hp, hw, hK, T, hpn, hgo, I5, n5, back, mk⟩ := hrdy
  have hSn : H2 s5.heap.objs.size = none := I5.hok.fresh (Nat.le_refl _)
  obtain ⟨N, f, W, Vv, w0, ht, hstop, hW, hV, hQ⟩ := hR H2 hT s5.heap.objs.size hSn
  rw [← hp, ← hw, ← hK] at T
  refine call_function_tree F.kind_sum F.plain_sum F.entry_sum (F.args_sum1 _) ?_
  unfold Builtin.«sum»
  simp only [List.length_cons, List.length_nil]
  rw [if_neg (by decide)]
  refine wpAny_bind (wpAny_of_eq (show Builtin.Builtins.bindParams "sum" ["start"] 0 { } = pure [none] from rfl) ?_)
  have hG := hgo s5.heap (I5.pin (a, go) (List.mem_append_left _ hpn)).1
  refine wpAny_bind (wpAny_pyIter_gen hG ?_)
  refine wpAny_bind (wpAny_mkInt ?_)
  refine wpAny_bind (wpAny_pure ?_)
  simp only [List.forIn_cons, List.forIn_nil]
  refine wpAny_bind (wpAny_bind (wpAny_bind (wpAny_isInstance (T := "int") (b := false) (typeIs_int _ _ _) PySem.sub_int_str ?_)))
  simp only [Bool.false_eq_true, if_false]
  refine wpAny_pure (wpAny_bind (wpAny_bind (wpAny_isInstance (T := "int") (b := false) (typeIs_int _ _ _) sub_int_bytes ?_)))
  simp only [Bool.false_eq_true, if_false]
  refine wpAny_pure (wpAny_bind (wpAny_bind (wpAny_isInstance (T := "int") (b := false) (typeIs_int _ _ _) sub_int_bytearray ?_)))
  simp only [Bool.false_eq_true, if_false]
  refine wpAny_pure (wpAny_pure ?_)
  refine wpAny_bind (wpAny_newObj_type ?_)
  have I6 : Inv Z [] (wipe σ (own.map (·.2))) (upd H2 s5.heap.objs.size (.lst [.int 0])) { s5 with heap := s5.heap.push { cls := .type "list", data := .seq #[Value.int 0 s5.toks] }, toks := s5.toks + 1 } :=
    I5.laid (fun b o e => Heap.get?_push_of_some _ e) (Nat.le_refl _) ⟨by show 1 ≤ sizeLine; decide, [.int 0 s5.toks], 0, .cons ⟨_, rfl⟩ .nil, Heap.get?_push_size _ rfl⟩
  have nS : ∀ b ∈ fp, (upd H2 s5.heap.objs.size (.lst [.int 0])) b = none := fun b hb => by
    have q := n5 b hb
    rw [upd_ne (Nat.ne_of_lt q.2)]
    exact q.1
  have st := mk N (fun i => .int (f i)) W Vv ht hstop { s5 with heap := s5.heap.push { cls := .type "list", data := .seq #[Value.int 0 s5.toks] }, toks := s5.toks + 1 } (upd H2 s5.heap.objs.size (.lst [.int 0])) rfl I6 (fun b hb o e => Heap.get?_push_of_some _ e) nS w0
  have lp := sum_loop (A := X.A) (S := s5.heap.objs.size) (R := fun r s' => ∃ v, r = .ok (.ret v) ∧ EP X pins σ Q v s') T hpn hgo hr.hd hr.depth hW hV (fun s' H t w I' => ⟨_, rfl, .int _, H, back H s' I', ⟨t, rfl⟩, hQ H w⟩) N 0 _ 0 (.inl rfl) (Nat.sub_zero _) (Nat.zero_le _) st
  rw [hp, hw] at lp
  refine wpAny_pure ⟨plainId_quiet F.plain_sum_loop _, codeAny_mono lp fun r s' ⟨v, e, q⟩ => ?_⟩
  subst e
  exact q
end
end GE

/-! data in the heap: what keeps it, what a pure def promises -/
namespace DA
open PySem PySem.Spec PyProof.Rows L2
abbrev PD := PyData

/-! ### heaps that keep all but tables -/
def Tabs (T : List Addr) (H : Hp) : Prop := ∀ P ∈ T, GxR.TabG H P
structure Keep (T : List Addr) (H H' : Hp) : Prop where
  at_ : ∀ b o, H b = some o → b ∉ T → H' b = some o
  tab : ∀ P ∈ T, GxR.TabG H P → GxR.TabG H' P
theorem Keep.refl {T : List Addr} {H : Hp} : Keep T H H := ⟨fun _ _ e _ => e, fun _ _ e => e⟩
theorem Keep.trans {T : List Addr} {H H1 H2 : Hp} (a : Keep T H H1) (b : Keep T H1 H2) : Keep T H H2 := ⟨fun c o e n => b.at_ c o (a.at_ c o e n) n, fun P hP t => b.tab P hP (a.tab P hP t)⟩
theorem Keep.tabs {T : List Addr} {H H1 : Hp} (a : Keep T H H1) (t : Tabs T H) : Tabs T H1 := fun P hP => a.tab P hP (t P hP)
theorem Keep.same {T : List Addr} {H H1 : Hp} (s : Same H H1) : Keep T H H1 := ⟨fun b o e _ => s b o e, fun P _ ⟨ps, e, ok⟩ => ⟨ps, s _ _ e, ok⟩⟩
theorem same_new {H : Hp} {p : Addr} {o : HO} (h : H p = none) : Same H (upd H p o) := fun b x e => by
  rw [upd_ne (ne_of_none e h)]
  exact e
theorem Keep.new {T : List Addr} {H : Hp} {p : Addr} {o : HO} (h : H p = none) : Keep T H (upd H p o) := .same (same_new h)
/-- an object that is none of the first heap's is written -/
theorem Keep.own {T : List Addr} {H H1 : Hp} {p : Addr} {o : HO} (k : Keep T H H1) (t : Tabs T H) (h : H p = none) : Keep T H (upd H1 p o) := by
  have nT : p ∉ T := fun m => by
    obtain ⟨ps, e, _⟩ := t p m
    rw [h] at e; cases e
  refine ⟨fun b x e n => ?_, fun P hP tb => ?_⟩
  · rw [upd_ne (ne_of_none e h)]
    exact k.at_ b x e n
  · obtain ⟨ps, e, ok⟩ := k.tab P hP tb
    refine ⟨ps, ?_, ok⟩
    rw [upd_ne (fun z => nT (by rw [← z]; exact hP))]
    exact e
theorem Keep.tabbed {T : List Addr} {P : Addr} {H H1 : Hp} (hP : P ∈ T) (t : GxR.Tabbed P H H1) : Keep T H H1 := by
  refine ⟨fun b o e n => ?_, fun R hR tb => ?_⟩
  · rw [t.2 b (fun z => n (by rw [z]; exact hP))]
    exact e
  · by_cases z : R = P
    · rw [z]; exact t.1
    · obtain ⟨ps, e, ok⟩ := tb
      exact ⟨ps, by rw [t.2 R z]; exact e, ok⟩
theorem nT_of {T : List Addr} {H : Hp} {a : Addr} {o : HO} (t : Tabs T H) (e : H a = some o) (hn : ∀ ps, o ≠ .tbl ps) : a ∉ T := fun m => by
  obtain ⟨ps, e', _⟩ := t a m
  rw [e] at e'
  exact hn ps (Option.some.inj e')
theorem Keep.free {T : List Addr} {H H1 : Hp} (k : Keep T H H1) (t : Tabs T H) {p : Addr} (h : H1 p = none) : H p = none := by
  cases e : H p with
  | none => rfl
  | some o =>
    by_cases m : p ∈ T
    · obtain ⟨ps, e', _⟩ := k.tabs t p m
      rw [h] at e'; cases e'
    · have := k.at_ p o e m
      rw [h] at this; cases this
section
variable {K : PySem.W.Frag} {T : List Addr} {H H1 : Hp}
theorem Keep.sqL {a : Addr} {xs : List V} (k : Keep T H H1) (t : Tabs T H) (h : SqL K H a xs) : SqL K H1 a xs := by
  rcases h with (h | ⟨o, h⟩) | h
  · exact .inl (.inl (k.at_ _ _ h (nT_of t h fun ps z => by cases z)))
  · exact .inl (.inr ⟨o, k.at_ _ _ h (nT_of t h fun ps z => by cases z)⟩)
  · exact .inr h
theorem Keep.sqT {a : Addr} {xs : List V} (k : Keep T H H1) (t : Tabs T H) (h : SqT K H a xs) : SqT K H1 a xs := by
  rcases h with (h | ⟨o, h⟩) | h
  · exact .inl (.inl (k.at_ _ _ h (nT_of t h fun ps z => by cases z)))
  · exact .inl (.inr ⟨o, k.at_ _ _ h (nT_of t h fun ps z => by cases z)⟩)
  · exact .inr h
theorem Keep.lst {a : Addr} {xs : List V} (k : Keep T H H1) (t : Tabs T H) (h : H a = some (.lst xs)) : H1 a = some (.lst xs) := k.at_ _ _ h (nT_of t h fun ps z => by cases z)
mutual
theorem dp_keep (k : Keep T H H1) (t : Tabs T H) : ∀ {d : PD} {v : V}, Dp K H v d → Dp K H1 v d
  | _, _, .non => .non
  | _, _, .bl b => .bl b
  | _, _, .int i => .int i
  | _, _, .str x => .str x
  | _, _, .lst h a => .lst (k.sqL t h) (dps_keep k t a)
  | _, _, .tup h a => .tup (k.sqT t h) (dps_keep k t a)
theorem dps_keep (k : Keep T H H1) (t : Tabs T H) : ∀ {ds : List PD} {vs : List V}, DpAll K H vs ds → DpAll K H1 vs ds
  | _, _, .nil => .nil
  | _, _, .cons a r => .cons (dp_keep k t a) (dps_keep k t r)
end
theorem dp_bool {v : V} {b : Bool} (h : Dp K H v (.bool b)) : v = .bl b := by cases h; rfl
theorem dp_int {v : V} {b : Int} (h : Dp K H v (.int b)) : v = .int b := by cases h; rfl
theorem dp_str {v : V} {b : Str} (h : Dp K H v (.str b)) : v = .str b := by cases h; rfl
theorem dp_none {v : V} (h : Dp K H v .none) : v = .non := by cases h; rfl
theorem dp_list {v : V} {ds : List PD} (h : Dp K H v (.list ds)) : ∃ a xs, v = .ref a ∧ SqL K H a xs ∧ DpAll K H xs ds := by
  cases h with
  | lst h a => exact ⟨_, _, rfl, h, a⟩
theorem dp_tup {v : V} {ds : List PD} (h : Dp K H v (.tuple ds)) : ∃ a xs, v = .ref a ∧ SqT K H a xs ∧ DpAll K H xs ds := by
  cases h with
  | tup h a => exact ⟨_, _, rfl, h, a⟩
theorem dps_len : ∀ {xs : List V} {ds : List PD}, DpAll K H xs ds → xs.length = ds.length
  | _, _, .nil => rfl
  | _, _, .cons _ r => by rw [List.length_cons, List.length_cons, dps_len r]
theorem dps_get : ∀ {xs : List V} {ds : List PD} {i : Nat} {d : PD}, DpAll K H xs ds → ds[i]? = some d → ∃ x, xs[i]? = some x ∧ Dp K H x d
  | _, _, _, _, .nil, e => by simp at e
  | _, _, 0, _, .cons a _, e => by simp at e; subst e; exact ⟨_, rfl, a⟩
  | _, _, i + 1, d, .cons _ r, e => by
    obtain ⟨x, h1, h2⟩ := dps_get (i := i) (d := d) r (by simpa using e)
    exact ⟨x, by simpa using h1, h2⟩
theorem dps_at : ∀ {xs : List V} {ds : List PD} {i : Nat} {x : V}, DpAll K H xs ds → xs[i]? = some x → ∃ d, ds[i]? = some d ∧ Dp K H x d
  | _, _, _, _, .nil, e => by simp at e
  | _, _, 0, _, .cons a _, e => by simp at e; subst e; exact ⟨_, rfl, a⟩
  | _, _, i + 1, d, .cons _ r, e => by
    obtain ⟨x, h1, h2⟩ := dps_at (i := i) (x := d) r (by simpa using e)
    exact ⟨x, by simpa using h1, h2⟩
theorem dps_append : ∀ {xs ys : List V} {ds es : List PD}, DpAll K H xs ds → DpAll K H ys es → DpAll K H (xs ++ ys) (ds ++ es)
  | _, _, _, _, .nil, b => b
  | _, _, _, _, .cons a r, b => .cons a (dps_append r b)
theorem dps_set : ∀ {xs : List V} {ds : List PD} (i : Nat) {x : V} {d : PD}, DpAll K H xs ds → Dp K H x d → DpAll K H (xs.set i x) (ds.set i d)
  | _, _, _, _, _, .nil, _ => .nil
  | _, _, 0, _, _, .cons _ r, a => .cons a r
  | _, _, i + 1, _, _, .cons a r, b => .cons a (dps_set i r b)
theorem dps_take : ∀ {xs : List V} {ds : List PD} (n : Nat), DpAll K H xs ds → DpAll K H (xs.take n) (ds.take n)
  | _, _, 0, _ => .nil
  | _, _, _ + 1, .nil => .nil
  | _, _, n + 1, .cons a r => .cons a (dps_take n r)
theorem dps_drop : ∀ {xs : List V} {ds : List PD} (n : Nat), DpAll K H xs ds → DpAll K H (xs.drop n) (ds.drop n)
  | _, _, 0, r => r
  | _, _, _ + 1, .nil => .nil
  | _, _, n + 1, .cons _ r => dps_drop n r
theorem dps_ints : ∀ (ns : List Int), DpAll K H (ns.map V.int) (ns.map PyData.int)
  | [] => .nil
  | n :: ns => .cons (.int n) (dps_ints ns)
theorem dps_ints_inv : ∀ {ns : List Int} {xs : List V}, DpAll K H xs (ns.map PyData.int) → xs = ns.map V.int
  | [], _, .nil => rfl
  | n :: ns, _, .cons a r => by rw [dp_int a, dps_ints_inv r]; rfl
theorem dps_of {f : PD → V} : ∀ {ds : List PD}, (∀ d ∈ ds, Dp K H (f d) d) → DpAll K H (ds.map f) ds
  | [], _ => .nil
  | d :: ds, h => .cons (h d List.mem_cons_self) (dps_of fun e he => h e (List.mem_cons_of_mem _ he))
end

/-! ### a pure def over data -/
def spF (K : PySem.W.Frag) (T : List Addr) (ok : List PD → Prop) (F : List PD → PD) : Sp := fun vs H Q _ => ∃ ds, DpAll K H vs ds ∧ ok ds ∧ Tabs T H ∧ ∀ v H', Dp K H' v (F ds) → Keep T H H' → Q v H'

/-! ### isinstance -/
def clsD : PD → String
  | .none => "NoneType" | .bool _ => "bool" | .int _ => "int" | .str _ => "str" | .list _ => "list" | .tuple _ => "tuple" | .dict _ => "dict"
theorem dp_ty {K : PySem.W.Frag} {H : Hp} {v : V} {d : PD} (h : Dp K H v d) : TyX K H v (.type (clsD d)) := by
  cases h with
  | non => exact .base .non
  | bl b => exact .base (.bl b)
  | int i => exact .base (.int i)
  | str x => exact .base (.str x)
  | lst h a =>
    rcases h with (h | ⟨o, h⟩) | ⟨o, its, n, e, c, _⟩
    · exact .base (.lst h)
    · exact .base (.frz h)
    · exact .kList e c
  | tup h a =>
    rcases h with (h | ⟨o, h⟩) | ⟨o, its, n, e, c, _⟩
    · exact .base (.tup h)
    · exact .fTuple h
    · exact .kTuple e c
def isInt : PD → Bool | .int _ => true | .bool _ => true | _ => false
def isBool : PD → Bool | .bool _ => true | _ => false
def isTup : PD → Bool | .tuple _ => true | _ => false
def isList : PD → Bool | .list _ => true | _ => false
def isStr : PD → Bool | .str _ => true | _ => false
theorem kit_int {K : PySem.W.Frag} {H : Hp} {v : V} {d : PD} (h : Dp K H v d) : PySem.W.kitOne K (.type (clsD d)) (.type "int") = some (isInt d) := by
  cases h <;> (simp only [clsD, isInt]; exact kit_ty (by decide +kernel))
theorem kit_bool {K : PySem.W.Frag} {H : Hp} {v : V} {d : PD} (h : Dp K H v d) : PySem.W.kitOne K (.type (clsD d)) (.type "bool") = some (isBool d) := by
  cases h <;> (simp only [clsD, isBool]; exact kit_ty (by decide +kernel))
theorem kit_tup {K : PySem.W.Frag} {H : Hp} {v : V} {d : PD} (h : Dp K H v d) : PySem.W.kitOne K (.type (clsD d)) (.type "tuple") = some (isTup d) := by
  cases h <;> (simp only [clsD, isTup]; exact kit_ty (by decide +kernel))
theorem kit_list {K : PySem.W.Frag} {H : Hp} {v : V} {d : PD} (h : Dp K H v d) : PySem.W.kitOne K (.type (clsD d)) (.type "list") = some (isList d) := by
  cases h <;> (simp only [clsD, isList]; exact kit_ty (by decide +kernel))
theorem kit_str {K : PySem.W.Frag} {H : Hp} {v : V} {d : PD} (h : Dp K H v d) : PySem.W.kitOne K (.type (clsD d)) (.type "str") = some (isStr d) := by
  cases h <;> (simp only [clsD, isStr]; exact kit_ty (by decide +kernel))

/-! ### a def whose code object is known -/
structure FunC (K : PySem.W.Frag) (x qual : Str) (st : Stmt) (f : Addr) (fd : FuncData) (c : Addr) : Prop where
  ex : ∃ (oc : Value) (od : Option Addr) (kV doc pm : Value) (an : Option Addr) (ct : Value) (osl : Array (Option Value)),
    fd = PySem.W.fnOf x qual (defArgs st) (defBody st) (defScope st) .none kV doc pm an (.ref c) ct ∧ K.lookup f = some ⟨oc, od, .func fd, osl⟩ ∧ PySem.W.codeIn K (.ref c) qual = true
  kp : PySem.W.keepIn K (.ref f) = true
theorem FunC.fun {K : PySem.W.Frag} {x qual : Str} {st : Stmt} {f : Addr} {fd : FuncData} {c : Addr} (F : FunC K x qual st f fd c) : Fun K x qual st f fd := by
  obtain ⟨oc, od, kV, doc, pm, an, ct, osl, h⟩ := F.ex
  exact ⟨⟨oc, od, kV, doc, pm, an, .ref c, ct, osl, h⟩, F.kp⟩
theorem FunC.ok {P : Program} {w : World} {K : PySem.W.Frag} {mg : Str → Option Value} {base : Heap} {x qual : Str} {st : Stmt} {f : Addr} {fd : FuncData} {c : Addr} {N ps : List Str} {k : Nat} {sp : Sp} (F : FunC K x qual st f fd c) (S : FnScope N ps (defScope st)) (len : ∀ vs H Q E, sp vs H Q E → vs.length = ps.length)
    (hbody : ∀ (A : Around) (outer : List Env) (s : Shared) (H : Hp) (vs : List V) (Q : VK) (E : XK), Room k (A.deeper (envOfC qual (defScope st) s.heap.objs.size f (.ref c))) → sp vs H Q E →
      ∃ t, PSs (cxOf CX0 P w K mg base N qual (defScope st) f (.ref c) A outer s H E).nox (defBody st) t ∧ t { nx := fun _ H' => Q .non H', rt := Q } (start N vs) H) : FnOk P w K mg base CX0 (k + 1) f fd ps sp := by
  obtain ⟨oc, od, kV, doc, pm, an, ct, osl, rfl, lk, hcd⟩ := F.ex
  refine fn_of lk hcd S len fun A outer s H vs Q E hr hsp => ?_
  obtain ⟨t, h, q⟩ := hbody A outer s H vs Q E hr hsp
  exact ⟨t, h.nox, q⟩
end DA

/-! sorted(t), t a tuple of ints -/
namespace SO
open PySem PySem.Spec PyProof.Rows L2
section
variable {prog : Program} {w : World} {A : Around} {E : Value → Shared → Prop} {s : Shared} {t : Addr} {vs : List Value}
/-- the heap behind the items' own list -/
abbrev gath (h : Heap) (vs : List Value) : Heap := (h.push (seqObj "list" #[] 0)).update h.objs.size (Obj.mapSeq (· ++ vs.toArray))
theorem gather {Q : List Value → Shared → Prop} (ht : IsTup s.heap t vs.toArray) (hz : vs.length ≤ sizeLine) (h : Q vs { s with heap := gath s.heap vs }) : wpAny (model prog w) A (collect (.ref t)) Q E s := by
  obtain ⟨o, e1, e2, n, e3⟩ := id ht
  have e4 : (s.heap.push (seqObj "list" #[] 0)).get? t = some o := Heap.get?_push_of_some _ e1
  have e5 : (s.heap.push (seqObj "list" #[] 0)).get? s.heap.objs.size = some (seqObj "list" #[] 0) := Heap.get?_push_size _ rfl
  unfold collect
  refine wpAny_bind (wpAny_runValue (codeAny_builtin
    entry_proto_collect' ?_))
  show wpAny _ _ (newList [] >>= fun l => again
    (.builtin "list.__iadd__" ⟨[l, .ref t], []⟩)) _ _ s
  refine wpAny_bind (wpAny_newList (wpAny_pure
    ⟨Code.quiet_builtin _ (by decide +kernel),
      codeAny_builtin entry_list_iadd' ?_⟩))
  show wpAny _ _ (Builtin.List.listExtendWith
    (.ref s.heap.objs.size) (.ref t) (.ref s.heap.objs.size)) _ _ { s with heap := s.heap.push (seqObj "list" #[] 0) }
  unfold Builtin.List.listExtendWith
  have tt : (Value.type "tuple" == Value.type "tuple") = true := by rfl
  refine wpAny_bind (wpAny_typeOf (T := "tuple") ⟨o, e4, e2⟩ ?_)
  rw [if_pos (by rw [tt]; simp)]
  refine wpAny_bind (listItems_at e4 e3 (wpAny_bind (listItems_at (xs := #[]) (n := 0) e5 rfl ?_)))
  rw [if_neg (by simp)]
  refine wpAny_bind (listUpdate_at (xs := #[]) (n := 0) e5 rfl (wpAny_pure ?_) (Nat.zero_le _) (by
    show (#[] ++ vs.toArray).size ≤ sizeLine + 1
    simp only [Array.size_append, List.size_toArray, List.length_nil]
    omega))
  show wpAny (model prog w) A (load s.heap.objs.size >>= fun o => (match o.data with
      | .seq xs _ => pure xs.toList
      | _ => unsupported "internal:collect")) Q E { s with heap := gath s.heap vs }
  refine wpAny_bind (wpAny_load (get?_update_seq e5 _) ?_)
  show wpAny _ _ (pure ((#[] : Array Value) ++ vs.toArray).toList) Q E _
  have e6 : ((#[] : Array Value) ++ vs.toArray).toList = vs := by simp
  rw [e6]
  exact wpAny_pure h
theorem sorted_tup {ns : List Int} {Q : Value → Shared → Prop} (ht : IsTup s.heap t vs.toArray) (hI : IntsAre vs ns) (h64 : vs.length < 64)
    (h : ∀ (out : Array Value) (ms : List Int), IntsAre out.toList ms → ms.Perm ns → ms.Pairwise (· ≤ ·) → Q (.ref (s.heap.objs.size + 1)) { s with heap := sortedAll s.heap vs out }) :
    wpAny (model prog w) A (call (.builtin "sorted") [.ref t]) Q E s := by
  have hz : vs.length ≤ sizeLine := by rw [sizeLine_eq]; omega
  refine Calls.call_function_entry kind_sorted plain_sorted
    entry_sorted (args_sorted1 _) ?_
  unfold Builtin.«sorted»
  refine wpAny_bind (m := checkCount "sorted" 1 1 _) (wpAny_pure (wpAny_bind (gather ht hz (wpAny_bind (wpAny_newList ?_ hz)))))
  have e1 : (gath s.heap vs).objs.size = s.heap.objs.size + 1 := by rw [Heap.size_update, size_push']
  have e2 : ((gath s.heap vs).push (seqObj "list" vs.toArray 0)).get? (s.heap.objs.size + 1) = some (seqObj "list" vs.toArray 0) := by
    rw [← e1]
    exact Heap.get?_push_size _ rfl
  show wpAny _ _ _ _ _ { s with heap := (gath s.heap vs).push (seqObj "list" vs.toArray 0) }
  rw [e1]
  refine wpAny_bind (wpAny_holding (wpAny_call_entry slot_list_sort ⟨_, e2, rfl⟩ entry_list_sort (list_sort_tree e2 hI h64 fun out ms a1 a2 a3 =>
    ⟨_, rfl, wpAny_pure ⟨_, rfl, h out ms a1 a2 a3⟩⟩) (args_list_sort _)))
end
section
variable {X : Cx}
def rSortTup (K : PySem.W.Frag) : List V → Hp → VK → Prop := fun xs H Q => ∃ (t : Addr) (ns : List Int), xs = [V.ref t] ∧ SqT K H t (ns.map V.int) ∧ ns.length < 64 ∧
  ∀ (ms : List Int) (p : Addr), ms.Perm ns → ms.Pairwise (· ≤ ·) → H p = none → Q (.ref p) (upd H p (.lst (ms.map V.int)))
theorem cr_sortTup : CallR X (.builtin "sorted") (rSortTup X.K) := by
  intro pins s σ H xs us Q I r h
  obtain ⟨t, ns, rfl, hs, h64, q⟩ := h
  obtain ⟨its, rv, pt, _⟩ := I.tuple hs
  have hi := rv.ints
  rw [Vals.ref1 r]
  refine sorted_tup pt hi (by rw [hi.length]; exact h64) fun out ms h1 h2 h3 => ?_
  obtain ⟨ep, he⟩ := sortedAll_at s.heap its out
  have hl : (ms.map V.int).length ≤ sizeLine := by rw [List.length_map, h2.length_eq]; exact small64 h64
  have ok : ObjOk X.prog X.w H (sortedAll s.heap its out) (s.heap.objs.size + 1) (.lst (ms.map V.int)) := ⟨hl, out.toList, ep, vals_of_ints h1, he⟩
  exact ⟨.ref _, upd H (s.heap.objs.size + 1) (.lst (ms.map V.int)), I.laid (t' := s.toks) (fun _ _ => sortedAll_old) (Nat.le_succ _) ok, rfl, q ms _ h2 h3 (I.hok.fresh (Nat.le_succ _))⟩
end
end SO

/-! itertools.permutations of whole numbers -/
namespace PM
open PySem PySem.Spec PyProof.Rows
theorem mro_pm : mroOf (.type "itertools.permutations") = pure [.type "itertools.permutations", .type "object"] := by rw [mroOf_type]; kernel_rfl
theorem new_pm : typeLookup (.type "itertools.permutations") "__new__" = pure (some (.builtin "itertools.permutations.__new__")) := by rw [typeLookup_type, builtinLookup_eq_fast]; kernel_rfl
theorem init_pm : Slot "itertools.permutations" "__init__" "object.__init__" :=
  Slot.of (owner := "object") (n := "__init__") (by rw [typeLookup_type, builtinLookup_eq_fast]; kernel_rfl) (by decide +kernel) (by decide +kernel)
    (by decide +kernel) (by first | exact .inl (by decide +kernel) | exact .inr (by decide +kernel)) (by rw [isSubtype_type]; kernel_rfl)
theorem sub_pm : isSubtype (.type "itertools.permutations") (.type "itertools.permutations") = pure true := by rw [isSubtype_type]; kernel_rfl
theorem called_pm : TypeCalled "itertools.permutations" "itertools.permutations.__new__" "object.__init__" :=
  ⟨by decide +kernel, by decide +kernel, ⟨_, _, mro_pm⟩, madeBy_type mro_pm new_pm (by decide +kernel), by decide +kernel, sub_pm, init_pm⟩
theorem tcall_pm (a : Value) : checkTypeCall "itertools.permutations" ⟨[a], []⟩ = pure () := by kernel_rfl
theorem ncall_pm (a : Value) : checkBuiltinCall "itertools.permutations.__new__" ⟨[.type "itertools.permutations", a], []⟩ = pure () := by kernel_rfl
theorem ent_new : entryFor table "itertools.permutations.__new__" = some Builtin.«itertools.permutations.__new__» := entryFor_of_tree (by kernel_rfl)
theorem slot_it : Slot "itertools.permutations" "__iter__" "itertools.permutations.__iter__" :=
  Slot.of (owner := "itertools.permutations") (n := "__iter__") (by rw [typeLookup_type, builtinLookup_eq_fast]; kernel_rfl) (by decide +kernel) (by decide +kernel)
    (by decide +kernel) (by first | exact .inl (by decide +kernel) | exact .inr (by decide +kernel)) sub_pm
theorem slot_nx : Slot "itertools.permutations" "__next__" "itertools.permutations.__next__" :=
  Slot.of (owner := "itertools.permutations") (n := "__next__") (by rw [typeLookup_type, builtinLookup_eq_fast]; kernel_rfl) (by decide +kernel) (by decide +kernel)
    (by decide +kernel) (by first | exact .inl (by decide +kernel) | exact .inr (by decide +kernel)) sub_pm
theorem ent_it : entryFor table "itertools.permutations.__iter__" = some Builtin.«dict_keyiterator.__iter__» :=
  entryFor_alias (id' := "dict_keyiterator.__iter__") (by kernel_rfl)
    (by first | rfl | decide +kernel | (unfold String.splitOn; simp +decide [String.splitOnAux])) (by decide +kernel) (by kernel_rfl)
theorem ent_nx : entryFor table "itertools.permutations.__next__" = some Builtin.«itertools.permutations.__next__» := entryFor_of_tree (by kernel_rfl)
theorem own_pm : Manifest.owners.lookup (String.ofList "itertools.permutations".toList) = some Manifest.sig_itertools_permutations := by kernel_rfl
end PM

namespace PM
open PySem PySem.Spec PyProof.Rows
theorem args_it (a : Value) : argsOk "itertools.permutations.__iter__" ⟨[a], []⟩ := by
  unfold argsOk
  rw [signature?_of (id := "itertools.permutations.__iter__") (n := "__iter__".toList.reverse) (o := "itertools.permutations".toList.reverse) (by kernel_rfl) (by rw [List.reverse_reverse]; exact own_pm)]
  kernel_rfl
theorem args_nx (a : Value) : argsOk "itertools.permutations.__next__" ⟨[a], []⟩ := by
  unfold argsOk
  rw [signature?_of (id := "itertools.permutations.__next__") (n := "__next__".toList.reverse) (o := "itertools.permutations".toList.reverse) (by kernel_rfl) (by rw [List.reverse_reverse]; exact own_pm)]
  kernel_rfl
/-- the record's fields: the pool, how far (0: not begun, 1: under way, 2: ended), how many, the last tuple, the places and the cycles -/
abbrev pf (q : Addr) (st n : Int) (last : Value) (ns : List Nat) : Array Value := (Value.ref q :: rawInt st :: rawInt n :: last :: List.map (fun k : Nat => rawInt (k : Int)) ns).toArray
abbrev IsP (h : Heap) (it q : Addr) (st n : Int) (last : Value) (ns : List Nat) : Prop := h.get? it = some { cls := .type "itertools.permutations", dict := none, data := .fields (pf q st n last ns), slots := #[] }
/-- the next places and cycles, from the p-th place down -/
def nx (n : Nat) : Nat → List Nat → List Nat → Option (List Nat × List Nat)
  | 0, _, _ => none
  | p + 1, ix, cy =>
    let k := cy.getD p 0 - 1
    if k == 0 then
      nx n p (ix.take p ++ ix.drop (p + 1) ++ [ix.getD p 0]) (cy.set p (n - p))
    else
      some ((ix.set p (ix.getD (n - k) 0)).set (n - k) (ix.getD p 0), cy.set p k)
section
variable {prog : Program} {w : World} {A : Around} {E : Value → Shared → Prop} {s : Shared} {it q : Addr} {items : Array Value} {n : Nat} {last : Value} {ns : List Nat}
theorem nums (st k : Int) : ((pf q st k last ns).toList.drop 4).map (fun | .int n _ => n.toNat | _ => 0) = ns := by
  show (List.map (fun k : Nat => rawInt (k : Int)) ns).map (fun | .int n _ => n.toNat | _ => 0) = ns
  rw [List.map_map]
  conv => rhs; rw [← List.map_id ns]
  exact List.map_congr_left fun k _ => rfl
abbrev tupO (ix : List Nat) (n : Nat) (items : Array Value) : List Value := (ix.take n).map fun i => items.getD i .none
theorem pf_ext (q : Addr) (st k : Int) (last : Value) (ns ms : List Nat) : (pf q st k last ns).extract 0 4 ++ (ms.map fun (n : Nat) => rawInt n).toArray = pf q st k last ms := by
  apply Array.ext'
  simp [pf]
theorem put {ix : List Nat} {Q : Fin → Shared → Prop} (hit : IsP s.heap it q 1 n last ns) (hz : n ≤ 1000)
    (hQ : ∀ h', IsP h' it q 1 n (.ref s.heap.objs.size) ns → IsTup h' s.heap.objs.size (tupO ix n items).toArray → (∀ b o, b ≠ it → s.heap.get? b = some o → h'.get? b = some o) → Q (.done (.ret (.ref s.heap.objs.size))) { s with heap := h' }) :
    wpAny (model prog w) A (newTuple ((ix.take (n : Int).toNat).map fun i => items.getD i .none) >>= fun t => field (.ref it) 3 >>= fun before => setField (.ref it) 3 t >>= fun _ => letGo [before] [t] >>= fun _ => ret t) Q E s := by
  have hl : ((ix.take (n : Int).toNat).map fun i => items.getD i .none).length ≤ sizeLine := by
    rw [List.length_map, List.length_take, sizeLine_eq]
    omega
  refine wpAny_bind (wpAny_newTuple ?_ hl)
  have g1 : IsP (s.heap.push { cls := .type "tuple", data := .seq ((ix.take (n : Int).toNat).map fun i => items.getD i .none).toArray }) it q 1 n last ns := Heap.get?_push_of_some _ hit
  refine wpAny_bind (wpAny_field g1 rfl (x := last) rfl (wpAny_bind (wpAny_setField_rec g1 (by simp) fun h2 g2 sb => wpAny_bind (wpAny_letGo (wpAny_pure ?_)))))
  have hne : s.heap.objs.size ≠ it := Nat.ne_of_gt (Heap.lt_size hit)
  refine hQ h2 g2 ⟨_, (sb.2 _ hne).trans (Heap.get?_push_size _ rfl), rfl, 0, rfl⟩ fun b o hb e => (sb.2 b hb).trans (Heap.get?_push_of_some _ e)
theorem step0 {Q : Fin → Shared → Prop} (hit : IsP s.heap it q 0 n last ns) (hq : IsTup s.heap q items) (hz : n ≤ 1000)
    (hQ : ∀ h', IsP h' it q 1 n (.ref s.heap.objs.size) ns → IsTup h' s.heap.objs.size (tupO ns n items).toArray → (∀ b o, b ≠ it → s.heap.get? b = some o → h'.get? b = some o) → Q (.done (.ret (.ref s.heap.objs.size))) { s with heap := h' }) :
    wpAny (model prog w) A (Builtin.«itertools.permutations.__next__» ⟨[.ref it], []⟩) Q E s := by
  obtain ⟨oq, e1, e2, nq, e3⟩ := id hq
  show wpAny _ _ (field (.ref it) 0 >>= _) _ _ s
  refine wpAny_bind (wpAny_field hit rfl (x := .ref q) rfl ?_)
  show wpAny _ _ ((seqItems? (.ref q) >>= _) >>= _) _ _ s
  refine wpAny_bind (wpAny_bind (wpAny_seqItems e1 e3 (wpAny_pure ?_)))
  show wpAny _ _ ((field (.ref it) 2 >>= _) >>= _) _ _ s
  refine wpAny_bind (wpAny_bind (wpAny_field hit rfl (x := rawInt n) rfl (wpAny_pure ?_)))
  show wpAny _ _ ((load it >>= _) >>= _) _ _ s
  refine wpAny_bind (wpAny_bind (wpAny_load hit (wpAny_pure ?_)))
  show wpAny _ _ ((field (.ref it) 1 >>= _) >>= _) _ _ s
  refine wpAny_bind (wpAny_bind (wpAny_field hit rfl (x := rawInt 0) rfl (wpAny_pure ?_)))
  show wpAny _ _ (setField (.ref it) 1 (rawInt 1) >>= _) _ _ s
  refine wpAny_bind (wpAny_setField_rec hit (by simp) fun h1 hit1 sb1 => ?_)
  generalize hzs : List.map _ (List.drop 4 (pf q 0 (n : Int) last ns).toList) = zs
  have ez : ns = zs := (nums (q := q) (last := last) (ns := ns) 0 n).symm.trans hzs
  subst ez
  have e4 : h1.get? q = some oq := sb1.2 q (fun z => by
    rw [z, hit] at e1
    cases e1
    exact absurd (Value.type.inj e2) (by decide)) |>.trans e1
  have hit2 : IsP h1 it q 1 n last ns := hit1
  have esz : h1.objs.size = s.heap.objs.size := sb1.1
  exact put (items := items) hit2 hz fun h' a b c => by
    rw [show ({ s with heap := h1 } : Shared).heap.objs.size = s.heap.objs.size from esz] at a b ⊢
    exact hQ h' a b fun x o hx e => c x o hx ((sb1.2 x hx).trans e)
theorem step1 {ix cy : List Nat} {Q : Fin → Shared → Prop} (hit : IsP s.heap it q 1 n last ns) (hq : IsTup s.heap q items) (hz : n ≤ 1000) (hm : items.size = n) (hx : nx n n (ns.take n) (ns.drop n) = some (ix, cy)) (hl : ix.length + cy.length ≤ 2000)
    (hQ : ∀ h', IsP h' it q 1 n (.ref s.heap.objs.size) (ix ++ cy) → IsTup h' s.heap.objs.size (tupO ix n items).toArray → (∀ b o, b ≠ it → s.heap.get? b = some o → h'.get? b = some o) → Q (.done (.ret (.ref s.heap.objs.size))) { s with heap := h' }) :
    wpAny (model prog w) A (Builtin.«itertools.permutations.__next__» ⟨[.ref it], []⟩) Q E s := by
  obtain ⟨oq, e1, e2, nq, e3⟩ := id hq
  show wpAny _ _ (field (.ref it) 0 >>= _) _ _ s
  refine wpAny_bind (wpAny_field hit rfl (x := .ref q) rfl ?_)
  show wpAny _ _ ((seqItems? (.ref q) >>= _) >>= _) _ _ s
  refine wpAny_bind (wpAny_bind (wpAny_seqItems e1 e3 (wpAny_pure ?_)))
  show wpAny _ _ ((field (.ref it) 2 >>= _) >>= _) _ _ s
  refine wpAny_bind (wpAny_bind (wpAny_field hit rfl (x := rawInt n) rfl (wpAny_pure ?_)))
  show wpAny _ _ ((load it >>= _) >>= _) _ _ s
  refine wpAny_bind (wpAny_bind (wpAny_load hit (wpAny_pure ?_)))
  show wpAny _ _ ((field (.ref it) 1 >>= _) >>= _) _ _ s
  refine wpAny_bind (wpAny_bind (wpAny_field hit rfl (x := rawInt 1) rfl (wpAny_pure ?_)))
  dsimp only
  generalize hzs : List.map _ (List.drop 4 (pf q 1 (n : Int) last ns).toList) = zs
  have ez : ns = zs := (nums (q := q) (last := last) (ns := ns) 1 n).symm.trans hzs
  subst ez
  split
  · next h => exact absurd h (by decide)
  · split
    · next a b hab =>
      obtain ⟨F, hF, hE⟩ : ∃ F : Nat → Nat → List Nat → List Nat → Option (List Nat × List Nat), F items.size (n : Int).toNat (ns.take items.size) (ns.drop items.size) = some (a, b) ∧ ∀ m p x y, F m p x y = nx m p x y := ⟨_, hab, fun m p => by
        induction p with
        | zero => exact fun x y => rfl
        | succ p ih =>
          intro x y
          show (if (y.getD p 0 - 1 == 0) = true then _ else _) = (if (y.getD p 0 - 1 == 0) = true then _ else _)
          rw [ih]⟩
      have hab2 := (hE _ _ _ _).symm.trans hF
      rw [hm, Int.toNat_natCast, hx] at hab2
      cases hab2
      show wpAny _ _ (updateFields it _ >>= _) _ _ s
      refine wpAny_bind (wpAny_updateFields hit rfl ?_ ?_)
      · have hit2 : IsP (s.heap.update it (Obj.mapFields fun fs => fs.extract 0 4 ++ ((ix ++ cy).map fun (n : Nat) => rawInt n).toArray)) it q 1 n last (ix ++ cy) := by
          refine (Heap.get?_update_self (f := Obj.mapFields fun fs => fs.extract 0 4 ++ ((ix ++ cy).map fun (n : Nat) => rawInt n).toArray) hit rfl).trans ?_
          show some ({ cls := .type "itertools.permutations", dict := none, data := .fields ((pf q 1 n last ns).extract 0 4 ++ ((ix ++ cy).map fun (n : Nat) => rawInt n).toArray), slots := #[] } : Obj) = _
          rw [pf_ext]
        have esz : (s.heap.update it (Obj.mapFields fun fs => fs.extract 0 4 ++ ((ix ++ cy).map fun (n : Nat) => rawInt n).toArray)).objs.size = s.heap.objs.size := Heap.size_update ..
        have sb : Heap.SameBut it s.heap (s.heap.update it (Obj.mapFields fun fs => fs.extract 0 4 ++ ((ix ++ cy).map fun (n : Nat) => rawInt n).toArray)) := Heap.SameBut.update ..
        exact put (items := items) hit2 hz fun h' a b c => by
          rw [show ({ s with heap := s.heap.update it (Obj.mapFields fun fs => fs.extract 0 4 ++ ((ix ++ cy).map fun (n : Nat) => rawInt n).toArray) } : Shared).heap.objs.size = s.heap.objs.size from esz] at a b ⊢
          exact hQ h' a b fun x o hx e => c x o hx ((sb.2 x hx).trans e)
      · rw [pf_ext]
        show (pf q 1 n last (ix ++ cy)).size ≤ sizeLine + 3
        have : (pf q 1 n last (ix ++ cy)).size = (ix ++ cy).length + 4 := by simp [pf]
        rw [this, List.length_append, sizeLine_eq]
        omega
    · next hab =>
      obtain ⟨F, hF, hE⟩ : ∃ F : Nat → Nat → List Nat → List Nat → Option (List Nat × List Nat), F items.size (n : Int).toNat (ns.take items.size) (ns.drop items.size) = none ∧ ∀ m p x y, F m p x y = nx m p x y := ⟨_, hab, fun m p => by
        induction p with
        | zero => exact fun x y => rfl
        | succ p ih =>
          intro x y
          show (if (y.getD p 0 - 1 == 0) = true then _ else _) = (if (y.getD p 0 - 1 == 0) = true then _ else _)
          rw [ih]⟩
      have hab2 := (hE _ _ _ _).symm.trans hF
      rw [hm, Int.toNat_natCast, hx] at hab2
      cases hab2
  · next h1 h2 => exact absurd rfl h2
theorem stepE {Q : Fin → Shared → Prop} (hh : A.handled = none) (hit : IsP s.heap it q 1 n last ns) (hq : IsTup s.heap q items) (hm : items.size = n) (hx : nx n n (ns.take n) (ns.drop n) = none)
    (hQ : ∀ (e : Value) (h' : Heap), CpRep.StopE e h' → (∀ b o, b ≠ it → s.heap.get? b = some o → h'.get? b = some o) → E e { s with heap := h' }) :
    wpAny (model prog w) A (Builtin.«itertools.permutations.__next__» ⟨[.ref it], []⟩) Q E s := by
  obtain ⟨oq, e1, e2, nq, e3⟩ := id hq
  show wpAny _ _ (field (.ref it) 0 >>= _) _ _ s
  refine wpAny_bind (wpAny_field hit rfl (x := .ref q) rfl ?_)
  show wpAny _ _ ((seqItems? (.ref q) >>= _) >>= _) _ _ s
  refine wpAny_bind (wpAny_bind (wpAny_seqItems e1 e3 (wpAny_pure ?_)))
  show wpAny _ _ ((field (.ref it) 2 >>= _) >>= _) _ _ s
  refine wpAny_bind (wpAny_bind (wpAny_field hit rfl (x := rawInt n) rfl (wpAny_pure ?_)))
  show wpAny _ _ ((load it >>= _) >>= _) _ _ s
  refine wpAny_bind (wpAny_bind (wpAny_load hit (wpAny_pure ?_)))
  show wpAny _ _ ((field (.ref it) 1 >>= _) >>= _) _ _ s
  refine wpAny_bind (wpAny_bind (wpAny_field hit rfl (x := rawInt 1) rfl (wpAny_pure ?_)))
  dsimp only
  generalize hzs : List.map _ (List.drop 4 (pf q 1 (n : Int) last ns).toList) = zs
  have ez : ns = zs := (nums (q := q) (last := last) (ns := ns) 1 n).symm.trans hzs
  subst ez
  split
  · next h => exact absurd h (by decide)
  · split
    · next a b hab =>
      obtain ⟨F, hF, hE⟩ : ∃ F : Nat → Nat → List Nat → List Nat → Option (List Nat × List Nat), F items.size (n : Int).toNat (ns.take items.size) (ns.drop items.size) = some (a, b) ∧ ∀ m p x y, F m p x y = nx m p x y := ⟨_, hab, fun m p => by
        induction p with
        | zero => exact fun x y => rfl
        | succ p ih =>
          intro x y
          show (if (y.getD p 0 - 1 == 0) = true then _ else _) = (if (y.getD p 0 - 1 == 0) = true then _ else _)
          rw [ih]⟩
      have hab2 := (hE _ _ _ _).symm.trans hF
      rw [hm, Int.toNat_natCast, hx] at hab2
      cases hab2
    · show wpAny _ _ (setField (.ref it) 1 (rawInt 2) >>= _) _ _ s
      refine wpAny_bind (wpAny_setField_rec hit (by simp) fun h1 hit1 sb1 => ?_)
      show wpAny _ _ (newExc (.type "StopIteration") [] >>= _) _ _ _
      refine wpAny_bind ?_
      simp only [newExc, newTuple]
      refine wpAny_bind (wpAny_newObj_type ?_ (by size_fits))
      refine wpAny_bind (m := firstArgMember _ _) (wpAny_of_eq (a := Value.none)
        (by first | rfl | (simp only [firstArgMember]; rfl)) ?_)
      refine wpAny_newObj_type ?_ (by size_fits)
      simp only [raiseNew]
      refine wpAny_bind (wpAny_handled ?_)
      rw [hh]
      refine wpAny_bind (wpAny_pure (wpAny_throw ?_))
      refine hQ _ _ ⟨_, _, _, rfl, Heap.get?_push_size _ rfl, rfl, rfl, rfl⟩ fun b o hb e => ?_
      exact Heap.get?_push_of_some _ (Heap.get?_push_of_some _ ((sb1.2 b hb).trans e))
  · next h1 h2 => exact absurd rfl h2
theorem next_0 {Q : Option Value → Shared → Prop} (hit : IsP s.heap it q 0 n last ns) (hq : IsTup s.heap q items) (hz : n ≤ 1000)
    (hQ : ∀ h', IsP h' it q 1 n (.ref s.heap.objs.size) ns → IsTup h' s.heap.objs.size (tupO ns n items).toArray → (∀ b o, b ≠ it → s.heap.get? b = some o → h'.get? b = some o) → Q (some (.ref s.heap.objs.size)) { s with heap := h' }) :
    wpAny (model prog w) A (pyNext (.ref it)) Q E s := by
  have hT : s.TypeIs (.ref it) "itertools.permutations" := ⟨_, hit, rfl⟩
  unfold pyNext
  exact wpAny_bind (wpAny_attempt (wpAny_callSpecial?_slot (name := Str.ofString "__next__") hT slot_nx
    (wpAny_call_entry slot_nx hT ent_nx (step0 hit hq hz fun h' a b c => ⟨_, rfl, wpAny_pure (hQ h' a b c)⟩) (args_nx _))))
theorem next_1 {ix cy : List Nat} {Q : Option Value → Shared → Prop} (hit : IsP s.heap it q 1 n last ns) (hq : IsTup s.heap q items) (hz : n ≤ 1000) (hm : items.size = n) (hx : nx n n (ns.take n) (ns.drop n) = some (ix, cy)) (hl : ix.length + cy.length ≤ 2000)
    (hQ : ∀ h', IsP h' it q 1 n (.ref s.heap.objs.size) (ix ++ cy) → IsTup h' s.heap.objs.size (tupO ix n items).toArray → (∀ b o, b ≠ it → s.heap.get? b = some o → h'.get? b = some o) → Q (some (.ref s.heap.objs.size)) { s with heap := h' }) :
    wpAny (model prog w) A (pyNext (.ref it)) Q E s := by
  have hT : s.TypeIs (.ref it) "itertools.permutations" := ⟨_, hit, rfl⟩
  unfold pyNext
  exact wpAny_bind (wpAny_attempt (wpAny_callSpecial?_slot (name := Str.ofString "__next__") hT slot_nx
    (wpAny_call_entry slot_nx hT ent_nx (step1 hit hq hz hm hx hl fun h' a b c => ⟨_, rfl, wpAny_pure (hQ h' a b c)⟩) (args_nx _))))
theorem next_E {Q : Option Value → Shared → Prop} (hh : A.handled = none) (hit : IsP s.heap it q 1 n last ns) (hq : IsTup s.heap q items) (hm : items.size = n) (hx : nx n n (ns.take n) (ns.drop n) = none)
    (hQ : ∀ h' : Heap, (∀ b o, b ≠ it → s.heap.get? b = some o → h'.get? b = some o) → Q none { s with heap := h' }) :
    wpAny (model prog w) A (pyNext (.ref it)) Q E s := by
  have hT : s.TypeIs (.ref it) "itertools.permutations" := ⟨_, hit, rfl⟩
  unfold pyNext
  refine wpAny_bind (wpAny_attempt (wpAny_callSpecial?_slot (name := Str.ofString "__next__") hT slot_nx
    (wpAny_call_entry slot_nx hT ent_nx (stepE hh hit hq hm hx fun e h' se k => ?_) (args_nx _))))
  obtain ⟨a, o, vs, rfl, ho, hc, _⟩ := se
  exact wpAny_bind (wpAny_isInstance (T := "StopIteration") (b := true) ⟨o, ho, hc⟩ isSubtype_stop (wpAny_pure (hQ h' k)))
theorem iter_self {st : Int} {Q : Value → Shared → Prop} (hit : IsP s.heap it q st n last ns) (h : Q (.ref it) s) : wpAny (model prog w) A (pyIter (.ref it)) Q E s := by
  have hT : s.TypeIs (.ref it) "itertools.permutations" := ⟨_, hit, rfl⟩
  refine wpAny_pyIter_slot hT slot_it (wpAny_call_entry slot_it hT ent_it ?_ (args_it _))
  exact wpAny_pure ⟨_, rfl, "itertools.permutations", _, hT, slot_nx.lookup, h⟩
end
end PM

namespace PM
open PySem PySem.Spec PyProof.Rows
theorem cls_pm (v : Value) : Builtin.Itertools.itClassAndRest "permutations" ⟨[.type "itertools.permutations", v], []⟩ = pure (.type "itertools.permutations", [v]) := by
  first
  | kernel_rfl
  | (unfold Builtin.Itertools.itClassAndRest; rw [show ("itertools." ++ "permutations" : String) = "itertools.permutations" from rfl]; simp only [sub_pm]; kernel_rfl)
theorem bind_pm (v : Value) : Builtin.Itertools.itBindNamed "permutations" ["iterable", "r"] 1 2 [v] [] = pure [some v, none] := by
  kernel_rfl
theorem noDict_pm : typeHasDict (.type "itertools.permutations") = false := by decide +kernel
/-- the places and the cycles at the start -/
abbrev ns0 (n : Nat) : List Nat := List.range n ++ (List.range n).map fun i => n - i
section
variable {prog : Program} {w : World} {A : Around} {E : Value → Shared → Prop} {s : Shared}
abbrev h1T (h : Heap) (its : List Value) : Heap := h.push { cls := .type "tuple", data := .seq its.toArray }
abbrev h2P (h : Heap) (its : List Value) : Heap := (h1T h its).push { cls := .type "itertools.permutations", data := .fields (pf h.objs.size 0 its.length .none (ns0 its.length)) }
theorem new_meets (x : Value) : MeetsIn prog w (Builtin.«itertools.permutations.__new__» ⟨[.type "itertools.permutations", x], []⟩)
    (fun A R s => wpAny (model prog w) A.in1 (collect x) (fun its s1 => its.length ≤ 1000 ∧ R (.ok (.ret (.ref (h1T s1.heap its).objs.size))) { s1 with heap := h2P s1.heap its }) (fun e s1 => R (.error e) s1) s) :=
  .of_wp fun A R s h => by
    unfold Builtin.«itertools.permutations.__new__»
    refine wpAny_bind (wpAny_of_eq (cls_pm _) ?_)
    refine wpAny_bind (wpAny_of_eq (bind_pm _) ?_)
    dsimp only
    refine wpAny_bind (wpAny_mono h (fun its s1 hR => ?_) fun _ _ z => z)
    obtain ⟨hz, hR⟩ := hR
    have b1 : ¬ ((its.length : Nat) : Int) < 0 := by omega
    have b2 : Builtin.Itertools.itTooMany ((its.length : Nat) : Int) = false := by
      unfold Builtin.Itertools.itTooMany
      exact decide_eq_false (by omega)
    have hl : its.length ≤ sizeLine := by rw [sizeLine_eq]; omega
    show wpAny _ _ (pure ((its.length : Nat) : Int) >>= _) _ _ _
    refine wpAny_bind (wpAny_pure ?_)
    rw [if_neg b1, if_neg (by rw [b2]; decide)]
    refine wpAny_bind (wpAny_newTuple ?_ hl)
    have ef : ([Value.ref s1.heap.objs.size, rawInt (if ((its.length : Nat) : Int).toNat > its.length then 2 else 0), rawInt (((its.length : Nat) : Int).toNat : Nat), Value.none] ++ List.map (fun (i : Nat) => rawInt i) (List.range its.length) ++
        List.map (fun (i : Nat) => rawInt (((its.length : Nat) : Int) - i)) (List.range ((its.length : Nat) : Int).toNat)).toArray = pf s1.heap.objs.size 0 its.length .none (ns0 its.length) := by
      rw [Int.toNat_natCast, if_neg (Nat.lt_irrefl _)]
      have el : List.map (fun (i : Nat) => rawInt i) (List.range its.length) ++ List.map (fun (i : Nat) => rawInt (((its.length : Nat) : Int) - i)) (List.range its.length) = List.map (fun k : Nat => rawInt (k : Int)) (ns0 its.length) := by
        rw [List.map_append, List.map_map]
        congr 1
        refine List.map_congr_left fun i hi => ?_
        have := List.mem_range.mp hi
        show rawInt _ = rawInt (((its.length - i : Nat)) : Int)
        congr 1
        omega
      show (Value.ref s1.heap.objs.size :: rawInt 0 :: rawInt (its.length : Int) :: Value.none :: (List.map (fun (i : Nat) => rawInt i) (List.range its.length) ++ List.map (fun (i : Nat) => rawInt (((its.length : Nat) : Int) - i)) (List.range its.length))).toArray = _
      rw [el]
    show wpAny _ _ (Builtin.Itertools.itNewRecord (.type "itertools.permutations") _ >>= _) _ _ _
    refine wpAny_bind ?_
    unfold Builtin.Itertools.itNewRecord
    rw [noDict_pm]
    show wpAny _ _ (newObj (.type "itertools.permutations") (.fields _)) _ _ _
    refine wpAny_newObj_type ?_ ?_
    · refine wpAny_pure ⟨_, rfl, ?_⟩
      rw [ef]
      exact hR
    · rw [ef]
      show (pf s1.heap.objs.size 0 its.length .none (ns0 its.length)).size ≤ _
      have : (pf s1.heap.objs.size 0 its.length .none (ns0 its.length)).size = its.length + its.length + 4 := by simp [pf]
      rw [this, sizeLine_eq]
      omega
/-- permutations(range(n)) -/
theorem call_pm {r : Addr} {t u v : Tok} {m : Nat} {Q : Value → Shared → Prop} (hh : A.handled = none) (hr : IsRange s.heap r 0 m 1 t u v) (hm : m ≤ 1000)
    (hQ : ∀ (h1 : Heap) (tk : Nat) (its : List Value), (∀ b o, s.heap.get? b = some o → h1.get? b = some o) → its.length = m → (∀ (j : Nat) (x : Value), its[j]? = some x → ∃ t, x = Value.int (j : Int) t) → Q (.ref (h1.objs.size + 1)) { s with heap := h2P h1 its, toks := tk }) :
    wpAny (model prog w) A (call (.type "itertools.permutations") [.ref r]) Q E s := by
  refine callType_newIn called_pm (by decide) (tcall_pm _) (ncall_pm _) (fun obj => F.args_object_init_2 obj _) ent_new (new_meets (.ref r)) ?_
  refine L2.collect_range (n := m) hh hr (small_one (by decide) (by decide) (by omega) (by omega)) ((rangeSize_nat 0 (m : Int)).trans (by omega)) (by omega) fun h' tk acc k hi => ?_
  have hl : acc.toList.length = m := by rw [Array.length_toList]; exact hi.1
  have e1 : (h1T h' acc.toList).objs.size = h'.objs.size + 1 := Heap.size_push ..
  refine ⟨by omega, ⟨_, Heap.get?_push_size _ rfl, rfl⟩, ?_⟩
  rw [e1]
  refine hQ h' tk acc.toList k hl fun j x hj => ?_
  obtain ⟨t, e⟩ := hi.2 j x (by rw [← hj, Array.getElem?_toList])
  exact ⟨t, by rw [e]; congr 1; omega⟩
theorem pm_T {h : Heap} {its : List Value} : IsTup (h2P h its) h.objs.size its.toArray := ⟨_, Heap.get?_push_of_some _ (Heap.get?_push_size _ rfl), rfl, 0, rfl⟩
theorem pm_it {h : Heap} {its : List Value} : IsP (h2P h its) (h.objs.size + 1) h.objs.size 0 its.length .none (ns0 its.length) := by
  have e1 : (h1T h its).objs.size = h.objs.size + 1 := Heap.size_push ..
  have g := Heap.get?_push_size (h1T h its) (o := { cls := .type "itertools.permutations", data := .fields (pf h.objs.size 0 its.length .none (ns0 its.length)) }) rfl
  rw [e1] at g
  exact g
end
end PM

namespace PM
open PySem PySem.Spec PyProof.Rows L2
/-- the places and the cycles behind the j-th tuple -/
def seqP (m : Nat) : Nat → Option (List Nat × List Nat)
  | 0 => some (List.range m, (List.range m).map fun i => m - i)
  | j + 1 => (seqP m j).bind fun p => nx m m p.1 p.2
def GoodP (m : Nat) (p : List Nat × List Nat) : Prop := p.1.length = m ∧ p.2.length = m ∧ ∀ k ∈ p.1, k < m
abbrev outV (p : List Nat × List Nat) : List V := p.1.map fun k : Nat => V.int (k : Int)
def Itpm (m : Nat) : It := ⟨fun i _ => ∃ p, seqP m i = some p ∧ GoodP m p, fun i H x H' => ∃ t p, seqP m i = some p ∧ x = .ref t ∧ H t = none ∧ H' = upd H t (.tup (outV p)), fun i _ => 1 ≤ i ∧ seqP m i = none⟩
def tnP (m : Nat) (it T : Addr) (i : Nat) (h : Heap) : Prop := ∃ (its : List Value) (last : Value), IsTup h T its.toArray ∧ its.length = m ∧ (∀ (j : Nat) (x : Value), its[j]? = some x → ∃ t, x = Value.int (j : Int) t) ∧ it ≠ T ∧
  ((i = 0 ∧ IsP h it T 0 m last (ns0 m)) ∨ ∃ j p, i = j + 1 ∧ seqP m j = some p ∧ GoodP m p ∧ IsP h it T 1 m last (p.1 ++ p.2))
theorem vals_out {its : List Value} {m : Nat} {p : List Nat × List Nat} (hl : its.length = m) (hi : ∀ (j : Nat) (x : Value), its[j]? = some x → ∃ t, x = Value.int (j : Int) t) : ∀ (l : List Nat), (∀ k ∈ l, k < m) → Vals (l.map fun k : Nat => V.int (k : Int)) (l.map fun i => its.toArray.getD i .none)
  | [], _ => .nil
  | k :: l, h => by
    have hk := h k List.mem_cons_self
    have e : its[k]? = some (its[k]'(by omega)) := List.getElem?_eq_getElem (by omega)
    obtain ⟨t, et⟩ := hi k _ e
    refine .cons ?_ (vals_out (p := p) hl hi l fun x hx => h x (List.mem_cons_of_mem _ hx))
    refine ⟨t, ?_⟩
    have : its.toArray.getD k .none = its[k]'(by omega) := by
      rw [Array.getD_eq_getD_getElem?, List.getElem?_toArray, e]; rfl
    exact this.trans et
theorem turn_pm {P : Program} {w : World} {K : PySem.W.Frag} {tg : Expr} {m : Nat} {it T : Addr} (hm : m ≤ 1000) : Turn P w K tg (Itpm m) [it, T] it (tnP m it T) where
  mem := by simp
  obj := fun i h st b hb => by
    obtain ⟨its, last, ⟨o, e1, e2, n, e3⟩, _, _, _, h6⟩ := st
    have hb : b = it ∨ b = T := by simpa using hb
    rcases hb with e | e
    · rw [e]
      rcases h6 with ⟨_, h7⟩ | ⟨_, _, _, _, _, h7⟩
      · exact ⟨_, h7, fun v z => by cases z⟩
      · exact ⟨_, h7, fun v z => by cases z⟩
    · rw [e]
      exact ⟨o, e1, fun v z => by rw [e3] at z; cases z⟩
  keep := fun i h h' st k => by
    obtain ⟨its, last, ⟨o, e1, e2, n, e3⟩, h2, h3, h4, h6⟩ := st
    refine ⟨its, last, ⟨o, k T (by simp) o e1, e2, n, e3⟩, h2, h3, h4, ?_⟩
    rcases h6 with ⟨h5, h7⟩ | ⟨j, p, h5, h8, h9, h7⟩
    · exact .inl ⟨h5, k it (by simp) _ h7⟩
    · exact .inr ⟨j, p, h5, h8, h9, k it (by simp) _ h7⟩
  item := by
    intro X hP hw hK hc i pins s σ H E I hf st hg
    subst hP hw hK
    obtain ⟨its, last, hT, hl, hi, hne, h6⟩ := st
    obtain ⟨p, hp, hgp⟩ := hg
    have hz : its.toArray.size = m := by rw [List.size_toArray]; exact hl
    have fin : ∀ (h' : Heap), IsP h' it T 1 m (.ref s.heap.objs.size) (p.1 ++ p.2) → IsTup h' s.heap.objs.size (p.1.map fun i => its.toArray.getD i .none).toArray → (∀ b o, b ≠ it → s.heap.get? b = some o → h'.get? b = some o) →
        ∃ u, some (Value.ref s.heap.objs.size) = some u ∧ wpAny (model X.prog X.w) X.A (letOwnedTupleGo tg (.ref it) u) (fun _ s2 => ∃ x H', Inv X pins σ H' s2 ∧ RelV x u ∧ (Itpm m).yld i H x H' ∧ tnP m it T (i + 1) s2.heap ∧ ∀ b ∈ [it, T], H' b = none) E { s with heap := h' } := fun h' g1 g2 g3 => by
      have new : ObjOk X.prog X.w (upd H s.heap.objs.size (.tup (outV p))) h' s.heap.objs.size (.tup (outV p)) := ⟨by rw [List.length_map, hgp.1, sizeLine_eq]; omega, _, vals_out (p := p) hl hi p.1 hgp.2.2, g2⟩
      have I2 : Inv X pins σ (upd H s.heap.objs.size (.tup (outV p))) { s with heap := h' } := I.turnedNew (t' := s.toks) (ch := [it]) (fun b o hb e => g3 b o (by simpa using hb) e) (fun b hb => hf b (by simp at hb; simp [hb])) (Nat.le_refl _) new
      have hn := I.hok.fresh (Nat.le_refl s.heap.objs.size)
      obtain ⟨o, e1, e2, n, e3⟩ := hT
      refine ⟨_, rfl, go_of (s := { s with heap := h' }) g1 rfl rfl (by decide) ⟨.ref s.heap.objs.size, _, I2, rfl, ⟨_, p, hp, rfl, hn, rfl⟩, ⟨its, _, ⟨o, g3 T o hne.symm e1, e2, n, e3⟩, hl, hi, hne, .inr ⟨i, p, rfl, hp, hgp, g1⟩⟩, fun b hb => ?_⟩⟩
      have hb1 : b ≠ s.heap.objs.size := by
        have hb2 : b = it ∨ b = T := by simpa using hb
        rcases hb2 with e | e
        · rw [e]
          rcases h6 with ⟨_, h7⟩ | ⟨_, _, _, _, _, h7⟩
          · exact Nat.ne_of_lt (Heap.lt_size h7)
          · exact Nat.ne_of_lt (Heap.lt_size h7)
        · rw [e]
          exact Nat.ne_of_lt (Heap.lt_size e1)
      rw [upd_ne hb1]
      exact (hf b hb).1
    have tk : ∀ (q : List Nat × List Nat), q.1.length = m → (q.1 ++ q.2).take m = q.1 ∧ (q.1 ++ q.2).drop m = q.2 := fun q hq => by
      subst hq
      exact ⟨List.take_left, List.drop_left⟩
    rcases h6 with ⟨h5, h7⟩ | ⟨j, p0, h5, h8, h9, h7⟩
    · subst h5
      cases hp
      refine next_0 h7 hT hm fun h' g1 g2 g3 => fin h' g1 ?_ g3
      have := (tk (List.range m, (List.range m).map fun i => m - i) List.length_range).1
      rw [tupO, show (ns0 m).take m = List.range m from this] at g2
      exact g2
    · subst h5
      have hx : nx m m p0.1 p0.2 = some p := by
        have e : seqP m (j + 1) = (seqP m j).bind fun p => nx m m p.1 p.2 := rfl
        rw [e, h8] at hp
        exact hp
      obtain ⟨t1, t2⟩ := tk p0 h9.1
      refine next_1 (ix := p.1) (cy := p.2) h7 hT hm hz (by rw [t1, t2]; exact hx) (by rw [hgp.1, hgp.2.1]; omega) fun h' g1 g2 g3 => fin h' g1 ?_ g3
      rw [tupO, List.take_of_length_le (by rw [hgp.1]; exact Nat.le_refl _)] at g2
      exact g2
  done := by
    intro X hP hw hK hc i pins s σ H E I hf st hg
    subst hP hw hK
    obtain ⟨its, last, hT, hl, hi, hne, h6⟩ := st
    obtain ⟨h1, hp⟩ := hg
    have hz : its.toArray.size = m := by rw [List.size_toArray]; exact hl
    rcases h6 with ⟨h5, h7⟩ | ⟨j, p0, h5, h8, h9, h7⟩
    · omega
    · subst h5
      have hx : nx m m p0.1 p0.2 = none := by
        have e : seqP m (j + 1) = (seqP m j).bind fun p => nx m m p.1 p.2 := rfl
        rw [e, h8] at hp
        exact hp
      have t1 : (p0.1 ++ p0.2).take m = p0.1 := by rw [← h9.1]; exact List.take_left
      have t2 : (p0.1 ++ p0.2).drop m = p0.2 := by rw [← h9.1]; exact List.drop_left
      exact next_E (I.ok.hd hc) h7 hT hz (by rw [t1, t2]; exact hx) fun h' k => ⟨rfl, I.turnedL (t' := s.toks) (ch := [it]) (fun b o hb e => k b o (by simpa using hb) e) fun b hb => hf b (by simp at hb; simp [hb])⟩
  self := fun A i s Q E st h => by
    obtain ⟨its, last, _, _, _, _, h6⟩ := st
    rcases h6 with ⟨h5, h7⟩ | ⟨j, p0, h5, h8, h9, h7⟩
    · exact iter_self h7 h
    · exact iter_self h7 h
/-- the iterable permutations(e), e a range from 0 -/
def iPm (te : L2.St → Hp → (Int → Int → Hp → Prop) → Prop) : TI := fun σ H R => te σ H fun a b H1 => a = 0 ∧ 0 ≤ b ∧ b ≤ 1000 ∧ R (Itpm b.toNat) H1
theorem pi_perm {X : Cx} {tg e : Expr} {te : L2.St → Hp → (Int → Int → Hp → Prop) → Prop} {p pos : Pos} (hc : X.calm = true) (hg : Gl X "permutations") (gm : X.mg "permutations" = some (.type "itertools.permutations")) (he : PRg X e te)
    (na : starEach [e] X.env = (false, eval e X.env) :: starEach [] X.env := by rfl) : PI X tg (.Call (.Name "permutations" p) [e] [] pos) (iPm te) := by
  refine ⟨fun pins s σ H R I h => ?_⟩
  refine Call_ (ld_glob I hg gm (PyProof.Rows.callWith_type1 (args_cons (thn (he pins s σ H _ I h) fun x s1 ⟨r, a, b, t, u, v, H1, ex, hr, I1, e1, e2, e3, q⟩ => args_nil ?_) na) na))
  subst ex
  subst e1
  have eb : b = ((b.toNat : Nat) : Int) := by omega
  rw [eb] at hr
  refine call_pm (I1.ok.hd hc) hr (by omega) fun h1 tk its k hl hi => ?_
  have I2 : Inv X pins σ H1 { s1 with heap := h1, toks := tk } := I1.kept k
  have I3 : Inv X pins σ H1 { s1 with heap := h2P h1 its, toks := tk } := I2.kept (t' := tk) fun b o e => Heap.get?_push_of_some _ (Heap.get?_push_of_some _ e)
  have hit := pm_it (h := h1) (its := its)
  refine iter_self (s := { s1 with heap := h2P h1 its, toks := tk }) hit ?_
  rw [hl] at hit
  refine ⟨h1.objs.size + 1, [h1.objs.size + 1, h1.objs.size], _, Itpm b.toNat, H1, rfl, I3, turn_pm (by omega), ⟨its, .none, pm_T, hl, hi, Nat.succ_ne_self _, .inl ⟨rfl, hit⟩⟩, fun c hcc => ?_, q⟩
  have hc2 : h1.objs.size ≤ c := by
    have : c = h1.objs.size + 1 ∨ c = h1.objs.size := by simpa using hcc
    rcases this with e | e <;> rw [e]
    · exact Nat.le_succ _
    · exact Nat.le_refl _
  exact I2.fpOk hc2 (I2.hok.fresh hc2)
end PM

/-! written data, whole: constants, tuples, lists and names of known data, as one rule -/
namespace LT
open PySem PySem.Spec PyProof.Rows L2 DA
abbrev Vars : Type := List (Str × Nat × PD)
mutual
def litOf (vars : Vars) : Expr → Option PD
  | .Constant (.int i) _ _ => some (.int i)
  | .Constant (.str x) _ _ => some (.str x)
  | .Constant (.bool b) _ _ => some (.bool b)
  | .Constant .none _ _ => some .none
  | .Name x _ => (vars.lookup x).map (·.2)
  | .Tuple es _ _ => if es.length ≤ 1000 then (litAll vars es).map .tuple else none
  | .List es _ => if es.length ≤ 1000 then (litAll vars es).map .list else none
  | .BinOp (.Constant (.int a) _ _) .Sub (.Constant (.int b) _ _) _ => some (.int (a - b))
  | _ => none
def litAll (vars : Vars) : List Expr → Option (List PD)
  | [] => some []
  | e :: es => match litOf vars e, litAll vars es with
    | some d, some ds => some (d :: ds)
    | _, _ => none
end
/-- the names stand in their slots and are seen -/
def VarOk (X : Cx) (vars : Vars) : Prop := ∀ x i d, vars.lookup x = some (i, d) → X.N[i]? = some x ∧ Vis X.env.scope x ∧ (x == ("__debug__" : Str)) = false ∧ (x == ("__classdict__" : Str)) = false
def Holds (K : PySem.W.Frag) (vars : Vars) (σ : L2.St) (H : Hp) : Prop := ∀ x i d, vars.lookup x = some (i, d) → ∃ v, σ[i]? = some (some v) ∧ Dp K H v d
def tL (K : PySem.W.Frag) (vars : Vars) (d : PD) : TE := fun σ H Q => Holds K vars σ H ∧ ∀ v H', Dp K H' v d → Same H H' → Q v H'
def tLs (K : PySem.W.Frag) (vars : Vars) (ds : List PD) : TA := fun σ H Q => Holds K vars σ H ∧ ∀ vs H', DpAll K H' vs ds → Same H H' → Q vs H'
section
variable {K : PySem.W.Frag} {H H1 : Hp}
theorem dps_of_same {ds : List PD} {vs : List V} (s : Same H H1) (h : DpAll K H vs ds) : DpAll K H1 vs ds := dps_keep (T := []) (.same s) (fun _ z => nomatch z) h
theorem dp_of_same {d : PD} {v : V} (s : Same H H1) (h : Dp K H v d) : Dp K H1 v d := dp_keep (T := []) (.same s) (fun _ z => nomatch z) h
theorem Holds.same {vars : Vars} {σ : L2.St} (h : Holds K vars σ H) (s : Same H H1) : Holds K vars σ H1 := fun x i d e => by
  obtain ⟨v, h1, h2⟩ := h x i d e
  exact ⟨v, h1, dp_of_same s h2⟩
theorem same_upd {p : Addr} {o : HO} (h : H p = none) : Same H (upd H p o) := same_new h
end
section
variable {X : Cx} {vars : Vars}
theorem pe_mono {e : Expr} {t t' : TE} (h : PE X e t) (i : ∀ σ H Q, t' σ H Q → t σ H Q) : PE X e t' := ⟨fun pins s σ H Q I q => h.run pins s σ H Q I (i σ H Q q)⟩
theorem pa_mono {es : List Expr} {t t' : TA} (h : PA X es t) (i : ∀ σ H Q, t' σ H Q → t σ H Q) : PA X es t' := ⟨fun pos pins s σ H Q I q => h.run pos pins s σ H Q I (i σ H Q q)⟩
theorem starE {e : Expr} {d : PD} (h : litOf vars e = some d) (es : List Expr) (env : Env) : starEach (e :: es) env = (false, eval e env) :: starEach es env := by
  cases e <;> first | rfl | (exfalso; simp [litOf] at h)
theorem all_len : ∀ {es : List Expr} {ds : List PD}, litAll vars es = some ds → es.length = ds.length
  | [], ds, h => by cases h; rfl
  | e :: es, ds, h => by
    unfold litAll at h
    split at h
    · next d ds' h1 h2 =>
      cases h
      rw [List.length_cons, List.length_cons, all_len h2]
    · cases h
mutual
theorem lit_pe (hv : VarOk X vars) : ∀ (e : Expr) (d : PD), litOf vars e = some d → PE X e (tL X.K vars d)
  | .Constant (.int i) _ _, d, h => by
    cases h
    exact pe_mono pe_int fun σ H Q q => q.2 _ _ (.int i) (Same.refl H)
  | .Constant (.str x) _ _, d, h => by
    cases h
    exact pe_mono pe_str fun σ H Q q => q.2 _ _ (.str x) (Same.refl H)
  | .Constant (.bool b) _ _, d, h => by
    cases h
    exact pe_mono pe_bl fun σ H Q q => q.2 _ _ (.bl b) (Same.refl H)
  | .Constant .none _ _, d, h => by
    cases h
    exact pe_mono pe_non fun σ H Q q => q.2 _ _ .non (Same.refl H)
  | .Name x pos, d, h => by
    unfold litOf at h
    cases hl : vars.lookup x with
    | none => rw [hl] at h; cases h
    | some q =>
      obtain ⟨i, d2⟩ := q
      rw [hl] at h
      cases h
      obtain ⟨h1, h2, h3, h4⟩ := hv x i _ hl
      refine pe_mono (pe_var h1 h2 h3 h4) fun σ H Q q => ?_
      obtain ⟨v, e1, e2⟩ := q.1 x i _ hl
      exact ⟨v, e1, q.2 v H e2 (Same.refl H)⟩
  | .Tuple es k pos, d, h => by
    unfold litOf at h
    split at h
    · next hz =>
      cases ha : litAll vars es with
      | none => rw [ha] at h; cases h
      | some ds =>
        rw [ha] at h
        cases h
        have hl := all_len ha
        refine pe_mono (pe_tup (lits_pa hv es ds ha)) fun σ H Q q => ⟨q.1, fun vs H' dv s => ⟨?_, fun p np => ?_⟩⟩
        · rw [dps_len dv, ← hl]
          exact Nat.le_of_lt (small1000 hz)
        · exact q.2 _ _ (.tup (.of upd_same) (dps_of_same (same_upd np) dv)) (s.trans (same_upd np))
    · cases h
  | .List es pos, d, h => by
    unfold litOf at h
    split at h
    · next hz =>
      cases ha : litAll vars es with
      | none => rw [ha] at h; cases h
      | some ds =>
        rw [ha] at h
        cases h
        have hl := all_len ha
        refine pe_mono (pe_lst (lits_pa hv es ds ha)) fun σ H Q q => ⟨q.1, fun vs H' dv s => ⟨?_, fun p np => ?_⟩⟩
        · rw [dps_len dv, ← hl]
          exact Nat.le_of_lt (small1000 hz)
        · exact q.2 _ _ (.lst (.of upd_same) (dps_of_same (same_upd np) dv)) (s.trans (same_upd np))
    · cases h
  | .BinOp (.Constant (.int a) _ _) .Sub (.Constant (.int b) _ _) _, d, h => by
    cases h
    exact pe_mono (pe_op op_sub pe_int pe_int) fun σ H Q q => ⟨a, b, rfl, rfl, q.2 _ _ (.int _) (Same.refl H)⟩
theorem lits_pa (hv : VarOk X vars) : ∀ (es : List Expr) (ds : List PD), litAll vars es = some ds → PA X es (tLs X.K vars ds)
  | [], ds, h => by
    cases h
    exact pa_mono pa_nil fun σ H Q q => q.2 _ _ .nil (Same.refl H)
  | e :: es, ds, h => by
    unfold litAll at h
    split at h
    · next d ds' h1 h2 =>
      cases h
      refine pa_mono (pa_cons (lit_pe hv e d h1) (lits_pa hv es ds' h2) (starE h1 es X.env)) fun σ H Q q => ⟨q.1, fun v H1 dv s1 => ⟨q.1.same s1, fun vs H2 dvs s2 => ?_⟩⟩
      exact q.2 _ _ (.cons (dp_of_same s2 dv) dvs) (s1.trans s2)
    · cases h
end
/-- a written list, to be added to another -/
def tLL (K : PySem.W.Frag) (vars : Vars) (ds : List PD) : TE := fun σ H Q => Holds K vars σ H ∧ ∀ p xs H', H' p = some (.lst xs) → DpAll K H' xs ds → Same H H' → H p = none → Q (.ref p) H'
theorem lit_list (hv : VarOk X vars) {es : List Expr} {ds : List PD} {pos : Pos} (h : litAll vars es = some ds) (hz : es.length ≤ 1000) : PE X (.List es pos) (tLL X.K vars ds) := by
  have hl := all_len h
  refine pe_mono (pe_lst (lits_pa hv es ds h)) fun σ H Q q => ⟨q.1, fun vs H' dv s => ⟨?_, fun p np => ?_⟩⟩
  · rw [dps_len dv, ← hl]
    exact Nat.le_of_lt (small1000 hz)
  · exact q.2 p vs _ upd_same (dps_of_same (same_upd np) dv) (s.trans (same_upd np)) (s.free np)
theorem no_vars : VarOk X [] := fun x i d h => by cases h
theorem no_holds {K : PySem.W.Frag} {σ : L2.St} {H : Hp} : Holds K [] σ H := fun x i d h => by cases h
/-- the rule for data without names -/
theorem pe_data {e : Expr} {d : PD} (h : litOf [] e = some d) : PE X e (tL X.K [] d) := lit_pe no_vars e d h
end
end LT

/-! t[::-1] and t * 1, t a tuple -/
namespace TR
open PySem PySem.Spec PyProof.Rows L2 HT DA
theorem adj_back (n : Nat) : Builtin.Slice.sliceAdjust none none (-1) (n : Int) = ((n : Int) - 1, -1) := rfl
theorem places_back (n : Nat) : Builtin.Slice.slicePlaces ((n : Int) - 1) (-1) (-1) = n := by
  unfold Builtin.Slice.slicePlaces
  rw [if_neg (by decide)]
  by_cases h : n = 0
  · subst h; rfl
  · rw [if_pos (by omega)]
    have : ((n : Int) - 1 - (-1) - 1) / (-(-1)) + 1 = n := by
      rw [Int.neg_neg, Int.ediv_one]; omega
    rw [this, Int.toNat_natCast]
theorem fm_some {α β : Type} {f : α → Option β} {g : α → β} : ∀ (l : List α), (∀ m ∈ l, f m = some (g m)) → l.filterMap f = l.map g
  | [], _ => rfl
  | a :: l, h => by
    rw [List.filterMap_cons_some (h a List.mem_cons_self), fm_some l fun m hm => h m (List.mem_cons_of_mem _ hm), List.map_cons]
theorem pick_back (xs : Array Value) : ((List.range xs.size).filterMap fun (m : Nat) => xs[(((xs.size : Nat) : Int) - 1 + (m : Int) * -1).toNat]?).toArray = xs.toList.reverse.toArray := by
  congr 1
  have e : (List.range xs.size).filterMap (fun (m : Nat) => xs[(((xs.size : Nat) : Int) - 1 + (m : Int) * -1).toNat]?) = (List.range xs.size).map fun m => xs.toList.reverse.getD m .none := by
    refine fm_some _ fun m hm => ?_
    have hm := List.mem_range.mp hm
    have e1 : (((xs.size : Nat) : Int) - 1 + (m : Int) * -1).toNat = xs.size - 1 - m := by omega
    have hl : m < xs.toList.reverse.length := by rw [List.length_reverse, Array.length_toList]; exact hm
    show xs[(((xs.size : Nat) : Int) - 1 + (m : Int) * -1).toNat]? = some (xs.toList.reverse.getD m .none)
    rw [e1, List.getD_eq_getElem?_getD, List.getElem?_eq_getElem hl, List.getElem_reverse]
    show _ = some _
    rw [Array.getElem?_eq_getElem (by omega)]
    simp
  rw [e]
  refine List.ext_getElem (by simp) fun i h1 h2 => ?_
  rw [List.getElem_map, List.getElem_range, List.getD_eq_getElem?_getD, List.getElem?_eq_getElem h2]
  rfl
section
variable {prog : Program} {w : World} {A : Around} {E : Value → Shared → Prop} {s : Shared}
theorem applied_back {sl : Addr} {v : Tok} {n : Nat} {Q : Int × Int × Nat → Shared → Prop} (hs : s.heap.IsSliceOf sl .none .none (.int (-1) v)) (h : Q ((n : Int) - 1, -1, n) s) :
    wpAny (model prog w) A (Builtin.Slice.sliceApplied (.ref sl) (pure (n : Int))) Q E s := by
  obtain ⟨os, hos, hcs, hds⟩ := id hs
  unfold Builtin.Slice.sliceApplied Builtin.Slice.sliceFields
  refine wpAny_bind (wpAny_bind (wpAny_field hos hds (x := .none) rfl
    (wpAny_bind (wpAny_field hos hds (x := .none) rfl (wpAny_bind (wpAny_field hos hds (x := .int (-1) v) rfl (wpAny_pure ?_)))))))
  refine wpAny_bind (slicePart_int ?_)
  show wpAny _ _ (if ((-1 : Int) == 0) = true then _ else _) _ _ s
  rw [if_neg (by decide)]
  refine wpAny_bind (slicePart_none (wpAny_bind (slicePart_none (wpAny_bind (wpAny_pure ?_)))))
  show wpAny _ _ (pure ((Builtin.Slice.sliceAdjust none none (-1) (n : Int)).1, (-1 : Int), Builtin.Slice.slicePlaces (Builtin.Slice.sliceAdjust none none (-1) (n : Int)).1 (Builtin.Slice.sliceAdjust none none (-1) (n : Int)).2 (-1))) _ _ s
  rw [adj_back]
  show wpAny _ _ (pure ((n : Int) - 1, (-1 : Int), Builtin.Slice.slicePlaces ((n : Int) - 1) (-1) (-1))) _ _ s
  rw [places_back]
  exact wpAny_pure h
theorem item_back {t sl : Addr} {items : Array Value} {v : Tok} {Q : Value → Shared → Prop} (ht : IsTup s.heap t items) (hs : s.heap.IsSliceOf sl .none .none (.int (-1) v))
    (h : Q (.ref s.heap.objs.size) { s with heap := s.heap.push { cls := .type "tuple", data := .seq items.toList.reverse.toArray } }) (hz : items.size ≤ sizeLine) : wpAny (model prog w) A (getItem (.ref t) (.ref sl)) Q E s := by
  have hk : sizeOk (.seq items.toList.reverse.toArray) := by
    show items.toList.reverse.toArray.size ≤ sizeLine
    simpa using hz
  obtain ⟨os, hos, hcs, hds⟩ := id hs
  have hTs : s.TypeIs (.ref sl) "slice" := ⟨os, hos, hcs⟩
  unfold getItem
  try with_reducible refine wpAny_holding ?_
  first | refine wpAny_bind (wpAny_pure ?_) | skip
  refine wpAny_bind (wpAny_sequenceKey ht.typeIs (by decide) ?_)
  refine wpAny_bind (wpAny_callSpecial?_slot (name := Str.ofString "__getitem__") ht.typeIs slot_tuple_getitem
    (wpAny_call_entry slot_tuple_getitem ht.typeIs entry_tuple_getitem ?_ (args_tuple_getitem _ _)))
  show wpAny _ _ (Builtin.Tuple.tupleItemsOf (.ref t) >>= _) _ _ s
  refine wpAny_bind (tupleItemsOf_ ht (wpAny_bind (wpAny_typeOf hTs ?_)))
  rw [if_pos (by decide)]
  refine wpAny_bind (applied_back hs ?_)
  show wpAny _ _ (if (((items.size : Nat) : Int) - 1 == 0 && (-1 : Int) == 1 && items.size == items.size) = true then _ else _) _ _ s
  rw [if_neg (by simp), pick_back]
  first
    | exact wpAny_bind (m := Builtin.Tuple.tupleExact _) (wpAny_newObj_type (wpAny_pure ⟨_, rfl, wpAny_pure h⟩) hk)
    | exact wpAny_bind (m := Builtin.Tuple.tupleExact _) (wpAny_newObj_type (wpAny_bind (wpAny_pure (wpAny_pure ⟨_, rfl, wpAny_pure h⟩))) hk)
    | exact wpAny_bind (wpAny_bind (m := Builtin.Tuple.tupleExact _) (wpAny_newObj_type (wpAny_pure (wpAny_pure ⟨_, rfl, wpAny_pure h⟩)) hk))
    | exact wpAny_bind (wpAny_bind (m := Builtin.Tuple.tupleExact _) (wpAny_newObj_type (wpAny_pure ⟨_, rfl, wpAny_pure h⟩) hk))
end
section
variable {X : Cx}
def tBack (K : PySem.W.Frag) (te : TE) (ts : TE) : TE := fun σ H Q => te σ H fun x H1 => ts σ H1 fun y H2 => y = .int (-1) ∧ ∃ a xs, x = .ref a ∧ SqT K H2 a xs ∧ ∀ p, H2 p = none → Q (.ref p) (upd H2 p (.tup xs.reverse))
theorem vals_rev : ∀ {xs : List V} {us : List Value}, Vals xs us → Vals xs.reverse us.reverse
  | _, _, .nil => .nil
  | _, _, .cons a r => by
    rw [List.reverse_cons, List.reverse_cons]
    exact (vals_rev r).append (.cons a .nil)
theorem pe_back {e st : Expr} {te ts : TE} {p2 pos : Pos} (he : PE X e te) (hs : PE X st ts) : PE X (.Subscript e (.Slice none none (some st) p2) pos) (tBack X.K te ts) := by
  refine ⟨fun pins s σ H Q I h => ?_⟩
  refine Subscript_ (thn (he.run pins s σ H _ I h) fun v s1 ⟨x, H1, I1, r1, q1⟩ => ?_)
  refine wpAny_Slice ?_
  rw [evalPart_none]
  refine wpAny_pure ?_
  refine wpAny_pure ?_
  show wpAny _ _ (eval st X.env) _ _ s1
  refine thn (hs.run pins s1 σ H1 _ I1 q1) fun u s2 ⟨y, H2, I2, r2, hy, a, xs, hx, hT, q⟩ => ?_
  subst hy
  subst hx
  obtain ⟨t, rfl⟩ := r2
  cases r1
  have I4 : Inv X pins σ H2 { s2 with heap := s2.heap.push { cls := .type "slice", data := .fields #[.none, .none, .int (-1) t] } } := I2.kept (t' := s2.toks) fun b ob q => Heap.get?_push_of_some _ q
  obtain ⟨its, r, ht, hz⟩ := I4.tuple hT
  show wpAny (model X.prog X.w) X.A (subscriptTail e (.Slice none none (some st) p2) (.ref a) (.ref s2.heap.objs.size)) (EP X pins σ Q) X.xe { s2 with heap := s2.heap.push { cls := .type "slice", data := .fields #[.none, .none, .int (-1) t] } }
  refine tail_any (ops := [.ref a, .ref s2.heap.objs.size]) ht.typeIs slot_tuple_getitem.lookup (item_back ht (Heap.IsSliceOf.new ..) ?_ (by rw [List.size_toArray, ← r.length]; exact hz)) (by with_unfolding_all rfl)
  refine ⟨.ref _, _, I4.laid (t' := s2.toks) (o := .tup xs.reverse) (fun b ob q => Heap.get?_push_of_some _ q) (Nat.le_refl _) ?_, rfl, q _ (I4.hok.fresh (Nat.le_refl _))⟩
  refine ⟨by rw [List.length_reverse]; exact hz, its.reverse, vals_rev r, ?_⟩
  have g := IsTup.new (({ s2 with heap := s2.heap.push { cls := .type "slice", data := .fields #[.none, .none, .int (-1) t] } } : Shared)).heap its.reverse.toArray
  simpa using g
end
theorem mul_one (l : Addr) (items : Array Value) (n : Nat) (dd : Option Addr) (sl : Array (Option Value)) (u : Tok) :
    Meets (Builtin.«tuple.__mul__» ⟨[.ref l, .int 1 u], []⟩) (fun _ R s => s.heap.get? l = some { cls := .type "tuple", dict := dd, data := .seq items n, slots := sl } ∧ R (.ok (.ret (Value.ref l))) s) :=
  .of_wp fun prog w A R s h => by
    obtain ⟨hp, g, d, tk, os⟩ := s
    obtain ⟨hl, h⟩ := h
    have f1 := AutoSeq1.idx_int
    have c0 : (decide ((1 : Int) < -(2 ^ 63)) || decide ((1 : Int) ≥ 2 ^ 63)) = false := by decide
    have c1 : (items.isEmpty || (1 : Int) == 1) = true := by rw [Bool.or_comm]; rfl
    wp_walk using wpAny_loadPart' hl
    repeat (first
      | (refine wpAny_ite_false (decide_eq_false (by rw [c0]; exact Bool.false_ne_true)) ?_; wp_walk using wpAny_loadPart' hl)
      | (refine wpAny_ite_true (decide_eq_true c1) ?_; wp_walk using wpAny_loadPart' hl))
    all_goals first | exact ⟨_, rfl, h⟩ | exact h | skip
section
variable {X : Cx}
def rRepA (K : PySem.W.Frag) : R2 := fun x y H Q => ∃ l k xs, x = .ref l ∧ y = .int k ∧ SqT K H l xs ∧ xs ≠ [] ∧ 1 ≤ k ∧ k ≤ 1000 ∧ xs.length ≤ 1000 ∧ (k = 1 → Q (.ref l) H) ∧ (2 ≤ k → ∀ p, H p = none → Q (.ref p) (upd H p (.tup (List.replicate k.toNat xs).flatten)))
theorem op_repA : OpR X (binaryOp .Mult) (rRepA X.K) := by
  intro pins s σ H x y v u Q I rx ry h
  obtain ⟨l, k, xs, rfl, rfl, hT, hne, h1, h2, hz, q1, q2⟩ := h
  by_cases hk : k = 1
  · subst hk
    cases rx
    obtain ⟨t, rfl⟩ := ry
    obtain ⟨its, r, ⟨⟨cls, dd, data, sl⟩, ho, hc, n, hd⟩, hs⟩ := I.tuple hT
    simp only at hc hd
    subst hc hd
    refine wpAny_binaryOp_repeat_ref (T := "tuple") (U := "int") (by decide) ⟨_, ho, rfl⟩ (fun s' => typeIs_int s' 1 t) noFill_tuple_mul
      F.fills_int_mul F.slot_int_rmul repeat_tuple F.slot_int_index.lookup
      (call_meets F.slot_int_rmul (typeIs_int s 1 t) F.entry_int_rmul (F.args_int_rmul_2 _ _) (int_rmul_tuple 1 t l its.toArray n dd sl) ⟨ho, rfl, ⟨_, ho, rfl⟩, ?_⟩)
    exact call_meets F.slot_tuple_mul ⟨_, ho, rfl⟩ F.entry_tuple_mul (F.args_tuple_mul_2 _ _) (mul_one l its.toArray n dd sl t) ⟨ho, ⟨.ref l, H, I, rfl, q1 rfl⟩⟩
  · exact op_repT pins s σ H _ _ v u Q I rx ry ⟨l, k, xs, rfl, rfl, hT, hne, by omega, h2, hz, q2 (by omega)⟩
end
section
variable {X : Cx}
theorem op_imp {f : Value → Value → Sem Value} {r r' : R2} (h : OpR X f r) (i : ∀ x y H Q, r' x y H Q → r x y H Q) : OpR X f r' := fun pins s σ H x y v u Q I rx ry q => h pins s σ H x y v u Q I rx ry (i x y H Q q)
theorem same_n {H : Hp} {p : Addr} {o : HO} (h : H p = none) : Same H (upd H p o) := fun b x e => by
  rw [upd_ne (ne_of_none e h)]; exact e
/-- t * k: the answer, wherever it stands -/
def rRepU (K : PySem.W.Frag) : R2 := fun x y H Q => ∃ l k xs, x = .ref l ∧ y = .int k ∧ SqT K H l xs ∧ xs ≠ [] ∧ 1 ≤ k ∧ k ≤ 1000 ∧ xs.length ≤ 1000 ∧ ∀ p H', SqT K H' p (List.replicate k.toNat xs).flatten → Same H H' → Q (.ref p) H'
theorem op_repU : OpR X (binaryOp .Mult) (rRepU X.K) := op_imp op_repA fun x y H Q ⟨l, k, xs, h1, h2, h3, h4, h5, h6, h7, q⟩ =>
  ⟨l, k, xs, h1, h2, h3, h4, h5, h6, h7, fun e => q l H (by rw [e]; simpa using h3) (Same.refl H), fun _ p np => q p _ (.of upd_same) (same_n np)⟩
/-- t + u, likewise -/
def rCatU (K : PySem.W.Frag) : R2 := fun x y H Q => ∃ a b xs ys, x = .ref a ∧ y = .ref b ∧ SqT K H a xs ∧ SqT K H b ys ∧ xs.length + ys.length ≤ sizeLine ∧ ∀ p H', SqT K H' p (xs ++ ys) → Same H H' → Q (.ref p) H'
theorem op_catU : OpR X (binaryOp .Add) (rCatU X.K) := op_imp op_catA fun x y H Q ⟨a, b, xs, ys, h1, h2, h3, h4, h5, q⟩ =>
  ⟨a, b, xs, ys, h1, h2, h3, h4, h5, fun e => q b H (by rw [e]; exact h4) (Same.refl H), fun _ e => q a H (by rw [e, List.append_nil]; exact h3) (Same.refl H), fun _ _ p np => q p _ (.of upd_same) (same_n np)⟩
end
end TR

namespace K13
open PySem PySem.Spec PyProof.Rows L2 DA
def top (i : Nat) : Stmt := PySem.Challenge.pw_processturns_k13_whole_family.main.body.getD i (.Pass ⟨0, 0, 0, 0⟩)
structure Glob (mg : Str → Option Value) : Prop where
  isi : mg "isinstance" = none
  int : mg "int" = none
  bool : mg "bool" = none
  tuple : mg "tuple" = none
  list : mg "list" = none
  str : mg "str" = none
  len : mg "len" = none
  all : mg "all" = none
  any : mg "any" = none
  sorted : mg "sorted" = none
  range : mg "range" = none
/-- a def of the module, as it is called -/
structure Cal (P : Program) (w : World) (K : PySem.W.Frag) (mg : Str → Option Value) (base : Heap) (x : Str) (k : Nat) (ps : List Str) (sp : Sp) (f : Addr) (fd : FuncData) : Prop where
  g : mg x = some (.ref f)
  kp : PySem.W.keepIn K (.ref f) = true
  b : Binds K fd ps []
  ok : FnOk P w K mg base CX0 k f fd ps sp
/-! ### is_number, is_row -/
abbrev sNum : Stmt := top 5
theorem scNum : FnScope ["value", "least", "greatest"] ["value", "least", "greatest"] (defScope sNum) := ⟨rfl, rfl, rfl, by decide +kernel, rfl, by decide +kernel, by decide +kernel⟩
def numD (d : PD) (lo hi : Int) : Bool := match d with | .int i => decide (lo ≤ i) && decide (i ≤ hi) | _ => false
def spNum (K : PySem.W.Frag) : Sp := fun vs H Q _ => ∃ v d lo hi, vs = [v, .int lo, .int hi] ∧ Dp K H v d ∧ Q (.bl (numD d lo hi)) H
section
variable {P : Program} {w : World} {K : PySem.W.Frag} {mg : Str → Option Value} {base : Heap} {f : Addr} {fd : FuncData} {T : List Addr}
theorem ok_num (F : Fun K "is_number" "is_number" sNum f fd) (G : Glob mg) : FnOk P w K mg base CX0 1 f fd ["value", "least", "greatest"] (spNum K) := by
  refine F.ok scNum (fun vs H Q E h => ?_) (fun cdv A outer s H vs Q E hr h => ?_)
  · obtain ⟨v, d, lo, hi, rfl, _⟩ := h
    rfl
  · obtain ⟨v, d, lo, hi, rfl, hv, q⟩ := h
    refine ⟨_, pss_cons (ps_if (PW.pt (pw_or (pt_not (pt_val (pe_callB call_isi (by rfl) G.isi boot_isinstance (pa_cons (pv 0) (pa_cons (pe_bltn (v := .ty "int") (by rfl) G.int (by decide +kernel) rfl) pa_nil)))))
        (pw_or1 (pt_val (pe_callB call_isi (by rfl) G.isi boot_isinstance (pa_cons (pv 0) (pa_cons (pe_bltn (v := .ty "bool") (by rfl) G.bool (by decide +kernel) rfl) pa_nil))))))) (pss_one (ps_ret pe_bl)) pss_nil)
      (pss_one (ps_ret (pe_chain op_le op_le (pv 1) (pv 0) (pv 2)))), ?_⟩
    refine ⟨v, rfl, v, .ty "int", _, _, _, rfl, .ty _, dp_ty hv, kit_int hv, _, rfl, ?_⟩
    cases hv with
    | int i =>
      refine iteF ?_
      refine ⟨_, rfl, _, .ty "bool", _, _, _, rfl, .ty _, dp_ty (.int i), kit_bool (H := H) (.int i), _, rfl, ?_⟩
      refine iteF ?_
      refine ⟨_, rfl, _, rfl, lo, i, rfl, rfl, _, rfl, ?_⟩
      by_cases h1 : lo ≤ i
      · rw [decide_eq_true h1]
        refine ⟨_, rfl, i, hi, rfl, rfl, ?_⟩
        have e : numD (.int i) lo hi = decide (i ≤ hi) := by simp [numD, h1]
        show Q (.bl (decide (i ≤ hi))) H
        rw [← e]; exact q
      · rw [decide_eq_false h1]
        have e : numD (.int i) lo hi = false := by simp [numD, h1]
        refine iteF ?_
        show Q (.bl false) H
        rw [← e]; exact q
    | bl b =>
      refine iteF ?_
      refine ⟨_, rfl, _, .ty "bool", _, _, _, rfl, .ty _, dp_ty (.bl b), kit_bool (H := H) (.bl b), _, rfl, ?_⟩
      exact q
    | non => exact q
    | str x => exact q
    | lst h a => exact q
    | tup h a => exact q
abbrev sRow : Stmt := top 6
abbrev nRow : List Str := ["value", "many", "least", "greatest", "item"]
theorem scRow : FnScope nRow ["value", "many", "least", "greatest"] (defScope sRow) := ⟨rfl, rfl, rfl, by decide +kernel, rfl, by decide +kernel, by decide +kernel⟩
def rowD (d : PD) (many lo hi : Int) : Bool := match d with | .tuple ds => decide ((ds.length : Int) = many) && ds.all (fun x => numD x lo hi) | _ => false
def spRow (K : PySem.W.Frag) (T : List Addr) : Sp := fun vs H Q _ => ∃ v d many lo hi, vs = [v, .int many, .int lo, .int hi] ∧ Dp K H v d ∧ Tabs T H ∧ ∀ H', Keep T H H' → Q (.bl (rowD d many lo hi)) H'
theorem range_all (g : PD → Bool) (ds : List PD) : (List.range ds.length).all (fun i => g (ds[i]?.getD .none)) = ds.all g := by
  rw [Bool.eq_iff_iff, List.all_eq_true, List.all_eq_true]
  constructor
  · intro h d hd
    obtain ⟨i, hi, e⟩ := List.getElem_of_mem hd
    have := h i (List.mem_range.mpr hi)
    rw [List.getElem?_eq_getElem hi, e] at this
    exact this
  · intro h i hi
    have hi := List.mem_range.mp hi
    rw [List.getElem?_eq_getElem hi]
    exact h _ (List.getElem_mem hi)
theorem ok_row {c PT fN : Addr} {dN : FuncData} (F : FunC K "is_row" "is_row" sRow f fd c) (TB : GxR.TabB base mg c PT) (hPT : PT ∈ T) (G : Glob mg) (cN : Cal P w K mg base "is_number" 1 ["value", "least", "greatest"] (spNum K) fN dN) :
    FnOk P w K mg base CX0 3 f fd ["value", "many", "least", "greatest"] (spRow K T) := by
  refine F.ok scRow (fun vs H Q E h => ?_) (fun A outer s H vs Q E hr h => ?_)
  · obtain ⟨v, d, m, lo, hi, rfl, _⟩ := h
    rfl
  · obtain ⟨v, d, m, lo, hi, rfl, hv, ht, q⟩ := h
    refine ⟨_, (pss_cons (ps_if (PW.pt (pw_or (pt_not (pt_val (pe_callB call_isi (by rfl) G.isi boot_isinstance (pa_cons (pv 0) (pa_cons (pe_bltn (v := .ty "tuple") (by rfl) G.tuple (by decide +kernel) rfl) pa_nil))))) (pw_or1 (pt_cmpR op_ne (pe_callB call_len (by rfl) G.len PySem.boot_len (pa_cons (pv 0) pa_nil)) (pv 1) (nomark _))))) (pss_one (ps_ret pe_bl)) pss_nil) (pss_one (ps_ret (GE.pe_allG (k := 1) (own := [("item", 4)]) hr rfl scRow.nd (by rfl) G.all TB rfl ⟨blkOk_by (N := nRow) (sc := defScope sRow) (by decide +kernel), by rfl, by decide +kernel, by rfl⟩ (pi_tup (pv 0)) (fun _ _ _ _ _ _ => pg_name (i := 4) scRow.nd rfl (Or.inl rfl)) (fun _ _ _ _ _ _ hr2 => (pe_call cN.ok hr2 (by rfl) cN.g cN.kp cN.b .nil pass0 (pa_cons (pv 4) (pa_cons (pv 2) (pa_cons (pv 3) pa_nil))))))))), ?_⟩
    refine ⟨v, rfl, v, .ty "tuple", _, _, _, rfl, .ty _, dp_ty hv, kit_tup hv, _, rfl, ?_⟩
    cases hv with
    | @tup a xs ds h hD =>
      have hl := dps_len hD
      refine iteF ?_
      refine ⟨_, rfl, ⟨_, _, rfl, .inr ⟨_, h, rfl⟩, ?_⟩⟩
      refine ⟨.int m, rfl, rfl, _, rfl, ite2 (fun e => ?_) fun e => ?_⟩
      · have hne : ¬ (ds.length : Int) = m := fun z => by
          rw [hl, z] at e
          simp at e
        have e2 : rowD (.tuple ds) m lo hi = false := by show (decide ((ds.length : Int) = m) && _) = false; rw [decide_eq_false hne, Bool.false_and]
        show Q (.bl false) H
        rw [← e2]; exact q H .refl
      · have heq : (ds.length : Int) = m := by
          by_cases z : (ds.length : Int) = m
          · exact z
          · refine absurd ?_ e
            rw [hl, decide_eq_false (fun y => z (V.int.inj y))]
            rfl
        refine ⟨_, rfl, a, rfl, ⟨xs, h⟩, ht PT hPT, fun H2 tb => ⟨ds.length, fun i => numD (ds[i]?.getD .none) lo hi, fun _ H3 => Keep T H H3, Keep.tabbed hPT tb, fun i H3 hib k => ⟨⟨xs, xs[i]'(by omega), k.sqT ht h, by simp [hl, hib]⟩, fun x H' y => ?_⟩, fun H3 k => ⟨xs, k.sqT ht h, by omega⟩, fun i H3 _ k => ?_⟩⟩
        · obtain ⟨rfl, y⟩ := y
          have hx := y xs (k.sqT ht h)
          obtain ⟨d, hd, hdp⟩ := dps_at hD hx
          refine ⟨rfl, x, rfl, .int lo, rfl, .int hi, rfl, x, d, lo, hi, rfl, dp_keep k ht hdp, ?_, k⟩
          show V.bl (numD d lo hi) = V.bl (numD (ds[i]?.getD .none) lo hi)
          rw [hd]; rfl
        · rw [range_all (fun x => numD x lo hi)]
          have e2 : rowD (.tuple ds) m lo hi = ds.all fun x => numD x lo hi := by show (decide ((ds.length : Int) = m) && _) = _; rw [decide_eq_true heq, Bool.true_and]
          show Q (.bl _) H3
          rw [← e2]; exact q H3 k
    | _ => exact q H .refl
/-! ### _first_word -/
abbrev sFirst : Stmt := top 8
theorem scFirst : FnScope ["value"] ["value"] (defScope sFirst) := ⟨rfl, rfl, rfl, by decide +kernel, rfl, by decide +kernel, by decide +kernel⟩
theorem atI_0 (x : V) (xr : List V) : atI (x :: xr) 0 = some x := by
  unfold atI ixN
  rw [if_pos (by decide), if_pos (by rw [List.length_cons]; omega)]
  rfl
def firstD (d : PD) : Str := match d with | .tuple (.str s :: _) => s | _ => ""
def spFirst (K : PySem.W.Frag) : Sp := fun vs H Q _ => ∃ v d, vs = [v] ∧ Dp K H v d ∧ Q (.str (firstD d)) H
theorem ok_first (F : Fun K "_first_word" "_first_word" sFirst f fd) (G : Glob mg) : FnOk P w K mg base CX0 1 f fd ["value"] (spFirst K) := by
  refine F.ok scFirst (fun vs H Q E h => ?_) (fun cdv A outer s H vs Q E hr h => ?_)
  · obtain ⟨v, d, rfl, _⟩ := h
    rfl
  · obtain ⟨v, d, rfl, hv, q⟩ := h
    refine ⟨_, (pss_cons (ps_if (PW.pt (pw_or (pt_not (pt_val (pe_callB call_isi (by rfl) G.isi boot_isinstance (pa_cons (pv 0) (pa_cons (pe_bltn (v := .ty "tuple") (by rfl) G.tuple (by decide +kernel) rfl) pa_nil))))) (pw_or1 (pt_not (pt_truth (pv 0) (by intro _; rfl)))))) (pss_one (ps_ret pe_str)) pss_nil) (pss_one (ps_ret (pe_ifExp (pt_val (pe_callB call_isi (by rfl) G.isi boot_isinstance (pa_cons (pe_ix ix_tup (pv 0) pe_int (fun _ _ => rfl)) (pa_cons (pe_bltn (v := .ty "str") (by rfl) G.str (by decide +kernel) rfl) pa_nil)))) (pe_ix ix_tup (pv 0) pe_int (fun _ _ => rfl)) pe_str)))), ?_⟩
    refine ⟨v, rfl, v, .ty "tuple", _, _, _, rfl, .ty _, dp_ty hv, kit_tup hv, _, rfl, ?_⟩
    cases hv with
    | @tup a xs ds h hD =>
      refine iteF ?_
      refine ⟨.ref a, rfl, _, .inr (.inl ⟨_, h, rfl⟩), ?_⟩
      cases hD with
      | nil => exact iteT q
      | @cons x xr d dr hx hr' =>
        refine iteF ?_
        refine ⟨.ref a, rfl, a, _, 0, x, rfl, rfl, h, atI_0 x xr, x, .ty "str", _, _, _, rfl, .ty _, dp_ty hx, kit_str hx, _, rfl, ?_⟩
        cases hx with
        | str k =>
          refine iteT ?_
          exact ⟨.ref a, rfl, a, _, 0, .str k, rfl, rfl, h, atI_0 _ xr, q⟩
        | _ => exact iteF q
    | _ => exact q
/-! ### _is_order -/
abbrev sOrder : Stmt := top 9
theorem scOrder : FnScope ["value", "size"] ["value", "size"] (defScope sOrder) := ⟨rfl, rfl, rfl, by decide +kernel, rfl, by decide +kernel, by decide +kernel⟩
def intsOf : List PD → List Int
  | .int i :: r => i :: intsOf r
  | _ :: r => intsOf r
  | [] => []
def ins (x : Int) : List Int → List Int
  | [] => [x]
  | y :: r => if x ≤ y then x :: y :: r else y :: ins x r
def isort : List Int → List Int
  | [] => []
  | x :: r => ins x (isort r)
def rgI (n : Int) : List Int := List.map (fun i : Nat => (i : Int)) (List.range n.toNat)
def orderD (d : PD) (n : Int) : Bool := match d with | .tuple ds => rowD (.tuple ds) n 0 (n - 1) && decide (isort (intsOf ds) = rgI n) | _ => false
theorem ins_perm (x : Int) : ∀ l, (ins x l).Perm (x :: l)
  | [] => List.Perm.refl _
  | y :: r => by
    unfold ins
    split
    · exact List.Perm.refl _
    · exact ((ins_perm x r).cons y).trans (List.Perm.swap x y r)
theorem isort_perm : ∀ l, (isort l).Perm l
  | [] => List.Perm.refl _
  | x :: r => (ins_perm x (isort r)).trans ((isort_perm r).cons x)
theorem ins_sorted (x : Int) : ∀ l : List Int, l.Pairwise (· ≤ ·) → (ins x l).Pairwise (· ≤ ·)
  | [], _ => by unfold ins; simp
  | y :: r, h => by
    unfold ins
    rw [List.pairwise_cons] at h
    split
    · next hxy =>
      rw [List.pairwise_cons, List.pairwise_cons]
      refine ⟨fun z hz => ?_, h⟩
      rcases List.mem_cons.mp hz with e | e
      · rw [e]; exact hxy
      · exact Int.le_trans hxy (h.1 z e)
    · next hxy =>
      rw [List.pairwise_cons]
      refine ⟨fun z hz => ?_, ins_sorted x r h.2⟩
      rcases List.mem_cons.mp ((ins_perm x r).mem_iff.mp hz) with e | e
      · rw [e]; omega
      · exact h.1 z e
theorem isort_sorted : ∀ l, (isort l).Pairwise (· ≤ ·)
  | [] => List.Pairwise.nil
  | x :: r => ins_sorted x _ (isort_sorted r)
theorem sorted_unique : ∀ {a b : List Int}, a.Perm b → a.Pairwise (· ≤ ·) → b.Pairwise (· ≤ ·) → a = b
  | [], b, p, _, _ => (List.nil_perm.mp p).symm
  | x :: a, [], p, _, _ => by
    have := p.length_eq
    simp at this
  | x :: a, y :: b, p, ha, hb => by
    rw [List.pairwise_cons] at ha hb
    have h1 : y ≤ x := by
      rcases List.mem_cons.mp (p.mem_iff.mp List.mem_cons_self) with e | e
      · omega
      · exact hb.1 x e
    have h2 : x ≤ y := by
      rcases List.mem_cons.mp (p.mem_iff.mpr List.mem_cons_self) with e | e
      · omega
      · exact ha.1 y e
    have e : x = y := by omega
    subst e
    rw [sorted_unique (List.perm_cons x |>.mp p) ha.2 hb.2]
theorem nums_ints : ∀ {ds : List PD} {lo hi : Int}, (ds.all fun x => numD x lo hi) = true → ds = (intsOf ds).map .int
  | [], _, _, _ => rfl
  | d :: ds, lo, hi, h => by
    rw [List.all_cons, Bool.and_eq_true] at h
    have ih := nums_ints h.2
    cases d with
    | int i =>
      show _ = PyData.int i :: (intsOf ds).map .int
      rw [← ih]
    | _ => exact absurd h.1 (by simp [numD])
theorem eqv_ints : ∀ a b : List Int, PyData.eqv (.list (a.map .int)) (.list (b.map .int)) = decide (a = b)
  | [], [] => rfl
  | [], y :: b => rfl
  | x :: a, [] => rfl
  | x :: a, y :: b => by
    have ih := eqv_ints a b
    have e : PyData.eqv (.list ((x :: a).map .int)) (.list ((y :: b).map .int)) = ((x == y) && PyData.eqv (.list (a.map .int)) (.list (b.map .int))) := rfl
    rw [e, ih]
    by_cases h : x = y
    · subst h; simp
    · simp [h]
theorem ints_lay (ns : List Int) : PyData.canLayAll0 (ns.map PyData.int) = true := by
  induction ns with
  | nil => rfl
  | cons n r ih => simp only [List.map_cons, PyData.canLayAll0, PyData.canLay0, ih, Bool.and_self]
theorem ints_depth (ns : List Int) : PyData.depthAll (ns.map PyData.int) = 0 := by
  induction ns with
  | nil => rfl
  | cons n r ih => simp only [List.map_cons, PyData.depthAll, PyData.depth, ih, Nat.max_self]
theorem ints_shaped (ns : List Int) : SeqAt.shaped (.list (ns.map PyData.int)) = true := by
  show (PyData.canLay0 (.list (ns.map .int)) && decide (PyData.depth (.list (ns.map .int)) ≤ 64)) = true
  simp only [PyData.canLay0, PyData.depth, ints_lay, ints_depth]
  decide
theorem rgV_ints (n : Int) : rgV 0 n = (rgI n).map V.int := by
  unfold rgV rgI
  rw [List.map_map, Int.sub_zero]
  refine List.map_congr_left fun i _ => ?_
  show V.int (0 + (i : Int)) = V.int (i : Int)
  rw [Int.zero_add]
def spOrder (K : PySem.W.Frag) (T : List Addr) : Sp := fun vs H Q _ => ∃ v d n, vs = [v, .int n] ∧ Dp K H v d ∧ 1 ≤ n ∧ n ≤ 63 ∧ Tabs T H ∧ ∀ H', Keep T H H' → Q (.bl (orderD d n)) H'
theorem ok_order {fR : Addr} {dR : FuncData} (F : Fun K "_is_order" "_is_order" sOrder f fd) (G : Glob mg) (cR : Cal P w K mg base "is_row" 3 ["value", "many", "least", "greatest"] (spRow K T) fR dR) :
    FnOk P w K mg base CX0 4 f fd ["value", "size"] (spOrder K T) := by
  refine F.ok scOrder (fun vs H Q E h => ?_) (fun cdv A outer s H vs Q E hr h => ?_)
  · obtain ⟨v, d, n, rfl, _⟩ := h
    rfl
  · obtain ⟨v, d, n, rfl, hv, n1, n2, ht, q⟩ := h
    refine ⟨_, (pss_cons (ps_if (pt_not (pt_val (pe_call cR.ok hr (by rfl) cR.g cR.kp cR.b .nil pass0 (pa_cons (pv 0) (pa_cons (pv 1) (pa_cons pe_int (pa_cons (pe_op op_sub (pv 1) pe_int) pa_nil))))))) (pss_one (ps_ret pe_bl)) pss_nil) (pss_one (ps_ret (pe_cmpR (op_eqD hr.units) (pe_callB SO.cr_sortTup (by rfl) G.sorted boot_sorted (pa_cons (pv 0) pa_nil)) (pe_listRg rfl (by rfl) G.list (prg_1 (by rfl) G.range (pv 1))) (nomark _))))), ?_⟩
    refine ⟨v, rfl, .int n, rfl, .int n, rfl, n, 1, rfl, rfl, v, d, n, 0, n - 1, rfl, hv, ht, fun H1 k1 => ⟨_, rfl, ?_⟩⟩
    cases hrow : rowD d n 0 (n - 1) with
    | false =>
      have e : orderD d n = false := by
        unfold orderD
        split
        · rw [hrow, Bool.false_and]
        · rfl
      refine iteT ?_
      show Q (.bl false) H1
      rw [← e]; exact q H1 k1
    | true =>
      refine iteF ?_
      cases hv with
      | @tup a xs ds h hD =>
        have h1 : (decide ((ds.length : Int) = n) && ds.all fun x => numD x 0 (n - 1)) = true := hrow
        rw [Bool.and_eq_true] at h1
        have hlen := of_decide_eq_true h1.1
        have hints := nums_ints h1.2
        have exs : xs = (intsOf ds).map V.int := by
          rw [hints] at hD
          exact dps_ints_inv hD
        rw [exs] at h
        have hil : (intsOf ds).length = ds.length := by
          have := congrArg List.length hints
          rw [List.length_map] at this
          exact this.symm
        refine ⟨.ref a, rfl, a, intsOf ds, rfl, k1.sqT ht h, by omega, fun ms p pm pw np => ?_⟩
        refine ⟨.int n, rfl, n, rfl, RgOk.of_le (by decide) (by omega) (by decide) (by omega), fun p2 np2 => ?_⟩
        have em : ms = isort (intsOf ds) := sorted_unique (pm.trans (isort_perm _).symm) pw (isort_sorted _)
        have k2 := (k1.trans (Keep.new (T := T) (o := .lst (ms.map V.int)) np)).trans (Keep.new (T := T) (o := .lst (rgV 0 n)) np2)
        refine ⟨.list (ms.map .int), .list ((rgI n).map .int), .lst (.of (same_new np2 _ _ upd_same)) (dps_ints _), ?_, ints_shaped _, ints_shaped _, ?_⟩
        · rw [rgV_ints]
          exact .lst (.of upd_same) (dps_ints _)
        · have e : orderD (.tuple ds) n = decide (isort (intsOf ds) = rgI n) := by show (rowD (.tuple ds) n 0 (n - 1) && _) = _; rw [hrow, Bool.true_and]
          rw [eqv_ints, em, ← e]
          rw [em] at k2
          exact q _ k2
      | _ => cases hrow
end
end K13

namespace K13
open PySem PySem.Spec PyProof.Rows L2 DA
/-! ### the kinds -/
abbrev sRule : Stmt := top 10
abbrev sBare : Stmt := top 11
abbrev sByOrder : Stmt := top 12
abbrev sRounds : Stmt := top 13
abbrev sLevels : Stmt := top 14
abbrev sAge : Stmt := top 15
abbrev sLimits : Stmt := top 16
abbrev sWeights : Stmt := top 17
abbrev sSched : Stmt := top 19
abbrev nLevels : List Str := ["value", "size", "many"]
theorem scRule : FnScope ["value", "size", "word"] ["value", "size"] (defScope sRule) := ⟨rfl, rfl, rfl, by decide +kernel, rfl, by decide +kernel, by decide +kernel⟩
theorem scBare : FnScope ["value", "size"] ["value", "size"] (defScope sBare) := ⟨rfl, rfl, rfl, by decide +kernel, rfl, by decide +kernel, by decide +kernel⟩
theorem scByOrder : FnScope ["value", "size"] ["value", "size"] (defScope sByOrder) := ⟨rfl, rfl, rfl, by decide +kernel, rfl, by decide +kernel, by decide +kernel⟩
theorem scRounds : FnScope ["value", "size"] ["value", "size"] (defScope sRounds) := ⟨rfl, rfl, rfl, by decide +kernel, rfl, by decide +kernel, by decide +kernel⟩
theorem scLevels : FnScope nLevels ["value", "size"] (defScope sLevels) := ⟨rfl, rfl, rfl, by decide +kernel, rfl, by decide +kernel, by decide +kernel⟩
theorem scAge : FnScope ["value", "size"] ["value", "size"] (defScope sAge) := ⟨rfl, rfl, rfl, by decide +kernel, rfl, by decide +kernel, by decide +kernel⟩
theorem scLimits : FnScope ["value", "size"] ["value", "size"] (defScope sLimits) := ⟨rfl, rfl, rfl, by decide +kernel, rfl, by decide +kernel, by decide +kernel⟩
theorem scWeights : FnScope ["value", "size"] ["value", "size"] (defScope sWeights) := ⟨rfl, rfl, rfl, by decide +kernel, rfl, by decide +kernel, by decide +kernel⟩
theorem scSched : FnScope ["value", "size", "word", "fits"] ["value", "size"] (defScope sSched) := ⟨rfl, rfl, rfl, by decide +kernel, rfl, by decide +kernel, by decide +kernel⟩
def kin (k a b : Str) : Bool := inV (.str k) [.str a, .str b]
def topD (d : PD) (n : Int) : Bool := match d with | .tuple [_, r] => rowD r 2 0 (n - 1) | _ => false
def soleD (d : PD) : Bool := match d with | .tuple [_] => true | _ => false
def ruleD (d : PD) (n : Int) : Bool := if firstD d = "top" then topD d n else (kin (firstD d) "plain" "lent" && soleD d)
def bareM (ds : List PD) (_ : Int) : Bool := match ds with | [_] => true | _ => false
def byOrderM (ds : List PD) (n : Int) : Bool := match ds with | [_, o, t, r] => (orderD o n && numD t 0 1) && ruleD r n | _ => false
def roundsM (ds : List PD) (_ : Int) : Bool := match ds with | [_, q, l] => numD q 1 4 && numD l 0 1 | _ => false
def levelsM (ds : List PD) (_ : Int) : Bool := match ds with | [_, r, b] => numD b 0 8 && (rowD r 1 1 4 || (rowD r 2 1 4 || rowD r 3 1 4)) | _ => false
def ageM (ds : List PD) (n : Int) : Bool := match ds with | [_, o, b] => orderD o n && numD b 1 3 | _ => false
def limitsM (ds : List PD) (n : Int) : Bool := match ds with | [_, r] => rowD r n 1 6 | _ => false
def weightsM (ds : List PD) (n : Int) : Bool := match ds with | [_, r] => rowD r n 1 4 | _ => false
def spRule (K : PySem.W.Frag) (T : List Addr) : Sp := fun vs H Q _ => ∃ v d n, vs = [v, .int n] ∧ Dp K H v d ∧ Tabs T H ∧ ∀ H', Keep T H H' → Q (.bl (ruleD d n)) H'
def spKind (K : PySem.W.Frag) (T : List Addr) (mir : List PD → Int → Bool) : Sp := fun vs H Q _ => ∃ v ds n, vs = [v, .int n] ∧ Dp K H v (.tuple ds) ∧ 1 ≤ n ∧ n ≤ 4 ∧ Tabs T H ∧ ∀ H', Keep T H H' → Q (.bl (mir ds n)) H'
theorem first_tup {d : PD} (h : ¬ firstD d = "") : ∃ r, d = .tuple (.str (firstD d) :: r) := by
  unfold firstD at h ⊢
  split
  · exact ⟨_, rfl⟩
  · next hh =>
    exfalso
    apply h
    split
    · next s r => exact absurd rfl (hh s r)
    · rfl
section
variable {K : PySem.W.Frag} {H : Hp}
theorem shape1 {xs : List V} {ds : List PD} (h : DpAll K H xs ds) (e : ds.length = 1) : ∃ x0 d0, xs = [x0] ∧ ds = [d0] ∧ Dp K H x0 d0 := by
  match h with
  | .cons a .nil => exact ⟨_, _, rfl, rfl, a⟩
  | .cons _ (.cons _ _) => simp at e
theorem shape2 {xs : List V} {ds : List PD} (h : DpAll K H xs ds) (e : ds.length = 2) : ∃ x0 x1 d0 d1, xs = [x0, x1] ∧ ds = [d0, d1] ∧ Dp K H x0 d0 ∧ Dp K H x1 d1 := by
  match h with
  | .cons a r =>
    obtain ⟨x, d, rfl, rfl, b⟩ := shape1 r (by simpa using e)
    exact ⟨_, _, _, _, rfl, rfl, a, b⟩
theorem shape3 {xs : List V} {ds : List PD} (h : DpAll K H xs ds) (e : ds.length = 3) : ∃ x0 x1 x2 d0 d1 d2, xs = [x0, x1, x2] ∧ ds = [d0, d1, d2] ∧ Dp K H x0 d0 ∧ Dp K H x1 d1 ∧ Dp K H x2 d2 := by
  match h with
  | .cons a r =>
    obtain ⟨x, y, d, f, rfl, rfl, b, c⟩ := shape2 r (by simpa using e)
    exact ⟨_, _, _, _, _, _, rfl, rfl, a, b, c⟩
theorem shape4 {xs : List V} {ds : List PD} (h : DpAll K H xs ds) (e : ds.length = 4) : ∃ x0 x1 x2 x3 d0 d1 d2 d3, xs = [x0, x1, x2, x3] ∧ ds = [d0, d1, d2, d3] ∧ Dp K H x0 d0 ∧ Dp K H x1 d1 ∧ Dp K H x2 d2 ∧ Dp K H x3 d3 := by
  match h with
  | .cons a r =>
    obtain ⟨x, y, z, d, f, g, rfl, rfl, b, c, e⟩ := shape3 r (by simpa using e)
    exact ⟨_, _, _, _, _, _, _, _, rfl, rfl, a, b, c, e⟩
theorem len_ne {n : Nat} {k : Int} (e : (!decide (V.int (n : Int) = V.int k)) = true) : ¬ (n : Int) = k := fun z => by rw [z] at e; simp at e
theorem len_eq {n : Nat} {k : Int} (e : ¬ (!decide (V.int (n : Int) = V.int k)) = true) : (n : Int) = k := by
  by_cases z : (n : Int) = k
  · exact z
  · exact absurd (by rw [decide_eq_false fun y => z (V.int.inj y)]; rfl) e
theorem len_eq' {n : Nat} {k : Int} (e : decide (V.int (n : Int) = V.int k) = true) : (n : Int) = k := V.int.inj (of_decide_eq_true e)
theorem len_ne' {n : Nat} {k : Int} (e : ¬ decide (V.int (n : Int) = V.int k) = true) : ¬ (n : Int) = k := fun z => e (by rw [z]; simp)
end
section
variable {P : Program} {w : World} {K : PySem.W.Frag} {mg : Str → Option Value} {base : Heap} {f : Addr} {fd : FuncData} {T : List Addr}
variable {fN fR fF fO fU : Addr} {dN dR dF dO dU : FuncData}
theorem ok_rule (F : Fun K "_is_rule" "_is_rule" sRule f fd) (G : Glob mg) (cF : Cal P w K mg base "_first_word" 1 ["value"] (spFirst K) fF dF) (cR : Cal P w K mg base "is_row" 3 ["value", "many", "least", "greatest"] (spRow K T) fR dR) :
    FnOk P w K mg base CX0 4 f fd ["value", "size"] (spRule K T) := by
  refine F.ok scRule (fun vs H Q E h => ?_) (fun cdv A outer s H vs Q E hr h => ?_)
  · obtain ⟨v, d, n, rfl, _⟩ := h
    rfl
  · obtain ⟨v, d, n, rfl, hv, ht, q⟩ := h
    have hr1 : Room 1 _ := hr.mono (by decide)
    refine ⟨_, (pss_cons (ps_set (i := 2) scRule.nd rfl (.inl rfl) (pe_call cF.ok hr1 (by rfl) cF.g cF.kp cF.b .nil pass0 (pa_cons (pv 0) pa_nil))) (pss_cons (ps_if (pt_cmpR op_eq (pv 2) pe_str (nomark _)) (pss_one (ps_ret (pe_and (pe_cmpR op_eq (pe_callB call_len (by rfl) G.len PySem.boot_len (pa_cons (pv 0) pa_nil)) pe_int (nomark _)) (pe_one (pe_call cR.ok hr (by rfl) cR.g cR.kp cR.b .nil pass0 (pa_cons (pe_ix ix_tup (pv 0) pe_int (fun _ _ => rfl)) (pa_cons pe_int (pa_cons pe_int (pa_cons (pe_op op_sub (pv 1) pe_int) pa_nil))))))))) pss_nil) (pss_one (ps_ret (pe_and (pe_cmpR op_in_seq (pv 2) (pe_tup (pa_cons pe_str (pa_cons pe_str pa_nil))) (by rfl)) (pe_one (pe_cmpR op_eq (pe_callB call_len (by rfl) G.len PySem.boot_len (pa_cons (pv 0) pa_nil)) pe_int (nomark _)))))))), ?_⟩
    refine ⟨v, rfl, v, d, rfl, hv, .str (firstD d), rfl, rfl, _, rfl, ite2 (fun e => ?_) fun e => ?_⟩
    · have e : firstD d = "top" := V.str.inj (of_decide_eq_true e)
      obtain ⟨r, hd⟩ := first_tup (d := d) (by rw [e]; decide +kernel)
      have er : ruleD d n = topD d n := if_pos e
      rw [er] at q
      rw [hd] at hv q
      obtain ⟨a, xs, rfl, h, hD⟩ := dp_tup hv
      have hl := dps_len hD
      refine ⟨_, rfl, ⟨_, _, rfl, .inr ⟨_, h, rfl⟩, rfl, _, rfl, ite2 (fun e1 => ?_) fun e1 => ?_⟩⟩
      · have e2 := len_eq' e1
        obtain ⟨x0, x1, d0, d1, rfl, e3, hx0, hx1⟩ := shape2 hD (by omega)
        rw [e3] at q
        exact ⟨.ref a, rfl, a, _, 1, x1, rfl, rfl, h, rfl, .int n, rfl, n, 1, rfl, rfl, x1, d1, 2, 0, n - 1, rfl, hx1, ht, fun H' k => q H' k⟩
      · have e2 := len_ne' e1
        have e3 : topD (.tuple (.str (firstD d) :: r)) n = false := by
          match r, hl with
          | [], _ => rfl
          | [y], hl => exact absurd (by rw [hl]; rfl) e2
          | y :: z :: r, _ => rfl
        rw [e3] at q
        exact q H .refl
    · have e : ¬ firstD d = "top" := fun z => e (decide_eq_true (by rw [z]))
      have er : ruleD d n = (kin (firstD d) "plain" "lent" && soleD d) := if_neg e
      rw [er] at q
      refine ⟨.str (firstD d), rfl, by show 2 ≤ sizeLine; decide, fun p np => ⟨p, _, rfl, .inr (.inl (.inl upd_same)), rfl, rfl, _, rfl, ite2 (fun e1 => ?_) fun e1 => ?_⟩⟩
      · have e1 : kin (firstD d) "plain" "lent" = true := e1
        rw [e1, Bool.true_and] at q
        have hne : ¬ firstD d = "" := fun z => by rw [z] at e1; exact absurd e1 (by decide +kernel)
        obtain ⟨r, hd⟩ := first_tup hne
        rw [hd] at hv q
        obtain ⟨a, xs, rfl, h, hD⟩ := dp_tup hv
        have hl := dps_len hD
        have h2 := (Keep.new (T := T) (o := .tup [.str "plain", .str "lent"]) np).sqT ht h
        refine ⟨_, rfl, ⟨_, _, rfl, .inr ⟨_, h2, rfl⟩, rfl, ?_⟩⟩
        have e3 : soleD (.tuple (.str (firstD d) :: r)) = decide (V.int (xs.length : Int) = V.int 1) := by
          rw [hl]
          match r with
          | [] => rfl
          | y :: r =>
            show false = _
            rw [decide_eq_false fun z => by have := V.int.inj z; simp at this; omega]
        rw [e3] at q
        exact q _ (Keep.new np)
      · have e1 : kin (firstD d) "plain" "lent" = false := Bool.eq_false_iff.mpr e1
        rw [e1, Bool.false_and] at q
        exact q _ (Keep.new np)
theorem ok_bare (F : Fun K "_is_bare" "_is_bare" sBare f fd) (G : Glob mg) : FnOk P w K mg base CX0 1 f fd ["value", "size"] (spKind K T bareM) := by
  refine F.ok scBare (fun vs H Q E h => ?_) (fun cdv A outer s H vs Q E hr h => ?_)
  · obtain ⟨v, d, n, rfl, _⟩ := h
    rfl
  · obtain ⟨v, ds, n, rfl, hv, n1, n4, ht, q⟩ := h
    refine ⟨_, (pss_one (ps_ret (pe_cmpR op_eq (pe_callB call_len (by rfl) G.len PySem.boot_len (pa_cons (pv 0) pa_nil)) pe_int (nomark _)))), ?_⟩
    obtain ⟨a, xs, rfl, h, hD⟩ := dp_tup hv
    have hl := dps_len hD
    refine ⟨_, rfl, ⟨_, _, rfl, .inr ⟨_, h, rfl⟩, rfl, ?_⟩⟩
    have e3 : bareM ds n = decide (V.int (xs.length : Int) = V.int 1) := by
      rw [hl]
      match ds with
      | [] => rfl
      | [y] => rfl
      | y :: z :: r =>
        show false = _
        rw [decide_eq_false fun z => by have := V.int.inj z; simp at this; omega]
    rw [e3] at q
    exact q _ .refl
theorem ok_byOrder (F : Fun K "_is_by_order" "_is_by_order" sByOrder f fd) (G : Glob mg) (cO : Cal P w K mg base "_is_order" 4 ["value", "size"] (spOrder K T) fO dO) (cN : Cal P w K mg base "is_number" 1 ["value", "least", "greatest"] (spNum K) fN dN)
    (cU : Cal P w K mg base "_is_rule" 4 ["value", "size"] (spRule K T) fU dU) : FnOk P w K mg base CX0 5 f fd ["value", "size"] (spKind K T byOrderM) := by
  refine F.ok scByOrder (fun vs H Q E h => ?_) (fun cdv A outer s H vs Q E hr h => ?_)
  · obtain ⟨v, d, n, rfl, _⟩ := h
    rfl
  · obtain ⟨v, ds, n, rfl, hv, n1, n4, ht, q⟩ := h
    have hr1 : Room 1 _ := hr.mono (by decide)
    refine ⟨_, (pss_cons (ps_if (pt_cmpR op_ne (pe_callB call_len (by rfl) G.len PySem.boot_len (pa_cons (pv 0) pa_nil)) pe_int (nomark _)) (pss_one (ps_ret pe_bl)) pss_nil) (pss_cons (ps_if (PW.pt (pw_or (pt_not (pt_val (pe_call cO.ok hr (by rfl) cO.g cO.kp cO.b .nil pass0 (pa_cons (pe_ix ix_tup (pv 0) pe_int (fun _ _ => rfl)) (pa_cons (pv 1) pa_nil))))) (pw_or1 (pt_not (pt_val (pe_call cN.ok hr1 (by rfl) cN.g cN.kp cN.b .nil pass0 (pa_cons (pe_ix ix_tup (pv 0) pe_int (fun _ _ => rfl)) (pa_cons pe_int (pa_cons pe_int pa_nil))))))))) (pss_one (ps_ret pe_bl)) pss_nil) (pss_one (ps_ret (pe_call cU.ok hr (by rfl) cU.g cU.kp cU.b .nil pass0 (pa_cons (pe_ix ix_tup (pv 0) pe_int (fun _ _ => rfl)) (pa_cons (pv 1) pa_nil))))))), ?_⟩
    obtain ⟨a, xs, rfl, h, hD⟩ := dp_tup hv
    have hl := dps_len hD
    refine ⟨_, rfl, ⟨_, _, rfl, .inr ⟨_, h, rfl⟩, rfl, _, rfl, ite2 (fun e => ?_) fun e => ?_⟩⟩
    · have e := len_ne e
      have e3 : byOrderM ds n = false := by
        unfold byOrderM
        split
        · exact absurd (by rw [hl]; rfl) e
        · rfl
      rw [e3] at q
      exact q H .refl
    · have e := len_eq e
      obtain ⟨x0, x1, x2, x3, d0, d1, d2, d3, rfl, rfl, h0, h1, h2, h3⟩ := shape4 hD (by omega)
      have e3 : byOrderM [d0, d1, d2, d3] n = ((orderD d1 n && numD d2 0 1) && ruleD d3 n) := rfl
      rw [e3] at q
      refine ⟨.ref a, rfl, a, _, 1, x1, rfl, rfl, h, rfl, .int n, rfl, x1, d1, n, rfl, h1, n1, by omega, ht, fun H1 k1 => ⟨_, rfl, ?_⟩⟩
      cases o1 : orderD d1 n with
      | false =>
        rw [o1] at q
        exact iteT (q H1 k1)
      | true =>
        rw [o1, Bool.true_and] at q
        refine iteF ⟨.ref a, rfl, a, _, 2, x2, rfl, rfl, k1.sqT ht h, rfl, x2, d2, 0, 1, rfl, dp_keep k1 ht h2, _, rfl, ?_⟩
        cases o2 : numD d2 0 1 with
        | false =>
          rw [o2] at q
          exact iteT (q H1 k1)
        | true =>
          rw [o2, Bool.true_and] at q
          exact iteF ⟨.ref a, rfl, a, _, 3, x3, rfl, rfl, k1.sqT ht h, rfl, .int n, rfl, x3, d3, n, rfl, dp_keep k1 ht h3, k1.tabs ht, fun H2 k2 => q H2 (k1.trans k2)⟩
theorem ok_rounds (F : Fun K "_is_by_rounds" "_is_by_rounds" sRounds f fd) (G : Glob mg) (cN : Cal P w K mg base "is_number" 1 ["value", "least", "greatest"] (spNum K) fN dN) : FnOk P w K mg base CX0 2 f fd ["value", "size"] (spKind K T roundsM) := by
  refine F.ok scRounds (fun vs H Q E h => ?_) (fun cdv A outer s H vs Q E hr h => ?_)
  · obtain ⟨v, d, n, rfl, _⟩ := h
    rfl
  · obtain ⟨v, ds, n, rfl, hv, n1, n4, ht, q⟩ := h
    refine ⟨_, (pss_cons (ps_if (pt_cmpR op_ne (pe_callB call_len (by rfl) G.len PySem.boot_len (pa_cons (pv 0) pa_nil)) pe_int (nomark _)) (pss_one (ps_ret pe_bl)) pss_nil) (pss_one (ps_ret (pe_and (pe_call cN.ok hr (by rfl) cN.g cN.kp cN.b .nil pass0 (pa_cons (pe_ix ix_tup (pv 0) pe_int (fun _ _ => rfl)) (pa_cons pe_int (pa_cons pe_int pa_nil)))) (pe_one (pe_call cN.ok hr (by rfl) cN.g cN.kp cN.b .nil pass0 (pa_cons (pe_ix ix_tup (pv 0) pe_int (fun _ _ => rfl)) (pa_cons pe_int (pa_cons pe_int pa_nil))))))))), ?_⟩
    obtain ⟨a, xs, rfl, h, hD⟩ := dp_tup hv
    have hl := dps_len hD
    refine ⟨_, rfl, ⟨_, _, rfl, .inr ⟨_, h, rfl⟩, rfl, _, rfl, ite2 (fun e => ?_) fun e => ?_⟩⟩
    · have e := len_ne e
      have e3 : roundsM ds n = false := by
        unfold roundsM
        split
        · exact absurd (by rw [hl]; rfl) e
        · rfl
      rw [e3] at q
      exact q H .refl
    · have e := len_eq e
      obtain ⟨x0, x1, x2, d0, d1, d2, rfl, rfl, h0, h1, h2⟩ := shape3 hD (by omega)
      have e3 : roundsM [d0, d1, d2] n = (numD d1 1 4 && numD d2 0 1) := rfl
      rw [e3] at q
      refine ⟨.ref a, rfl, a, _, 1, x1, rfl, rfl, h, rfl, x1, d1, 1, 4, rfl, h1, _, rfl, ?_⟩
      cases o1 : numD d1 1 4 with
      | false =>
        rw [o1] at q
        exact iteF (q H .refl)
      | true =>
        rw [o1, Bool.true_and] at q
        exact iteT ⟨.ref a, rfl, a, _, 2, x2, rfl, rfl, h, rfl, x2, d2, 0, 1, rfl, h2, q H .refl⟩
theorem ok_levels {c PT : Addr} (F : FunC K "_is_by_levels" "_is_by_levels" sLevels f fd c) (TB : GxR.TabB base mg c PT) (hPT : PT ∈ T) (G : Glob mg) (cN : Cal P w K mg base "is_number" 1 ["value", "least", "greatest"] (spNum K) fN dN)
    (cR : Cal P w K mg base "is_row" 3 ["value", "many", "least", "greatest"] (spRow K T) fR dR) : FnOk P w K mg base CX0 5 f fd ["value", "size"] (spKind K T levelsM) := by
  refine F.ok scLevels (fun vs H Q E h => ?_) (fun A outer s H vs Q E hr h => ?_)
  · obtain ⟨v, d, n, rfl, _⟩ := h
    rfl
  · obtain ⟨v, ds, n, rfl, hv, n1, n4, ht, q⟩ := h
    have hr1 : Room 1 _ := hr.mono (by decide)
    refine ⟨_, (pss_cons (ps_if (PW.pt (pw_or (pt_cmpR op_ne (pe_callB call_len (by rfl) G.len PySem.boot_len (pa_cons (pv 0) pa_nil)) pe_int (nomark _)) (pw_or1 (pt_not (pt_val (pe_call cN.ok hr1 (by rfl) cN.g cN.kp cN.b .nil pass0 (pa_cons (pe_ix ix_tup (pv 0) pe_int (fun _ _ => rfl)) (pa_cons pe_int (pa_cons pe_int pa_nil))))))))) (pss_one (ps_ret pe_bl)) pss_nil) (pss_one (ps_ret (GE.pe_anyG (k := 3) (own := [("many", 2)]) (g := gName 2) (te := tCall (spRow K T) [] E0 (tCons (tOp (rIxT K) (tVar 0) (tC (.int 1))) (tCons (tVar 2) (tCons (tC (.int 1)) (tCons (tC (.int 4)) tNil))))) hr rfl scLevels.nd (by rfl) G.any TB rfl ⟨blkOk_by (N := nLevels) (sc := defScope sLevels) (by decide +kernel), by rfl, by decide +kernel, by rfl⟩ (pi_tup (pe_tup (pa_cons pe_int (pa_cons pe_int (pa_cons pe_int pa_nil))))) (fun _ _ _ _ _ _ => pg_name (i := 2) scLevels.nd rfl (Or.inl rfl)) (fun _ _ _ _ _ _ hr2 => (pe_call cR.ok hr2 (by rfl) cR.g cR.kp cR.b .nil pass0 (pa_cons (pe_ix ix_tup (pv 0) pe_int (fun _ _ => rfl)) (pa_cons (pv 2) (pa_cons pe_int (pa_cons pe_int pa_nil)))))))))), ?_⟩
    obtain ⟨a, xs, rfl, h, hD⟩ := dp_tup hv
    have hl := dps_len hD
    refine ⟨_, rfl, ⟨_, _, rfl, .inr ⟨_, h, rfl⟩, rfl, _, rfl, ite2 (fun e => ?_) fun e => ?_⟩⟩
    · have e := len_ne e
      have e3 : levelsM ds n = false := by
        unfold levelsM
        split
        · exact absurd (by rw [hl]; rfl) e
        · rfl
      rw [e3] at q
      exact q H .refl
    · have e := len_eq e
      obtain ⟨x0, x1, x2, d0, d1, d2, rfl, rfl, h0, h1, h2⟩ := shape3 hD (by omega)
      have e3 : levelsM [d0, d1, d2] n = (numD d2 0 8 && (rowD d1 1 1 4 || (rowD d1 2 1 4 || rowD d1 3 1 4))) := rfl
      rw [e3] at q
      refine ⟨.ref a, rfl, a, _, 2, x2, rfl, rfl, h, rfl, x2, d2, 0, 8, rfl, h2, _, rfl, ?_⟩
      cases o1 : numD d2 0 8 with
      | false =>
        rw [o1] at q
        exact iteT (q H .refl)
      | true =>
        rw [o1, Bool.true_and] at q
        refine iteF ⟨by show 3 ≤ sizeLine; decide, fun p np => ?_⟩
        have kn := Keep.new (T := T) (o := .tup [.int 1, .int 2, .int 3]) np
        refine ⟨p, rfl, ⟨_, .of upd_same⟩, kn.tabs ht PT hPT, fun H2 tb => ⟨3, fun i => rowD d1 ((i : Int) + 1) 1 4, fun _ H3 => Keep T H H3 ∧ SqT K H3 p [.int 1, .int 2, .int 3], ⟨kn.trans (Keep.tabbed hPT tb), ?_⟩, fun i H3 hib k => ⟨⟨_, _, k.2, List.getElem?_eq_getElem hib⟩, fun x H' y => ?_⟩, fun H3 k => ⟨_, k.2, Nat.le_refl _⟩, fun i H3 _ k => ?_⟩⟩
        · exact (Keep.tabbed hPT tb).sqT (kn.tabs ht) (.of upd_same)
        · obtain ⟨rfl, y⟩ := y
          have hx := y _ k.2
          have ex : x = .int ((i : Int) + 1) := by
            match i, hib with
            | 0, _ => exact (Option.some.inj hx).symm
            | 1, _ => exact (Option.some.inj hx).symm
            | 2, _ => exact (Option.some.inj hx).symm
          subst ex
          refine ⟨rfl, .ref a, rfl, a, _, 1, x1, rfl, rfl, k.1.sqT ht h, rfl, .int ((i : Int) + 1), rfl, x1, d1, (i : Int) + 1, 1, 4, rfl, dp_keep k.1 ht h1, k.1.tabs ht, fun H4 k4 => ⟨rfl, k.1.trans k4, k4.sqT (k.1.tabs ht) k.2⟩⟩
        · have e4 : ((List.range 3).any fun i => rowD d1 ((i : Int) + 1) 1 4) = (rowD d1 1 1 4 || (rowD d1 2 1 4 || rowD d1 3 1 4)) := by
            show (rowD d1 (((0 : Nat) : Int) + 1) 1 4 || (rowD d1 (((1 : Nat) : Int) + 1) 1 4 || (rowD d1 (((2 : Nat) : Int) + 1) 1 4 || false))) = _
            rw [Bool.or_false]
            rfl
          rw [e4]
          exact q H3 k.1
theorem ok_age (F : Fun K "_is_by_age" "_is_by_age" sAge f fd) (G : Glob mg) (cO : Cal P w K mg base "_is_order" 4 ["value", "size"] (spOrder K T) fO dO) (cN : Cal P w K mg base "is_number" 1 ["value", "least", "greatest"] (spNum K) fN dN) :
    FnOk P w K mg base CX0 5 f fd ["value", "size"] (spKind K T ageM) := by
  refine F.ok scAge (fun vs H Q E h => ?_) (fun cdv A outer s H vs Q E hr h => ?_)
  · obtain ⟨v, d, n, rfl, _⟩ := h
    rfl
  · obtain ⟨v, ds, n, rfl, hv, n1, n4, ht, q⟩ := h
    have hr1 : Room 1 _ := hr.mono (by decide)
    refine ⟨_, (pss_cons (ps_if (pt_cmpR op_ne (pe_callB call_len (by rfl) G.len PySem.boot_len (pa_cons (pv 0) pa_nil)) pe_int (nomark _)) (pss_one (ps_ret pe_bl)) pss_nil) (pss_one (ps_ret (pe_and (pe_call cO.ok hr (by rfl) cO.g cO.kp cO.b .nil pass0 (pa_cons (pe_ix ix_tup (pv 0) pe_int (fun _ _ => rfl)) (pa_cons (pv 1) pa_nil))) (pe_one (pe_call cN.ok hr1 (by rfl) cN.g cN.kp cN.b .nil pass0 (pa_cons (pe_ix ix_tup (pv 0) pe_int (fun _ _ => rfl)) (pa_cons pe_int (pa_cons pe_int pa_nil))))))))), ?_⟩
    obtain ⟨a, xs, rfl, h, hD⟩ := dp_tup hv
    have hl := dps_len hD
    refine ⟨_, rfl, ⟨_, _, rfl, .inr ⟨_, h, rfl⟩, rfl, _, rfl, ite2 (fun e => ?_) fun e => ?_⟩⟩
    · have e := len_ne e
      have e3 : ageM ds n = false := by
        unfold ageM
        split
        · exact absurd (by rw [hl]; rfl) e
        · rfl
      rw [e3] at q
      exact q H .refl
    · have e := len_eq e
      obtain ⟨x0, x1, x2, d0, d1, d2, rfl, rfl, h0, h1, h2⟩ := shape3 hD (by omega)
      have e3 : ageM [d0, d1, d2] n = (orderD d1 n && numD d2 1 3) := rfl
      rw [e3] at q
      refine ⟨.ref a, rfl, a, _, 1, x1, rfl, rfl, h, rfl, .int n, rfl, x1, d1, n, rfl, h1, n1, by omega, ht, fun H1 k1 => ⟨_, rfl, ?_⟩⟩
      cases o1 : orderD d1 n with
      | false =>
        rw [o1] at q
        exact iteF (q H1 k1)
      | true =>
        rw [o1, Bool.true_and] at q
        exact iteT ⟨.ref a, rfl, a, _, 2, x2, rfl, rfl, k1.sqT ht h, rfl, x2, d2, 1, 3, rfl, dp_keep k1 ht h2, q H1 k1⟩
theorem ok_limits (F : Fun K "_is_by_limits" "_is_by_limits" sLimits f fd) (G : Glob mg) (cR : Cal P w K mg base "is_row" 3 ["value", "many", "least", "greatest"] (spRow K T) fR dR) : FnOk P w K mg base CX0 4 f fd ["value", "size"] (spKind K T limitsM) := by
  refine F.ok scLimits (fun vs H Q E h => ?_) (fun cdv A outer s H vs Q E hr h => ?_)
  · obtain ⟨v, d, n, rfl, _⟩ := h
    rfl
  · obtain ⟨v, ds, n, rfl, hv, n1, n4, ht, q⟩ := h
    refine ⟨_, (pss_one (ps_ret (pe_and (pe_cmpR op_eq (pe_callB call_len (by rfl) G.len PySem.boot_len (pa_cons (pv 0) pa_nil)) pe_int (nomark _)) (pe_one (pe_call cR.ok hr (by rfl) cR.g cR.kp cR.b .nil pass0 (pa_cons (pe_ix ix_tup (pv 0) pe_int (fun _ _ => rfl)) (pa_cons (pv 1) (pa_cons pe_int (pa_cons pe_int pa_nil))))))))), ?_⟩
    obtain ⟨a, xs, rfl, h, hD⟩ := dp_tup hv
    have hl := dps_len hD
    refine ⟨_, rfl, ⟨_, _, rfl, .inr ⟨_, h, rfl⟩, rfl, _, rfl, ite2 (fun e => ?_) fun e => ?_⟩⟩
    · have e := len_eq' e
      obtain ⟨x0, x1, d0, d1, rfl, rfl, h0, h1⟩ := shape2 hD (by omega)
      exact ⟨.ref a, rfl, a, _, 1, x1, rfl, rfl, h, rfl, .int n, rfl, x1, d1, n, 1, 6, rfl, h1, ht, fun H1 k1 => q H1 k1⟩
    · have e := len_ne' e
      have e3 : limitsM ds n = false := by
        unfold limitsM
        split
        · exact absurd (by rw [hl]; rfl) e
        · rfl
      rw [e3] at q
      exact q H .refl
theorem ok_weights (F : Fun K "_is_by_weights" "_is_by_weights" sWeights f fd) (G : Glob mg) (cR : Cal P w K mg base "is_row" 3 ["value", "many", "least", "greatest"] (spRow K T) fR dR) : FnOk P w K mg base CX0 4 f fd ["value", "size"] (spKind K T weightsM) := by
  refine F.ok scWeights (fun vs H Q E h => ?_) (fun cdv A outer s H vs Q E hr h => ?_)
  · obtain ⟨v, d, n, rfl, _⟩ := h
    rfl
  · obtain ⟨v, ds, n, rfl, hv, n1, n4, ht, q⟩ := h
    refine ⟨_, (pss_one (ps_ret (pe_and (pe_cmpR op_eq (pe_callB call_len (by rfl) G.len PySem.boot_len (pa_cons (pv 0) pa_nil)) pe_int (nomark _)) (pe_one (pe_call cR.ok hr (by rfl) cR.g cR.kp cR.b .nil pass0 (pa_cons (pe_ix ix_tup (pv 0) pe_int (fun _ _ => rfl)) (pa_cons (pv 1) (pa_cons pe_int (pa_cons pe_int pa_nil))))))))), ?_⟩
    obtain ⟨a, xs, rfl, h, hD⟩ := dp_tup hv
    have hl := dps_len hD
    refine ⟨_, rfl, ⟨_, _, rfl, .inr ⟨_, h, rfl⟩, rfl, _, rfl, ite2 (fun e => ?_) fun e => ?_⟩⟩
    · have e := len_eq' e
      obtain ⟨x0, x1, d0, d1, rfl, rfl, h0, h1⟩ := shape2 hD (by omega)
      exact ⟨.ref a, rfl, a, _, 1, x1, rfl, rfl, h, rfl, .int n, rfl, x1, d1, n, 1, 4, rfl, h1, ht, fun H1 k1 => q H1 k1⟩
    · have e := len_ne' e
      have e3 : weightsM ds n = false := by
        unfold weightsM
        split
        · exact absurd (by rw [hl]; rfl) e
        · rfl
      rw [e3] at q
      exact q H .refl
end
end K13

namespace K13
open PySem PySem.Spec PyProof.Rows L2 DA
/-! ### is_scheduler -/
def kindD (x : Str) (ds : List PD) (n : Int) : Bool :=
  if x = "first" then bareM ds n else if x = "last" then bareM ds n else if x = "order" then byOrderM ds n else if x = "rounds" then roundsM ds n else if x = "levels" then levelsM ds n
  else if x = "aging" then ageM ds n else if x = "due" then limitsM ds n else if x = "shares" then weightsM ds n else false
def schedD (d e : PD) : Bool := match d, e with | .tuple ds, .int n => numD (.int n) 1 4 && kindD (firstD (.tuple ds)) ds n | _, _ => false
abbrev kindNames : List Str := ["first", "last", "order", "rounds", "levels", "aging", "due", "shares"]
theorem kind_none {x : Str} (h : x ∉ kindNames) (ds : List PD) (n : Int) : kindD x ds n = false := by
  simp only [kindNames, List.mem_cons, List.not_mem_nil, or_false, not_or] at h
  obtain ⟨h1, h2, h3, h4, h5, h6, h7, h8⟩ := h
  unfold kindD
  rw [if_neg h1, if_neg h2, if_neg h3, if_neg h4, if_neg h5, if_neg h6, if_neg h7, if_neg h8]
/-- the function object at f bears this name -/
def Named (K : PySem.W.Frag) (f : Addr) (x : Str) : Prop := ∃ oc od fd osl, K.lookup f = some ⟨oc, od, .func fd, osl⟩ ∧ fd.name = x
theorem Named.ne {K : PySem.W.Frag} {f g : Addr} {x y : Str} (a : Named K f x) (b : Named K g y) (h : x ≠ y) : f ≠ g := fun e => by
  subst e
  obtain ⟨oc, od, fd, osl, h1, h2⟩ := a
  obtain ⟨oc', od', fd', osl', h3, h4⟩ := b
  rw [h1] at h3
  cases h3
  exact h (h2.symm.trans h4)
theorem Named.of {K : PySem.W.Frag} {x : Str} {st : Stmt} {f : Addr} {fd : FuncData} (F : Fun K x x st f fd) : Named K f x := by
  obtain ⟨oc, od, kV, doc, pm, an, cdv, ct, osl, h1, h2, h3⟩ := F.ex
  exact ⟨oc, od, fd, osl, h2, by rw [h1]⟩
theorem no_key {P : Params} : ∀ {es : List DictEntry} {ks : List Str} {z : Str}, es.map He.keyOf = He.keysIn P ks → z ∉ ks → es.find? (·.key.isStr z) = none ∧ es.any (·.refKey) = false
  | [], _, _, _, _ => ⟨rfl, rfl⟩
  | e :: es, [], _, h, _ => by cases h
  | e :: es, k :: ks, z, h, hz => by
    have h' : He.keyOf e :: es.map He.keyOf = some (k, PyData.keyHash P k) :: He.keysIn P ks := h
    rw [List.cons.injEq] at h'
    obtain ⟨h1, h2⟩ := h'
    obtain ⟨r1, r2⟩ := no_key h2 fun m => hz (List.mem_cons_of_mem _ m)
    have hk : ∃ t, e.key = .str k t := by
      unfold He.keyOf at h1
      split at h1
      · next x t ex =>
        have e1 : some x = some k := congrArg (fun o : Option (Str × Int) => o.map Prod.fst) h1
        cases e1
        exact ⟨t, ex⟩
      · cases h1
    obtain ⟨t, ek⟩ := hk
    have hne : ¬ k = z := fun w => hz (by rw [w]; exact List.mem_cons_self)
    have i1 : e.key.isStr z = false := by
      rw [ek]
      show (k == z) = false
      exact beq_eq_false_iff_ne.mpr hne
    constructor
    · rw [List.find?_cons, i1]
      exact r1
    · rw [List.any_cons, r2, Bool.or_false]
      unfold DictEntry.refKey
      rw [ek]
/-- the module's table of kinds -/
structure KindsAt (K : PySem.W.Frag) (w : World) (dk fB fO fR fL fA fD fW : Addr) : Prop where
  kd : ∃ es n, KDict K w dk es n ∧ es.toList.map He.keyOf = He.keysIn w.params kindNames
  h1 : PySem.W.nsIn K dk "first" = some (some (.ref fB))
  h2 : PySem.W.nsIn K dk "last" = some (some (.ref fB))
  h3 : PySem.W.nsIn K dk "order" = some (some (.ref fO))
  h4 : PySem.W.nsIn K dk "rounds" = some (some (.ref fR))
  h5 : PySem.W.nsIn K dk "levels" = some (some (.ref fL))
  h6 : PySem.W.nsIn K dk "aging" = some (some (.ref fA))
  h7 : PySem.W.nsIn K dk "due" = some (some (.ref fD))
  h8 : PySem.W.nsIn K dk "shares" = some (some (.ref fW))
theorem KindsAt.no {K : PySem.W.Frag} {w : World} {dk fB fO fR fL fA fD fW : Addr} (h : KindsAt K w dk fB fO fR fL fA fD fW) {z : Str} (hz : z ∉ kindNames) : PySem.W.nsIn K dk z = some none := by
  obtain ⟨es, n, D, hk⟩ := h.kd
  obtain ⟨r1, r2⟩ := no_key hk hz
  unfold PySem.W.nsIn
  rw [D.at_]
  show (match es.toList.find? (·.key.isStr z) with | some e => some (some e.val) | none => if es.toList.any (·.refKey) then none else some none) = some none
  rw [r1]
  show (if es.toList.any (·.refKey) then none else some none) = some none
  rw [r2]
  rfl
def spSched (K : PySem.W.Frag) (T : List Addr) : Sp := fun vs H Q _ => ∃ v z d e, vs = [v, z] ∧ Dp K H v d ∧ Dp K H z e ∧ Tabs T H ∧ ∀ H', Keep T H H' → Q (.bl (schedD d e)) H'
section
variable {P : Program} {w : World} {K : PySem.W.Frag} {mg : Str → Option Value} {base : Heap} {f : Addr} {fd : FuncData} {T : List Addr}
variable {fN fF dk fB fO fR fL fA fD fW : Addr} {dN dF : FuncData}
def kindS (K : PySem.W.Frag) (T : List Addr) (fB fO fR fL fA fD fW : Addr) (g : Addr) : Option Sp :=
  if g = fB then some (spKind K T bareM) else if g = fO then some (spKind K T byOrderM) else if g = fR then some (spKind K T roundsM) else if g = fL then some (spKind K T levelsM)
  else if g = fA then some (spKind K T ageM) else if g = fD then some (spKind K T limitsM) else if g = fW then some (spKind K T weightsM) else none
theorem ok_sched (F : Fun K "is_scheduler" "is_scheduler" sSched f fd) (cN : Cal P w K mg base "is_number" 1 ["value", "least", "greatest"] (spNum K) fN dN) (cF : Cal P w K mg base "_first_word" 1 ["value"] (spFirst K) fF dF)
    (gk : mg "KINDS" = some (.ref dk)) (KT : KindsAt K w dk fB fO fR fL fA fD fW)
    (kB : Held P w K mg base 5 fB (spKind K T bareM)) (kO : Held P w K mg base 5 fO (spKind K T byOrderM)) (kR : Held P w K mg base 5 fR (spKind K T roundsM)) (kL : Held P w K mg base 5 fL (spKind K T levelsM))
    (kA : Held P w K mg base 5 fA (spKind K T ageM)) (kD : Held P w K mg base 5 fD (spKind K T limitsM)) (kW : Held P w K mg base 5 fW (spKind K T weightsM))
    (mB : Named K fB "_is_bare") (mO : Named K fO "_is_by_order") (mR : Named K fR "_is_by_rounds") (mL : Named K fL "_is_by_levels") (mA : Named K fA "_is_by_age") (mD : Named K fD "_is_by_limits") (mW : Named K fW "_is_by_weights") :
    FnOk P w K mg base CX0 6 f fd ["value", "size"] (spSched K T) := by
  obtain ⟨es, ne, KD, hkeys⟩ := KT.kd
  have hA : ∀ g sp, kindS K T fB fO fR fL fA fD fW g = some sp → Held P w K mg base 5 g sp := fun g sp h => by
    unfold kindS at h
    split at h
    · next e => cases h; rw [e]; exact kB
    split at h
    · next e => cases h; rw [e]; exact kO
    split at h
    · next e => cases h; rw [e]; exact kR
    split at h
    · next e => cases h; rw [e]; exact kL
    split at h
    · next e => cases h; rw [e]; exact kA
    split at h
    · next e => cases h; rw [e]; exact kD
    split at h
    · next e => cases h; rw [e]; exact kW
    · cases h
  have nB := fun {g : Addr} {x : Str} (m : Named K g x) (hne : x ≠ "_is_bare") => m.ne mB hne
  have sB : kindS K T fB fO fR fL fA fD fW fB = some (spKind K T bareM) := if_pos rfl
  have sO : kindS K T fB fO fR fL fA fD fW fO = some (spKind K T byOrderM) := by
    unfold kindS
    rw [if_neg (mO.ne mB (by decide +kernel)), if_pos rfl]
  have sR : kindS K T fB fO fR fL fA fD fW fR = some (spKind K T roundsM) := by
    unfold kindS
    rw [if_neg (mR.ne mB (by decide +kernel)), if_neg (mR.ne mO (by decide +kernel)), if_pos rfl]
  have sL : kindS K T fB fO fR fL fA fD fW fL = some (spKind K T levelsM) := by
    unfold kindS
    rw [if_neg (mL.ne mB (by decide +kernel)), if_neg (mL.ne mO (by decide +kernel)), if_neg (mL.ne mR (by decide +kernel)), if_pos rfl]
  have sA : kindS K T fB fO fR fL fA fD fW fA = some (spKind K T ageM) := by
    unfold kindS
    rw [if_neg (mA.ne mB (by decide +kernel)), if_neg (mA.ne mO (by decide +kernel)), if_neg (mA.ne mR (by decide +kernel)), if_neg (mA.ne mL (by decide +kernel)), if_pos rfl]
  have sD : kindS K T fB fO fR fL fA fD fW fD = some (spKind K T limitsM) := by
    unfold kindS
    rw [if_neg (mD.ne mB (by decide +kernel)), if_neg (mD.ne mO (by decide +kernel)), if_neg (mD.ne mR (by decide +kernel)), if_neg (mD.ne mL (by decide +kernel)), if_neg (mD.ne mA (by decide +kernel)), if_pos rfl]
  have sW : kindS K T fB fO fR fL fA fD fW fW = some (spKind K T weightsM) := by
    unfold kindS
    rw [if_neg (mW.ne mB (by decide +kernel)), if_neg (mW.ne mO (by decide +kernel)), if_neg (mW.ne mR (by decide +kernel)), if_neg (mW.ne mL (by decide +kernel)), if_neg (mW.ne mA (by decide +kernel)), if_neg (mW.ne mD (by decide +kernel)), if_pos rfl]
  refine F.ok scSched (fun vs H Q E h => ?_) (fun cdv A outer s H vs Q E hr h => ?_)
  · obtain ⟨v, z, d, e, rfl, _⟩ := h
    rfl
  · obtain ⟨v, z, d, e, rfl, hv, hz, ht, q⟩ := h
    have hr1 : Room 1 _ := hr.mono (by decide)
    refine ⟨_, (pss_cons (ps_if (pt_not (pt_val (pe_call cN.ok hr1 (by rfl) cN.g cN.kp cN.b .nil pass0 (pa_cons (pv 1) (pa_cons pe_int (pa_cons pe_int pa_nil)))))) (pss_one (ps_ret pe_bl)) pss_nil) (pss_cons (ps_set (i := 2) scSched.nd rfl (.inl rfl) (pe_call cF.ok hr1 (by rfl) cF.g cF.kp cF.b .nil pass0 (pa_cons (pv 0) pa_nil))) (pss_cons (ps_if (pt_cmpR (op_notIn_kd KD) (pv 2) (pe_glob (v := .ref dk) (by rfl) gk rfl) (by rfl)) (pss_one (ps_ret pe_bl)) pss_nil) (pss_cons (ps_set (i := 3) scSched.nd rfl (.inl rfl) (pe_ix ix_kdict (pe_glob (v := .ref dk) (by rfl) gk rfl) (pv 2) (fun _ _ => rfl))) (pss_one (ps_ret (pe_callA (i := 3) hA hr (by rfl) (.inl rfl) (pa_cons (pv 0) (pa_cons (pv 1) pa_nil))))))))), ?_⟩
    refine ⟨z, rfl, z, e, 1, 4, rfl, hz, _, rfl, ?_⟩
    cases hn : numD e 1 4 with
    | false =>
      have e1 : schedD d e = false := by
        unfold schedD
        split
        · rw [hn, Bool.false_and]
        · rfl
      rw [e1] at q
      exact iteT (q H .refl)
    | true =>
      obtain ⟨n, rfl⟩ : ∃ n, e = .int n := by
        unfold numD at hn
        split at hn
        · exact ⟨_, rfl⟩
        · cases hn
      have hn4 : 1 ≤ n ∧ n ≤ 4 := by
        have h1 : (decide (1 ≤ n) && decide (n ≤ 4)) = true := hn
        rw [Bool.and_eq_true] at h1
        exact ⟨of_decide_eq_true h1.1, of_decide_eq_true h1.2⟩
      have ez := dp_int hz
      subst ez
      refine iteF ⟨v, rfl, v, d, rfl, hv, .str (firstD d), rfl, ?_⟩
      by_cases hk : firstD d ∈ kindNames
      · have hne : ¬ firstD d = "" := fun y => by rw [y] at hk; exact absurd hk (by decide +kernel)
        obtain ⟨r, hd⟩ := first_tup hne
        have e1 : schedD d (.int n) = kindD (firstD d) (.str (firstD d) :: r) n := by
          have e2 : schedD (.tuple (.str (firstD d) :: r)) (.int n) = (numD (.int n) 1 4 && kindD (firstD d) (.str (firstD d) :: r) n) := rfl
          rw [← hd, hn, Bool.true_and] at e2
          exact e2
        rw [e1] at q
        rw [hd] at hv
        obtain ⟨g, mir, c1, c2, c3⟩ : ∃ (g : Addr) (mir : List PD → Int → Bool), PySem.W.nsIn K dk (firstD d) = some (some (.ref g)) ∧ kindS K T fB fO fR fL fA fD fW g = some (spKind K T mir) ∧ kindD (firstD d) (.str (firstD d) :: r) n = mir (.str (firstD d) :: r) n := by
          clear q e1 hd hv
          generalize firstD d = x at hk hne ⊢
          simp only [kindNames, List.mem_cons, List.not_mem_nil, or_false] at hk
          rcases hk with rfl | rfl | rfl | rfl | rfl | rfl | rfl | rfl
          · exact ⟨fB, bareM, KT.h1, sB, rfl⟩
          · exact ⟨fB, bareM, KT.h2, sB, rfl⟩
          · exact ⟨fO, byOrderM, KT.h3, sO, rfl⟩
          · exact ⟨fR, roundsM, KT.h4, sR, rfl⟩
          · exact ⟨fL, levelsM, KT.h5, sL, rfl⟩
          · exact ⟨fA, ageM, KT.h6, sA, rfl⟩
          · exact ⟨fD, limitsM, KT.h7, sD, rfl⟩
          · exact ⟨fW, weightsM, KT.h8, sW, rfl⟩
        rw [c3] at q
        refine ⟨firstD d, some (.ref g), rfl, rfl, c1, _, rfl, iteF ?_⟩
        refine ⟨.str (firstD d), rfl, dk, firstD d, .ref g, rfl, rfl, ⟨es, ne, .ref g, KD.at_, KD.lit, c1, rfl⟩, ?_⟩
        exact ⟨g, _, rfl, c2, v, rfl, .int n, rfl, v, _, n, rfl, hv, hn4.1, hn4.2, ht, fun H1 k1 => q H1 k1⟩
      · have e1 : schedD d (.int n) = false := by
          unfold schedD
          split
          · next ds m e2 =>
            rw [kind_none hk, Bool.and_false]
          · rfl
        rw [e1] at q
        exact ⟨firstD d, none, rfl, rfl, KT.no hk, _, rfl, iteT (q H .refl)⟩
end
end K13

namespace K13
open PySem PySem.Spec PyProof.Rows L2 DA
/-! ### data without lists -/
mutual
def flatP : PD → Bool
  | .list _ => false
  | .tuple ds => flatPs ds
  | _ => true
def flatPs : List PD → Bool
  | [] => true
  | d :: r => flatP d && flatPs r
end
section
variable {K : PySem.W.Frag} {H : Hp} {p : Addr} {o : HO} {zs : List V}
theorem sqT_upd {t : Addr} {xs : List V} (h : SqT K H t xs) (hp : H p = some (.lst zs)) : SqT K (upd H p o) t xs := by
  rcases h with (h | ⟨ob, h⟩) | h
  · exact .inl (.inl (by rw [upd_ne (ne_of h hp (by intro z; cases z))]; exact h))
  · exact .inl (.inr ⟨ob, by rw [upd_ne (ne_of h hp (by intro z; cases z))]; exact h⟩)
  · exact .inr h
mutual
theorem dp_upd (hp : H p = some (.lst zs)) : ∀ {d : PD} {v : V}, flatP d = true → Dp K H v d → Dp K (upd H p o) v d
  | _, _, _, .non => .non
  | _, _, _, .bl b => .bl b
  | _, _, _, .int i => .int i
  | _, _, _, .str x => .str x
  | _, _, f, .lst h a => by cases f
  | _, _, f, .tup h a => .tup (sqT_upd h hp) (dps_upd hp f a)
theorem dps_upd (hp : H p = some (.lst zs)) : ∀ {ds : List PD} {vs : List V}, flatPs ds = true → DpAll K H vs ds → DpAll K (upd H p o) vs ds
  | _, _, _, .nil => .nil
  | _, _, f, .cons a r => .cons (dp_upd hp (Bool.and_eq_true_iff.mp f).1 a) (dps_upd hp (Bool.and_eq_true_iff.mp f).2 r)
end
end
theorem flat_app : ∀ {a b : List PD}, flatPs a = true → flatPs b = true → flatPs (a ++ b) = true
  | [], _, _, h => h
  | d :: a, b, h1, h2 => by
    obtain ⟨h3, h4⟩ := Bool.and_eq_true_iff.mp h1
    show (flatP d && flatPs (a ++ b)) = true
    rw [h3, flat_app h4 h2]; rfl
/-! ### plain_family -/
abbrev sFam : Stmt := top 20
abbrev nFam : List Str := ["size", "family", "order", "taking", "quantum", "late"]
theorem scFam : FnScope nFam ["size"] (defScope sFam) := ⟨rfl, rfl, rfl, by decide +kernel, rfl, by decide +kernel, by decide +kernel⟩
abbrev natD (l : List Nat) : PD := .tuple (l.map fun k : Nat => PyData.int (k : Int))
def ordD (o : PD) (t : Int) : PD := .tuple [.str "order", o, .int t, .tuple [.str "plain"]]
def rndD (q l : Int) : PD := .tuple [.str "rounds", .int q, .int l]
def headD : List PD := [.tuple [.str "first"], .tuple [.str "last"]]
def fac : Nat → Nat
  | 0 => 1
  | n + 1 => (n + 1) * fac n
def permAt (n i : Nat) : List Nat := ((PM.seqP n i).map (·.1)).getD []
def ordP (n i : Nat) : List PD := [ordD (natD (permAt n i)) 0, ordD (natD (permAt n i)) 1]
def pref (n i : Nat) : List PD := headD ++ (List.range i).flatMap (ordP n)
def rounds6 : List PD := [rndD 1 0, rndD 1 1, rndD 2 0, rndD 2 1, rndD 3 0, rndD 3 1]
def famD (n : Nat) : List PD := pref n (fac n) ++ rounds6
theorem pref_succ (n i : Nat) : pref n (i + 1) = pref n i ++ ordP n i := by
  unfold pref
  rw [List.range_succ, List.flatMap_append, List.append_assoc]
  congr 2
  first | done | (show ordP n i ++ [] = _; rw [List.append_nil])
def goB (n i : Nat) : Bool := match PM.seqP n i with
  | some p => decide (p.1.length = n) && decide (p.2.length = n) && p.1.all fun k => decide (k < n)
  | none => false
theorem go_of {n i : Nat} (h : goB n i = true) : ∃ p, PM.seqP n i = some p ∧ PM.GoodP n p := by
  unfold goB at h
  split at h
  · next p e =>
    rw [Bool.and_eq_true, Bool.and_eq_true] at h
    exact ⟨p, e, of_decide_eq_true h.1.1, of_decide_eq_true h.1.2, fun k hk => of_decide_eq_true (List.all_eq_true.mp h.2 k hk)⟩
  · cases h
theorem perm_facts {n : Nat} (h1 : 1 ≤ n) (h3 : n ≤ 3) : (∀ i, i < fac n → ∃ p, PM.seqP n i = some p ∧ PM.GoodP n p) ∧ 1 ≤ fac n ∧ PM.seqP n (fac n) = none ∧ fac n ≤ 6 := by
  have a : ∀ m, ((List.range (fac m)).all (goB m)) = true → ∀ i, i < fac m → ∃ p, PM.seqP m i = some p ∧ PM.GoodP m p := fun m h i hi => go_of (List.all_eq_true.mp h i (List.mem_range.mpr hi))
  have hn : n = 1 ∨ n = 2 ∨ n = 3 := by omega
  rcases hn with rfl | rfl | rfl
  · exact ⟨a 1 (by decide +kernel), by decide, by decide +kernel, by decide⟩
  · exact ⟨a 2 (by decide +kernel), by decide, by decide +kernel, by decide⟩
  · exact ⟨a 3 (by decide +kernel), by decide, by decide +kernel, by decide⟩
theorem flat_ints : ∀ l : List Nat, flatPs (l.map fun k : Nat => PyData.int (k : Int)) = true
  | [] => rfl
  | k :: l => flat_ints l
theorem flat_ord (l : List Nat) (t : Int) : flatP (ordD (natD l) t) = true := by
  show (true && (flatPs (l.map fun k : Nat => PyData.int (k : Int)) && (true && (flatPs [PyData.str "plain"] && true)))) = true
  rw [flat_ints]; rfl
theorem flat_pref (n : Nat) : ∀ i, flatPs (pref n i) = true
  | 0 => rfl
  | i + 1 => by
    rw [pref_succ]
    refine flat_app (flat_pref n i) ?_
    show (flatP _ && (flatP _ && true)) = true
    rw [flat_ord, flat_ord]; rfl
theorem flat_take : ∀ {ds : List PD} (i : Nat), flatPs ds = true → flatPs (ds.take i) = true
  | [], i, _ => by rw [List.take_nil]; rfl
  | d :: ds, 0, _ => rfl
  | d :: ds, i + 1, h => by
    obtain ⟨h1, h2⟩ := Bool.and_eq_true_iff.mp h
    show (flatP d && flatPs (ds.take i)) = true
    rw [h1, flat_take i h2]; rfl
theorem pref_len (n : Nat) : ∀ i, (pref n i).length = 2 + 2 * i
  | 0 => rfl
  | i + 1 => by
    rw [pref_succ, List.length_append, pref_len n i]
    show 2 + 2 * i + 2 = _
    omega
theorem take6 : ∀ {i j : Nat}, i < 3 → j < 2 → rounds6.take (2 * i + (j + 1)) = rounds6.take (2 * i + j) ++ [rndD ((i : Int) + 1) (j : Int)]
  | 0, 0, _, _ => rfl
  | 0, 1, _, _ => rfl
  | 1, 0, _, _ => rfl
  | 1, 1, _, _ => rfl
  | 2, 0, _, _ => rfl
  | 2, 1, _, _ => rfl
  | i + 3, _, h, _ => absurd h (by omega)
  | _, j + 2, _, h => absurd h (by omega)
theorem dps_nat {K : PySem.W.Frag} {H : Hp} : ∀ l : List Nat, DpAll K H (l.map fun k : Nat => V.int (k : Int)) (l.map fun k : Nat => PyData.int (k : Int))
  | [] => .nil
  | k :: l => .cons (.int _) (dps_nat l)
theorem for_pm {m N : Nat} {g : TG} {tb : TS} {D : Ends} {σ : L2.St} {H : Hp} (hgo : ∀ i, i < N → ∃ p, PM.seqP m i = some p ∧ PM.GoodP m p) (h1 : 1 ≤ N) (hN : PM.seqP m N = none) (Pv : Nat → L2.St → Hp → Prop) (h0 : Pv 0 σ H)
    (hs : ∀ i σ H t p, i < N → Pv i σ H → PM.seqP m i = some p → PM.GoodP m p → H t = none → g (.ref t) σ (upd H t (.tup (PM.outV p))) fun σ2 H2 => tb { D with nx := Pv (i + 1), ct := Pv (i + 1), bk := D.nx } σ2 H2) (hd : ∀ σ H, Pv N σ H → D.nx σ H) :
    ∃ W : Nat → Nat → L2.St → Hp → Prop, (∃ m, W 0 m σ H) ∧ ∀ i k σ H, W i k σ H →
      ((PM.Itpm m).stop i H ∧ D.nx σ H) ∨ ((PM.Itpm m).go i H ∧ ∃ Nx : L2.St → Hp → Prop, (∀ σ' H', Nx σ' H' → ∃ m', m' < k ∧ W (i + 1) m' σ' H') ∧ ∀ x H', (PM.Itpm m).yld i H x H' → g x σ H' fun σ2 H2 => tb { D with nx := Nx, ct := Nx, bk := D.nx } σ2 H2) := by
  refine ⟨fun i k σ H => k = N - i ∧ i ≤ N ∧ Pv i σ H, ⟨N, by simp, Nat.zero_le _, h0⟩, ?_⟩
  rintro i k σ H ⟨rfl, hi, p⟩
  by_cases hlt : i < N
  · obtain ⟨q, hq, hg⟩ := hgo i hlt
    refine .inr ⟨⟨q, hq, hg⟩, Pv (i + 1), fun σ' H' p' => ⟨N - (i + 1), by omega, rfl, hlt, p'⟩, fun x H' y => ?_⟩
    obtain ⟨t, q2, e1, e2, e3, e4⟩ := y
    rw [hq] at e1
    cases e1
    subst e2
    subst e4
    exact hs i σ H t q hlt p hq hg e3
  · have e : i = N := by omega
    subst e
    exact .inl ⟨⟨h1, hN⟩, hd σ H p⟩
section
variable {P : Program} {w : World} {K : PySem.W.Frag} {mg : Str → Option Value} {base : Heap} {f : Addr} {fd : FuncData} {T : List Addr} {fN : Addr} {dN : FuncData}
def spFam (K : PySem.W.Frag) : Sp := fun vs H Q _ => ∃ n : Nat, vs = [.int (n : Int)] ∧ 1 ≤ n ∧ n ≤ 3 ∧ ∀ v H', Dp K H' v (.list (famD n)) → Same H H' → Q v H'
theorem ok_fam (F : Fun K "plain_family" "plain_family" sFam f fd) (G : Glob mg) (gp : mg "permutations" = some (.type "itertools.permutations")) (cN : Cal P w K mg base "is_number" 1 ["value", "least", "greatest"] (spNum K) fN dN) : FnOk P w K mg base CX0 2 f fd ["size"] (spFam K) := by
  refine F.ok scFam (fun vs H Q E h => ?_) (fun cdv A outer s H vs Q E hr h => ?_)
  · obtain ⟨n, rfl, _⟩ := h
    rfl
  · obtain ⟨n, rfl, n1, n3, q⟩ := h
    refine ⟨_, (pss_cons (ps_if (pt_not (pt_val (pe_call cN.ok hr (by rfl) cN.g cN.kp cN.b .nil pass0 (pa_cons (pv 0) (pa_cons pe_int (pa_cons pe_int pa_nil)))))) (pss_one ps_never) pss_nil) (pss_cons (ps_set (i := 1) scFam.nd rfl (.inl rfl) (pe_lst (pa_cons (pe_tup (pa_cons pe_str pa_nil)) (pa_cons (pe_tup (pa_cons pe_str pa_nil)) pa_nil)))) (pss_cons (ps_for PassesOwn.never rfl (PM.pi_perm rfl (by rfl) gp (prg_1 (by rfl) G.range (pv 0))) (pg_name (i := 2) scFam.nd rfl (.inl rfl)) (pss_one (ps_for PassesOwn.never rfl (pi_tup (pe_tup (pa_cons pe_int (pa_cons pe_int pa_nil)))) (pg_name (i := 3) scFam.nd rfl (.inl rfl)) (pss_one (ps_expr (pe_bm PySem.F.plainAttrs_list PySem.F.slot_list_append PySem.F.type_list_append mt_append (pv 1) (pa_cons (pe_tup (pa_cons pe_str (pa_cons (pv 2) (pa_cons (pv 3) (pa_cons (pe_tup (pa_cons pe_str pa_nil)) pa_nil))))) pa_nil))))))) (pss_cons (ps_for PassesOwn.never rfl (pi_tup (pe_tup (pa_cons pe_int (pa_cons pe_int (pa_cons pe_int pa_nil))))) (pg_name (i := 4) scFam.nd rfl (.inl rfl)) (pss_one (ps_for PassesOwn.never rfl (pi_tup (pe_tup (pa_cons pe_int (pa_cons pe_int pa_nil)))) (pg_name (i := 5) scFam.nd rfl (.inl rfl)) (pss_one (ps_expr (pe_bm PySem.F.plainAttrs_list PySem.F.slot_list_append PySem.F.type_list_append mt_append (pv 1) (pa_cons (pe_tup (pa_cons pe_str (pa_cons (pv 4) (pa_cons (pv 5) pa_nil)))) pa_nil))))))) (pss_one (ps_ret (pv 1))))))), ?_⟩
    have hn : numD (.int (n : Int)) 1 3 = true := by
      show (decide ((1 : Int) ≤ n) && decide ((n : Int) ≤ 3)) = true
      rw [decide_eq_true (by omega), decide_eq_true (by omega)]; rfl
    refine ⟨_, rfl, _, .int (n : Int), 1, 3, rfl, .int _, _, rfl, ite2 (fun e => absurd e (by rw [hn]; decide)) fun _ => ?_⟩
    refine ⟨by show 1 ≤ sizeLine; decide, fun p1 m1 => ⟨by show 1 ≤ sizeLine; decide, fun p2 m2 => ⟨by show 2 ≤ sizeLine; decide, fun fm mfm => ?_⟩⟩⟩
    have S3 := ((same_new (o := .tup [.str "first"]) m1).trans (same_new (o := .tup [.str "last"]) m2)).trans (same_new (o := .lst [.ref p1, .ref p2]) mfm)
    have nfm : H fm = none := ((same_new (o := .tup [.str "first"]) m1).trans (same_new (o := .tup [.str "last"]) m2)).free mfm
    have D0 : DpAll K (upd (upd (upd H p1 (.tup [.str "first"])) p2 (.tup [.str "last"])) fm (.lst [.ref p1, .ref p2])) [.ref p1, .ref p2] (pref n 0) :=
      .cons (.tup (.of (same_new mfm _ _ (same_new m2 _ _ upd_same))) (.cons (.str _) .nil)) (.cons (.tup (.of (same_new mfm _ _ upd_same)) (.cons (.str _) .nil)) .nil)
    have e0 : (upd (upd (upd H p1 (.tup [.str "first"])) p2 (.tup [.str "last"])) fm (.lst [.ref p1, .ref p2])) fm = some (.lst [.ref p1, .ref p2]) := upd_same
    have k0 : Keep [] H (upd (upd (upd H p1 (.tup [.str "first"])) p2 (.tup [.str "last"])) fm (.lst [.ref p1, .ref p2])) := .same S3
    generalize upd (upd (upd H p1 (.tup [.str "first"])) p2 (.tup [.str "last"])) fm (.lst [.ref p1, .ref p2]) = H0 at D0 e0 k0 ⊢
    have t0 : Tabs [] H := fun _ z => nomatch z
    have tn : ∀ {Hx : Hp}, Tabs [] Hx := fun {Hx} _ z => nomatch z
    have add : ∀ {Hx : Hp} {ys : List V} {ds : List PD} {pq : Addr} {d : PD}, Keep [] H Hx → Hx fm = some (.lst ys) → DpAll K Hx ys ds → flatPs ds = true → Dp K Hx (.ref pq) d → flatP d = true →
        Keep [] H (upd Hx fm (.lst (ys ++ [.ref pq]))) ∧ (upd Hx fm (.lst (ys ++ [.ref pq]))) fm = some (.lst (ys ++ [.ref pq])) ∧ DpAll K (upd Hx fm (.lst (ys ++ [.ref pq]))) (ys ++ [.ref pq]) (ds ++ [d]) := fun {Hx ys ds pq d} a b c e g h =>
      ⟨a.own t0 nfm, upd_same, dps_append (dps_upd b e c) (.cons (dp_upd b h g) .nil)⟩
    obtain ⟨hgo, hf1, hfN, hf6⟩ := perm_facts n1 n3
    refine ⟨.int n, rfl, n, rfl, rfl, by omega, by omega, for_pm (m := n) (N := fac n) hgo hf1 hfN (fun i σ H1 => ∃ (ys : List V) (y2 y3 : Option V), σ = [some (.int n), some (.ref fm), y2, y3, none, none] ∧ Keep [] H H1 ∧ H1 fm = some (.lst ys) ∧ DpAll K H1 ys (pref n i))
      ⟨_, none, none, rfl, k0, e0, D0⟩ ?_ ?_⟩
    · rintro i σ H1 t p hi ⟨ys, y2, y3, rfl, k1, e1, D1⟩ hp hg nt
      have epa : permAt n i = p.1 := by unfold permAt; rw [hp]; rfl
      have k2 := k1.trans (Keep.new (T := []) (o := .tup (PM.outV p)) nt)
      have e2 := same_new (o := .tup (PM.outV p)) nt _ _ e1
      have D2 := dps_keep (Keep.new (T := []) (o := .tup (PM.outV p)) nt) tn D1
      have st2 : SqT K (upd H1 t (.tup (PM.outV p))) t (PM.outV p) := .of upd_same
      generalize upd H1 t (.tup (PM.outV p)) = H2 at k2 e2 D2 st2 ⊢
      refine ⟨by show 2 ≤ sizeLine; decide, fun pz mz => ?_⟩
      have kz := Keep.new (T := []) (o := .tup [.int 0, .int 1]) mz
      refine ⟨pz, rfl, ⟨_, .of upd_same⟩, for_tup (K := K) (a := pz) (xs := [.int 0, .int 1]) (fun j σ H3 => ∃ (ys : List V) (y3 : Option V), σ = [some (.int n), some (.ref fm), some (.ref t), y3, none, none] ∧ Keep [] H H3 ∧ H3 fm = some (.lst ys) ∧ DpAll K H3 ys (pref n i ++ (ordP n i).take j) ∧ SqT K H3 t (PM.outV p) ∧ SqT K H3 pz [.int 0, .int 1])
        ⟨ys, _, rfl, k2.trans kz, same_new mz _ _ e2, by rw [List.take_zero, List.append_nil]; exact dps_keep kz tn D2, kz.sqT tn st2, .of upd_same⟩ (fun j σ H3 _ ⟨_, _, _, _, _, _, _, z⟩ => z) ?_ ?_⟩
      · rintro j x σ H3 hx ⟨ys, y3, rfl, k3, e3, D3, st3, sz3⟩
        have hj : j < 2 := (List.getElem?_eq_some_iff.mp hx).1
        have ex : x = .int (j : Int) := by
          match j, hj with
          | 0, _ => exact (Option.some.inj hx).symm
          | 1, _ => exact (Option.some.inj hx).symm
        subst ex
        have hyl : ys.length ≤ 30 := by
          rw [dps_len D3, List.length_append, pref_len, List.length_take]
          show 2 + 2 * i + min j 2 ≤ 30
          omega
        refine ⟨.ref fm, rfl, .inl ⟨rfl, _, .of e3⟩, .ref t, rfl, .int (j : Int), rfl, by show 1 ≤ sizeLine; decide, fun pp mpp => ⟨by show 4 ≤ sizeLine; decide, fun pq mpq => ?_⟩⟩
        have k4 := (Keep.new (T := []) (o := .tup [.str "plain"]) mpp).trans (Keep.new (T := []) (o := .tup [.str "order", .ref t, .int (j : Int), .ref pp]) mpq)
        refine ⟨fm, ys, _, rfl, rfl, k4.lst tn e3, small1000 (by omega), ?_⟩
        have dpq : Dp K (upd (upd H3 pp (.tup [.str "plain"])) pq (.tup [.str "order", .ref t, .int (j : Int), .ref pp])) (.ref pq) (ordD (natD (permAt n i)) (j : Int)) := by
          refine .tup (.of upd_same) (.cons (.str _) (.cons (.tup (k4.sqT tn st3) ?_) (.cons (.int _) (.cons (.tup (.of (same_new mpq _ _ upd_same)) (.cons (.str _) .nil)) .nil))))
          rw [epa]
          exact dps_nat p.1
        obtain ⟨z1, z2, z3⟩ := add (k3.trans k4) (k4.lst tn e3) (dps_keep k4 tn D3) (flat_app (flat_pref n i) (flat_take j (by show (flatP _ && (flatP _ && true)) = true; rw [flat_ord, flat_ord]; rfl))) dpq (flat_ord _ _)
        have e4 := k4.lst tn e3
        refine ⟨_, _, rfl, z1, z2, ?_, sqT_upd (k4.sqT tn st3) e4, sqT_upd (k4.sqT tn sz3) e4⟩
        rw [List.append_assoc] at z3
        have et : (ordP n i).take (j + 1) = (ordP n i).take j ++ [ordD (natD (permAt n i)) (j : Int)] := by
          match j, hj with
          | 0, _ => rfl
          | 1, _ => rfl
        rw [et]
        exact z3
      · rintro σ H3 ⟨ys, y3, rfl, k3, e3, D3, st3, sz3⟩
        refine ⟨ys, _, _, rfl, k3, e3, ?_⟩
        rw [pref_succ]
        exact D3
    rintro σ H1 ⟨ys, y2, y3, rfl, k1, e1, D1⟩
    refine ⟨by show 3 ≤ sizeLine; decide, fun pw mw => ?_⟩
    have kw := Keep.new (T := []) (o := .tup [.int 1, .int 2, .int 3]) mw
    refine ⟨pw, rfl, ⟨_, .of upd_same⟩, for_tup (K := K) (a := pw) (xs := [.int 1, .int 2, .int 3]) (fun i σ H3 => ∃ (ys : List V) (y4 y5 : Option V), σ = [some (.int n), some (.ref fm), y2, y3, y4, y5] ∧ Keep [] H H3 ∧ H3 fm = some (.lst ys) ∧ DpAll K H3 ys (pref n (fac n) ++ rounds6.take (2 * i)) ∧ SqT K H3 pw [.int 1, .int 2, .int 3])
      ⟨ys, _, _, rfl, k1.trans kw, same_new mw _ _ e1, by rw [List.take_zero, List.append_nil]; exact dps_keep kw tn D1, .of upd_same⟩ (fun j σ H3 _ ⟨_, _, _, _, _, _, _, z⟩ => z) ?_ ?_⟩
    · rintro i x σ H2 hx ⟨ys, y4, y5, rfl, k2, e2, D2, sw2⟩
      have hi : i < 3 := (List.getElem?_eq_some_iff.mp hx).1
      have ex : x = .int ((i : Int) + 1) := by
        match i, hi with
        | 0, _ => exact (Option.some.inj hx).symm
        | 1, _ => exact (Option.some.inj hx).symm
        | 2, _ => exact (Option.some.inj hx).symm
      subst ex
      refine ⟨by show 2 ≤ sizeLine; decide, fun pz mz => ?_⟩
      have kz := Keep.new (T := []) (o := .tup [.int 0, .int 1]) mz
      refine ⟨pz, rfl, ⟨_, .of upd_same⟩, for_tup (K := K) (a := pz) (xs := [.int 0, .int 1]) (fun j σ H3 => ∃ (ys : List V) (y5 : Option V), σ = [some (.int n), some (.ref fm), y2, y3, some (.int ((i : Int) + 1)), y5] ∧ Keep [] H H3 ∧ H3 fm = some (.lst ys) ∧ DpAll K H3 ys (pref n (fac n) ++ rounds6.take (2 * i + j)) ∧ SqT K H3 pw [.int 1, .int 2, .int 3] ∧ SqT K H3 pz [.int 0, .int 1])
        ⟨ys, _, rfl, k2.trans kz, same_new mz _ _ e2, dps_keep kz tn D2, kz.sqT tn sw2, .of upd_same⟩ (fun j σ H3 _ ⟨_, _, _, _, _, _, _, z⟩ => z) ?_ ?_⟩
      · rintro j x σ H3 hx ⟨ys, y5, rfl, k3, e3, D3, sw3, sz3⟩
        have hj : j < 2 := (List.getElem?_eq_some_iff.mp hx).1
        have ex : x = .int (j : Int) := by
          match j, hj with
          | 0, _ => exact (Option.some.inj hx).symm
          | 1, _ => exact (Option.some.inj hx).symm
        subst ex
        have hyl : ys.length ≤ 30 := by
          rw [dps_len D3, List.length_append, pref_len, List.length_take]
          show 2 + 2 * fac n + min (2 * i + j) 6 ≤ 30
          omega
        refine ⟨.ref fm, rfl, .inl ⟨rfl, _, .of e3⟩, .int ((i : Int) + 1), rfl, .int (j : Int), rfl, by show 3 ≤ sizeLine; decide, fun pq mpq => ?_⟩
        have k4 := Keep.new (T := []) (o := .tup [.str "rounds", .int ((i : Int) + 1), .int (j : Int)]) mpq
        refine ⟨fm, ys, _, rfl, rfl, k4.lst tn e3, small1000 (by omega), ?_⟩
        have dpq : Dp K (upd H3 pq (.tup [.str "rounds", .int ((i : Int) + 1), .int (j : Int)])) (.ref pq) (rndD ((i : Int) + 1) (j : Int)) := .tup (.of upd_same) (.cons (.str _) (.cons (.int _) (.cons (.int _) .nil)))
        obtain ⟨z1, z2, z3⟩ := add (k3.trans k4) (k4.lst tn e3) (dps_keep k4 tn D3) (flat_app (flat_pref n (fac n)) (flat_take _ rfl)) dpq rfl
        have e4 := k4.lst tn e3
        refine ⟨_, _, rfl, z1, z2, ?_, sqT_upd (k4.sqT tn sw3) e4, sqT_upd (k4.sqT tn sz3) e4⟩
        rw [List.append_assoc] at z3
        have et : rounds6.take (2 * i + (j + 1)) = rounds6.take (2 * i + j) ++ [rndD ((i : Int) + 1) (j : Int)] := take6 hi hj
        rw [et]
        exact z3
      · rintro σ H3 ⟨ys, y5, rfl, k3, e3, D3, sw3, sz3⟩
        exact ⟨ys, _, _, rfl, k3, e3, D3, sw3⟩
    rintro σ H2 ⟨ys, y4, y5, rfl, k2, e2, D2, sw2⟩
    exact ⟨.ref fm, rfl, q _ H2 (.lst (.of e2) D2) fun b o e => k2.at_ b o e (fun z => nomatch z)⟩

end
end K13

namespace K13
open PySem PySem.Spec PyProof.Rows L2 DA
/-! ### draws -/
abbrev sStart : Stmt := top 22
abbrev sDraw : Stmt := top 23
abbrev sPick : Stmt := top 24
/-- the numbers at nu, the counter: what the draws are made of -/
structure Drw (H : Hp) (d nu : Addr) : Prop where
  ex : ∃ (ns : List Int) (c : Int), H d = some (.lst [.ref nu, .int c]) ∧ H nu = some (.lst (ns.map V.int)) ∧ ns ≠ [] ∧ ns.length ≤ 63 ∧ 0 ≤ c
/-- all but the draws' own -/
structure Frm (T : List Addr) (d nu : Addr) (H H' : Hp) : Prop where
  at_ : ∀ b o, H b = some o → b ≠ d → b ≠ nu → b ∉ T → H' b = some o
  tab : ∀ P ∈ T, GxR.TabG H P → GxR.TabG H' P
  drw : Drw H' d nu
theorem scStart : FnScope ["_law_script"] ["_law_script"] (defScope sStart) := ⟨rfl, rfl, rfl, by decide +kernel, rfl, by decide +kernel, by decide +kernel⟩
theorem scDraw : FnScope ["_law_draws", "_law_limit", "_law_numbers", "_law_at", "_law_cell", "_law_mixed"] ["_law_draws", "_law_limit"] (defScope sDraw) := ⟨rfl, rfl, rfl, by decide +kernel, rfl, by decide +kernel, by decide +kernel⟩
theorem scPick : FnScope ["_law_draws", "_law_choices"] ["_law_draws", "_law_choices"] (defScope sPick) := ⟨rfl, rfl, rfl, by decide +kernel, rfl, by decide +kernel, by decide +kernel⟩
section
variable {P : Program} {w : World} {K : PySem.W.Frag} {mg : Str → Option Value} {base : Heap} {f : Addr} {fd : FuncData}
def spStart (K : PySem.W.Frag) : Sp := fun vs H Q _ => ∃ (a : Addr) (ns : List Int), vs = [.ref a] ∧ SqL K H a (ns.map V.int) ∧ ns.length ≤ 63 ∧ ∀ d nu H', Same H H' → H d = none → H nu = none → Drw H' d nu → Q (.ref d) H'
theorem ok_start (F : Fun K "_law_start" "_law_start" sStart f fd) (G : Glob mg) : FnOk P w K mg base CX0 1 f fd ["_law_script"] (spStart K) := by
  refine F.ok scStart (fun vs H Q E h => ?_) (fun cdv A outer s H vs Q E hr h => ?_)
  · obtain ⟨a, ns, rfl, _⟩ := h
    rfl
  · obtain ⟨a, ns, rfl, hS, hl, q⟩ := h
    refine ⟨_, pss_one (ps_ret (pe_lst (pa_cons (pe_ifExp (pt_cmpR (op_neD hr.units) (pv 0) (pe_lst pa_nil) (nomark _)) (pe_callTy call_list_of (by rfl) G.list (by decide +kernel) (pa_cons (pv 0) pa_nil)) (pe_lst (pa_cons pe_int pa_nil))) (pa_cons pe_int pa_nil)))), ?_⟩
    refine ⟨.ref a, rfl, Nat.zero_le _, fun p np => ?_⟩
    have s1 : Same H (upd H p (.lst [])) := same_new np
    refine ⟨.list (ns.map .int), .list [], .lst (s1.seq hS) (dps_ints ns), .lst (.of upd_same) .nil, ints_shaped ns, rfl, _, rfl, ite2 (fun e => ?_) fun e => ?_⟩
    · have hne : ns ≠ [] := fun z => by rw [z] at e; cases e
      refine ⟨_, rfl, a, ns.map V.int, rfl, .inl (s1.seq hS), fun l nl => ?_⟩
      refine ⟨by show 2 ≤ sizeLine; decide, fun d nd => ?_⟩
      have s2 := same_new (o := .lst (ns.map V.int)) nl
      have s3 := same_new (o := .lst [.ref l, .int 0]) nd
      refine q d l _ ((s1.trans s2).trans s3) ((s1.trans s2).free nd) (s1.free nl) ⟨ns, 0, upd_same, ?_, hne, hl, Int.le_refl _⟩
      exact s3 _ _ upd_same
    · refine ⟨by show 1 ≤ sizeLine; decide, fun l nl => ?_⟩
      refine ⟨by show 2 ≤ sizeLine; decide, fun d nd => ?_⟩
      have s2 := same_new (o := .lst [.int 0]) nl
      have s3 := same_new (o := .lst [.ref l, .int 0]) nd
      exact q d l _ ((s1.trans s2).trans s3) ((s1.trans s2).free nd) (s1.free nl) ⟨[0], 0, upd_same, s3 _ _ upd_same, by simp, by decide, Int.le_refl _⟩
def spDraw (T : List Addr) : Sp := fun vs H Q _ => ∃ (d nu : Addr) (lim : Int), vs = [.ref d, .int lim] ∧ 1 ≤ lim ∧ lim ≤ 1000 ∧ Drw H d nu ∧ ∀ (r : Int) H', 0 ≤ r → r < lim → Frm T d nu H H' → Q (.int r) H'
theorem ok_draw {T : List Addr} (F : Fun K "_law_draw" "_law_draw" sDraw f fd) (G : Glob mg) : FnOk P w K mg base CX0 1 f fd ["_law_draws", "_law_limit"] (spDraw T) := by
  refine F.ok scDraw (fun vs H Q E h => ?_) (fun cdv A outer s H vs Q E hr h => ?_)
  · obtain ⟨d, nu, lim, rfl, _⟩ := h
    rfl
  · obtain ⟨d, nu, lim, rfl, l1, l2, ⟨ns, c, hd, hnu, hne, hl, hc⟩, q⟩ := h
    have ndu : d ≠ nu := fun z => by
      rw [z, hnu] at hd
      cases ns with
      | nil => exact hne rfl
      | cons n r => cases hd
    have hpos : 0 < ns.length := List.length_pos_iff.mpr hne
    refine ⟨_, pss_cons (ps_set (i := 2) scDraw.nd rfl (.inl rfl) (pe_ix ix_list (pv 0) pe_int (fun _ _ => rfl)))
      (pss_cons (ps_asg (pe_op op_add (pe_ix ix_list (pv 0) pe_int (fun _ _ => rfl)) pe_int) (pg_sub (pv 0) pe_int set_list))
      (pss_cons (ps_set (i := 3) scDraw.nd rfl (.inl rfl) (pe_op op_mod (pe_ix ix_list (pv 0) pe_int (fun _ _ => rfl)) (pe_callB call_len_seq (by rfl) G.len PySem.boot_len (pa_cons (pv 2) pa_nil))))
      (pss_cons (ps_set (i := 4) scDraw.nd rfl (.inl rfl) (pe_ix ix_list (pv 2) (pv 3) (fun _ _ => rfl)))
      (pss_cons (ps_if (pt_cmpR op_ge (pv 4) pe_int (nomark _)) (pss_cons (ps_asg (pe_op op_fdiv (pv 4) (pv 1)) (pg_sub (pv 2) (pv 3) set_list)) (pss_one (ps_ret (pe_op op_mod (pv 4) (pv 1))))) pss_nil)
      (pss_cons (ps_set (i := 5) scDraw.nd rfl (.inl rfl) (pe_op op_mod (pe_op op_add (pv 4) (pe_op op_mul pe_int (pe_ix ix_list (pv 0) pe_int (fun _ _ => rfl)))) pe_int))
      (pss_cons (ps_set (i := 5) scDraw.nd rfl (.inl rfl) (pe_op op_mod (pe_op op_pow (pv 5) pe_int) pe_int))
      (pss_one (ps_ret (pe_op op_mod (pe_op op_fdiv (pe_op op_mod (pe_op op_add (pe_op op_mul (pe_op op_fdiv (pv 5) pe_int) pe_int) (pv 5)) pe_int) pe_int) (pv 1)))))))))), ?_⟩
    refine ⟨.ref d, rfl, d, _, 0, .ref nu, rfl, rfl, .of hd, rfl, ?_⟩
    refine ⟨.ref d, rfl, d, _, 1, .int c, rfl, rfl, .of hd, rfl, c, 1, rfl, rfl, .ref d, rfl, d, _, 1, 1, rfl, rfl, hd, rfl, ?_⟩
    have hd1 : (upd H d (.lst [.ref nu, .int (c + 1)])) d = some (.lst [.ref nu, .int (c + 1)]) := upd_same
    have hnu1 : (upd H d (.lst [.ref nu, .int (c + 1)])) nu = some (.lst (ns.map V.int)) := by rw [upd_ne ndu.symm]; exact hnu
    generalize hH1 : upd H d (.lst [.ref nu, .int (c + 1)]) = H1 at hd1 hnu1
    have hlen : ((ns.map V.int).length : Int) = ns.length := by rw [List.length_map]
    have hlp : (0 : Int) < (ns.map V.int).length := by rw [hlen]; omega
    generalize hj : (c + 1) % ((ns.map V.int).length : Int) = j
    have j0 : 0 ≤ j := by rw [← hj]; exact Int.emod_nonneg _ (by omega)
    have j1 : j < ns.length := by rw [← hj, ← hlen]; exact Int.emod_lt_of_pos _ hlp
    have hix : ixN (ns.map V.int).length j = some j.toNat := by
      unfold ixN
      rw [if_pos j0, if_pos (by rw [hlen]; exact j1)]
    have hjn : j.toNat < ns.length := by omega
    have hat : atI (ns.map V.int) j = some (.int (ns[j.toNat]'hjn)) := by
      unfold atI
      rw [hix]
      show (ns.map V.int)[j.toNat]? = _
      rw [List.getElem?_map, List.getElem?_eq_getElem hjn]
      rfl
    generalize hcell : ns[j.toNat]'hjn = cell at hat
    have frame1 : ∀ H2, (∀ b, b ≠ nu → H2 b = H1 b) → (∃ ms : List Int, H2 nu = some (.lst (ms.map V.int)) ∧ ms ≠ [] ∧ ms.length ≤ 63) → Frm T d nu H H2 := fun H2 e2 ⟨ms, e3, e4, e5⟩ => by
      refine ⟨fun b o e n1 n2 _ => ?_, fun P hP ⟨ps, e, ok⟩ => ⟨ps, ?_, ok⟩, ⟨ms, c + 1, ?_, e3, e4, e5, by omega⟩⟩
      · rw [e2 b n2, ← hH1, upd_ne n1]; exact e
      · have n1 : P ≠ d := fun z => by rw [z, hd] at e; cases e
        have n2 : P ≠ nu := fun z => by rw [z, hnu] at e; cases e
        rw [e2 P n2, ← hH1, upd_ne n1]; exact e
      · rw [e2 d ndu]; exact hd1
    have eH : upd H d (HO.lst ([V.ref nu, V.int c].set 1 ((fun i j => V.int (i + j)) c 1))) = H1 := hH1
    rw [eH]
    refine ⟨.ref d, rfl, d, _, 1, .int (c + 1), rfl, rfl, .of hd1, rfl, .ref nu, rfl, nu, _, rfl, .inl (.of hnu1), _, _, rfl, rfl, hlp, ?_⟩
    refine ⟨.ref nu, rfl, .int j, by show some (some (V.int ((c + 1) % ((ns.map V.int).length : Int)))) = _; rw [hj], nu, _, j, .int cell, rfl, rfl, .of hnu1, hat, ?_⟩
    refine ⟨.int cell, rfl, _, _, rfl, rfl, _, rfl, ite2 (fun e => ?_) fun e => ?_⟩
    · refine ⟨.int cell, rfl, .int lim, rfl, _, _, rfl, rfl, ⟨by omega, by omega⟩, .ref nu, rfl, .int j, by show some (some (V.int ((c + 1) % ((ns.map V.int).length : Int)))) = _; rw [hj], nu, _, j, j.toNat, rfl, rfl, hnu1, hix, ?_⟩
      refine ⟨.int cell, rfl, .int lim, rfl, _, _, rfl, rfl, by show (0 : Int) < lim; omega, ?_⟩
      refine q (cell % lim) _ (Int.emod_nonneg _ (by omega)) (Int.emod_lt_of_pos _ (by omega)) (frame1 _ (fun b hb => upd_ne hb) ⟨ns.set j.toNat (cell / lim), ?_, ?_, by rw [List.length_set]; exact hl⟩)
      · rw [upd_same, List.map_set]
      · intro z
        have := congrArg List.length z
        rw [List.length_set] at this
        simp at this
        exact hne this
    · refine ⟨.int cell, rfl, .ref d, rfl, d, _, 1, .int (c + 1), rfl, rfl, .of hd1, rfl, 104729, c + 1, rfl, rfl, .inl ⟨by decide, by decide⟩, _, _, rfl, rfl, _, _, rfl, rfl, by show (0 : Int) < 4294967291; decide, ?_⟩
      generalize hm : (cell + 104729 * (c + 1)) % 4294967291 = m
      have m0 : 0 ≤ m := by rw [← hm]; exact Int.emod_nonneg _ (by decide)
      have m1 : m < 4294967291 := by rw [← hm]; exact Int.emod_lt_of_pos _ (by decide)
      refine ⟨.int m, by show some (some (V.int ((cell + 104729 * (c + 1)) % 4294967291))) = _; rw [hm], m, 5, rfl, rfl, ⟨by decide, by decide, by omega⟩, _, _, rfl, rfl, by show (0 : Int) < 4294967279; decide, ?_⟩
      generalize hm2 : m ^ (5 : Int).toNat % 4294967279 = m2
      have n0 : 0 ≤ m2 := by rw [← hm2]; exact Int.emod_nonneg _ (by decide)
      have n1 : m2 < 4294967279 := by rw [← hm2]; exact Int.emod_lt_of_pos _ (by decide)
      refine ⟨.int m2, by show some (some (V.int (m ^ (5 : Int).toNat % 4294967279))) = _; rw [hm2], _, _, rfl, rfl, ⟨by decide, by decide⟩, _, _, rfl, rfl, .inr ⟨by decide, by decide⟩, .int m2, by show some (some (V.int (m ^ (5 : Int).toNat % 4294967279))) = _; rw [hm2], _, _, rfl, rfl, _, _, rfl, rfl, by show (0 : Int) < 4294967231; decide, _, _, rfl, rfl, ⟨by decide, by decide⟩, .int lim, rfl, _, _, rfl, rfl, by show (0 : Int) < lim; omega, ?_⟩
      exact q _ _ (Int.emod_nonneg _ (by omega)) (Int.emod_lt_of_pos _ (by omega)) (frame1 H1 (fun _ _ => rfl) ⟨ns, hnu1, hne, hl⟩)
def spPick (K : PySem.W.Frag) (T : List Addr) : Sp := fun vs H Q _ => ∃ (d nu a : Addr) (xs : List V), vs = [.ref d, .ref a] ∧ H a = some (.lst xs) ∧ a ≠ d ∧ a ≠ nu ∧ a ∉ T ∧ 1 ≤ xs.length ∧ xs.length ≤ 1000 ∧ Drw H d nu ∧ ∀ (i : Nat) (v : V) H', xs[i]? = some v → Frm T d nu H H' → Q v H'
theorem ok_pick {T : List Addr} {fD : Addr} {fdD : FuncData} (F : Fun K "_law_pick" "_law_pick" sPick f fd) (G : Glob mg) (FD : Fun K "_law_draw" "_law_draw" sDraw fD fdD) (bD : Binds K fdD ["_law_draws", "_law_limit"] []) (gD : mg "_law_draw" = some (.ref fD)) :
    FnOk P w K mg base CX0 2 f fd ["_law_draws", "_law_choices"] (spPick K T) := by
  have GD : FnOk P w K mg base CX0 1 fD fdD ["_law_draws", "_law_limit"] (spDraw T) := ok_draw FD G
  refine F.ok scPick (fun vs H Q E h => ?_) (fun cdv A outer s H vs Q E hr h => ?_)
  · obtain ⟨d, nu, a, xs, rfl, _⟩ := h
    rfl
  · obtain ⟨d, nu, a, xs, rfl, ha, n1, n2, n3, l1, l2, hdr, q⟩ := h
    refine ⟨_, pss_one (ps_ret (pe_ix ix_list (pv 1) (pe_call GD hr (by rfl) gD FD.kp bD .nil pass0 (pa_cons (pv 0) (pa_cons (pe_callB call_len_seq (by rfl) G.len PySem.boot_len (pa_cons (pv 1) pa_nil)) pa_nil))) (fun _ _ => rfl))), ?_⟩
    refine ⟨.ref a, rfl, .ref d, rfl, .ref a, rfl, a, xs, rfl, .inl (.of ha), d, nu, _, rfl, by omega, by omega, hdr, fun r H' r0 r1 fr => ?_⟩
    have ha' := fr.at_ a _ ha n1 n2 n3
    have hrn : r.toNat < xs.length := by omega
    refine ⟨a, xs, r, xs[r.toNat], rfl, rfl, .of ha', ?_, q r.toNat _ H' (List.getElem?_eq_getElem hrn) fr⟩
    unfold atI ixN
    rw [if_pos r0, if_pos r1]
    exact List.getElem?_eq_getElem hrn
end
/-! ### frames of draws -/
section
variable {K : PySem.W.Frag} {T : List Addr} {d nu : Addr} {H H1 H2 : Hp}
theorem Frm.refl (h : Drw H d nu) : Frm T d nu H H := ⟨fun _ _ e _ _ _ => e, fun _ _ e => e, h⟩
theorem Frm.trans (a : Frm T d nu H H1) (b : Frm T d nu H1 H2) : Frm T d nu H H2 := ⟨fun c o e n1 n2 n3 => b.at_ c o (a.at_ c o e n1 n2 n3) n1 n2 n3, fun P hP t => b.tab P hP (a.tab P hP t), b.drw⟩
theorem Frm.tabs (a : Frm T d nu H H1) (t : Tabs T H) : Tabs T H1 := fun P hP => a.tab P hP (t P hP)
theorem Drw.keep (h : Drw H d nu) (t : Tabs T H) (k : Keep T H H1) : Drw H1 d nu := by
  obtain ⟨ns, c, h1, h2, h3⟩ := h.ex
  exact ⟨⟨ns, c, k.lst t h1, k.lst t h2, h3⟩⟩
theorem Frm.keep (h : Drw H d nu) (t : Tabs T H) (k : Keep T H H1) : Frm T d nu H H1 := ⟨fun b o e _ _ n => k.at_ b o e n, k.tab, h.keep t k⟩
theorem Drw.ne (h : Drw H d nu) {p : Addr} (hp : H p = none) : p ≠ d ∧ p ≠ nu := by
  obtain ⟨ns, c, h1, h2, h3⟩ := h.ex
  exact ⟨fun z => (by rw [z, h1] at hp; cases hp), fun z => (by rw [z, h2] at hp; cases hp)⟩
theorem Drw.ne' (h : Drw H d nu) : d ≠ nu := fun z => by
  obtain ⟨ns, c, h1, h2, h3, _⟩ := h.ex
  rw [z, h2] at h1
  cases ns with
  | nil => exact h3 rfl
  | cons n r => cases h1
/-- a new object, or one that is none of the first heap's, is written -/
theorem Frm.own (k : Frm T d nu H H1) (h : Drw H d nu) (t : Tabs T H) {p : Addr} {o : HO} (hp : H p = none) : Frm T d nu H (upd H1 p o) := by
  obtain ⟨n1, n2⟩ := h.ne hp
  have nT : p ∉ T := fun m => by
    obtain ⟨ps, e, _⟩ := t p m
    rw [hp] at e; cases e
  refine ⟨fun b x e m1 m2 m3 => ?_, fun P hP tb => ?_, ?_⟩
  · rw [upd_ne (ne_of_none e hp)]
    exact k.at_ b x e m1 m2 m3
  · obtain ⟨ps, e, ok⟩ := k.tab P hP tb
    refine ⟨ps, ?_, ok⟩
    rw [upd_ne (fun z => nT (by rw [← z]; exact hP))]
    exact e
  · obtain ⟨ns, c, h1, h2, h3⟩ := k.drw.ex
    exact ⟨⟨ns, c, by rw [upd_ne n1.symm]; exact h1, by rw [upd_ne n2.symm]; exact h2, h3⟩⟩
theorem Frm.free (k : Frm T d nu H H1) (h : Drw H d nu) (t : Tabs T H) {p : Addr} (hp : H1 p = none) : H p = none := by
  cases e : H p with
  | none => rfl
  | some o =>
    obtain ⟨n1, n2⟩ := k.drw.ne hp
    by_cases m : p ∈ T
    · obtain ⟨ps, e', _⟩ := k.tabs t p m
      rw [hp] at e'; cases e'
    · have := k.at_ p o e n1 n2 m
      rw [hp] at this; cases this
theorem Frm.lst (k : Frm T d nu H H1) (t : Tabs T H) {a : Addr} {xs : List V} (h : H a = some (.lst xs)) (n1 : a ≠ d) (n2 : a ≠ nu) : H1 a = some (.lst xs) := k.at_ _ _ h n1 n2 (nT_of t h fun ps z => by cases z)
theorem Frm.sqT (k : Frm T d nu H H1) (h : Drw H d nu) (t : Tabs T H) {a : Addr} {xs : List V} (hs : SqT K H a xs) : SqT K H1 a xs := by
  obtain ⟨ns, c, h1, h2, h3⟩ := h.ex
  rcases hs with (hs | ⟨o, hs⟩) | hs
  · exact .inl (.inl (k.at_ _ _ hs (ne_of hs h1 (by intro z; cases z)) (ne_of hs h2 (by intro z; cases z)) (nT_of t hs fun ps z => by cases z)))
  · exact .inl (.inr ⟨o, k.at_ _ _ hs (ne_of hs h1 (by intro z; cases z)) (ne_of hs h2 (by intro z; cases z)) (nT_of t hs fun ps z => by cases z)⟩)
  · exact .inr hs
mutual
theorem Frm.dp (k : Frm T d nu H H1) (h : Drw H d nu) (t : Tabs T H) : ∀ {x : PD} {v : V}, flatP x = true → Dp K H v x → Dp K H1 v x
  | _, _, _, .non => .non
  | _, _, _, .bl b => .bl b
  | _, _, _, .int i => .int i
  | _, _, _, .str x => .str x
  | _, _, f, .lst _ _ => by cases f
  | _, _, f, .tup e a => .tup (k.sqT h t e) (k.dps h t f a)
theorem Frm.dps (k : Frm T d nu H H1) (h : Drw H d nu) (t : Tabs T H) : ∀ {xs : List PD} {vs : List V}, flatPs xs = true → DpAll K H vs xs → DpAll K H1 vs xs
  | _, _, _, .nil => .nil
  | _, _, f, .cons a r => .cons (k.dp h t (Bool.and_eq_true_iff.mp f).1 a) (k.dps h t (Bool.and_eq_true_iff.mp f).2 r)
end
end
end K13

namespace K13
open PySem PySem.Spec PyProof.Rows L2 DA
/-! ### _law_order -/
theorem idx_first {n : Int} : ∀ (ns : List Int) (m : Nat), m < ns.idxOf n → ns[m]? ≠ some n
  | [], m, h => by simp at h
  | x :: r, 0, h => by
    intro e
    have e' : x = n := by simpa using e
    rw [e', List.idxOf_cons_self] at h
    exact absurd h (Nat.lt_irrefl _)
  | x :: r, m + 1, h => by
    have hx : ¬ x = n := fun e' => by
      rw [e', List.idxOf_cons_self] at h
      omega
    have e0 : List.idxOf n (x :: r) = List.idxOf n r + 1 := by rw [List.idxOf_cons, show (x == n) = false from beq_eq_false_iff_ne.mpr hx]; rfl
    rw [e0] at h
    have := idx_first r m (Nat.lt_of_succ_lt_succ h)
    simpa using this
theorem first_ix {ns : List Int} {n : Int} (h : n ∈ ns) : ns[ns.idxOf n]? = some n ∧ (∀ m : Nat, m < ns.idxOf n → ns[m]? ≠ some n) ∧ ns.eraseIdx (ns.idxOf n) = ns.erase n := by
  refine ⟨?_, fun m hm e => idx_first ns m hm e, ?_⟩
  · have := List.idxOf_lt_length_iff.mpr h
    rw [List.getElem?_eq_getElem this, List.getElem_idxOf]
  · exact (List.erase_eq_eraseIdx_of_idxOf rfl).symm

theorem eqv_nil (ns : List Int) : PyData.eqv (.list (ns.map .int)) (.list []) = ns.isEmpty := by cases ns <;> rfl
abbrev sLOrd : Stmt := top 25
abbrev nLOrd : List Str := ["_law_draws", "_law_size", "_law_left", "_law_found"]
theorem scLOrd : FnScope nLOrd ["_law_draws", "_law_size"] (defScope sLOrd) := ⟨rfl, rfl, rfl, by decide +kernel, rfl, by decide +kernel, by decide +kernel⟩
section
variable {P : Program} {w : World} {K : PySem.W.Frag} {mg : Str → Option Value} {base : Heap} {f : Addr} {fd : FuncData}
def spLOrd (K : PySem.W.Frag) (T : List Addr) : Sp := fun vs H Q _ => ∃ (d nu : Addr) (n : Nat), vs = [.ref d, .int (n : Int)] ∧ n ≤ 4 ∧ Tabs T H ∧ Drw H d nu ∧ ∀ (p : Addr) (ls : List Int) H', SqT K H' p (ls.map V.int) → ls.Perm (rgI n) → Frm T d nu H H' → Q (.ref p) H'
theorem ok_lord {T : List Addr} {fD fP : Addr} {fdD fdP : FuncData} (F : Fun K "_law_order" "_law_order" sLOrd f fd) (G : Glob mg) (FD : Fun K "_law_draw" "_law_draw" sDraw fD fdD) (bD : Binds K fdD ["_law_draws", "_law_limit"] []) (gD : mg "_law_draw" = some (.ref fD))
    (FP : Fun K "_law_pick" "_law_pick" sPick fP fdP) (bP : Binds K fdP ["_law_draws", "_law_choices"] []) (gP : mg "_law_pick" = some (.ref fP)) : FnOk P w K mg base CX0 3 f fd ["_law_draws", "_law_size"] (spLOrd K T) := by
  have GP : FnOk P w K mg base CX0 2 fP fdP ["_law_draws", "_law_choices"] (spPick K T) := ok_pick FP G FD bD gD
  refine F.ok scLOrd (fun vs H Q E h => ?_) (fun cdv A outer s H vs Q E hr h => ?_)
  · obtain ⟨d, nu, n, rfl, _⟩ := h
    rfl
  · obtain ⟨d, nu, n, rfl, hn, ht, hdr, q⟩ := h
    refine ⟨_, (pss_cons (ps_par (i := 2) (j := 3) rfl scLOrd.nd rfl rfl (by decide) rfl rfl (pa_cons (pe_listRg rfl (by rfl) G.list (prg_1 (by rfl) G.range (pv 1))) (pa_cons (pe_lst pa_nil) pa_nil)) (by rfl)) (pss_cons (ps_while PassesOwn.never (pt_cmpR (op_neD hr.units) (pv 2) (pe_lst pa_nil) (nomark _)) (pss_cons (ps_expr (pe_bm PySem.F.plainAttrs_list PySem.F.slot_list_append PySem.F.type_list_append mt_append (pv 3) (pa_cons (pe_call GP hr (by rfl) gP FP.kp bP .nil pass0 (pa_cons (pv 0) (pa_cons (pv 2) pa_nil))) pa_nil))) (pss_one (ps_expr (pe_bm PySem.F.plainAttrs_list PySem.F.slot_list_remove PySem.F.type_list_remove mt_remove (pv 2) (pa_cons (pe_ix ix_list (pv 3) (pe_un un_neg pe_int) (fun _ _ => rfl)) pa_nil)))))) (pss_one (ps_ret (pe_callTy call_tuple_of (by rfl) G.tuple (by decide +kernel) (pa_cons (pv 3) pa_nil)))))), ?_⟩
    refine ⟨.int (n : Int), rfl, n, rfl, RgOk.of_le (by decide) (by omega) (by decide) (by omega), fun le nle => ⟨Nat.zero_le _, fun fo nfo => ⟨.ref le, .ref fo, rfl, ?_⟩⟩⟩
    rw [rgV_ints] at nfo ⊢
    have nfo0 : H fo = none := (same_new nle).free nfo
    obtain ⟨l1, l2⟩ := hdr.ne nle
    obtain ⟨f1, f2⟩ := hdr.ne nfo0
    have nlf : le ≠ fo := fun z => by rw [← z, upd_same] at nfo; cases nfo
    have F0 := Frm.keep hdr ht (Keep.same (T := T) ((same_new (o := .lst ((rgI n).map V.int)) nle).trans (same_new (o := .lst []) nfo)))
    refine ⟨fun k σ H2 => ∃ left found : List Int, σ = [some (.ref d), some (.int (n : Int)), some (.ref le), some (.ref fo)] ∧ k = left.length ∧ Frm T d nu H H2 ∧ H2 le = some (.lst (left.map V.int)) ∧ H2 fo = some (.lst (found.map V.int)) ∧ (found ++ left).Perm (rgI n), ⟨_, rgI n, [], rfl, rfl, F0, same_new nfo _ _ upd_same, upd_same, List.Perm.refl _⟩, ?_⟩
    rintro k σ H2 ⟨left, found, rfl, rfl, A2, e2l, e2f, pm⟩
    have hlen : found.length + left.length = n := by
      have := pm.length_eq
      rw [List.length_append] at this
      rw [this]
      unfold rgI
      rw [List.length_map, List.length_range, Int.toNat_natCast]
    have t2 := A2.tabs ht
    refine ⟨.ref le, rfl, Nat.zero_le _, fun pe npe => ?_⟩
    have A3 := A2.trans (Frm.keep A2.drw t2 (Keep.new (T := T) (o := .lst []) npe))
    have e3l := same_new (o := .lst []) npe _ _ e2l
    have e3f := same_new (o := .lst []) npe _ _ e2f
    have e3n : (upd H2 pe (.lst [])) pe = some (.lst []) := upd_same
    generalize upd H2 pe (.lst []) = H3 at A3 e3l e3f e3n ⊢
    have t3 := A3.tabs ht
    refine ⟨.list (left.map .int), .list [], .lst (.of e3l) (dps_ints left), .lst (.of e3n) .nil, ints_shaped left, rfl, _, rfl, ite2 (fun e => ?_) fun e => ?_⟩
    · have hne : left ≠ [] := fun z => by rw [z] at e; cases e
      refine ⟨fun σ H2 => ∃ left' found : List Int, σ = [some (.ref d), some (.int (n : Int)), some (.ref le), some (.ref fo)] ∧ left'.length < left.length ∧ Frm T d nu H H2 ∧ H2 le = some (.lst (left'.map V.int)) ∧ H2 fo = some (.lst (found.map V.int)) ∧ (found ++ left').Perm (rgI n), fun σ' H' ⟨l', f', a1, a2, a3⟩ => ⟨_, a2, l', f', a1, rfl, a3⟩, ?_⟩
      refine ⟨.ref fo, rfl, .inl ⟨rfl, _, .of e3f⟩, .ref d, rfl, .ref le, rfl, d, nu, le, _, rfl, e3l, l1, l2, nT_of t3 e3l (fun ps z => by cases z), ?_, ?_, A3.drw, fun j v H4 hv fr => ?_⟩
      · rw [List.length_map]; exact List.length_pos_iff.mpr hne
      · rw [List.length_map]; omega
      · obtain ⟨l, rfl, hl⟩ : ∃ l : Int, v = .int l ∧ l ∈ left := by
          rw [List.getElem?_map] at hv
          cases hj : left[j]? with
          | none => rw [hj] at hv; cases hv
          | some l =>
            rw [hj] at hv
            exact ⟨l, (Option.some.inj hv).symm, List.mem_of_getElem? hj⟩
        have A4 := A3.trans fr
        have e4l := fr.lst t3 e3l l1 l2
        have e4f := fr.lst t3 e3f f1 f2
        refine ⟨fo, _, _, rfl, rfl, e4f, small1000 (by rw [List.length_map]; omega), ?_⟩
        have A5 := A4.own hdr ht nfo0 (o := .lst (found.map V.int ++ [.int l]))
        have e5f : (upd H4 fo (.lst (found.map V.int ++ [.int l]))) fo = some (.lst (found.map V.int ++ [.int l])) := upd_same
        have e5l : (upd H4 fo (.lst (found.map V.int ++ [.int l]))) le = some (.lst (left.map V.int)) := by rw [upd_ne nlf]; exact e4l
        obtain ⟨g1, g2, g3⟩ := first_ix hl
        refine ⟨.ref le, rfl, .inl ⟨rfl, _, .of e5l⟩, .ref fo, rfl, 1, rfl, fo, _, -1, .int l, rfl, rfl, .inl (.of e5f), atI_last _ _, le, left, l, _, rfl, rfl, e5l, g1, g2, ?_⟩
        rw [g3]
        refine ⟨left.erase l, found ++ [l], rfl, ?_, A5.own hdr ht nle, upd_same, ?_, ?_⟩
        · rw [List.length_erase_of_mem hl]
          have := List.length_pos_iff.mpr hne
          omega
        · rw [upd_ne nlf.symm, e5f, List.map_append]; rfl
        · rw [List.append_assoc]
          exact (List.Perm.append_left found (List.perm_cons_erase hl).symm).trans pm
    · have hz : left = [] := by
        cases left with
        | nil => rfl
        | cons a r => exact absurd rfl e
      subst hz
      rw [List.append_nil] at pm
      refine ⟨.ref fo, rfl, fo, _, rfl, .inl ⟨.inl (.of e3f), fun p np => ?_⟩⟩
      exact q p found _ (.of upd_same) pm (A3.trans (Frm.keep A3.drw t3 (Keep.new (T := T) np)))
end
end K13

namespace K13
open PySem PySem.Spec PyProof.Rows L2 DA
/-! ### _law_scheduler -/
abbrev sLSch : Stmt := top 26
abbrev nLSch : List Str := ["_law_draws", "_law_size", "_law_kind", "_law_tops", "_law_rule", "_law_quanta", "_law_top", "_law_level", "_law_slot"]
theorem scLSch : FnScope nLSch ["_law_draws", "_law_size"] (defScope sLSch) := ⟨rfl, rfl, rfl, by decide +kernel, rfl, by decide +kernel, by decide +kernel⟩
abbrev intT (l : List Int) : PD := .tuple (l.map .int)
theorem flat_intT : ∀ l : List Int, flatP (intT l) = true
  | [] => rfl
  | k :: l => flat_intT l
inductive SchedG (n : Nat) : PD → Prop where
  | first : SchedG n (.tuple [.str "first"])
  | last : SchedG n (.tuple [.str "last"])
  | order {ls : List Int} {t : Int} {r : PD} : ls.Perm (rgI n) → 0 ≤ t → t < 2 → (r = .tuple [.str "plain"] ∨ r = .tuple [.str "lent"] ∨ ∃ a b : Int, 0 ≤ a ∧ a < n ∧ 0 ≤ b ∧ b < n ∧ r = .tuple [.str "top", .tuple [.int a, .int b]]) → SchedG n (.tuple [.str "order", intT ls, .int t, r])
  | rounds {q l : Int} : 1 ≤ q → q ≤ 4 → 0 ≤ l → l ≤ 1 → SchedG n (.tuple [.str "rounds", .int q, .int l])
  | levels {qs : List Int} {b : Int} : 1 ≤ qs.length → qs.length ≤ 3 → (∀ x ∈ qs, 1 ≤ x ∧ x ≤ 4) → 0 ≤ b → b ≤ 8 → SchedG n (.tuple [.str "levels", intT qs, .int b])
  | aging {ls : List Int} {b : Int} : ls.Perm (rgI n) → 1 ≤ b → b ≤ 3 → SchedG n (.tuple [.str "aging", intT ls, .int b])
  | due {xs : List Int} : xs.length = n → (∀ x ∈ xs, 1 ≤ x ∧ x ≤ 6) → SchedG n (.tuple [.str "due", intT xs])
  | shares {xs : List Int} : xs.length = n → (∀ x ∈ xs, 1 ≤ x ∧ x ≤ 4) → SchedG n (.tuple [.str "shares", intT xs])
section
variable {P : Program} {w : World} {K : PySem.W.Frag} {mg : Str → Option Value} {base : Heap} {f : Addr} {fd : FuncData} {T : List Addr}
def spLSch (K : PySem.W.Frag) (T : List Addr) : Sp := fun vs H Q _ => ∃ (d nu : Addr) (n : Nat), vs = [.ref d, .int (n : Int)] ∧ 1 ≤ n ∧ n ≤ 4 ∧ Tabs T H ∧ Drw H d nu ∧ ∀ (p : Addr) (x : PD) H', Dp K H' (.ref p) x → SchedG n x → Frm T d nu H H' → Q (.ref p) H'
theorem ok_lsch {fD fP fO : Addr} {dD dP dO : FuncData} (F : Fun K "_law_scheduler" "_law_scheduler" sLSch f fd) (G : Glob mg) (cD : Cal P w K mg base "_law_draw" 1 ["_law_draws", "_law_limit"] (spDraw T) fD dD)
    (cP : Cal P w K mg base "_law_pick" 2 ["_law_draws", "_law_choices"] (spPick K T) fP dP) (cO : Cal P w K mg base "_law_order" 3 ["_law_draws", "_law_size"] (spLOrd K T) fO dO) : FnOk P w K mg base CX0 4 f fd ["_law_draws", "_law_size"] (spLSch K T) := by
  refine F.ok scLSch (fun vs H Q E h => ?_) (fun cdv A outer s H vs Q E hr h => ?_)
  · obtain ⟨d, nu, n, rfl, _⟩ := h
    rfl
  · obtain ⟨d, nu, n, rfl, n1, n4, ht, hdr, q⟩ := h
    have hr1 : Room 1 _ := hr.mono (by decide)
    have hr2 : Room 2 _ := hr.mono (by decide)
    refine ⟨_, (pss_cons (ps_set (i := 2) scLSch.nd rfl (.inl rfl) (pe_call cP.ok hr2 (by rfl) cP.g cP.kp cP.b .nil pass0 (pa_cons (pv 0) (pa_cons (pe_lst (pa_cons pe_str (pa_cons pe_str (pa_cons pe_str (pa_cons pe_str (pa_cons pe_str (pa_cons pe_str (pa_cons pe_str (pa_cons pe_str pa_nil))))))))) pa_nil)))) (pss_cons (ps_if (pt_cmpR op_in_seq (pv 2) (pe_tup (pa_cons pe_str (pa_cons pe_str pa_nil))) (by rfl)) (pss_one (ps_ret (pe_tup (pa_cons (pv 2) pa_nil)))) pss_nil) (pss_cons (ps_if (pt_cmpR op_eq (pv 2) pe_str (nomark _)) (pss_cons (ps_set (i := 3) scLSch.nd rfl (.inl rfl) (pe_tup (pa_cons (pe_call cD.ok hr1 (by rfl) cD.g cD.kp cD.b .nil pass0 (pa_cons (pv 0) (pa_cons (pv 1) pa_nil))) (pa_cons (pe_call cD.ok hr1 (by rfl) cD.g cD.kp cD.b .nil pass0 (pa_cons (pv 0) (pa_cons (pv 1) pa_nil))) pa_nil)))) (pss_cons (ps_set (i := 4) scLSch.nd rfl (.inl rfl) (pe_call cP.ok hr2 (by rfl) cP.g cP.kp cP.b .nil pass0 (pa_cons (pv 0) (pa_cons (pe_lst (pa_cons (pe_tup (pa_cons pe_str pa_nil)) (pa_cons (pe_tup (pa_cons pe_str pa_nil)) (pa_cons (pe_tup (pa_cons pe_str (pa_cons (pv 3) pa_nil))) pa_nil)))) pa_nil)))) (pss_one (ps_ret (pe_tup (pa_cons (pv 2) (pa_cons (pe_call cO.ok hr (by rfl) cO.g cO.kp cO.b .nil pass0 (pa_cons (pv 0) (pa_cons (pv 1) pa_nil))) (pa_cons (pe_call cD.ok hr1 (by rfl) cD.g cD.kp cD.b .nil pass0 (pa_cons (pv 0) (pa_cons pe_int pa_nil))) (pa_cons (pv 4) pa_nil))))))))) pss_nil) (pss_cons (ps_if (pt_cmpR op_eq (pv 2) pe_str (nomark _)) (pss_one (ps_ret (pe_tup (pa_cons (pv 2) (pa_cons (pe_op op_add pe_int (pe_call cD.ok hr1 (by rfl) cD.g cD.kp cD.b .nil pass0 (pa_cons (pv 0) (pa_cons pe_int pa_nil)))) (pa_cons (pe_call cD.ok hr1 (by rfl) cD.g cD.kp cD.b .nil pass0 (pa_cons (pv 0) (pa_cons pe_int pa_nil))) pa_nil)))))) pss_nil) (pss_cons (ps_if (pt_cmpR op_eq (pv 2) pe_str (nomark _)) (pss_cons (ps_set (i := 5) scLSch.nd rfl (.inl rfl) (pe_callTy call_tuple_of (by rfl) G.tuple (by decide +kernel) (pa_cons (pe_lc (own := [("_law_level", 7)]) (g := gName 7) (tt := tYes) (te := tOp (rI0 fun i j => .int (i + j)) (tC (.int 1)) (tCall (spDraw T) [] E0 (tCons (tVar 0) (tCons (tC (.int 4)) tNil)))) rfl scLSch.nd (pi_range1 (by rfl) G.range (pa_cons (pe_op op_add pe_int (pe_call cD.ok hr1 (by rfl) cD.g cD.kp cD.b .nil pass0 (pa_cons (pv 0) (pa_cons pe_int pa_nil)))) pa_nil)) (blkOk_by (N := nLSch) (sc := defScope sLSch) (by decide +kernel)) (fun _ _ _ _ _ => (pg_name (i := 7) scLSch.nd rfl (.inl rfl))) (fun _ _ _ _ _ => pts_nil) (fun _ _ _ _ _ => (pe_op op_add pe_int (pe_call cD.ok hr1 (by rfl) cD.g cD.kp cD.b .nil pass0 (pa_cons (pv 0) (pa_cons pe_int pa_nil)))))) pa_nil))) (pss_one (ps_ret (pe_tup (pa_cons (pv 2) (pa_cons (pv 5) (pa_cons (pe_call cP.ok hr2 (by rfl) cP.g cP.kp cP.b .nil pass0 (pa_cons (pv 0) (pa_cons (pe_lst (pa_cons pe_int (pa_cons pe_int (pa_cons (pe_op op_add pe_int (pe_call cD.ok hr1 (by rfl) cD.g cD.kp cD.b .nil pass0 (pa_cons (pv 0) (pa_cons pe_int pa_nil)))) pa_nil)))) pa_nil))) pa_nil))))))) pss_nil) (pss_cons (ps_if (pt_cmpR op_eq (pv 2) pe_str (nomark _)) (pss_one (ps_ret (pe_tup (pa_cons (pv 2) (pa_cons (pe_call cO.ok hr (by rfl) cO.g cO.kp cO.b .nil pass0 (pa_cons (pv 0) (pa_cons (pv 1) pa_nil))) (pa_cons (pe_op op_add pe_int (pe_call cD.ok hr1 (by rfl) cD.g cD.kp cD.b .nil pass0 (pa_cons (pv 0) (pa_cons pe_int pa_nil)))) pa_nil)))))) pss_nil) (pss_cons (ps_set (i := 6) scLSch.nd rfl (.inr rfl) (pe_ifExp (pt_cmpR op_eq (pv 2) pe_str (nomark _)) pe_int pe_int)) (pss_one (ps_ret (pe_tup (pa_cons (pv 2) (pa_cons (pe_callTy call_tuple_of (by rfl) G.tuple (by decide +kernel) (pa_cons (pe_lc (own := [("_law_slot", 8)]) (g := gName 8) (tt := tYes) (te := tOp (rI0 fun i j => .int (i + j)) (tC (.int 1)) (tCall (spDraw T) [] E0 (tCons (tVar 0) (tCons (tVar 6) tNil)))) rfl scLSch.nd (pi_range1 (by rfl) G.range (pa_cons (pv 1) pa_nil)) (blkOk_by (N := nLSch) (sc := defScope sLSch) (by decide +kernel)) (fun _ _ _ _ _ => (pg_name (i := 8) scLSch.nd rfl (.inl rfl))) (fun _ _ _ _ _ => pts_nil) (fun _ _ _ _ _ => (pe_op op_add pe_int (pe_call cD.ok hr1 (by rfl) cD.g cD.kp cD.b .nil pass0 (pa_cons (pv 0) (pa_cons (pv 6) pa_nil)))))) pa_nil)) pa_nil)))))))))))), ?_⟩
    refine ⟨.ref d, rfl, by show 8 ≤ sizeLine; decide, fun pc npc => ?_⟩
    have F1 := Frm.keep hdr ht (Keep.new (T := T) (o := .lst [.str "first", .str "last", .str "order", .str "rounds", .str "levels", .str "aging", .str "due", .str "shares"]) npc)
    obtain ⟨c1, c2⟩ := hdr.ne npc
    refine ⟨d, nu, pc, _, rfl, upd_same, c1, c2, nT_of (F1.tabs ht) upd_same (fun ps z => by cases z), by show 1 ≤ 8; decide, by show 8 ≤ 1000; decide, F1.drw, fun j v H2 hv fr2 => ?_⟩
    have F2 := F1.trans fr2
    have hm := List.mem_of_getElem? hv
    simp only [List.mem_cons, List.not_mem_nil, or_false] at hm
    rcases hm with rfl | rfl | rfl | rfl | rfl | rfl | rfl | rfl
    · refine ⟨.str "first", rfl, by show 2 ≤ sizeLine; decide, fun p3 np3 => ⟨p3, _, rfl, .inr (.inl (.inl upd_same)), rfl, rfl, _, rfl, ite2 (fun _ => ?_) fun e => absurd (by decide +kernel) e⟩⟩
      have F3 := F2.trans (Frm.keep F2.drw (F2.tabs ht) (Keep.new (T := T) (o := .tup [.str "first", .str "last"]) np3))
      generalize upd H2 p3 (.tup [.str "first", .str "last"]) = H3 at F3 ⊢
      have t3 := F3.tabs ht
      exact ⟨.str "first", rfl, by show 1 ≤ sizeLine; decide, fun p np => q p _ _ (.tup (.of upd_same) (.cons (.str _) .nil)) .first (F3.trans (Frm.keep F3.drw t3 (Keep.new (T := T) np)))⟩
    · refine ⟨.str "last", rfl, by show 2 ≤ sizeLine; decide, fun p3 np3 => ⟨p3, _, rfl, .inr (.inl (.inl upd_same)), rfl, rfl, _, rfl, ite2 (fun _ => ?_) fun e => absurd (by decide +kernel) e⟩⟩
      have F3 := F2.trans (Frm.keep F2.drw (F2.tabs ht) (Keep.new (T := T) (o := .tup [.str "first", .str "last"]) np3))
      generalize upd H2 p3 (.tup [.str "first", .str "last"]) = H3 at F3 ⊢
      have t3 := F3.tabs ht
      exact ⟨.str "last", rfl, by show 1 ≤ sizeLine; decide, fun p np => q p _ _ (.tup (.of upd_same) (.cons (.str _) .nil)) .last (F3.trans (Frm.keep F3.drw t3 (Keep.new (T := T) np)))⟩
    · refine ⟨.str "order", rfl, by show 2 ≤ sizeLine; decide, fun p3 np3 => ⟨p3, _, rfl, .inr (.inl (.inl upd_same)), rfl, rfl, _, rfl, ite2 (fun e => absurd e (by decide +kernel)) fun _ => ?_⟩⟩
      have F3 := F2.trans (Frm.keep F2.drw (F2.tabs ht) (Keep.new (T := T) (o := .tup [.str "first", .str "last"]) np3))
      generalize upd H2 p3 (.tup [.str "first", .str "last"]) = H3 at F3 ⊢
      have t3 := F3.tabs ht
      refine ⟨.str "order", rfl, rfl, _, rfl, ite2 (fun _ => ?_) fun e => absurd (by decide +kernel) e⟩
      refine ⟨.ref d, rfl, .int (n : Int), rfl, d, nu, n, rfl, by omega, by omega, F3.drw, fun a H4 a0 a1 fr4 => ⟨.ref d, rfl, .int (n : Int), rfl, d, nu, n, rfl, by omega, by omega, fr4.drw, fun b H5 b0 b1 fr5 => ⟨by show 2 ≤ sizeLine; decide, fun pt npt => ?_⟩⟩⟩
      have F5 := (F3.trans fr4).trans fr5
      refine ⟨.ref d, rfl, by show 1 ≤ sizeLine; decide, fun r1 m1 => ⟨by show 1 ≤ sizeLine; decide, fun r2 m2 => ⟨.ref pt, rfl, by show 2 ≤ sizeLine; decide, fun r3 m3 => ⟨by show 3 ≤ sizeLine; decide, fun rl ml => ?_⟩⟩⟩⟩
      have k1 := Keep.new (T := T) (o := .tup [.int a, .int b]) npt
      have k2 := Keep.new (T := T) (o := .tup [.str "plain"]) m1
      have k3 := Keep.new (T := T) (o := .tup [.str "lent"]) m2
      have k4 := Keep.new (T := T) (o := .tup [.str "top", .ref pt]) m3
      have k5 := Keep.new (T := T) (o := .lst [.ref r1, .ref r2, .ref r3]) ml
      have t5 := F5.tabs ht
      have F6 := F5.trans (Frm.keep F5.drw t5 ((((k1.trans k2).trans k3).trans k4).trans k5))
      have nrl := F5.drw.ne ((((k1.trans k2).trans k3).trans k4).free t5 ml)
      have DD : DpAll K _ [.ref r1, .ref r2, .ref r3] [.tuple [.str "plain"], .tuple [.str "lent"], .tuple [.str "top", .tuple [.int a, .int b]]] := .cons (.tup (k5.sqT ((((k1.trans k2).trans k3).trans k4).tabs t5) (k4.sqT (((k1.trans k2).trans k3).tabs t5) (k3.sqT ((k1.trans k2).tabs t5) (.of upd_same)))) (.cons (.str _) .nil))
        (.cons (.tup (k5.sqT ((((k1.trans k2).trans k3).trans k4).tabs t5) (k4.sqT (((k1.trans k2).trans k3).tabs t5) (.of upd_same))) (.cons (.str _) .nil))
        (.cons (.tup (k5.sqT ((((k1.trans k2).trans k3).trans k4).tabs t5) (.of upd_same)) (.cons (.str _) (.cons (.tup ((k2.trans (k3.trans (k4.trans k5))).sqT (k1.tabs t5) (.of upd_same)) (.cons (.int _) (.cons (.int _) .nil))) .nil))) .nil))
      have erl : (upd _ rl (.lst [.ref r1, .ref r2, .ref r3])) rl = some (.lst [.ref r1, .ref r2, .ref r3]) := upd_same (H := upd (upd (upd (upd H5 pt (.tup [.int a, .int b])) r1 (.tup [.str "plain"])) r2 (.tup [.str "lent"])) r3 (.tup [.str "top", .ref pt]))
      generalize upd (upd (upd (upd (upd H5 pt (.tup [.int a, .int b])) r1 (.tup [.str "plain"])) r2 (.tup [.str "lent"])) r3 (.tup [.str "top", .ref pt])) rl (.lst [.ref r1, .ref r2, .ref r3]) = H6 at F6 DD erl ⊢
      have t6 := F6.tabs ht
      refine ⟨d, nu, rl, _, rfl, erl, nrl.1, nrl.2, nT_of t6 erl (fun ps z => by cases z), by show 1 ≤ 3; decide, by show 3 ≤ 1000; decide, F6.drw, fun j v H7 hv fr7 => ?_⟩
      obtain ⟨rd, hrd, hdr7⟩ := dps_at (fr7.dps F6.drw t6 rfl DD) hv
      have F7 := F6.trans fr7
      have hrd := List.mem_of_getElem? hrd
      simp only [List.mem_cons, List.not_mem_nil, or_false] at hrd
      have hfl : flatP rd = true := by rcases hrd with z | z | z <;> rw [z] <;> rfl
      refine ⟨.str "order", rfl, .ref d, rfl, .int (n : Int), rfl, d, nu, n, rfl, n4, F7.tabs ht, F7.drw, fun po ls H8 spo pm fr8 => ⟨.ref d, rfl, d, nu, 2, rfl, by decide, by decide, fr8.drw, fun c H9 c0 c1 fr9 => ⟨v, rfl, by show 4 ≤ sizeLine; decide, fun p np => ?_⟩⟩⟩
      have F9 := (F7.trans fr8).trans fr9
      have t8 := (F7.trans fr8).tabs ht
      have dO : Dp K H9 (.ref po) (intT ls) := fr9.dp fr8.drw t8 (flat_intT ls) (.tup spo (dps_ints ls))
      have dR : Dp K H9 v rd := fr9.dp fr8.drw t8 hfl (fr8.dp F7.drw (F7.tabs ht) hfl hdr7)
      have kp := Keep.new (T := T) (o := .tup [.str "order", .ref po, .int c, v]) np
      refine q p _ _ (.tup (.of upd_same) (.cons (.str _) (.cons (dp_keep kp (F9.tabs ht) dO) (.cons (.int _) (.cons (dp_keep kp (F9.tabs ht) dR) .nil))))) (.order pm c0 c1 ?_) (F9.trans (Frm.keep F9.drw (F9.tabs ht) kp))
      rcases hrd with z | z | z
      · exact .inl z
      · exact .inr (.inl z)
      · exact .inr (.inr ⟨a, b, a0, a1, b0, b1, z⟩)
    · refine ⟨.str "rounds", rfl, by show 2 ≤ sizeLine; decide, fun p3 np3 => ⟨p3, _, rfl, .inr (.inl (.inl upd_same)), rfl, rfl, _, rfl, ite2 (fun e => absurd e (by decide +kernel)) fun _ => ?_⟩⟩
      have F3 := F2.trans (Frm.keep F2.drw (F2.tabs ht) (Keep.new (T := T) (o := .tup [.str "first", .str "last"]) np3))
      generalize upd H2 p3 (.tup [.str "first", .str "last"]) = H3 at F3 ⊢
      have t3 := F3.tabs ht
      refine ⟨.str "rounds", rfl, rfl, _, rfl, ite2 (fun e => absurd e (by decide +kernel)) fun _ => ?_⟩
      refine ⟨.str "rounds", rfl, rfl, _, rfl, ite2 (fun _ => ?_) fun e => absurd (by decide +kernel) e⟩
      refine ⟨.str "rounds", rfl, .ref d, rfl, d, nu, 4, rfl, by decide, by decide, F3.drw, fun a H4 a0 a1 fr4 => ⟨1, a, rfl, rfl, .ref d, rfl, d, nu, 2, rfl, by decide, by decide, fr4.drw, fun b H5 b0 b1 fr5 => ⟨by show 3 ≤ sizeLine; decide, fun p np => ?_⟩⟩⟩
      have F5 := (F3.trans fr4).trans fr5
      exact q p _ _ (.tup (.of upd_same) (.cons (.str _) (.cons (.int _) (.cons (.int _) .nil)))) (.rounds (by omega) (by omega) b0 (by omega)) (F5.trans (Frm.keep F5.drw (F5.tabs ht) (Keep.new (T := T) np)))
    · refine ⟨.str "levels", rfl, by show 2 ≤ sizeLine; decide, fun p3 np3 => ⟨p3, _, rfl, .inr (.inl (.inl upd_same)), rfl, rfl, _, rfl, ite2 (fun e => absurd e (by decide +kernel)) fun _ => ?_⟩⟩
      have F3 := F2.trans (Frm.keep F2.drw (F2.tabs ht) (Keep.new (T := T) (o := .tup [.str "first", .str "last"]) np3))
      generalize upd H2 p3 (.tup [.str "first", .str "last"]) = H3 at F3 ⊢
      have t3 := F3.tabs ht
      refine ⟨.str "levels", rfl, rfl, _, rfl, ite2 (fun e => absurd e (by decide +kernel)) fun _ => ?_⟩
      refine ⟨.str "levels", rfl, rfl, _, rfl, ite2 (fun e => absurd e (by decide +kernel)) fun _ => ?_⟩
      refine ⟨.str "levels", rfl, rfl, _, rfl, ite2 (fun _ => ?_) fun e => absurd (by decide +kernel) e⟩
      refine ⟨.ref d, rfl, d, nu, 3, rfl, by decide, by decide, F3.drw, fun c H4 c0 c1 fr4 => ?_⟩
      have F4 := F3.trans fr4
      refine ⟨1, c, rfl, rfl, 1 + c, rfl, by omega, by omega, fun Dl nDl => lc_range (lo := 0) (n := (1 + c).toNat) (fun j H5 => ∃ xs : List Int, Frm T d nu H H5 ∧ H5 Dl = some (.lst (xs.map V.int)) ∧ xs.length = j ∧ ∀ x ∈ xs, 1 ≤ x ∧ x ≤ 4) ⟨[], F4.trans (Frm.keep F4.drw (F4.tabs ht) (Keep.new (T := T) nDl)), upd_same, rfl, (fun _ z => nomatch z)⟩ ?_ ?_⟩
      · rintro j H5 hj ⟨xs, A5, e5, hl, hx⟩
        obtain ⟨q1, q2⟩ := F4.drw.ne nDl
        refine ⟨rfl, .ref d, rfl, d, nu, 4, rfl, by decide, by decide, A5.drw, fun r H6 r0 r1 fr6 => ⟨1, r, rfl, rfl, _, fr6.lst (A5.tabs ht) e5 q1 q2, small1000 (by rw [List.length_map]; omega), xs ++ [1 + r], (A5.trans fr6).own hdr ht (F4.free hdr ht nDl), by rw [upd_same, List.map_append]; rfl, by rw [List.length_append, hl]; rfl, fun x hx2 => ?_⟩⟩
        rcases List.mem_append.mp hx2 with z | z
        · exact hx x z
        · rw [List.mem_singleton.mp z]; omega
      rintro H5 ⟨xs, A5, e5, hl, hx⟩
      refine ⟨Dl, _, rfl, .inl ⟨.inl (.of e5), fun pq npq => ?_⟩⟩
      have k6 := Keep.new (T := T) (o := .tup (xs.map V.int)) npq
      have A6 := A5.trans (Frm.keep A5.drw (A5.tabs ht) k6)
      have s6 : SqT K (upd H5 pq (.tup (xs.map V.int))) pq (xs.map V.int) := .of upd_same
      generalize upd H5 pq (.tup (xs.map V.int)) = H6 at A6 s6 ⊢
      refine ⟨.str "levels", rfl, .ref pq, rfl, .ref d, rfl, .ref d, rfl, d, nu, 8, rfl, by decide, by decide, A6.drw, fun e H7 e0 e1 fr7 => ⟨1, e, rfl, rfl, by show 3 ≤ sizeLine; decide, fun pl npl => ?_⟩⟩
      have A7 := A6.trans fr7
      have k8 := Keep.new (T := T) (o := .lst [.int 0, .int 0, .int (1 + e)]) npl
      have A8 := A7.trans (Frm.keep A7.drw (A7.tabs ht) k8)
      obtain ⟨w1, w2⟩ := A7.drw.ne npl
      refine ⟨d, nu, pl, _, rfl, upd_same, w1, w2, nT_of (A8.tabs ht) upd_same (fun ps z => by cases z), by show 1 ≤ 3; decide, by show 3 ≤ 1000; decide, A8.drw, fun j v H9 hv fr9 => ?_⟩
      obtain ⟨b, rfl, b0, b8⟩ : ∃ b : Int, v = .int b ∧ 0 ≤ b ∧ b ≤ 8 := by
        have := List.mem_of_getElem? hv
        simp only [List.mem_cons, List.not_mem_nil, or_false] at this
        rcases this with z | z | z <;> rw [z]
        · exact ⟨0, rfl, by decide, by decide⟩
        · exact ⟨0, rfl, by decide, by decide⟩
        · exact ⟨1 + e, rfl, by omega, by omega⟩
      refine ⟨by show 3 ≤ sizeLine; decide, fun p np => ?_⟩
      have A9 := A8.trans fr9
      have s9 := fr9.sqT A8.drw (A8.tabs ht) (k8.sqT (A7.tabs ht) (fr7.sqT A6.drw (A6.tabs ht) s6))
      have kp := Keep.new (T := T) (o := .tup [.str "levels", .ref pq, .int b]) np
      exact q p _ _ (.tup (.of upd_same) (.cons (.str _) (.cons (.tup (kp.sqT (A9.tabs ht) s9) (dps_ints xs)) (.cons (.int _) .nil)))) (.levels (by omega) (by omega) hx b0 b8) (A9.trans (Frm.keep A9.drw (A9.tabs ht) kp))
    · refine ⟨.str "aging", rfl, by show 2 ≤ sizeLine; decide, fun p3 np3 => ⟨p3, _, rfl, .inr (.inl (.inl upd_same)), rfl, rfl, _, rfl, ite2 (fun e => absurd e (by decide +kernel)) fun _ => ?_⟩⟩
      have F3 := F2.trans (Frm.keep F2.drw (F2.tabs ht) (Keep.new (T := T) (o := .tup [.str "first", .str "last"]) np3))
      generalize upd H2 p3 (.tup [.str "first", .str "last"]) = H3 at F3 ⊢
      have t3 := F3.tabs ht
      refine ⟨.str "aging", rfl, rfl, _, rfl, ite2 (fun e => absurd e (by decide +kernel)) fun _ => ?_⟩
      refine ⟨.str "aging", rfl, rfl, _, rfl, ite2 (fun e => absurd e (by decide +kernel)) fun _ => ?_⟩
      refine ⟨.str "aging", rfl, rfl, _, rfl, ite2 (fun e => absurd e (by decide +kernel)) fun _ => ?_⟩
      refine ⟨.str "aging", rfl, rfl, _, rfl, ite2 (fun _ => ?_) fun e => absurd (by decide +kernel) e⟩
      refine ⟨.str "aging", rfl, .ref d, rfl, .int (n : Int), rfl, d, nu, n, rfl, n4, t3, F3.drw, fun po ls H4 spo pm fr4 => ⟨.ref d, rfl, d, nu, 3, rfl, by decide, by decide, fr4.drw, fun c H5 c0 c1 fr5 => ⟨1, c, rfl, rfl, by show 3 ≤ sizeLine; decide, fun p np => ?_⟩⟩⟩
      have F5 := (F3.trans fr4).trans fr5
      have dO : Dp K H5 (.ref po) (intT ls) := fr5.dp fr4.drw ((F3.trans fr4).tabs ht) (flat_intT ls) (.tup spo (dps_ints ls))
      have kp := Keep.new (T := T) (o := .tup [.str "aging", .ref po, .int (1 + c)]) np
      exact q p _ _ (.tup (.of upd_same) (.cons (.str _) (.cons (dp_keep kp (F5.tabs ht) dO) (.cons (.int _) .nil)))) (.aging pm (by omega) (by omega)) (F5.trans (Frm.keep F5.drw (F5.tabs ht) kp))
    · refine ⟨.str "due", rfl, by show 2 ≤ sizeLine; decide, fun p3 np3 => ⟨p3, _, rfl, .inr (.inl (.inl upd_same)), rfl, rfl, _, rfl, ite2 (fun e => absurd e (by decide +kernel)) fun _ => ?_⟩⟩
      have F3 := F2.trans (Frm.keep F2.drw (F2.tabs ht) (Keep.new (T := T) (o := .tup [.str "first", .str "last"]) np3))
      generalize upd H2 p3 (.tup [.str "first", .str "last"]) = H3 at F3 ⊢
      have t3 := F3.tabs ht
      refine ⟨.str "due", rfl, rfl, _, rfl, ite2 (fun e => absurd e (by decide +kernel)) fun _ => ?_⟩
      refine ⟨.str "due", rfl, rfl, _, rfl, ite2 (fun e => absurd e (by decide +kernel)) fun _ => ?_⟩
      refine ⟨.str "due", rfl, rfl, _, rfl, ite2 (fun e => absurd e (by decide +kernel)) fun _ => ?_⟩
      refine ⟨.str "due", rfl, rfl, _, rfl, ite2 (fun e => absurd e (by decide +kernel)) fun _ => ?_⟩
      refine ⟨.str "due", rfl, rfl, _, rfl, ite2 (fun _ => ?_) fun e => absurd (by decide +kernel) e⟩
      refine ⟨.str "due", rfl, .int (n : Int), rfl, n, rfl, by omega, by omega, fun Dl nDl => lc_range (lo := 0) (n := ((n : Int)).toNat) (fun j H5 => ∃ xs : List Int, Frm T d nu H H5 ∧ H5 Dl = some (.lst (xs.map V.int)) ∧ xs.length = j ∧ ∀ x ∈ xs, 1 ≤ x ∧ x ≤ 6) ⟨[], F3.trans (Frm.keep F3.drw (F3.tabs ht) (Keep.new (T := T) nDl)), upd_same, rfl, (fun _ z => nomatch z)⟩ ?_ ?_⟩
      · rintro j H5 hj ⟨xs, A5, e5, hl, hx⟩
        obtain ⟨q1, q2⟩ := F3.drw.ne nDl
        refine ⟨rfl, .ref d, rfl, .int 6, rfl, d, nu, 6, rfl, by decide, by decide, A5.drw, fun r H6 r0 r1 fr6 => ⟨1, r, rfl, rfl, _, fr6.lst (A5.tabs ht) e5 q1 q2, small1000 (by rw [List.length_map]; omega), xs ++ [1 + r], (A5.trans fr6).own hdr ht (F3.free hdr ht nDl), by rw [upd_same, List.map_append]; rfl, by rw [List.length_append, hl]; rfl, fun x hx2 => ?_⟩⟩
        rcases List.mem_append.mp hx2 with z | z
        · exact hx x z
        · rw [List.mem_singleton.mp z]; omega
      rintro H5 ⟨xs, A5, e5, hl, hx⟩
      refine ⟨Dl, _, rfl, .inl ⟨.inl (.of e5), fun pq npq => ⟨by show 2 ≤ sizeLine; decide, fun p np => ?_⟩⟩⟩
      have k6 := Keep.new (T := T) (o := .tup (xs.map V.int)) npq
      have kp := Keep.new (T := T) (o := .tup [.str "due", .ref pq]) np
      exact q p _ _ (.tup (.of upd_same) (.cons (.str _) (.cons (.tup (kp.sqT (k6.tabs (A5.tabs ht)) (.of upd_same)) (dps_ints xs)) .nil))) (.due (by rw [hl]; rfl) hx) (A5.trans (Frm.keep A5.drw (A5.tabs ht) (k6.trans kp)))
    · refine ⟨.str "shares", rfl, by show 2 ≤ sizeLine; decide, fun p3 np3 => ⟨p3, _, rfl, .inr (.inl (.inl upd_same)), rfl, rfl, _, rfl, ite2 (fun e => absurd e (by decide +kernel)) fun _ => ?_⟩⟩
      have F3 := F2.trans (Frm.keep F2.drw (F2.tabs ht) (Keep.new (T := T) (o := .tup [.str "first", .str "last"]) np3))
      generalize upd H2 p3 (.tup [.str "first", .str "last"]) = H3 at F3 ⊢
      have t3 := F3.tabs ht
      refine ⟨.str "shares", rfl, rfl, _, rfl, ite2 (fun e => absurd e (by decide +kernel)) fun _ => ?_⟩
      refine ⟨.str "shares", rfl, rfl, _, rfl, ite2 (fun e => absurd e (by decide +kernel)) fun _ => ?_⟩
      refine ⟨.str "shares", rfl, rfl, _, rfl, ite2 (fun e => absurd e (by decide +kernel)) fun _ => ?_⟩
      refine ⟨.str "shares", rfl, rfl, _, rfl, ite2 (fun e => absurd e (by decide +kernel)) fun _ => ?_⟩
      refine ⟨.str "shares", rfl, rfl, _, rfl, ite2 (fun e => absurd e (by decide +kernel)) fun _ => ?_⟩
      refine ⟨.str "shares", rfl, .int (n : Int), rfl, n, rfl, by omega, by omega, fun Dl nDl => lc_range (lo := 0) (n := ((n : Int)).toNat) (fun j H5 => ∃ xs : List Int, Frm T d nu H H5 ∧ H5 Dl = some (.lst (xs.map V.int)) ∧ xs.length = j ∧ ∀ x ∈ xs, 1 ≤ x ∧ x ≤ 4) ⟨[], F3.trans (Frm.keep F3.drw (F3.tabs ht) (Keep.new (T := T) nDl)), upd_same, rfl, (fun _ z => nomatch z)⟩ ?_ ?_⟩
      · rintro j H5 hj ⟨xs, A5, e5, hl, hx⟩
        obtain ⟨q1, q2⟩ := F3.drw.ne nDl
        refine ⟨rfl, .ref d, rfl, .int 4, rfl, d, nu, 4, rfl, by decide, by decide, A5.drw, fun r H6 r0 r1 fr6 => ⟨1, r, rfl, rfl, _, fr6.lst (A5.tabs ht) e5 q1 q2, small1000 (by rw [List.length_map]; omega), xs ++ [1 + r], (A5.trans fr6).own hdr ht (F3.free hdr ht nDl), by rw [upd_same, List.map_append]; rfl, by rw [List.length_append, hl]; rfl, fun x hx2 => ?_⟩⟩
        rcases List.mem_append.mp hx2 with z | z
        · exact hx x z
        · rw [List.mem_singleton.mp z]; omega
      rintro H5 ⟨xs, A5, e5, hl, hx⟩
      refine ⟨Dl, _, rfl, .inl ⟨.inl (.of e5), fun pq npq => ⟨by show 2 ≤ sizeLine; decide, fun p np => ?_⟩⟩⟩
      have k6 := Keep.new (T := T) (o := .tup (xs.map V.int)) npq
      have kp := Keep.new (T := T) (o := .tup [.str "shares", .ref pq]) np
      exact q p _ _ (.tup (.of upd_same) (.cons (.str _) (.cons (.tup (kp.sqT (k6.tabs (A5.tabs ht)) (.of upd_same)) (dps_ints xs)) .nil))) (.shares (by rw [hl]; rfl) hx) (A5.trans (Frm.keep A5.drw (A5.tabs ht) (k6.trans kp)))

end
end K13

namespace K13
open PySem PySem.Spec PyProof.Rows L2 DA
/-! ### what is_scheduler answers to the law's values -/
theorem intsOf_map : ∀ l : List Int, intsOf (l.map .int) = l
  | [] => rfl
  | k :: l => by
    show k :: intsOf (l.map .int) = _
    rw [intsOf_map l]
theorem row_ints (l : List Int) (m lo hi : Int) : rowD (intT l) m lo hi = (decide ((l.length : Int) = m) && l.all fun x => decide (lo ≤ x) && decide (x ≤ hi)) := by
  show (decide (((l.map PyData.int).length : Int) = m) && (l.map PyData.int).all fun x => numD x lo hi) = _
  rw [List.length_map, List.all_map]
  rfl
theorem row_ok {l : List Int} {m lo hi : Int} (h1 : (l.length : Int) = m) (h2 : ∀ x ∈ l, lo ≤ x ∧ x ≤ hi) : rowD (intT l) m lo hi = true := by
  rw [row_ints, decide_eq_true h1, Bool.true_and, List.all_eq_true]
  intro x hx
  obtain ⟨a, b⟩ := h2 x hx
  rw [decide_eq_true a, decide_eq_true b]; rfl
theorem row_len {l : List Int} {m lo hi : Int} (h1 : (l.length : Int) ≠ m) : rowD (intT l) m lo hi = false := by
  rw [row_ints, decide_eq_false h1, Bool.false_and]
theorem rgI_len (n : Nat) : (rgI (n : Int)).length = n := by
  unfold rgI
  rw [List.length_map, List.length_range, Int.toNat_natCast]
theorem rgI_sorted (n : Nat) : (rgI (n : Int)).Pairwise (· ≤ ·) := by
  unfold rgI
  rw [List.pairwise_map, Int.toNat_natCast]
  exact List.pairwise_lt_range.imp fun h => by omega
theorem rgI_mem {n : Nat} {x : Int} (h : x ∈ rgI (n : Int)) : 0 ≤ x ∧ x ≤ (n : Int) - 1 := by
  unfold rgI at h
  obtain ⟨k, hk, rfl⟩ := List.mem_map.mp h
  have := List.mem_range.mp hk
  rw [Int.toNat_natCast] at this
  omega
theorem order_perm {ls : List Int} {n : Nat} (h : ls.Perm (rgI n)) : orderD (intT ls) n = true := by
  show (rowD (intT ls) n 0 ((n : Int) - 1) && decide (isort (intsOf (ls.map .int)) = rgI n)) = true
  rw [intsOf_map, row_ok (by rw [h.length_eq, rgI_len]) fun x hx => rgI_mem (h.mem_iff.mp hx), Bool.true_and]
  exact decide_eq_true (sorted_unique ((isort_perm ls).trans h) (isort_sorted ls) (rgI_sorted n))
theorem order_len {ls : List Int} {n : Int} (h : (ls.length : Int) ≠ n) : orderD (intT ls) n = false := by
  show (rowD (intT ls) n 0 (n - 1) && _) = false
  rw [row_len h, Bool.false_and]
theorem order_not {ls : List Int} {n : Nat} (h : isort ls ≠ rgI n) : orderD (intT ls) n = false := by
  show (rowD (intT ls) n 0 ((n : Int) - 1) && decide (isort (intsOf (ls.map .int)) = rgI n)) = false
  rw [intsOf_map, decide_eq_false h, Bool.and_false]
theorem num_ok {x lo hi : Int} (h1 : lo ≤ x) (h2 : x ≤ hi) : numD (.int x) lo hi = true := by
  show (decide (lo ≤ x) && decide (x ≤ hi)) = true
  rw [decide_eq_true h1, decide_eq_true h2]; rfl
theorem num_no {x lo hi : Int} (h : x < lo ∨ hi < x) : numD (.int x) lo hi = false := by
  show (decide (lo ≤ x) && decide (x ≤ hi)) = false
  rcases h with h | h
  · rw [decide_eq_false (by omega), Bool.false_and]
  · rw [decide_eq_false (show ¬ x ≤ hi by omega), Bool.and_false]
/-- with the word told -/
theorem sched_eq {s : Str} {r : List PD} {n : Int} (h1 : 1 ≤ n) (h4 : n ≤ 4) : schedD (.tuple (.str s :: r)) (.int n) = kindD s (.str s :: r) n := by
  show (numD (.int n) 1 4 && kindD s (.str s :: r) n) = _
  rw [num_ok h1 h4, Bool.true_and]
theorem rule_ok {n : Nat} {r : PD} (h : r = .tuple [.str "plain"] ∨ r = .tuple [.str "lent"] ∨ ∃ a b : Int, 0 ≤ a ∧ a < n ∧ 0 ≤ b ∧ b < n ∧ r = .tuple [.str "top", .tuple [.int a, .int b]]) : ruleD r n = true := by
  rcases h with rfl | rfl | ⟨a, b, a0, a1, b0, b1, rfl⟩
  · rfl
  · rfl
  · show rowD (intT [a, b]) 2 0 ((n : Int) - 1) = true
    refine row_ok rfl fun x hx => ?_
    simp only [List.mem_cons, List.not_mem_nil, or_false] at hx
    rcases hx with rfl | rfl
    · exact ⟨a0, by omega⟩
    · exact ⟨b0, by omega⟩
theorem sched_ok {n : Nat} {x : PD} (h1 : 1 ≤ n) (h4 : n ≤ 4) (g : SchedG n x) : schedD x (.int (n : Int)) = true := by
  have i1 : (1 : Int) ≤ n := by omega
  have i4 : (n : Int) ≤ 4 := by omega
  cases g with
  | first => rw [sched_eq i1 i4]; rfl
  | last => rw [sched_eq i1 i4]; rfl
  | order hp t0 t1 hr =>
    rw [sched_eq i1 i4]
    show ((orderD (intT _) n && numD (.int _) 0 1) && ruleD _ n) = true
    rw [order_perm hp, num_ok t0 (by omega), rule_ok hr]; rfl
  | rounds q1 q4 l0 l1 =>
    rw [sched_eq i1 i4]
    show (numD (.int _) 1 4 && numD (.int _) 0 1) = true
    rw [num_ok q1 q4, num_ok l0 l1]; rfl
  | @levels qs b l1 l3 hx b0 b8 =>
    rw [sched_eq i1 i4]
    show (numD (.int b) 0 8 && (rowD (intT qs) 1 1 4 || (rowD (intT qs) 2 1 4 || rowD (intT qs) 3 1 4))) = true
    rw [num_ok b0 b8, Bool.true_and]
    have : qs.length = 1 ∨ qs.length = 2 ∨ qs.length = 3 := by omega
    rcases this with e | e | e
    · rw [row_ok (m := 1) (by rw [e]; rfl) hx]; rfl
    · rw [row_ok (m := 2) (by rw [e]; rfl) hx, Bool.true_or, Bool.or_true]
    · rw [row_ok (m := 3) (by rw [e]; rfl) hx, Bool.or_true, Bool.or_true]
  | aging hp b1 b3 =>
    rw [sched_eq i1 i4]
    show (orderD (intT _) n && numD (.int _) 1 3) = true
    rw [order_perm hp, num_ok b1 b3]; rfl
  | due hl hx =>
    rw [sched_eq i1 i4]
    exact row_ok (by rw [hl]) hx
  | shares hl hx =>
    rw [sched_eq i1 i4]
    exact row_ok (by rw [hl]) hx
/-- does the size bind it -/
def sizedD (x : PD) : Bool := inV (.str (firstD x)) [.str "order", .str "aging", .str "due", .str "shares"]
theorem sched_other {n m : Nat} {x : PD} (h1 : 1 ≤ m) (h4 : m ≤ 4) (hne : m ≠ n) (g : SchedG n x) (hs : sizedD x = true) : schedD x (.int (m : Int)) = false := by
  have i1 : (1 : Int) ≤ m := by omega
  have i4 : (m : Int) ≤ 4 := by omega
  cases g with
  | first => exact absurd hs (by decide +kernel)
  | last => exact absurd hs (by decide +kernel)
  | @order ls t r hp t0 t1 hr =>
    rw [sched_eq i1 i4]
    show ((orderD (intT ls) m && numD (.int t) 0 1) && ruleD r m) = false
    rw [order_len (by rw [hp.length_eq, rgI_len]; omega)]; rfl
  | rounds q1 q4 l0 l1 =>
    have e : ∀ a b : Int, sizedD (.tuple [.str "rounds", .int a, .int b]) = false := fun a b => by
      show inV (.str "rounds") [.str "order", .str "aging", .str "due", .str "shares"] = false
      decide +kernel
    rw [e] at hs; cases hs
  | @levels qs b l1 l3 hx b0 b8 =>
    have e : ∀ (a : PD) (b : Int), sizedD (.tuple [.str "levels", a, .int b]) = false := fun a b => by
      show inV (.str "levels") [.str "order", .str "aging", .str "due", .str "shares"] = false
      decide +kernel
    rw [e] at hs; cases hs
  | @aging ls b hp b1 b3 =>
    rw [sched_eq i1 i4]
    show (orderD (intT ls) m && numD (.int b) 1 3) = false
    rw [order_len (by rw [hp.length_eq, rgI_len]; omega)]; rfl
  | @due xs hl hx =>
    rw [sched_eq i1 i4]
    exact row_len (by rw [hl]; omega)
  | @shares xs hl hx =>
    rw [sched_eq i1 i4]
    exact row_len (by rw [hl]; omega)
theorem sched_free {n m : Nat} {x : PD} (h1 : 1 ≤ m) (h4 : m ≤ 4) (g : SchedG n x) (hs : sizedD x = false) : schedD x (.int (m : Int)) = true := by
  have g' : SchedG m x := by
    cases g with
    | first => exact .first
    | last => exact .last
    | @order ls t r hp t0 t1 hr =>
      have e : sizedD (.tuple [.str "order", intT ls, .int t, r]) = true := by
        show inV (.str "order") [.str "order", .str "aging", .str "due", .str "shares"] = true
        decide +kernel
      rw [e] at hs; cases hs
    | rounds q1 q4 l0 l1 => exact .rounds q1 q4 l0 l1
    | levels l1 l3 hx b0 b8 => exact .levels l1 l3 hx b0 b8
    | @aging ls b hp b1 b3 =>
      have e : sizedD (.tuple [.str "aging", intT ls, .int b]) = true := by
        show inV (.str "aging") [.str "order", .str "aging", .str "due", .str "shares"] = true
        decide +kernel
      rw [e] at hs; cases hs
    | @due xs hl hx =>
      have e : sizedD (.tuple [.str "due", intT xs]) = true := by
        show inV (.str "due") [.str "order", .str "aging", .str "due", .str "shares"] = true
        decide +kernel
      rw [e] at hs; cases hs
    | @shares xs hl hx =>
      have e : sizedD (.tuple [.str "shares", intT xs]) = true := by
        show inV (.str "shares") [.str "order", .str "aging", .str "due", .str "shares"] = true
        decide +kernel
      rw [e] at hs; cases hs
  exact sched_ok h1 h4 g'
/-- the values that are made bad -/
theorem sched_long {n : Nat} {ds : List PD} {d : PD} (h1 : 1 ≤ n) (h4 : n ≤ 4) (g : SchedG n (.tuple ds)) : schedD (.tuple (ds ++ [d])) (.int (n : Int)) = false := by
  have i1 : (1 : Int) ≤ n := by omega
  have i4 : (n : Int) ≤ 4 := by omega
  generalize hx : PyData.tuple ds = x at g
  cases g <;> (cases hx; first | (rw [List.cons_append, sched_eq i1 i4]; rfl) | rfl)
theorem sched_short {n : Nat} {ds : List PD} (h1 : 1 ≤ n) (h4 : n ≤ 4) (g : SchedG n (.tuple ds)) : schedD (.tuple ds.dropLast) (.int (n : Int)) = false := by
  have i1 : (1 : Int) ≤ n := by omega
  have i4 : (n : Int) ≤ 4 := by omega
  have e0 : schedD (.tuple []) (.int (n : Int)) = false := by
    show (numD (.int (n : Int)) 1 4 && kindD "" [] n) = false
    rw [kind_none (by decide +kernel), Bool.and_false]
  generalize hx : PyData.tuple ds = x at g
  cases g <;> (cases hx; first | exact e0 | (refine (sched_eq i1 i4).trans ?_; rfl))
theorem sched_word {n : Int} {s : Str} {ds : List PD} (h : s ∉ kindNames) : schedD (.tuple (.str s :: ds)) (.int n) = false := by
  show (numD (.int n) 1 4 && kindD s (.str s :: ds) n) = false
  rw [kind_none h, Bool.and_false]
theorem sched_five {ds : List PD} : schedD (.tuple ds) (.int 5) = false := by
  show (numD (.int 5) 1 4 && kindD (firstD (.tuple ds)) ds 5) = false
  rw [num_no (.inr (by decide)), Bool.false_and]
end K13

namespace K13
open PySem PySem.Spec PyProof.Rows L2 DA
/-! ### _law_known, _law_good -/
abbrev sKnown : Stmt := top 29
abbrev nKnown : List Str := ["_law_plain", "_law_odd", "_law_one"]
theorem scKnown : FnScope nKnown [] (defScope sKnown) := ⟨rfl, rfl, rfl, by decide +kernel, rfl, by decide +kernel, by decide +kernel⟩
abbrev sGood : Stmt := top 30
abbrev nGood : List Str := ["_law_good_here", "_law_one", "_law_size"]
theorem scGood : FnScope nGood [] (defScope sGood) := ⟨rfl, rfl, rfl, by decide +kernel, rfl, by decide +kernel, by decide +kernel⟩
section
variable {P : Program} {w : World} {K : PySem.W.Frag} {mg : Str → Option Value} {base : Heap} {f : Addr} {fd : FuncData} {T : List Addr}
theorem holds1 {K : PySem.W.Frag} {σ : L2.St} {H : Hp} {x : Str} {i : Nat} {d : PD} {v : V} (h : σ[i]? = some (some v)) (hd : Dp K H v d) : LT.Holds K [(x, i, d)] σ H := fun y j e hl => by
  rw [List.lookup_cons] at hl
  split at hl
  · cases hl
    exact ⟨v, h, hd⟩
  · cases hl
theorem len_app {a b : List PD} {m : Nat} (h1 : a.length ≤ m) (h2 : b.length ≤ 10) : (a ++ b).length ≤ m + 10 := by
  rw [List.length_append]; omega
def spYes (T : List Addr) : Sp := fun vs H Q _ => vs = [] ∧ Tabs T H ∧ ∀ H', Keep T H H' → Q (.bl true) H'
theorem ok_good {fS : Addr} {dS : FuncData} (F : Fun K "_law_good" "_law_good" sGood f fd) (G : Glob mg) (cS : Cal P w K mg base "is_scheduler" 6 ["value", "size"] (spSched K T) fS dS) : FnOk P w K mg base CX0 7 f fd [] (spYes T) := by
  refine F.ok scGood (fun vs H Q E h => ?_) (fun cdv A outer s H vs Q E hr h => ?_)
  · rw [h.1]; rfl
  · obtain ⟨rfl, ht, q⟩ := h
    refine ⟨_, (pss_cons (ps_set (i := 0) scGood.nd rfl (.inl rfl) (LT.lit_list LT.no_vars (by rfl) (by decide))) (pss_cons (ps_set (i := 0) scGood.nd rfl (.inl rfl) (pe_op op_cat (pv 0) (LT.lit_list LT.no_vars (by rfl) (by decide)))) (pss_cons (ps_if (pt_cmpR (op_neD hr.units) (pe_lc (own := [("_law_one", 1)]) (g := gName 1) (tt := tTest (tOp rNotB (tCall (spSched K T) [] E0 (tCons (tVar 1) (tCons (tC (.int 2)) tNil))) (tC (.bl true)))) (te := tVar 1) rfl scGood.nd (pi_list (pv 0)) (blkOk_by (N := nGood) (sc := defScope sGood) (by decide +kernel)) (fun _ _ _ _ _ => (pg_name (i := 1) scGood.nd rfl (.inl rfl))) (fun _ _ _ _ _ => pts_one (pt_cmpR op_notBl (pe_call cS.ok hr (by rfl) cS.g cS.kp cS.b .nil pass0 (pa_cons (pv 1) (pa_cons pe_int pa_nil))) pe_bl (nomark _))) (fun _ _ _ _ _ => (pv 1))) (pe_lst pa_nil) (nomark _)) (pss_one (ps_ret pe_bl)) pss_nil) (pss_one (ps_ret (pe_cmpR (op_eqD hr.units) (pe_lc (own := [("_law_size", 2)]) (g := gName 2) (tt := tYes) (te := tCall (spSched K T) [] E0 (tCons (tTup (tCons (tC (.str "first")) tNil)) (tCons (tVar 2) tNil))) rfl scGood.nd (pi_tup (pe_tup (pa_cons pe_int (pa_cons pe_int (pa_cons pe_int (pa_cons pe_int pa_nil)))))) (blkOk_by (N := nGood) (sc := defScope sGood) (by decide +kernel)) (fun _ _ _ _ _ => (pg_name (i := 2) scGood.nd rfl (.inl rfl))) (fun _ _ _ _ _ => pts_nil) (fun _ _ _ _ _ => (pe_call cS.ok hr (by rfl) cS.g cS.kp cS.b .nil pass0 (pa_cons (pe_tup (pa_cons pe_str pa_nil)) (pa_cons (pv 2) pa_nil))))) (pe_lst (pa_cons pe_bl (pa_cons pe_bl (pa_cons pe_bl (pa_cons pe_bl pa_nil))))) (nomark _))))))), ?_⟩
    refine ⟨LT.no_holds, fun p1 x1 H1 e1 D1 s1 n1 => ?_⟩
    refine ⟨.ref p1, rfl, LT.no_holds, fun p2 x2 H2 e2 D2 s2 n2 => ?_⟩
    have l1 := dps_len D1
    have l2 := dps_len D2
    obtain ⟨ds, hall, hlen, D3, eln⟩ : ∃ ds : List PD, (ds.all fun x => schedD x (.int 2)) = true ∧ ds.length ≤ 500 ∧ DpAll K H2 (x1 ++ x2) ds ∧ ds.length = (x1 ++ x2).length := ⟨_, by decide +kernel, by decide +kernel, dps_append (LT.dps_of_same s2 D1) D2, by rw [List.length_append, List.length_append, l1, l2]⟩
    refine ⟨p1, p2, x1, x2, rfl, rfl, s2 _ _ e1, e2, by rw [← List.length_append, ← eln]; exact Nat.le_of_lt (small1000 (by omega)), fun p3 n3 => ?_⟩
    have s3 := (s1.trans s2).trans (same_new (o := .lst (x1 ++ x2)) n3)
    have D4 := LT.dps_of_same (same_new (o := .lst (x1 ++ x2)) n3) D3
    have e3 : (upd H2 p3 (.lst (x1 ++ x2))) p3 = some (.lst (x1 ++ x2)) := upd_same
    generalize upd H2 p3 (.lst (x1 ++ x2)) = H3 at s3 D4 e3 ⊢
    have k3 := Keep.same (T := T) s3
    have t3 := k3.tabs ht
    refine ⟨.ref p3, rfl, p3, rfl, ⟨_, .of e3⟩, fun D nD => lc_list (a := p3) (xs := (x1 ++ x2)) (fun j H6 => Keep T H3 H6 ∧ H6 D = some (.lst [])) ⟨Keep.new nD, upd_same⟩ (fun j H6 _ ⟨k6, _⟩ => .of (k6.lst t3 e3)) ?_ ?_⟩
    · rintro j x H6 hx ⟨k6, e6⟩
      obtain ⟨dd, hdd, hdp⟩ := dps_at D4 hx
      have hs : schedD dd (.int 2) = true := by
        have := List.all_eq_true.mp hall dd (List.mem_of_getElem? hdd)
        simpa using this
      refine ⟨rfl, x, rfl, x, .int 2, dd, .int 2, rfl, dp_keep k6 t3 hdp, .int 2, k6.tabs t3, fun H7 k7 => ⟨_, _, rfl, rfl, _, rfl, ite2 (fun e => absurd e (by rw [hs]; decide)) fun _ => ?_⟩⟩
      exact ⟨k6.trans k7, k7.lst (k6.tabs t3) e6⟩
    rintro H6 ⟨k6, e6⟩
    have t6 := k6.tabs t3
    refine ⟨Nat.zero_le _, fun pe npe => ⟨.list [], .list [], .lst (.of (same_new npe _ _ e6)) .nil, .lst (.of upd_same) .nil, rfl, rfl, _, rfl, ite2 (fun e => absurd e (by decide)) fun _ => ?_⟩⟩
    have k7 := k6.trans (Keep.new (T := T) (o := .lst []) npe)
    generalize upd H6 pe (.lst []) = H7 at k7 ⊢
    have t7 := k7.tabs t3
    refine ⟨by show 4 ≤ sizeLine; decide, fun pt npt => ?_⟩
    have kt := Keep.new (T := T) (o := .tup ([0, 1, 4, 5].map V.int)) npt
    refine ⟨pt, rfl, ⟨_, .of upd_same⟩, fun D nD => lc_tup (K := K) (a := pt) (xs := [0, 1, 4, 5].map V.int) (fun j H8 => Keep T H7 H8 ∧ SqT K H8 pt ([0, 1, 4, 5].map V.int) ∧ H8 D = some (.lst ((([0, 1, 4, 5] : List Int).take j).map fun z => V.bl (schedD (.tuple [.str "first"]) (.int z))))) ⟨kt.trans (.new nD), (Keep.new (T := T) nD).sqT (kt.tabs t7) (.of upd_same), upd_same⟩ (fun j H8 _ ⟨_, z, _⟩ => z) ?_ ?_⟩
    · rintro j x H8 hx ⟨k8, st8, e8⟩
      have hj : j < 4 := (List.getElem?_eq_some_iff.mp hx).1
      have ex : x = .int (([0, 1, 4, 5] : List Int)[j]'hj) := by
        rw [List.getElem?_map, List.getElem?_eq_getElem hj] at hx
        exact (Option.some.inj hx).symm
      subst ex
      have t8 := k8.tabs t7
      refine ⟨rfl, by show 1 ≤ sizeLine; decide, fun p np => ⟨.int _, rfl, .ref p, .int _, .tuple [.str "first"], .int _, rfl, .tup (.of upd_same) (.cons (.str _) .nil), .int _, (Keep.new (T := T) np).tabs t8, fun H9 k9 => ?_⟩⟩
      have k10 := (Keep.new (T := T) (o := .tup [.str "first"]) np).trans k9
      refine ⟨_, k10.lst t8 e8, small1000 (by rw [List.length_map, List.length_take]; omega), ?_, ?_, ?_⟩
      · exact (k8.trans k10).own t7 ((kt).free t7 nD)
      · exact sqT_upd (k10.sqT t8 st8) (k10.lst t8 e8)
      · rw [upd_same]
        have et : ([0, 1, 4, 5] : List Int).take (j + 1) = ([0, 1, 4, 5] : List Int).take j ++ [([0, 1, 4, 5] : List Int)[j]'hj] := by rw [List.take_add_one, List.getElem?_eq_getElem hj]; rfl
        rw [et, List.map_append]
        rfl
    rintro H8 ⟨k8, st8, e8⟩
    have e8 : H8 D = some (.lst (([0, 1, 4, 5] : List Int).map fun z => V.bl (schedD (.tuple [.str "first"]) (.int z)))) := e8
    refine ⟨by show 4 ≤ sizeLine; decide, fun pr npr => ?_⟩
    have kr := Keep.new (T := T) (o := .lst [.bl false, .bl true, .bl true, .bl false]) npr
    refine ⟨.list (([0, 1, 4, 5] : List Int).map fun z => PyData.bool (schedD (.tuple [.str "first"]) (.int z))), .list [.bool false, .bool true, .bool true, .bool false], .lst (.of (kr.lst (k8.tabs t7) e8)) (.cons (.bl _) (.cons (.bl _) (.cons (.bl _) (.cons (.bl _) .nil)))), .lst (.of upd_same) (.cons (.bl _) (.cons (.bl _) (.cons (.bl _) (.cons (.bl _) .nil)))), by decide +kernel, by decide +kernel, ?_⟩
    have ev : PyData.eqv (.list (([0, 1, 4, 5] : List Int).map fun z => PyData.bool (schedD (.tuple [.str "first"]) (.int z)))) (.list [.bool false, .bool true, .bool true, .bool false]) = true := by decide +kernel
    rw [ev]
    exact q _ (((k3.trans k7).trans k8).trans kr)
theorem ok_known {fS fG : Addr} {dS dG : FuncData} (F : Fun K "_law_known" "_law_known" sKnown f fd) (G : Glob mg) (cS : Cal P w K mg base "is_scheduler" 6 ["value", "size"] (spSched K T) fS dS) (cG : Cal P w K mg base "_law_good" 7 [] (spYes T) fG dG) :
    FnOk P w K mg base CX0 8 f fd [] (spYes T) := by
  refine F.ok scKnown (fun vs H Q E h => ?_) (fun cdv A outer s H vs Q E hr h => ?_)
  · rw [h.1]; rfl
  · obtain ⟨rfl, ht, q⟩ := h
    have hr0 := hr
    have hr : Room 6 _ := hr0.mono (by decide)
    have hvar : LT.VarOk (cxOf CX0 P w K mg base nKnown "_law_known" (defScope sKnown) f cdv A outer s H E).nox [("_law_plain", 0, .tuple [.str "plain"])] := fun x i d h => by
      rw [List.lookup_cons] at h
      split at h
      · next hx =>
        cases h
        have hx : x = "_law_plain" := by simpa using hx
        subst hx
        exact ⟨rfl, .inl rfl, by decide +kernel, by decide +kernel⟩
      · cases h
    refine ⟨_, (pss_cons (ps_set (i := 0) scKnown.nd rfl (.inl rfl) (LT.pe_data (by rfl))) (pss_cons (ps_set (i := 1) scKnown.nd rfl (.inl rfl) (LT.lit_list LT.no_vars (by rfl) (by decide))) (pss_cons (ps_set (i := 1) scKnown.nd rfl (.inl rfl) (pe_op op_cat (pv 1) (LT.lit_list hvar (by rfl) (by decide)))) (pss_cons (ps_set (i := 1) scKnown.nd rfl (.inl rfl) (pe_op op_cat (pv 1) (LT.lit_list hvar (by rfl) (by decide)))) (pss_cons (ps_set (i := 1) scKnown.nd rfl (.inl rfl) (pe_op op_cat (pv 1) (LT.lit_list hvar (by rfl) (by decide)))) (pss_cons (ps_set (i := 1) scKnown.nd rfl (.inl rfl) (pe_op op_cat (pv 1) (LT.lit_list hvar (by rfl) (by decide)))) (pss_cons (ps_set (i := 1) scKnown.nd rfl (.inl rfl) (pe_op op_cat (pv 1) (LT.lit_list hvar (by rfl) (by decide)))) (pss_cons (ps_set (i := 1) scKnown.nd rfl (.inl rfl) (pe_op op_cat (pv 1) (LT.lit_list hvar (by rfl) (by decide)))) (pss_cons (ps_set (i := 1) scKnown.nd rfl (.inl rfl) (pe_op op_cat (pv 1) (LT.lit_list hvar (by rfl) (by decide)))) (pss_cons (ps_set (i := 1) scKnown.nd rfl (.inl rfl) (pe_op op_cat (pv 1) (LT.lit_list hvar (by rfl) (by decide)))) (pss_cons (ps_set (i := 1) scKnown.nd rfl (.inl rfl) (pe_op op_cat (pv 1) (LT.lit_list hvar (by rfl) (by decide)))) (pss_cons (ps_set (i := 1) scKnown.nd rfl (.inl rfl) (pe_op op_cat (pv 1) (LT.lit_list hvar (by rfl) (by decide)))) (pss_cons (ps_set (i := 1) scKnown.nd rfl (.inl rfl) (pe_op op_cat (pv 1) (LT.lit_list hvar (by rfl) (by decide)))) (pss_cons (ps_if (pt_cmpR (op_neD hr.units) (pe_lc (own := [("_law_one", 2)]) (g := gName 2) (tt := tTest (tOp rNotB (tCall (spSched K T) [] E0 (tCons (tVar 2) (tCons (tC (.int 2)) tNil))) (tC (.bl false)))) (te := tVar 2) rfl scKnown.nd (pi_list (pv 1)) (blkOk_by (N := nKnown) (sc := defScope sKnown) (by decide +kernel)) (fun _ _ _ _ _ => (pg_name (i := 2) scKnown.nd rfl (.inl rfl))) (fun _ _ _ _ _ => pts_one (pt_cmpR op_notBl (pe_call cS.ok hr (by rfl) cS.g cS.kp cS.b .nil pass0 (pa_cons (pv 2) (pa_cons pe_int pa_nil))) pe_bl (nomark _))) (fun _ _ _ _ _ => (pv 2))) (pe_lst pa_nil) (nomark _)) (pss_one (ps_ret pe_bl)) pss_nil) (pss_one (ps_ret (pe_call0 cG.ok hr0 (by rfl) cG.g cG.kp cG.b .nil pass0))))))))))))))))), ?_⟩
    refine ⟨LT.no_holds, fun vp Hp0 dvp sp => ?_⟩
    refine ⟨LT.no_holds, fun p0 x0 H0 e0 D0 s0 n0 => ?_⟩
    have s00 := sp.trans s0
    have dv0 := LT.dp_of_same s0 dvp
    obtain ⟨ds0, hall0, hlen0, D0⟩ : ∃ ds : List PD, (ds.all fun x => !schedD x (.int 2)) = true ∧ ds.length ≤ 10 ∧ DpAll K H0 x0 ds := ⟨_, by decide +kernel, by decide +kernel, D0⟩
    refine ⟨.ref p0, rfl, holds1 rfl dv0, fun q0 y0 J0 f0 E0 u0 m0 => ?_⟩
    obtain ⟨ds1, hall1, hlen1, E0⟩ : ∃ ds : List PD, (ds.all fun x => !schedD x (.int 2)) = true ∧ ds.length ≤ 20 ∧ DpAll K J0 (x0 ++ y0) ds := ⟨_, by rw [List.all_append, hall0]; decide +kernel, len_app hlen0 (by decide +kernel), dps_append (LT.dps_of_same u0 D0) E0⟩
    refine ⟨p0, q0, x0, y0, rfl, rfl, u0 _ _ e0, f0, by rw [← List.length_append, dps_len E0]; exact Nat.le_of_lt (small1000 (by omega)), fun p1 n1 => ?_⟩
    have s10 := (s00.trans u0).trans (same_new (o := .lst (x0 ++ y0)) n1)
    have D1 := LT.dps_of_same (same_new (o := .lst (x0 ++ y0)) n1) E0
    have dv1 := LT.dp_of_same (u0.trans (same_new (o := .lst (x0 ++ y0)) n1)) dv0
    have e1 : (upd J0 p1 (.lst (x0 ++ y0))) p1 = some (.lst (x0 ++ y0)) := upd_same
    generalize upd J0 p1 (.lst (x0 ++ y0)) = H1 at s10 D1 dv1 e1 ⊢
    generalize x0 ++ y0 = x1 at D1 e1 ⊢
    clear D0 E0 f0 e0 dv0
    refine ⟨.ref p1, rfl, holds1 rfl dv1, fun q1 y1 J1 f1 E1 u1 m1 => ?_⟩
    obtain ⟨ds2, hall2, hlen2, E1⟩ : ∃ ds : List PD, (ds.all fun x => !schedD x (.int 2)) = true ∧ ds.length ≤ 30 ∧ DpAll K J1 (x1 ++ y1) ds := ⟨_, by rw [List.all_append, hall1]; decide +kernel, len_app hlen1 (by decide +kernel), dps_append (LT.dps_of_same u1 D1) E1⟩
    refine ⟨p1, q1, x1, y1, rfl, rfl, u1 _ _ e1, f1, by rw [← List.length_append, dps_len E1]; exact Nat.le_of_lt (small1000 (by omega)), fun p2 n2 => ?_⟩
    have s20 := (s10.trans u1).trans (same_new (o := .lst (x1 ++ y1)) n2)
    have D2 := LT.dps_of_same (same_new (o := .lst (x1 ++ y1)) n2) E1
    have dv2 := LT.dp_of_same (u1.trans (same_new (o := .lst (x1 ++ y1)) n2)) dv1
    have e2 : (upd J1 p2 (.lst (x1 ++ y1))) p2 = some (.lst (x1 ++ y1)) := upd_same
    generalize upd J1 p2 (.lst (x1 ++ y1)) = H2 at s20 D2 dv2 e2 ⊢
    generalize x1 ++ y1 = x2 at D2 e2 ⊢
    clear D1 E1 f1 e1 dv1
    refine ⟨.ref p2, rfl, holds1 rfl dv2, fun q2 y2 J2 f2 E2 u2 m2 => ?_⟩
    obtain ⟨ds3, hall3, hlen3, E2⟩ : ∃ ds : List PD, (ds.all fun x => !schedD x (.int 2)) = true ∧ ds.length ≤ 40 ∧ DpAll K J2 (x2 ++ y2) ds := ⟨_, by rw [List.all_append, hall2]; decide +kernel, len_app hlen2 (by decide +kernel), dps_append (LT.dps_of_same u2 D2) E2⟩
    refine ⟨p2, q2, x2, y2, rfl, rfl, u2 _ _ e2, f2, by rw [← List.length_append, dps_len E2]; exact Nat.le_of_lt (small1000 (by omega)), fun p3 n3 => ?_⟩
    have s30 := (s20.trans u2).trans (same_new (o := .lst (x2 ++ y2)) n3)
    have D3 := LT.dps_of_same (same_new (o := .lst (x2 ++ y2)) n3) E2
    have dv3 := LT.dp_of_same (u2.trans (same_new (o := .lst (x2 ++ y2)) n3)) dv2
    have e3 : (upd J2 p3 (.lst (x2 ++ y2))) p3 = some (.lst (x2 ++ y2)) := upd_same
    generalize upd J2 p3 (.lst (x2 ++ y2)) = H3 at s30 D3 dv3 e3 ⊢
    generalize x2 ++ y2 = x3 at D3 e3 ⊢
    clear D2 E2 f2 e2 dv2
    refine ⟨.ref p3, rfl, holds1 rfl dv3, fun q3 y3 J3 f3 E3 u3 m3 => ?_⟩
    obtain ⟨ds4, hall4, hlen4, E3⟩ : ∃ ds : List PD, (ds.all fun x => !schedD x (.int 2)) = true ∧ ds.length ≤ 50 ∧ DpAll K J3 (x3 ++ y3) ds := ⟨_, by rw [List.all_append, hall3]; decide +kernel, len_app hlen3 (by decide +kernel), dps_append (LT.dps_of_same u3 D3) E3⟩
    refine ⟨p3, q3, x3, y3, rfl, rfl, u3 _ _ e3, f3, by rw [← List.length_append, dps_len E3]; exact Nat.le_of_lt (small1000 (by omega)), fun p4 n4 => ?_⟩
    have s40 := (s30.trans u3).trans (same_new (o := .lst (x3 ++ y3)) n4)
    have D4 := LT.dps_of_same (same_new (o := .lst (x3 ++ y3)) n4) E3
    have dv4 := LT.dp_of_same (u3.trans (same_new (o := .lst (x3 ++ y3)) n4)) dv3
    have e4 : (upd J3 p4 (.lst (x3 ++ y3))) p4 = some (.lst (x3 ++ y3)) := upd_same
    generalize upd J3 p4 (.lst (x3 ++ y3)) = H4 at s40 D4 dv4 e4 ⊢
    generalize x3 ++ y3 = x4 at D4 e4 ⊢
    clear D3 E3 f3 e3 dv3
    refine ⟨.ref p4, rfl, holds1 rfl dv4, fun q4 y4 J4 f4 E4 u4 m4 => ?_⟩
    obtain ⟨ds5, hall5, hlen5, E4⟩ : ∃ ds : List PD, (ds.all fun x => !schedD x (.int 2)) = true ∧ ds.length ≤ 60 ∧ DpAll K J4 (x4 ++ y4) ds := ⟨_, by rw [List.all_append, hall4]; decide +kernel, len_app hlen4 (by decide +kernel), dps_append (LT.dps_of_same u4 D4) E4⟩
    refine ⟨p4, q4, x4, y4, rfl, rfl, u4 _ _ e4, f4, by rw [← List.length_append, dps_len E4]; exact Nat.le_of_lt (small1000 (by omega)), fun p5 n5 => ?_⟩
    have s50 := (s40.trans u4).trans (same_new (o := .lst (x4 ++ y4)) n5)
    have D5 := LT.dps_of_same (same_new (o := .lst (x4 ++ y4)) n5) E4
    have dv5 := LT.dp_of_same (u4.trans (same_new (o := .lst (x4 ++ y4)) n5)) dv4
    have e5 : (upd J4 p5 (.lst (x4 ++ y4))) p5 = some (.lst (x4 ++ y4)) := upd_same
    generalize upd J4 p5 (.lst (x4 ++ y4)) = H5 at s50 D5 dv5 e5 ⊢
    generalize x4 ++ y4 = x5 at D5 e5 ⊢
    clear D4 E4 f4 e4 dv4
    refine ⟨.ref p5, rfl, holds1 rfl dv5, fun q5 y5 J5 f5 E5 u5 m5 => ?_⟩
    obtain ⟨ds6, hall6, hlen6, E5⟩ : ∃ ds : List PD, (ds.all fun x => !schedD x (.int 2)) = true ∧ ds.length ≤ 70 ∧ DpAll K J5 (x5 ++ y5) ds := ⟨_, by rw [List.all_append, hall5]; decide +kernel, len_app hlen5 (by decide +kernel), dps_append (LT.dps_of_same u5 D5) E5⟩
    refine ⟨p5, q5, x5, y5, rfl, rfl, u5 _ _ e5, f5, by rw [← List.length_append, dps_len E5]; exact Nat.le_of_lt (small1000 (by omega)), fun p6 n6 => ?_⟩
    have s60 := (s50.trans u5).trans (same_new (o := .lst (x5 ++ y5)) n6)
    have D6 := LT.dps_of_same (same_new (o := .lst (x5 ++ y5)) n6) E5
    have dv6 := LT.dp_of_same (u5.trans (same_new (o := .lst (x5 ++ y5)) n6)) dv5
    have e6 : (upd J5 p6 (.lst (x5 ++ y5))) p6 = some (.lst (x5 ++ y5)) := upd_same
    generalize upd J5 p6 (.lst (x5 ++ y5)) = H6 at s60 D6 dv6 e6 ⊢
    generalize x5 ++ y5 = x6 at D6 e6 ⊢
    clear D5 E5 f5 e5 dv5
    refine ⟨.ref p6, rfl, holds1 rfl dv6, fun q6 y6 J6 f6 E6 u6 m6 => ?_⟩
    obtain ⟨ds7, hall7, hlen7, E6⟩ : ∃ ds : List PD, (ds.all fun x => !schedD x (.int 2)) = true ∧ ds.length ≤ 80 ∧ DpAll K J6 (x6 ++ y6) ds := ⟨_, by rw [List.all_append, hall6]; decide +kernel, len_app hlen6 (by decide +kernel), dps_append (LT.dps_of_same u6 D6) E6⟩
    refine ⟨p6, q6, x6, y6, rfl, rfl, u6 _ _ e6, f6, by rw [← List.length_append, dps_len E6]; exact Nat.le_of_lt (small1000 (by omega)), fun p7 n7 => ?_⟩
    have s70 := (s60.trans u6).trans (same_new (o := .lst (x6 ++ y6)) n7)
    have D7 := LT.dps_of_same (same_new (o := .lst (x6 ++ y6)) n7) E6
    have dv7 := LT.dp_of_same (u6.trans (same_new (o := .lst (x6 ++ y6)) n7)) dv6
    have e7 : (upd J6 p7 (.lst (x6 ++ y6))) p7 = some (.lst (x6 ++ y6)) := upd_same
    generalize upd J6 p7 (.lst (x6 ++ y6)) = H7 at s70 D7 dv7 e7 ⊢
    generalize x6 ++ y6 = x7 at D7 e7 ⊢
    clear D6 E6 f6 e6 dv6
    refine ⟨.ref p7, rfl, holds1 rfl dv7, fun q7 y7 J7 f7 E7 u7 m7 => ?_⟩
    obtain ⟨ds8, hall8, hlen8, E7⟩ : ∃ ds : List PD, (ds.all fun x => !schedD x (.int 2)) = true ∧ ds.length ≤ 90 ∧ DpAll K J7 (x7 ++ y7) ds := ⟨_, by rw [List.all_append, hall7]; decide +kernel, len_app hlen7 (by decide +kernel), dps_append (LT.dps_of_same u7 D7) E7⟩
    refine ⟨p7, q7, x7, y7, rfl, rfl, u7 _ _ e7, f7, by rw [← List.length_append, dps_len E7]; exact Nat.le_of_lt (small1000 (by omega)), fun p8 n8 => ?_⟩
    have s80 := (s70.trans u7).trans (same_new (o := .lst (x7 ++ y7)) n8)
    have D8 := LT.dps_of_same (same_new (o := .lst (x7 ++ y7)) n8) E7
    have dv8 := LT.dp_of_same (u7.trans (same_new (o := .lst (x7 ++ y7)) n8)) dv7
    have e8 : (upd J7 p8 (.lst (x7 ++ y7))) p8 = some (.lst (x7 ++ y7)) := upd_same
    generalize upd J7 p8 (.lst (x7 ++ y7)) = H8 at s80 D8 dv8 e8 ⊢
    generalize x7 ++ y7 = x8 at D8 e8 ⊢
    clear D7 E7 f7 e7 dv7
    refine ⟨.ref p8, rfl, holds1 rfl dv8, fun q8 y8 J8 f8 E8 u8 m8 => ?_⟩
    obtain ⟨ds9, hall9, hlen9, E8⟩ : ∃ ds : List PD, (ds.all fun x => !schedD x (.int 2)) = true ∧ ds.length ≤ 100 ∧ DpAll K J8 (x8 ++ y8) ds := ⟨_, by rw [List.all_append, hall8]; decide +kernel, len_app hlen8 (by decide +kernel), dps_append (LT.dps_of_same u8 D8) E8⟩
    refine ⟨p8, q8, x8, y8, rfl, rfl, u8 _ _ e8, f8, by rw [← List.length_append, dps_len E8]; exact Nat.le_of_lt (small1000 (by omega)), fun p9 n9 => ?_⟩
    have s90 := (s80.trans u8).trans (same_new (o := .lst (x8 ++ y8)) n9)
    have D9 := LT.dps_of_same (same_new (o := .lst (x8 ++ y8)) n9) E8
    have dv9 := LT.dp_of_same (u8.trans (same_new (o := .lst (x8 ++ y8)) n9)) dv8
    have e9 : (upd J8 p9 (.lst (x8 ++ y8))) p9 = some (.lst (x8 ++ y8)) := upd_same
    generalize upd J8 p9 (.lst (x8 ++ y8)) = H9 at s90 D9 dv9 e9 ⊢
    generalize x8 ++ y8 = x9 at D9 e9 ⊢
    clear D8 E8 f8 e8 dv8
    refine ⟨.ref p9, rfl, holds1 rfl dv9, fun q9 y9 J9 f9 E9 u9 m9 => ?_⟩
    obtain ⟨ds10, hall10, hlen10, E9⟩ : ∃ ds : List PD, (ds.all fun x => !schedD x (.int 2)) = true ∧ ds.length ≤ 110 ∧ DpAll K J9 (x9 ++ y9) ds := ⟨_, by rw [List.all_append, hall9]; decide +kernel, len_app hlen9 (by decide +kernel), dps_append (LT.dps_of_same u9 D9) E9⟩
    refine ⟨p9, q9, x9, y9, rfl, rfl, u9 _ _ e9, f9, by rw [← List.length_append, dps_len E9]; exact Nat.le_of_lt (small1000 (by omega)), fun p10 n10 => ?_⟩
    have s100 := (s90.trans u9).trans (same_new (o := .lst (x9 ++ y9)) n10)
    have D10 := LT.dps_of_same (same_new (o := .lst (x9 ++ y9)) n10) E9
    have dv10 := LT.dp_of_same (u9.trans (same_new (o := .lst (x9 ++ y9)) n10)) dv9
    have e10 : (upd J9 p10 (.lst (x9 ++ y9))) p10 = some (.lst (x9 ++ y9)) := upd_same
    generalize upd J9 p10 (.lst (x9 ++ y9)) = H10 at s100 D10 dv10 e10 ⊢
    generalize x9 ++ y9 = x10 at D10 e10 ⊢
    clear D9 E9 f9 e9 dv9
    refine ⟨.ref p10, rfl, holds1 rfl dv10, fun q10 y10 J10 f10 E10 u10 m10 => ?_⟩
    obtain ⟨ds11, hall11, hlen11, E10⟩ : ∃ ds : List PD, (ds.all fun x => !schedD x (.int 2)) = true ∧ ds.length ≤ 120 ∧ DpAll K J10 (x10 ++ y10) ds := ⟨_, by rw [List.all_append, hall10]; decide +kernel, len_app hlen10 (by decide +kernel), dps_append (LT.dps_of_same u10 D10) E10⟩
    refine ⟨p10, q10, x10, y10, rfl, rfl, u10 _ _ e10, f10, by rw [← List.length_append, dps_len E10]; exact Nat.le_of_lt (small1000 (by omega)), fun p11 n11 => ?_⟩
    have s110 := (s100.trans u10).trans (same_new (o := .lst (x10 ++ y10)) n11)
    have D11 := LT.dps_of_same (same_new (o := .lst (x10 ++ y10)) n11) E10
    have dv11 := LT.dp_of_same (u10.trans (same_new (o := .lst (x10 ++ y10)) n11)) dv10
    have e11 : (upd J10 p11 (.lst (x10 ++ y10))) p11 = some (.lst (x10 ++ y10)) := upd_same
    generalize upd J10 p11 (.lst (x10 ++ y10)) = H11 at s110 D11 dv11 e11 ⊢
    generalize x10 ++ y10 = x11 at D11 e11 ⊢
    clear D10 E10 f10 e10 dv10
    have k3 := Keep.same (T := T) s110
    have t3 := k3.tabs ht
    refine ⟨.ref p11, rfl, p11, rfl, ⟨_, .of e11⟩, fun D nD => lc_list (a := p11) (xs := x11) (fun j H6 => Keep T H11 H6 ∧ H6 D = some (.lst [])) ⟨Keep.new nD, upd_same⟩ (fun j H6 _ ⟨k6, _⟩ => .of (k6.lst t3 e11)) ?_ ?_⟩
    · rintro j x H6 hx ⟨k6, e6⟩
      obtain ⟨dd, hdd, hdp⟩ := dps_at D11 hx
      have hs : schedD dd (.int 2) = false := by
        have := List.all_eq_true.mp hall11 dd (List.mem_of_getElem? hdd)
        simpa using this
      refine ⟨rfl, x, rfl, x, .int 2, dd, .int 2, rfl, dp_keep k6 t3 hdp, .int 2, k6.tabs t3, fun H7 k7 => ⟨_, _, rfl, rfl, _, rfl, ite2 (fun e => absurd e (by rw [hs]; decide)) fun _ => ?_⟩⟩
      exact ⟨k6.trans k7, k7.lst (k6.tabs t3) e6⟩
    rintro H6 ⟨k6, e6⟩
    have t6 := k6.tabs t3
    refine ⟨Nat.zero_le _, fun pe npe => ⟨.list [], .list [], .lst (.of (same_new npe _ _ e6)) .nil, .lst (.of upd_same) .nil, rfl, rfl, _, rfl, ite2 (fun e => absurd e (by decide)) fun _ => ?_⟩⟩
    have k7 := k6.trans (Keep.new (T := T) (o := .lst []) npe)
    generalize upd H6 pe (.lst []) = H7 at k7 ⊢
    have t7 := k7.tabs t3
    exact ⟨rfl, t7, fun H8 k8 => q H8 ((k3.trans k7).trans k8)⟩
end
end K13

namespace K13
open PySem PySem.Spec PyProof.Rows L2 DA
/-! ### _law_longer -/
abbrev sLgr : Stmt := top 27
abbrev nLgr : List Str := ["_law_some", "_law_size", "_law_found", "_law_one", "_law_slot"]
theorem scLgr : FnScope nLgr ["_law_some", "_law_size"] (defScope sLgr) := ⟨rfl, rfl, rfl, by decide +kernel, rfl, by decide +kernel, by decide +kernel⟩
def moreI (n : Nat) (o : List Int) : List (List Int) := ((rgI n).filter fun s => decide (s ∉ o)).map fun s => o ++ [s]
def longerI (n : Nat) (l : List (List Int)) : List (List Int) := l.flatMap (moreI n)
theorem inV_ints (n : Int) : ∀ ns : List Int, inV (.int n) (ns.map V.int) = decide (n ∈ ns)
  | [] => by simp [inV]
  | m :: ns => by
    have ih := inV_ints n ns
    show (eqV (.int m) (.int n) || inV (.int n) (ns.map V.int)) = _
    rw [ih]
    show ((m == n) || _) = _
    by_cases h : m = n
    · subst h; simp
    · have h2 : ¬ n = m := fun z => h z.symm
      simp [h, h2]
theorem flatV_ints (ns : List Int) : (ns.map V.int).all flatV = true := by
  induction ns with
  | nil => rfl
  | cons n r ih => rw [List.map_cons, List.all_cons, ih]; rfl
theorem flat_maps : ∀ l : List (List Int), flatPs (l.map intT) = true
  | [] => rfl
  | o :: l => by
    show (flatP (intT o) && flatPs (l.map intT)) = true
    rw [flat_intT, flat_maps l]; rfl
theorem rgI_take {n j : Nat} (h : j < n) : (rgI (n : Int)).take (j + 1) = (rgI (n : Int)).take j ++ [(j : Int)] := by
  have hl : j < (rgI (n : Int)).length := by rw [rgI_len]; exact h
  rw [List.take_add_one, List.getElem?_eq_getElem hl]
  have : (rgI (n : Int))[j] = (j : Int) := by
    unfold rgI
    simp
  rw [this]; rfl
theorem more_len (n : Nat) (o : List Int) : (moreI n o).length ≤ n := by
  unfold moreI
  rw [List.length_map]
  exact Nat.le_trans (List.length_filter_le _ _) (by rw [rgI_len]; exact Nat.le_refl _)
section
variable {P : Program} {w : World} {K : PySem.W.Frag} {mg : Str → Option Value} {base : Heap} {f : Addr} {fd : FuncData}
def spLgr (K : PySem.W.Frag) : Sp := fun vs H Q _ => ∃ (v : V) (L : List (List Int)) (n : Nat), vs = [v, .int (n : Int)] ∧ Dp K H v (.list (L.map intT)) ∧ n ≤ 4 ∧ L.length ≤ 100 ∧ (∀ o ∈ L, o.length ≤ 10) ∧ ∀ p xs H', H' p = some (.lst xs) → DpAll K H' xs ((longerI n L).map intT) → Same H H' → Q (.ref p) H'
theorem ok_lgr (F : Fun K "_law_longer" "_law_longer" sLgr f fd) (G : Glob mg) : FnOk P w K mg base CX0 1 f fd ["_law_some", "_law_size"] (spLgr K) := by
  refine F.ok scLgr (fun vs H Q E h => ?_) (fun cdv A outer s H vs Q E hr h => ?_)
  · obtain ⟨v, L, n, rfl, _⟩ := h
    rfl
  · obtain ⟨v, L, n, rfl, hv, n4, hL, ho, q⟩ := h
    refine ⟨_, (pss_cons (ps_set (i := 2) scLgr.nd rfl (.inl rfl) (pe_lst pa_nil)) (pss_cons (ps_for PassesOwn.never rfl (pi_list (pv 0)) (pg_name (i := 3) scLgr.nd rfl (.inr rfl)) (pss_one (ps_set (i := 2) scLgr.nd rfl (.inl rfl) (pe_op op_cat (pv 2) (pe_lc (own := [("_law_slot", 4)]) (g := gName 4) (tt := tTest (tOp (rIn K true) (tVar 4) (tVar 3))) (te := tOp (rCatA K) (tVar 3) (tTup (tCons (tVar 4) tNil))) rfl scLgr.nd (pi_range1 (by rfl) G.range (pa_cons (pv 1) pa_nil)) (blkOk_by (N := nLgr) (sc := defScope sLgr) (by decide +kernel)) (fun _ _ _ _ _ => (pg_name (i := 4) scLgr.nd rfl (.inl rfl))) (fun _ _ _ _ _ => pts_one (pt_cmpR op_notIn_seq (pv 4) (pv 3) (by rfl))) (fun _ _ _ _ _ => (pe_op op_catA (pv 3) (pe_tup (pa_cons (pv 4) pa_nil))))))))) (pss_one (ps_ret (pv 2))))), ?_⟩
    obtain ⟨a, xs, rfl, h, hD⟩ := dp_list hv
    have hl := dps_len hD
    rw [List.length_map] at hl
    refine ⟨Nat.zero_le _, fun fo nfo => ?_⟩
    refine ⟨.ref a, rfl, a, rfl, ⟨xs, (same_new nfo).seq h⟩, for_list (K := K) (a := a) (xs := xs) (fun i σ H2 => ∃ (p : Addr) (ys : List V) (y3 y4 : Option V), σ = [some (.ref a), some (.int (n : Int)), some (.ref p), y3, y4] ∧ Same H H2 ∧ H2 p = some (.lst ys) ∧ DpAll K H2 ys ((longerI n (L.take i)).map intT) ∧ ys.length ≤ 4 * i)
      ⟨fo, [], none, none, rfl, same_new nfo, upd_same, .nil, Nat.le_refl _⟩ (fun i σ H2 _ ⟨_, _, _, _, _, s2, _⟩ => s2.seq h) ?_ ?_⟩
    · rintro i x σ H2 hx ⟨p, ys, y3, y4, rfl, s2, e2, D2, hy⟩
      have hi : i < L.length := by
        have := (List.getElem?_eq_some_iff.mp hx).1
        omega
      obtain ⟨dd, hdd, hdp⟩ := dps_at hD hx
      have ed : dd = intT L[i] := by
        rw [List.getElem?_map, List.getElem?_eq_getElem hi] at hdd
        exact (Option.some.inj hdd).symm
      subst ed
      obtain ⟨t, ts, rfl, st, Dt⟩ := dp_tup (LT.dp_of_same s2 hdp)
      have ets := dps_ints_inv Dt
      subst ets
      have ol := ho L[i] (List.getElem_mem hi)
      refine ⟨.ref p, rfl, .int (n : Int), rfl, n, rfl, by omega, by omega, fun D nD => lc_range (lo := 0) (n := ((n : Int)).toNat) (fun j H3 => ∃ zs : List V, Same H2 H3 ∧ H3 D = some (.lst zs) ∧ DpAll K H3 zs (((((rgI n).take j).filter fun s => decide (s ∉ L[i])).map fun s => L[i] ++ [s]).map intT)) ⟨[], same_new nD, upd_same, .nil⟩ ?_ ?_⟩
      · rintro j H3 hj ⟨zs, s3, e3, D3⟩
        have hj : j < n := by rw [Int.toNat_natCast] at hj; exact hj
        have st3 : SqT K H3 t (L[i].map V.int) := (Keep.same (T := []) s3).sqT (fun _ z => nomatch z) st
        refine ⟨rfl, .int (0 + j), rfl, .ref t, rfl, t, _, rfl, .inr st3, rfl, flatV_ints _, _, rfl, ?_⟩
        have e7 : (if (true : Bool) = true then !inV (.int (0 + (j : Int))) (L[i].map V.int) else inV (.int (0 + (j : Int))) (L[i].map V.int)) = decide ((j : Int) ∉ L[i]) := by
          rw [if_pos rfl, inV_ints, Int.zero_add]
          simp
        rw [e7]
        have nD2 : ∀ b o, H2 b = some o → b ≠ D := fun b o e => ne_of_none e nD
        by_cases hm : (j : Int) ∉ L[i]
        · rw [decide_eq_true hm]
          refine ⟨.ref t, rfl, .int (0 + j), rfl, by show 1 ≤ sizeLine; decide, fun pt npt => ?_⟩
          have kp := Keep.new (T := []) (o := .tup [.int (0 + j)]) npt
          have st4 := kp.sqT (fun _ z => nomatch z) st3
          have sp4 : SqT K (upd H3 pt (.tup [.int (0 + j)])) pt [.int (0 + j)] := .of upd_same
          have e4 := same_new (o := .tup [.int (0 + j)]) npt _ _ e3
          have D4 := LT.dps_of_same (same_new (o := .tup [.int (0 + j)]) npt) D3
          have s4 := s3.trans (same_new (o := .tup [.int (0 + j)]) npt)
          generalize upd H3 pt (.tup [.int (0 + j)]) = H4 at st4 sp4 e4 D4 s4 ⊢
          have zl : zs.length ≤ 4 := by
            rw [dps_len D4, List.length_map, List.length_map]
            refine Nat.le_trans (List.length_filter_le _ _) ?_
            rw [List.length_take]
            omega
          have fin : ∀ (r : Addr) (H5 : Hp), Same H4 H5 → Dp K H5 (.ref r) (intT (L[i] ++ [(j : Int)])) → ∃ acc, H5 D = some (.lst acc) ∧ acc.length < sizeLine ∧ ∃ zs : List V, Same H2 (upd H5 D (.lst (acc ++ [.ref r]))) ∧ (upd H5 D (.lst (acc ++ [.ref r]))) D = some (.lst zs) ∧ DpAll K (upd H5 D (.lst (acc ++ [.ref r]))) zs (((((rgI n).take (j + 1)).filter fun s => decide (s ∉ L[i])).map fun s => L[i] ++ [s]).map intT) := fun r H5 s5 d5 => by
            have e5 := s5 _ _ e4
            refine ⟨zs, e5, small1000 (by omega), zs ++ [.ref r], fun b o e => ?_, upd_same, ?_⟩
            · rw [upd_ne (nD2 b o e)]
              exact s5 _ _ (s4 b o e)
            · rw [rgI_take hj, List.filter_append, List.map_append, List.map_append]
              have : ([(j : Int)].filter fun s => decide (s ∉ L[i])) = [(j : Int)] := by simp [hm]
              rw [this]
              exact dps_append (dps_upd e5 (flat_maps _) (LT.dps_of_same s5 D4)) (.cons (dp_upd e5 (flat_intT _) d5) .nil)
          have ej : (0 : Int) + j = j := Int.zero_add _
          refine ⟨t, pt, L[i].map V.int, [.int (0 + j)], rfl, rfl, st4, sp4, by rw [List.length_map]; exact Nat.le_of_lt (small1000 (by show _ + 1 ≤ 1000; omega)), fun z => ?_, fun _ z => (nomatch z), fun z _ r nr => ?_⟩
          · have ez : L[i] = [] := by simpa using z
            refine fin pt H4 (Same.refl _) (.tup sp4 ?_)
            rw [ez, ej]
            exact .cons (.int _) .nil
          · refine fin r _ (same_new nr) (.tup (.of upd_same) ?_)
            rw [List.map_append, ej]
            exact dps_append (dps_ints _) (.cons (.int _) .nil)
        · rw [decide_eq_false hm]
          refine ⟨zs, s3, e3, ?_⟩
          rw [rgI_take hj, List.filter_append]
          have : ([(j : Int)].filter fun s => decide (s ∉ L[i])) = [] := by simp at hm; simp [hm]
          rw [this, List.append_nil]
          exact D3
      · rintro H3 ⟨zs, s3, e3, D3⟩
        rw [Int.toNat_natCast, List.take_of_length_le (by rw [rgI_len]; exact Nat.le_refl _)] at D3
        have D3 : DpAll K H3 zs ((moreI n L[i]).map intT) := D3
        have zl : zs.length ≤ 4 := by
          rw [dps_len D3, List.length_map]
          exact Nat.le_trans (more_len n _) n4
        refine ⟨p, D, ys, zs, rfl, rfl, s3 _ _ e2, e3, Nat.le_of_lt (small1000 (by omega)), fun r nr => ?_⟩
        refine ⟨r, ys ++ zs, _, _, rfl, (s2.trans s3).trans (same_new nr), upd_same, ?_, by rw [List.length_append]; omega⟩
        have et : longerI n (L.take (i + 1)) = longerI n (L.take i) ++ moreI n L[i] := by
          unfold longerI
          rw [List.take_add_one, List.getElem?_eq_getElem hi, List.flatMap_append]
          show _ ++ (moreI n L[i] ++ []) = _
          rw [List.append_nil]
        rw [et, List.map_append]
        exact LT.dps_of_same (same_new nr) (dps_append (LT.dps_of_same s3 D2) D3)
    · rintro σ H2 ⟨p, ys, y3, y4, rfl, s2, e2, D2, hy⟩
      rw [hl, List.take_length] at D2
      exact ⟨_, rfl, q p ys H2 e2 D2 s2⟩
end
end K13

namespace K13
open PySem PySem.Spec PyProof.Rows L2 DA
/-! ### _law_odd_orders -/
abbrev sOdd : Stmt := top 28
abbrev nOdd : List Str := ["_law_scheduler_here", "_law_wide", "_law_order_here", "_law_taking", "_law_rule", "_law_odd", "_law_one"]
theorem scOdd : FnScope nOdd ["_law_scheduler_here", "_law_wide"] (defScope sOdd) := ⟨rfl, rfl, rfl, by decide +kernel, rfl, by decide +kernel, by decide +kernel⟩
theorem tup_head {K : PySem.W.Frag} {H : Hp} {v : V} {s : Str} {r : List PD} (h : Dp K H v (.tuple (.str s :: r))) : ∃ a ys, v = .ref a ∧ SqT K H a (.str s :: ys) ∧ DpAll K H ys r := by
  obtain ⟨a, xs, rfl, h1, h2⟩ := dp_tup h
  cases h2 with
  | cons b c =>
    rw [dp_str b] at h1
    exact ⟨a, _, rfl, h1, c⟩
theorem flat_one (k : Nat) : (List.replicate (k + 1) [V.int 0]).flatten = List.replicate (k + 1) (V.int 0) := by
  induction k with
  | zero => rfl
  | succ k ih => rw [List.replicate_succ, List.flatten_cons, ih]; rfl
def Lay (d : PD) : Prop := PyData.canLay0 d = true ∧ PyData.depth d ≤ 3
theorem lay_ints (l : List Int) : Lay (intT l) := by
  constructor
  · show PyData.canLay0 (.tuple (l.map .int)) = true
    simp only [PyData.canLay0]; exact ints_lay l
  · show PyData.depth (.tuple (l.map .int)) ≤ 3
    simp only [PyData.depth, ints_depth]
    decide
theorem lay_int (i : Int) : Lay (.int i) := ⟨rfl, by show PyData.depth (.int i) ≤ 3; simp only [PyData.depth]; decide⟩
theorem lay_bool (i : Bool) : Lay (.bool i) := ⟨rfl, by show PyData.depth (.bool i) ≤ 3; simp only [PyData.depth]; decide⟩
theorem lay_top (l : List Int) : Lay (.tuple [.str "top", intT l]) := by
  obtain ⟨h1, h2⟩ := lay_ints l
  have h3 : PyData.depth (intT l) = 1 := by
    show PyData.depth (.tuple (l.map .int)) = 1
    simp only [PyData.depth, ints_depth]
  constructor
  · show PyData.canLay0 (.tuple [.str "top", intT l]) = true
    simp only [PyData.canLay0, PyData.canLayAll0]
    rw [show PyData.canLayAll0 (l.map .int) = true from ints_lay l]
    decide +kernel
  · show PyData.depth (.tuple [.str "top", intT l]) ≤ 3
    simp only [PyData.depth, PyData.depthAll, ints_depth]
    decide
theorem lay_order {a b c : PD} (h1 : Lay a) (h2 : Lay b) (h3 : Lay c) : SeqAt.shaped (.tuple [.str "order", a, b, c]) = true := by
  show (PyData.canLay0 (.tuple [.str "order", a, b, c]) && decide (PyData.depth (.tuple [.str "order", a, b, c]) ≤ 64)) = true
  have e : PyData.strOk "order" = true := by decide +kernel
  have d1 := h1.2
  have d2 := h2.2
  have d3 := h3.2
  simp only [PyData.canLay0, PyData.canLayAll0, PyData.depth, PyData.depthAll, h1.1, h2.1, h3.1, e, Bool.and_self, Bool.true_and]
  exact decide_eq_true (by omega)
theorem rule_lay {n : Nat} {r : PD} (h : r = .tuple [.str "plain"] ∨ r = .tuple [.str "lent"] ∨ ∃ a b : Int, 0 ≤ a ∧ a < n ∧ 0 ≤ b ∧ b < n ∧ r = .tuple [.str "top", .tuple [.int a, .int b]]) : Lay r ∧ flatP r = true := by
  rcases h with rfl | rfl | ⟨a, b, _, _, _, _, rfl⟩
  · exact ⟨⟨by decide +kernel, by decide +kernel⟩, rfl⟩
  · exact ⟨⟨by decide +kernel, by decide +kernel⟩, rfl⟩
  · exact ⟨lay_top [a, b], rfl⟩
theorem ord_eq {o t r : PD} {n : Nat} (h1 : 1 ≤ n) (h4 : n ≤ 4) : schedD (.tuple [.str "order", o, t, r]) (.int (n : Int)) = ((orderD o n && numD t 0 1) && ruleD r n) := by
  rw [sched_eq (by omega) (by omega)]; rfl
theorem flat_top (l : List Int) : flatP (.tuple [.str "top", intT l]) = true := by
  show (true && (flatP (intT l) && true)) = true
  rw [flat_intT]; rfl
def oddL (ls : List Int) (t : Int) (r : PD) (n : Nat) : List PD := [.tuple [.str "order", intT (ls.reverse ++ [0]), .int t, r], .tuple [.str "order", intT (List.replicate n 0), .int t, r], .tuple [.str "order", intT ls, .int 2, r],
  .tuple [.str "order", intT ls, .int t, .tuple [.str "top", intT [(n : Int), 0]]], .tuple [.str "order", intT ls, .int t, .tuple [.str "top", intT [0]]], .tuple [.str "order", intT ls, .bool true, r]]
theorem odd_false {ls : List Int} {t : Int} {r : PD} {n : Nat} (h1 : 1 ≤ n) (h4 : n ≤ 4) (hp : ls.Perm (rgI n)) (hr : r = .tuple [.str "plain"] ∨ r = .tuple [.str "lent"] ∨ ∃ a b : Int, 0 ≤ a ∧ a < n ∧ 0 ≤ b ∧ b < n ∧ r = .tuple [.str "top", .tuple [.int a, .int b]]) :
    ∀ x ∈ oddL ls t r n, SeqAt.shaped x = true ∧ flatP x = true ∧ ((!PyData.eqv x (.tuple [.str "order", intT ls, .int t, r])) = true → schedD x (.int (n : Int)) = false) := by
  obtain ⟨lr, fr⟩ := rule_lay hr
  have hl : ls.length = n := by rw [hp.length_eq, rgI_len]
  have fl : ∀ (l : List Int) (b c : PD), flatP b = true → flatP c = true → flatP (.tuple [.str "order", intT l, b, c]) = true := fun l b c hb hc => by
    show (true && (flatP (intT l) && (flatP b && (flatP c && true)))) = true
    rw [flat_intT, hb, hc]; rfl
  intro x hx
  unfold oddL at hx
  simp only [List.mem_cons, List.not_mem_nil, or_false] at hx
  rcases hx with rfl | rfl | rfl | rfl | rfl | rfl
  · refine ⟨lay_order (lay_ints _) (lay_int _) lr, fl _ _ _ rfl fr, fun _ => ?_⟩
    rw [ord_eq h1 h4, order_len (by rw [List.length_append, List.length_reverse, hl]; show ((n + 1 : Nat) : Int) ≠ n; omega)]; rfl
  · refine ⟨lay_order (lay_ints _) (lay_int _) lr, fl _ _ _ rfl fr, fun he => ?_⟩
    rw [ord_eq h1 h4]
    by_cases hn : n = 1
    · subst hn
      exfalso
      have e : ls = [0] := by
        have : rgI ((1 : Nat) : Int) = [0] := by decide
        rw [this] at hp
        exact List.perm_singleton.mp hp
      rw [e] at he
      have ee := SeqAt.eqv_refl (.tuple [.str "order", intT [0], .int t, r]) (SeqAt.canLay_of_shaped (lay_order (lay_ints [0]) (lay_int t) lr))
      have he : (!PyData.eqv (.tuple [.str "order", intT [0], .int t, r]) (.tuple [.str "order", intT [0], .int t, r])) = true := he
      rw [ee] at he
      cases he
    · rw [order_not]
      · rfl
      · have h : n = 2 ∨ n = 3 ∨ n = 4 := by omega
        rcases h with rfl | rfl | rfl <;> decide
  · refine ⟨lay_order (lay_ints _) (lay_int _) lr, fl _ _ _ rfl fr, fun _ => ?_⟩
    rw [ord_eq h1 h4, num_no (.inr (by decide)), Bool.and_false, Bool.false_and]
  · refine ⟨lay_order (lay_ints _) (lay_int _) (lay_top _), fl _ _ _ rfl (flat_top _), fun _ => ?_⟩
    rw [ord_eq h1 h4]
    have e : ruleD (.tuple [.str "top", intT [(n : Int), 0]]) n = false := by
      show rowD (intT [(n : Int), 0]) 2 0 ((n : Int) - 1) = false
      rw [row_ints]
      show (decide ((2 : Int) = 2) && ((decide (0 ≤ (n : Int)) && decide ((n : Int) ≤ (n : Int) - 1)) && _)) = false
      rw [decide_eq_false (show ¬ (n : Int) ≤ (n : Int) - 1 by omega), Bool.and_false, Bool.false_and, Bool.and_false]
    rw [e, Bool.and_false]
  · refine ⟨lay_order (lay_ints _) (lay_int _) (lay_top _), fl _ _ _ rfl (flat_top _), fun _ => ?_⟩
    rw [ord_eq h1 h4]
    have e : ruleD (.tuple [.str "top", intT [0]]) n = false := by
      show rowD (intT [0]) 2 0 ((n : Int) - 1) = false
      exact row_len (by decide)
    rw [e, Bool.and_false]
  · refine ⟨lay_order (lay_ints _) (lay_bool _) lr, fl _ _ _ rfl fr, fun _ => ?_⟩
    rw [ord_eq h1 h4, show numD (.bool true) 0 1 = false from rfl, Bool.and_false, Bool.false_and]
section
variable {P : Program} {w : World} {K : PySem.W.Frag} {mg : Str → Option Value} {base : Heap} {f : Addr} {fd : FuncData} {T : List Addr}
def spOdd (K : PySem.W.Frag) (T : List Addr) : Sp := fun vs H Q _ => ∃ (v : V) (x : PD) (n : Nat), vs = [v, .int (n : Int)] ∧ Dp K H v x ∧ SchedG n x ∧ 1 ≤ n ∧ n ≤ 4 ∧ Tabs T H ∧ ∀ H', Q (.bl true) H'
theorem ok_odd {fS fK : Addr} {dS dK : FuncData} (F : Fun K "_law_odd_orders" "_law_odd_orders" sOdd f fd) (G : Glob mg) (cS : Cal P w K mg base "is_scheduler" 6 ["value", "size"] (spSched K T) fS dS) (cK : Cal P w K mg base "_law_known" 8 [] (spYes T) fK dK) :
    FnOk P w K mg base CX0 9 f fd ["_law_scheduler_here", "_law_wide"] (spOdd K T) := by
  refine F.ok scOdd (fun vs H Q E h => ?_) (fun cdv A outer s H vs Q E hr h => ?_)
  · obtain ⟨v, x, n, rfl, _⟩ := h
    rfl
  · obtain ⟨v, x, n, rfl, hv, hg, n1, n4, ht, q⟩ := h
    have hr6 : Room 6 _ := hr.mono (by decide)
    refine ⟨_, (pss_cons (ps_if (pt_cmpR op_eq (pe_ix ix_tup (pv 0) pe_int (fun _ _ => rfl)) pe_str (nomark _)) (pss_cons (ps_asg (pe_slice sl_tup (pv 0) (po_some pe_int) po_none) (pg_tup (by rfl) (pgs_cons (pg_name (i := 2) scOdd.nd rfl (.inl rfl)) (pgs_cons (pg_name (i := 3) scOdd.nd rfl (.inl rfl)) (pgs_cons (pg_name (i := 4) scOdd.nd rfl (.inl rfl)) pgs_nil))))) (pss_cons (ps_set (i := 5) scOdd.nd rfl (.inl rfl) (pe_lst (pa_cons (pe_tup (pa_cons pe_str (pa_cons (pe_op TR.op_catU (TR.pe_back (pv 2) (pe_un un_neg pe_int)) (pe_tup (pa_cons pe_int pa_nil))) (pa_cons (pv 3) (pa_cons (pv 4) pa_nil))))) (pa_cons (pe_tup (pa_cons pe_str (pa_cons (pe_op TR.op_repU (pe_tup (pa_cons pe_int pa_nil)) (pv 1)) (pa_cons (pv 3) (pa_cons (pv 4) pa_nil))))) (pa_cons (pe_tup (pa_cons pe_str (pa_cons (pv 2) (pa_cons pe_int (pa_cons (pv 4) pa_nil))))) pa_nil))))) (pss_cons (ps_set (i := 5) scOdd.nd rfl (.inl rfl) (pe_op op_cat (pv 5) (pe_lst (pa_cons (pe_tup (pa_cons pe_str (pa_cons (pv 2) (pa_cons (pv 3) (pa_cons (pe_tup (pa_cons pe_str (pa_cons (pe_tup (pa_cons (pv 1) (pa_cons pe_int pa_nil))) pa_nil))) pa_nil))))) (pa_cons (pe_tup (pa_cons pe_str (pa_cons (pv 2) (pa_cons (pv 3) (pa_cons (pe_tup (pa_cons pe_str (pa_cons (pe_tup (pa_cons pe_int pa_nil)) pa_nil))) pa_nil))))) (pa_cons (pe_tup (pa_cons pe_str (pa_cons (pv 2) (pa_cons pe_bl (pa_cons (pv 4) pa_nil))))) pa_nil)))))) (pss_one (ps_for PassesOwn.never rfl (pi_list (pv 5)) (pg_name (i := 6) scOdd.nd rfl (.inl rfl)) (pss_one (ps_if (PW.pt (pw_and (pt_cmpR (op_neD hr.units) (pv 6) (pv 0) (nomark _)) (pw_and1 (pt_cmpR op_notBl (pe_call cS.ok hr6 (by rfl) cS.g cS.kp cS.b .nil pass0 (pa_cons (pv 6) (pa_cons (pv 1) pa_nil))) pe_bl (nomark _))))) (pss_one (ps_ret pe_bl)) pss_nil))))))) pss_nil) (pss_one (ps_ret (pe_and (pe_cmpR op_isBl (pe_call cS.ok hr6 (by rfl) cS.g cS.kp cS.b .nil pass0 (pa_cons (pv 0) (pa_cons pe_bl pa_nil))) pe_bl (nomark _)) (pe_and (pe_cmpR op_isBl (pe_call cS.ok hr6 (by rfl) cS.g cS.kp cS.b .nil pass0 (pa_cons (pv 0) (pa_cons pe_non pa_nil))) pe_bl (nomark _)) (pe_one (pe_call0 cK.ok hr (by rfl) cK.g cK.kp cK.b .nil pass0))))))), ?_⟩
    have hb : schedD x (.bool true) = false := by cases hg <;> rfl
    have hn : schedD x .none = false := by cases hg <;> rfl
    -- the end
    have fin : ∀ {H1 : Hp} {y2 y3 y4 y5 y6 : Option V}, Keep T H H1 → tRet (tAndV (tOp rIsB (tCall (spSched K T) [] E0 (tCons (tVar 0) (tCons (tC (.bl true)) tNil))) (tC (.bl false))) (tAndV (tOp rIsB (tCall (spSched K T) [] E0 (tCons (tVar 0) (tCons (tC .non) tNil))) (tC (.bl false))) (tCall (spYes T) [] E0 tNil)))
        { nx := fun _ H' => Q .non H', rt := Q } [some v, some (.int (n : Int)), y2, y3, y4, y5, y6] H1 := by
      intro H1 y2 y3 y4 y5 y6 k1
      refine ⟨v, rfl, v, .bl true, x, .bool true, rfl, dp_keep k1 ht hv, .bl true, k1.tabs ht, fun H2 k2 => ⟨_, _, rfl, rfl, _, rfl, ite2 (fun _ => ?_) fun e => absurd (by rw [hb]; rfl) e⟩⟩
      have k2 := k1.trans k2
      refine ⟨v, rfl, v, .non, x, .none, rfl, dp_keep k2 ht hv, .non, k2.tabs ht, fun H3 k3 => ⟨_, _, rfl, rfl, _, rfl, ite2 (fun _ => ?_) fun e => absurd (by rw [hn]; rfl) e⟩⟩
      exact ⟨rfl, (k2.trans k3).tabs ht, fun H4 _ => q H4⟩
    cases hg with
    | @order ls t r hp t0 t1 hr2 =>
      obtain ⟨a, ys, rfl, sq, Dy⟩ := tup_head hv
      obtain ⟨lr, fr⟩ := rule_lay hr2
      have hl : ls.length = n := by rw [hp.length_eq, rgI_len]
      obtain ⟨y0, y1, y2, z0, z1, z2, rfl, e3, hy0, hy1, hy2⟩ := shape3 Dy rfl
      cases e3
      obtain ⟨o, os, rfl, so, Do⟩ := dp_tup hy0
      have eos := dps_ints_inv Do
      subst eos
      have ey1 := dp_int hy1
      subst ey1
      refine ⟨.ref a, rfl, a, _, 0, .str "order", rfl, rfl, sq, atI_0 _ _, rfl, _, rfl, ite2 (fun _ => ?_) fun e => absurd (by decide +kernel) e⟩
      refine ⟨.ref a, rfl, 1, rfl, a, _, rfl, sq, (fun z => absurd z.1 (by show ¬ HT.sIx 4 0 (some 1) = 0; decide)), fun sp nsp => ⟨sp, _, rfl, .of upd_same, rfl, .ref o, [.int t, y2], rfl, .int t, [y2], rfl, y2, [], rfl, rfl, ?_⟩⟩
      have S0 := same_new (o := .tup (cutV [.str "order", .ref o, .int t, y2] (some 1) none)) nsp
      generalize upd H sp (.tup (cutV [.str "order", .ref o, .int t, y2] (some 1) none)) = H0 at S0 ⊢
      have dO : ∀ {Hx : Hp}, Same H Hx → Dp K Hx (.ref o) (intT ls) := fun {Hx} s => LT.dp_of_same s hy0
      have dR : ∀ {Hx : Hp}, Same H Hx → Dp K Hx y2 r := fun {Hx} s => LT.dp_of_same s hy2
      have sT : ∀ {Ha Hb : Hp} {p : Addr} {xs : List V}, Same Ha Hb → SqT K Ha p xs → SqT K Hb p xs := fun {Ha Hb p xs} s h => (Keep.same (T := []) s).sqT (fun _ z => nomatch z) h
      have mk : ∀ {Hx : Hp} {p : Addr} {x1 x2 x3 : V} {d1 d2 d3 : PD}, Hx p = none → Dp K Hx x1 d1 → Dp K Hx x2 d2 → Dp K Hx x3 d3 → Dp K (upd Hx p (.tup [.str "order", x1, x2, x3])) (.ref p) (.tuple [.str "order", d1, d2, d3]) := fun {Hx p x1 x2 x3 d1 d2 d3} np a b c =>
        .tup (.of upd_same) (.cons (.str _) (.cons (LT.dp_of_same (same_new np) a) (.cons (LT.dp_of_same (same_new np) b) (.cons (LT.dp_of_same (same_new np) c) .nil))))
      -- the first three
      refine ⟨.ref o, rfl, 1, rfl, rfl, o, _, rfl, sT S0 so, fun r1 m1 => ⟨by show 1 ≤ sizeLine; decide, fun r2 m2 => ?_⟩⟩
      have S1 := S0.trans (same_new (o := .tup (ls.map V.int).reverse) m1)
      have S2 := S1.trans (same_new (o := .tup [.int 0]) m2)
      have s1 : SqT K (upd (upd H0 r1 (.tup (ls.map V.int).reverse)) r2 (.tup [.int 0])) r1 (ls.map V.int).reverse := sT (same_new (o := .tup [.int 0]) m2) (.of upd_same)
      have s2 : SqT K (upd (upd H0 r1 (.tup (ls.map V.int).reverse)) r2 (.tup [.int 0])) r2 [.int 0] := .of upd_same
      generalize upd (upd H0 r1 (.tup (ls.map V.int).reverse)) r2 (.tup [.int 0]) = H2 at S2 s1 s2 ⊢
      refine ⟨r1, r2, _, _, rfl, rfl, s1, s2, by rw [List.length_reverse, List.length_map]; exact Nat.le_of_lt (small1000 (by show _ + 1 ≤ 1000; omega)), fun r3 H3 s3 S3 => ?_⟩
      have S3 := S2.trans S3
      refine ⟨.int t, rfl, y2, rfl, by show 4 ≤ sizeLine; decide, fun p1 w1 => ?_⟩
      have d1 : Dp K (upd H3 p1 (.tup [.str "order", .ref r3, .int t, y2])) (.ref p1) (.tuple [.str "order", intT (ls.reverse ++ [0]), .int t, r]) := by
        refine mk w1 (.tup s3 ?_) (.int _) (dR S3)
        rw [List.map_append, List.map_reverse]
        have := dps_append (K := K) (H := H3) (dps_ints (K := K) (H := H3) ls.reverse) (.cons (.int 0) .nil)
        rw [List.map_reverse, List.map_reverse] at this
        exact this
      have S4 := S3.trans (same_new (o := .tup [.str "order", .ref r3, .int t, y2]) w1)
      generalize upd H3 p1 (.tup [.str "order", .ref r3, .int t, y2]) = H4 at S4 d1 ⊢
      refine ⟨by show 1 ≤ sizeLine; decide, fun r4 m4 => ⟨.int (n : Int), rfl, r4, n, [.int 0], rfl, rfl, .of upd_same, by simp, by omega, by omega, by show 1 ≤ 1000; decide, fun r5 H5 s5 S5 => ?_⟩⟩
      have S45 := (same_new (o := .tup [.int 0]) m4).trans S5
      have S5 := S4.trans S45
      have d1 := LT.dp_of_same S45 d1
      refine ⟨.int t, rfl, y2, rfl, by show 4 ≤ sizeLine; decide, fun p2 w2 => ?_⟩
      have d2 : Dp K (upd H5 p2 (.tup [.str "order", .ref r5, .int t, y2])) (.ref p2) (.tuple [.str "order", intT (List.replicate n 0), .int t, r]) := by
        refine mk w2 (.tup s5 ?_) (.int _) (dR S5)
        have e : (List.replicate ((n : Int)).toNat [V.int 0]).flatten = (List.replicate n (0 : Int)).map V.int := by
          rw [Int.toNat_natCast, List.map_replicate]
          clear S5 s5 S45 d1
          induction n with
          | zero => rfl
          | succ k ih => exact flat_one k
        rw [e]
        exact dps_ints _
      have d1 := LT.dp_of_same (same_new (o := .tup [.str "order", .ref r5, .int t, y2]) w2) d1
      have S6 := S5.trans (same_new (o := .tup [.str "order", .ref r5, .int t, y2]) w2)
      generalize upd H5 p2 (.tup [.str "order", .ref r5, .int t, y2]) = H6 at S6 d1 d2 ⊢
      refine ⟨.ref o, rfl, y2, rfl, by show 4 ≤ sizeLine; decide, fun p3 w3 => ⟨by show 3 ≤ sizeLine; decide, fun l1 v1 => ?_⟩⟩
      have d3 := mk (x1 := .ref o) (x2 := .int 2) (x3 := y2) w3 (dO S6) (.int 2) (dR S6)
      have Dl1 : DpAll K _ [.ref p1, .ref p2, .ref p3] _ := .cons (LT.dp_of_same (same_new (o := .tup [.str "order", .ref o, .int 2, y2]) w3) d1) (.cons (LT.dp_of_same (same_new (o := .tup [.str "order", .ref o, .int 2, y2]) w3) d2) (.cons d3 .nil))
      have Dl1 := LT.dps_of_same (same_new (o := .lst [.ref p1, .ref p2, .ref p3]) v1) Dl1
      have S7 := (S6.trans (same_new (o := .tup [.str "order", .ref o, .int 2, y2]) w3)).trans (same_new (o := .lst [.ref p1, .ref p2, .ref p3]) v1)
      have el1 : (upd (upd H6 p3 (.tup [.str "order", .ref o, .int 2, y2])) l1 (.lst [.ref p1, .ref p2, .ref p3])) l1 = some (.lst [.ref p1, .ref p2, .ref p3]) := upd_same
      generalize upd (upd H6 p3 (.tup [.str "order", .ref o, .int 2, y2])) l1 (.lst [.ref p1, .ref p2, .ref p3]) = H7 at S7 Dl1 el1 ⊢
      clear d1 d2 d3
      -- the others
      refine ⟨.ref l1, rfl, .ref o, rfl, .int t, rfl, .int (n : Int), rfl, by show 2 ≤ sizeLine; decide, fun r6 m6 => ⟨by show 2 ≤ sizeLine; decide, fun r7 m7 => ⟨by show 4 ≤ sizeLine; decide, fun p4 w4 => ?_⟩⟩⟩
      have T1 := same_new (o := .tup [.int (n : Int), .int 0]) m6
      have T2 := T1.trans (same_new (o := .tup [.str "top", .ref r6]) m7)
      have t7 : Dp K (upd (upd H7 r6 (.tup [.int (n : Int), .int 0])) r7 (.tup [.str "top", .ref r6])) (.ref r7) (.tuple [.str "top", intT [(n : Int), 0]]) := .tup (.of upd_same) (.cons (.str _) (.cons (.tup (sT (same_new (o := .tup [.str "top", .ref r6]) m7) (.of upd_same)) (.cons (.int _) (.cons (.int _) .nil))) .nil))
      have d4 := mk (x1 := .ref o) (x2 := .int t) (x3 := .ref r7) w4 (dO (S7.trans T2)) (.int t) t7
      have T3 := T2.trans (same_new (o := .tup [.str "order", .ref o, .int t, .ref r7]) w4)
      have S8 := S7.trans T3
      have el1 := T3 _ _ el1
      have Dl1 := LT.dps_of_same T3 Dl1
      clear t7
      generalize upd (upd (upd H7 r6 (.tup [.int (n : Int), .int 0])) r7 (.tup [.str "top", .ref r6])) p4 (.tup [.str "order", .ref o, .int t, .ref r7]) = H8 at S8 d4 el1 Dl1 ⊢
      clear T1 T2 T3
      refine ⟨.ref o, rfl, .int t, rfl, by show 1 ≤ sizeLine; decide, fun r8 m8 => ⟨by show 2 ≤ sizeLine; decide, fun r9 m9 => ⟨by show 4 ≤ sizeLine; decide, fun p5 w5 => ?_⟩⟩⟩
      have T1 := same_new (o := .tup [.int 0]) m8
      have T2 := T1.trans (same_new (o := .tup [.str "top", .ref r8]) m9)
      have t9 : Dp K (upd (upd H8 r8 (.tup [.int 0])) r9 (.tup [.str "top", .ref r8])) (.ref r9) (.tuple [.str "top", intT [0]]) := .tup (.of upd_same) (.cons (.str _) (.cons (.tup (sT (same_new (o := .tup [.str "top", .ref r8]) m9) (.of upd_same)) (.cons (.int _) .nil)) .nil))
      have d5 := mk (x1 := .ref o) (x2 := .int t) (x3 := .ref r9) w5 (dO (S8.trans T2)) (.int t) t9
      have T3 := T2.trans (same_new (o := .tup [.str "order", .ref o, .int t, .ref r9]) w5)
      have S9 := S8.trans T3
      have el1 := T3 _ _ el1
      have Dl1 := LT.dps_of_same T3 Dl1
      have d4 := LT.dp_of_same T3 d4
      clear t9
      generalize upd (upd (upd H8 r8 (.tup [.int 0])) r9 (.tup [.str "top", .ref r8])) p5 (.tup [.str "order", .ref o, .int t, .ref r9]) = H9 at S9 d4 d5 el1 Dl1 ⊢
      refine ⟨.ref o, rfl, y2, rfl, by show 4 ≤ sizeLine; decide, fun p6 w6 => ⟨by show 3 ≤ sizeLine; decide, fun l2 v2 => ?_⟩⟩
      have d6 := mk (x1 := .ref o) (x2 := .bl true) (x3 := y2) w6 (dO S9) (.bl true) (dR S9)
      have Dl2 : DpAll K _ [.ref p4, .ref p5, .ref p6] _ := .cons (LT.dp_of_same (same_new (o := .tup [.str "order", .ref o, .bl true, y2]) w6) d4) (.cons (LT.dp_of_same (same_new (o := .tup [.str "order", .ref o, .bl true, y2]) w6) d5) (.cons d6 .nil))
      have U1 := (same_new (o := .tup [.str "order", .ref o, .bl true, y2]) w6).trans (same_new (o := .lst [.ref p4, .ref p5, .ref p6]) v2)
      have Dl2 := LT.dps_of_same (same_new (o := .lst [.ref p4, .ref p5, .ref p6]) v2) Dl2
      have S10 := S9.trans U1
      have el1 := U1 _ _ el1
      have el2 : (upd (upd H9 p6 (.tup [.str "order", .ref o, .bl true, y2])) l2 (.lst [.ref p4, .ref p5, .ref p6])) l2 = some (.lst [.ref p4, .ref p5, .ref p6]) := upd_same
      have Dl := dps_append (LT.dps_of_same U1 Dl1) Dl2
      generalize upd (upd H9 p6 (.tup [.str "order", .ref o, .bl true, y2])) l2 (.lst [.ref p4, .ref p5, .ref p6]) = H10 at S10 Dl el1 el2 ⊢
      refine ⟨l1, l2, _, _, rfl, rfl, el1, el2, by show 6 ≤ sizeLine; decide, fun l3 v3 => ?_⟩
      have S11 := S10.trans (same_new (o := .lst ([.ref p1, .ref p2, .ref p3] ++ [.ref p4, .ref p5, .ref p6])) v3)
      have Dl := LT.dps_of_same (same_new (o := .lst ([.ref p1, .ref p2, .ref p3] ++ [.ref p4, .ref p5, .ref p6])) v3) Dl
      have el3 : (upd H10 l3 (.lst ([.ref p1, .ref p2, .ref p3] ++ [.ref p4, .ref p5, .ref p6]))) l3 = some (.lst ([.ref p1, .ref p2, .ref p3] ++ [.ref p4, .ref p5, .ref p6])) := upd_same
      generalize upd H10 l3 (.lst ([.ref p1, .ref p2, .ref p3] ++ [.ref p4, .ref p5, .ref p6])) = H11 at S11 Dl el3 ⊢
      have Dl : DpAll K H11 ([.ref p1, .ref p2, .ref p3] ++ [.ref p4, .ref p5, .ref p6]) (oddL ls t r n) := Dl
      generalize ([.ref p1, .ref p2, .ref p3] ++ [.ref p4, .ref p5, .ref p6] : List V) = xs at Dl el3 ⊢
      have hodd := odd_false (t := t) n1 n4 hp hr2
      have k11 := Keep.same (T := T) S11
      have t11 := k11.tabs ht
      refine ⟨.ref l3, rfl, l3, rfl, ⟨xs, .of el3⟩, for_list (K := K) (a := l3) (xs := xs) (fun i σ H12 => ∃ y6 : Option V, σ = [some (.ref a), some (.int (n : Int)), some (.ref o), some (.int t), some y2, some (.ref l3), y6] ∧ Keep T H11 H12) ⟨none, rfl, .refl⟩ (fun i σ H12 _ ⟨_, _, k⟩ => .of (k.lst t11 el3)) ?_ ?_⟩
      · rintro i x σ H12 hx ⟨y6, rfl, k12⟩
        obtain ⟨dd, hdd, hdp⟩ := dps_at Dl hx
        obtain ⟨c1, c2, c3⟩ := hodd dd (List.mem_of_getElem? hdd)
        have t12 := k12.tabs t11
        have dx := dp_keep k12 t11 hdp
        have dh := dp_keep (k11.trans k12) ht hv
        refine ⟨x, rfl, .ref a, rfl, dd, _, dx, dh, c1, lay_order (lay_ints _) (lay_int _) lr, _, rfl, ite2 (fun e => ?_) fun _ => ⟨_, rfl, k12⟩⟩
        exact ⟨x, rfl, .int (n : Int), rfl, x, .int (n : Int), dd, .int (n : Int), rfl, dx, .int _, t12, fun H13 k13 => ⟨_, _, rfl, rfl, _, rfl, ite2 (fun e2 => absurd e2 (by rw [c3 e]; decide)) fun _ => ⟨_, rfl, k12.trans k13⟩⟩⟩
      rintro σ H12 ⟨y6, rfl, k12⟩
      exact fin (k11.trans k12)
    | first =>
      obtain ⟨a, ys, rfl, sq, _⟩ := tup_head hv
      exact ⟨.ref a, rfl, a, _, 0, .str "first", rfl, rfl, sq, atI_0 _ _, rfl, _, rfl, ite2 (fun e => absurd e (by decide +kernel)) fun _ => fin .refl⟩
    | last =>
      obtain ⟨a, ys, rfl, sq, _⟩ := tup_head hv
      exact ⟨.ref a, rfl, a, _, 0, .str "last", rfl, rfl, sq, atI_0 _ _, rfl, _, rfl, ite2 (fun e => absurd e (by decide +kernel)) fun _ => fin .refl⟩
    | rounds _ _ _ _ =>
      obtain ⟨a, ys, rfl, sq, _⟩ := tup_head hv
      exact ⟨.ref a, rfl, a, _, 0, .str "rounds", rfl, rfl, sq, atI_0 _ _, rfl, _, rfl, ite2 (fun e => absurd e (by decide +kernel)) fun _ => fin .refl⟩
    | levels _ _ _ _ _ =>
      obtain ⟨a, ys, rfl, sq, _⟩ := tup_head hv
      exact ⟨.ref a, rfl, a, _, 0, .str "levels", rfl, rfl, sq, atI_0 _ _, rfl, _, rfl, ite2 (fun e => absurd e (by decide +kernel)) fun _ => fin .refl⟩
    | aging _ _ _ =>
      obtain ⟨a, ys, rfl, sq, _⟩ := tup_head hv
      exact ⟨.ref a, rfl, a, _, 0, .str "aging", rfl, rfl, sq, atI_0 _ _, rfl, _, rfl, ite2 (fun e => absurd e (by decide +kernel)) fun _ => fin .refl⟩
    | due _ _ =>
      obtain ⟨a, ys, rfl, sq, _⟩ := tup_head hv
      exact ⟨.ref a, rfl, a, _, 0, .str "due", rfl, rfl, sq, atI_0 _ _, rfl, _, rfl, ite2 (fun e => absurd e (by decide +kernel)) fun _ => fin .refl⟩
    | shares _ _ =>
      obtain ⟨a, ys, rfl, sq, _⟩ := tup_head hv
      exact ⟨.ref a, rfl, a, _, 0, .str "shares", rfl, rfl, sq, atI_0 _ _, rfl, _, rfl, ite2 (fun e => absurd e (by decide +kernel)) fun _ => fin .refl⟩
end
end K13

namespace K13
open PySem PySem.Spec PyProof.Rows L2 DA
/-! ### law -/
abbrev sLaw : Stmt := top 31
abbrev nLaw : List Str := ["_law_script", "_law_draws", "_law_size", "_law_orders_here", "_law_turn", "_law_due", "_law_order_here", "_law_quantum", "_law_family", "_law_one", "_law_wide", "_law_scheduler_here", "_law_sized", "_law_other", "_law_bad"]
theorem scLaw : FnScope nLaw ["_law_script"] (defScope sLaw) := ⟨rfl, rfl, rfl, by decide +kernel, rfl, by decide +kernel, by decide +kernel⟩
def iterI (n : Nat) : Nat → List (List Int)
  | 0 => [[]]
  | k + 1 => longerI n (iterI n k)
def pairI (o : List Int) : List PD := [ordD (intT o) 0, ordD (intT o) 1]
def dueI (l : List (List Int)) : List PD := headD ++ l.flatMap pairI
theorem iter_ok {n k : Nat} (h1 : 1 ≤ n) (h3 : n ≤ 3) (hk : k ≤ n) : (iterI n k).length ≤ 100 ∧ ∀ o ∈ iterI n k, o.length ≤ 10 := by
  have e : ((List.range 4).all fun n => (List.range 4).all fun k => decide ((iterI n k).length ≤ 100) && (iterI n k).all fun o => decide (o.length ≤ 10)) = true := by decide +kernel
  have a := List.all_eq_true.mp (List.all_eq_true.mp e n (List.mem_range.mpr (by omega))) k (List.mem_range.mpr (by omega))
  rw [Bool.and_eq_true] at a
  exact ⟨of_decide_eq_true a.1, fun o ho => of_decide_eq_true (List.all_eq_true.mp a.2 o ho)⟩
theorem iter_perm {n : Nat} (h1 : 1 ≤ n) (h3 : n ≤ 3) : iterI n n = (List.range (fac n)).map fun j => List.map (fun k : Nat => (k : Int)) (permAt n j) := by
  have hn : n = 1 ∨ n = 2 ∨ n = 3 := by omega
  rcases hn with rfl | rfl | rfl <;> decide +kernel
theorem due_fam {n : Nat} (h1 : 1 ≤ n) (h3 : n ≤ 3) : dueI (iterI n n) ++ rounds6 = famD n := by
  unfold dueI famD pref
  rw [iter_perm h1 h3, List.flatMap_map]
  congr 2
  refine congrArg (fun g => List.flatMap g (List.range (fac n))) (funext fun j => ?_)
  show [ordD (intT _) 0, ordD (intT _) 1] = [ordD (natD (permAt n j)) 0, ordD (natD (permAt n j)) 1]
  have e : intT (List.map (fun k : Nat => (k : Int)) (permAt n j)) = natD (permAt n j) := by
    show PyData.tuple _ = PyData.tuple _
    rw [List.map_map]; rfl
  rw [e]
theorem fam_facts {n : Nat} (h1 : 1 ≤ n) (h3 : n ≤ 3) : SeqAt.shaped (.list (famD n)) = true ∧ ((famD n).all fun x => schedD x (.int (n : Int))) = true ∧ (famD n).length ≤ 30 := by
  have hn : n = 1 ∨ n = 2 ∨ n = 3 := by omega
  rcases hn with rfl | rfl | rfl <;> exact ⟨by decide +kernel, by decide +kernel, by decide +kernel⟩
theorem take_r6 : ∀ {k : Nat}, k < 3 → rounds6.take (2 * (k + 1)) = rounds6.take (2 * k) ++ [rndD (1 + (k : Int)) 0, rndD (1 + (k : Int)) 1]
  | 0, _ => rfl
  | 1, _ => rfl
  | 2, _ => rfl
  | k + 3, h => absurd h (by omega)
theorem ne_self {d : PD} (h : SeqAt.shaped d = true) : ¬ (!PyData.eqv d d) = true := by
  rw [SeqAt.eqv_refl d (SeqAt.canLay_of_shaped h)]
  exact fun z => by cases z
theorem words_up : ∀ s ∈ kindNames, Txt.upper s ∉ kindNames ∧ s.length ≤ 100 := by decide +kernel
theorem sched_head {n : Nat} {x : PD} (g : SchedG n x) : ∃ s r, x = .tuple (.str s :: r) ∧ s ∈ kindNames := by
  cases g <;> exact ⟨_, _, rfl, by decide +kernel⟩
theorem sched_short_len {n : Nat} {ds : List PD} (g : SchedG n (.tuple ds)) : ds.length ≤ 4 := by
  generalize hx : PyData.tuple ds = x at g
  cases g <;> (cases hx; exact of_decide_eq_true rfl)
theorem cut_last (xs : List V) : cutV xs none (some (-1)) = xs.take (xs.length - 1) := by
  unfold cutV
  have e : HT.sIx xs.length xs.length (some (-1)) = xs.length - 1 := by
    show (if (-1 : Int) < 0 then (-1 + (xs.length : Int)).toNat else min (-1 : Int).toNat xs.length) = _
    rw [if_pos (by decide)]
    omega
  rw [e]
  show (xs.drop 0).take (xs.length - 1 - 0) = _
  rw [List.drop_zero, Nat.sub_zero]
theorem cut_short {x : V} {zs : List V} (z : HT.sIx (x :: zs).length (x :: zs).length (some (-1)) = (x :: zs).length) {C : Prop} : C := by
  exfalso
  have e : HT.sIx (x :: zs).length (x :: zs).length (some (-1)) = (x :: zs).length - 1 := by
    show (if (-1 : Int) < 0 then (-1 + ((x :: zs).length : Int)).toNat else min (-1 : Int).toNat (x :: zs).length) = _
    rw [if_pos (by decide)]
    omega
  rw [e, List.length_cons] at z
  omega
theorem cut_one {x : V} {zs : List V} : ¬ HT.sIx (x :: zs).length 0 (some 1) = 0 := by
  show ¬ (if (1 : Int) < 0 then (1 + ((x :: zs).length : Int)).toNat else min (1 : Int).toNat (x :: zs).length) = 0
  rw [if_neg (by decide), List.length_cons]
  show ¬ min 1 (zs.length + 1) = 0
  omega
theorem bad_false {n : Nat} {wd : Str} {rs rest : List PD} (h1 : 1 ≤ n) (h4 : n ≤ 4) (g : SchedG n (.tuple (.str wd :: rs))) (hu : Txt.upper wd ∉ kindNames) :
    ∀ d ∈ ([.tuple ((.str wd :: rs) ++ [.int 1]), .tuple (PyData.str wd :: rs).dropLast, .list (.str wd :: rs), .tuple (.str (Txt.upper wd) :: rest), .none, .tuple [], .str "first"] : List PD), schedD d (.int (n : Int)) = false := by
  intro d hd
  simp only [List.mem_cons, List.not_mem_nil, or_false] at hd
  rcases hd with rfl | rfl | rfl | rfl | rfl | rfl | rfl
  · exact sched_long h1 h4 g
  · exact sched_short h1 h4 g
  · rfl
  · exact sched_word hu
  · rfl
  · show (numD (.int (n : Int)) 1 4 && kindD "" [] n) = false
    rw [kind_none (by decide +kernel), Bool.and_false]
  · rfl
section
variable {P : Program} {w : World} {K : PySem.W.Frag} {mg : Str → Option Value} {base : Heap} {f : Addr} {fd : FuncData} {T : List Addr}
def spLaw (K : PySem.W.Frag) (T : List Addr) : Sp := fun vs H Q _ => ∃ (a : Addr) (ns : List Int), vs = [.ref a] ∧ SqL K H a (ns.map V.int) ∧ ns.length ≤ 63 ∧ Tabs T H ∧ ∀ H', Q (.bl true) H'
theorem ok_law {aSt aD aL aF aS aSc aO : Addr} {dSt dD dL dF dS dSc dO : FuncData} (F : Fun K "law" "law" sLaw f fd) (G : Glob mg) (cSt : Cal P w K mg base "_law_start" 1 ["_law_script"] (spStart K) aSt dSt) (cD : Cal P w K mg base "_law_draw" 1 ["_law_draws", "_law_limit"] (spDraw T) aD dD)
    (cL : Cal P w K mg base "_law_longer" 1 ["_law_some", "_law_size"] (spLgr K) aL dL) (cF : Cal P w K mg base "plain_family" 2 ["size"] (spFam K) aF dF) (cS : Cal P w K mg base "is_scheduler" 6 ["value", "size"] (spSched K T) aS dS)
    (cSc : Cal P w K mg base "_law_scheduler" 4 ["_law_draws", "_law_size"] (spLSch K T) aSc dSc) (cO : Cal P w K mg base "_law_odd_orders" 9 ["_law_scheduler_here", "_law_wide"] (spOdd K T) aO dO) : FnOk P w K mg base CX0 10 f fd ["_law_script"] (spLaw K T) := by
  refine F.ok scLaw (fun vs H Q E h => ?_) (fun cdv A outer s H vs Q E hr h => ?_)
  · obtain ⟨a, ns, rfl, _⟩ := h
    rfl
  · obtain ⟨a, ns, rfl, hS, hl63, ht, q⟩ := h
    have hr1 : Room 1 _ := hr.mono (by decide)
    have hr2 : Room 2 _ := hr.mono (by decide)
    have hr4 : Room 4 _ := hr.mono (by decide)
    have hr6 : Room 6 _ := hr.mono (by decide)
    have hr9 : Room 9 _ := hr.mono (by decide)
    refine ⟨_, (pss_cons (ps_set (i := 1) scLaw.nd rfl (.inl rfl) (pe_call cSt.ok hr1 (by rfl) cSt.g cSt.kp cSt.b .nil pass0 (pa_cons (pv 0) pa_nil))) (pss_cons (ps_set (i := 2) scLaw.nd rfl (.inr rfl) (pe_op op_add pe_int (pe_call cD.ok hr1 (by rfl) cD.g cD.kp cD.b .nil pass0 (pa_cons (pv 1) (pa_cons pe_int pa_nil))))) (pss_cons (ps_set (i := 3) scLaw.nd rfl (.inl rfl) (pe_lst (pa_cons (pe_tup pa_nil) pa_nil))) (pss_cons (ps_for PassesOwn.never rfl (pi_range1 (by rfl) G.range (pa_cons (pv 2) pa_nil)) (pg_name (i := 4) scLaw.nd rfl (.inl rfl)) (pss_one (ps_set (i := 3) scLaw.nd rfl (.inl rfl) (pe_call cL.ok hr1 (by rfl) cL.g cL.kp cL.b .nil pass0 (pa_cons (pv 3) (pa_cons (pv 2) pa_nil)))))) (pss_cons (ps_set (i := 5) scLaw.nd rfl (.inl rfl) (pe_lst (pa_cons (pe_tup (pa_cons pe_str pa_nil)) (pa_cons (pe_tup (pa_cons pe_str pa_nil)) pa_nil)))) (pss_cons (ps_for PassesOwn.never rfl (pi_list (pv 3)) (pg_name (i := 6) scLaw.nd rfl (.inl rfl)) (pss_one (ps_set (i := 5) scLaw.nd rfl (.inl rfl) (pe_op op_cat (pv 5) (pe_lst (pa_cons (pe_tup (pa_cons pe_str (pa_cons (pv 6) (pa_cons pe_int (pa_cons (pe_tup (pa_cons pe_str pa_nil)) pa_nil))))) (pa_cons (pe_tup (pa_cons pe_str (pa_cons (pv 6) (pa_cons pe_int (pa_cons (pe_tup (pa_cons pe_str pa_nil)) pa_nil))))) pa_nil))))))) (pss_cons (ps_for PassesOwn.never rfl (pi_range2 (by rfl) G.range (pa_cons pe_int (pa_cons pe_int pa_nil))) (pg_name (i := 7) scLaw.nd rfl (.inl rfl)) (pss_one (ps_set (i := 5) scLaw.nd rfl (.inl rfl) (pe_op op_cat (pv 5) (pe_lst (pa_cons (pe_tup (pa_cons pe_str (pa_cons (pv 7) (pa_cons pe_int pa_nil)))) (pa_cons (pe_tup (pa_cons pe_str (pa_cons (pv 7) (pa_cons pe_int pa_nil)))) pa_nil))))))) (pss_cons (ps_set (i := 8) scLaw.nd rfl (.inl rfl) (pe_call cF.ok hr2 (by rfl) cF.g cF.kp cF.b .nil pass0 (pa_cons (pv 2) pa_nil))) (pss_cons (ps_if (PW.pt (pw_or (pt_cmpR (op_neD hr.units) (pv 8) (pv 5) (nomark _)) (pw_or1 (pt_cmpR (op_neD hr.units) (pe_lc (own := [("_law_one", 9)]) (g := gName 9) (tt := tTest (tOp rNotB (tCall (spSched K T) [] E0 (tCons (tVar 9) (tCons (tVar 2) tNil))) (tC (.bl true)))) (te := tVar 9) rfl scLaw.nd (pi_list (pv 8)) (blkOk_by (N := nLaw) (sc := defScope sLaw) (by decide +kernel)) (fun _ _ _ _ _ => (pg_name (i := 9) scLaw.nd rfl (.inl rfl))) (fun _ _ _ _ _ => pts_one (pt_cmpR op_notBl (pe_call cS.ok hr6 (by rfl) cS.g cS.kp cS.b .nil pass0 (pa_cons (pv 9) (pa_cons (pv 2) pa_nil))) pe_bl (nomark _))) (fun _ _ _ _ _ => (pv 9))) (pe_lst pa_nil) (nomark _))))) (pss_one (ps_ret pe_bl)) pss_nil) (pss_cons (ps_set (i := 10) scLaw.nd rfl (.inr rfl) (pe_op op_add pe_int (pe_call cD.ok hr1 (by rfl) cD.g cD.kp cD.b .nil pass0 (pa_cons (pv 1) (pa_cons pe_int pa_nil))))) (pss_cons (ps_set (i := 11) scLaw.nd rfl (.inl rfl) (pe_call cSc.ok hr4 (by rfl) cSc.g cSc.kp cSc.b .nil pass0 (pa_cons (pv 1) (pa_cons (pv 10) pa_nil)))) (pss_cons (ps_if (pt_cmpR op_notBl (pe_call cS.ok hr6 (by rfl) cS.g cS.kp cS.b .nil pass0 (pa_cons (pv 11) (pa_cons (pv 10) pa_nil))) pe_bl (nomark _)) (pss_one (ps_ret pe_bl)) pss_nil) (pss_cons (ps_set (i := 12) scLaw.nd rfl (.inl rfl) (pe_cmpR op_in_seq (pe_ix ix_tup (pv 11) pe_int (fun _ _ => rfl)) (pe_tup (pa_cons pe_str (pa_cons pe_str (pa_cons pe_str (pa_cons pe_str pa_nil))))) (by rfl))) (pss_cons (ps_for PassesOwn.never rfl (pi_range2 (by rfl) G.range (pa_cons pe_int (pa_cons pe_int pa_nil))) (pg_name (i := 13) scLaw.nd rfl (.inl rfl)) (pss_cons (ps_if (PW.pt (pw_and (pt_cmpR op_ne (pv 13) (pv 10) (nomark _)) (pw_and (pt_val (pv 12)) (pw_and1 (pt_cmpR op_notBl (pe_call cS.ok hr6 (by rfl) cS.g cS.kp cS.b .nil pass0 (pa_cons (pv 11) (pa_cons (pv 13) pa_nil))) pe_bl (nomark _)))))) (pss_one (ps_ret pe_bl)) pss_nil) (pss_one (ps_if (PW.pt (pw_and (pt_not (pt_val (pv 12))) (pw_and1 (pt_cmpR op_notBl (pe_call cS.ok hr6 (by rfl) cS.g cS.kp cS.b .nil pass0 (pa_cons (pv 11) (pa_cons (pv 13) pa_nil))) pe_bl (nomark _))))) (pss_one (ps_ret pe_bl)) pss_nil)))) (pss_cons (ps_set (i := 14) scLaw.nd rfl (.inl rfl) (pe_lst (pa_cons (pe_op TR.op_catU (pv 11) (pe_tup (pa_cons pe_int pa_nil))) (pa_cons (pe_slice sl_tup (pv 11) po_none (po_some (pe_un un_neg pe_int))) (pa_cons (pe_callTy call_list_of (by rfl) G.list (by decide +kernel) (pa_cons (pv 11) pa_nil)) (pa_cons (pe_op TR.op_catU (pe_tup (pa_cons (pe_upper (pe_ix ix_tup (pv 11) pe_int (fun _ _ => rfl))) pa_nil)) (pe_slice sl_tup (pv 11) (po_some pe_int) po_none)) (pa_cons pe_non (pa_cons (pe_tup pa_nil) (pa_cons pe_str pa_nil))))))))) (pss_cons (ps_if (PW.pt (pw_or (pt_cmpR (op_neD hr.units) (pe_lc (own := [("_law_one", 9)]) (g := gName 9) (tt := tTest (tOp rNotB (tCall (spSched K T) [] E0 (tCons (tVar 9) (tCons (tVar 10) tNil))) (tC (.bl false)))) (te := tVar 9) rfl scLaw.nd (pi_list (pv 14)) (blkOk_by (N := nLaw) (sc := defScope sLaw) (by decide +kernel)) (fun _ _ _ _ _ => (pg_name (i := 9) scLaw.nd rfl (.inl rfl))) (fun _ _ _ _ _ => pts_one (pt_cmpR op_notBl (pe_call cS.ok hr6 (by rfl) cS.g cS.kp cS.b .nil pass0 (pa_cons (pv 9) (pa_cons (pv 10) pa_nil))) pe_bl (nomark _))) (fun _ _ _ _ _ => (pv 9))) (pe_lst pa_nil) (nomark _)) (pw_or1 (pt_cmpR op_notBl (pe_call cS.ok hr6 (by rfl) cS.g cS.kp cS.b .nil pass0 (pa_cons (pv 11) (pa_cons pe_int pa_nil))) pe_bl (nomark _))))) (pss_one (ps_ret pe_bl)) pss_nil) (pss_one (ps_ret (pe_call cO.ok hr9 (by rfl) cO.g cO.kp cO.b .nil pass0 (pa_cons (pv 11) (pa_cons (pv 10) pa_nil))))))))))))))))))))), ?_⟩
    have qq := q
    refine ⟨.ref a, rfl, a, ns, rfl, hS, hl63, fun d nu H1 s1 nd nnu dr1 => ?_⟩
    have t1 := (Keep.same (T := T) s1).tabs ht
    refine ⟨.ref d, rfl, d, nu, 3, rfl, by decide, by decide, dr1, fun c H2 c0 c1 fr2 => ⟨1, c, rfl, rfl, ?_⟩⟩
    obtain ⟨n, hn, n1, n3⟩ : ∃ n : Nat, (1 + c : Int) = (n : Int) ∧ 1 ≤ n ∧ n ≤ 3 := ⟨(1 + c).toNat, by omega, by omega, by omega⟩
    have t2 := fr2.tabs t1
    have dr2 := fr2.drw
    refine ⟨Nat.zero_le _, fun p0 m0 => ⟨by show 1 ≤ sizeLine; decide, fun l0 v0 => ?_⟩⟩
    have S0 := (same_new (o := .tup []) m0).trans (same_new (o := .lst [.ref p0]) v0)
    have D0 : DpAll K (upd (upd H2 p0 (.tup [])) l0 (.lst [.ref p0])) [.ref p0] ((iterI n 0).map intT) := .cons (.tup (.of (same_new v0 _ _ upd_same)) .nil) .nil
    have e0 : (upd (upd H2 p0 (.tup [])) l0 (.lst [.ref p0])) l0 = some (.lst [.ref p0]) := upd_same
    generalize upd (upd H2 p0 (.tup [])) l0 (.lst [.ref p0]) = H3 at S0 D0 e0 ⊢
    refine ⟨.int (1 + c), rfl, 1 + c, rfl, by omega, by omega, for_range (lo := 0) (n := (1 + c).toNat) (fun k σ H => ∃ (l : Addr) (xs : List V) (y4 : Option V), σ = [some (.ref a), some (.ref d), some (.int (1 + c)), some (.ref l), y4, none, none, none, none, none, none, none, none, none, none] ∧ Same H2 H ∧ H l = some (.lst xs) ∧ DpAll K H xs ((iterI n k).map intT)) ⟨l0, _, none, rfl, S0, e0, D0⟩ ?_ ?_⟩
    · rintro k σ H hk ⟨l, xs, y4, rfl, S, e, D⟩
      obtain ⟨q1, q2⟩ := iter_ok n1 n3 (k := k) (by omega)
      exact ⟨.ref l, rfl, .int (1 + c), rfl, .ref l, iterI n k, n, by rw [hn]; rfl, .lst (.of e) D, by omega, q1, q2, fun p xs' H' e' D' s' => ⟨p, xs', _, rfl, S.trans s', e', D'⟩⟩
    rintro σ H4 ⟨l, xs, y4, rfl, S4, e4, D4⟩
    rw [show (1 + c).toNat = n by omega] at D4
    have hxl := dps_len D4
    rw [List.length_map] at hxl
    have hL := (iter_ok n1 n3 (k := n) (Nat.le_refl _)).1
    -- due
    refine ⟨by show 1 ≤ sizeLine; decide, fun p1 m1 => ⟨by show 1 ≤ sizeLine; decide, fun p2 m2 => ⟨by show 2 ≤ sizeLine; decide, fun q0 w0 => ?_⟩⟩⟩
    have S5 := ((same_new (o := .tup [.str "first"]) m1).trans (same_new (o := .tup [.str "last"]) m2)).trans (same_new (o := .lst [.ref p1, .ref p2]) w0)
    have D5 : DpAll K (upd (upd (upd H4 p1 (.tup [.str "first"])) p2 (.tup [.str "last"])) q0 (.lst [.ref p1, .ref p2])) [.ref p1, .ref p2] (dueI ((iterI n n).take 0)) :=
      .cons (.tup (.of (same_new w0 _ _ (same_new m2 _ _ upd_same))) (.cons (.str _) .nil)) (.cons (.tup (.of (same_new w0 _ _ upd_same)) (.cons (.str _) .nil)) .nil)
    have e5 : (upd (upd (upd H4 p1 (.tup [.str "first"])) p2 (.tup [.str "last"])) q0 (.lst [.ref p1, .ref p2])) q0 = some (.lst [.ref p1, .ref p2]) := upd_same
    generalize upd (upd (upd H4 p1 (.tup [.str "first"])) p2 (.tup [.str "last"])) q0 (.lst [.ref p1, .ref p2]) = H5 at S5 D5 e5 ⊢
    refine ⟨.ref l, rfl, l, rfl, ⟨xs, .of (S5 _ _ e4)⟩, for_list (K := K) (a := l) (xs := xs) (fun i σ H => ∃ (q : Addr) (ys : List V) (y6 : Option V), σ = [some (.ref a), some (.ref d), some (.int (1 + c)), some (.ref l), y4, some (.ref q), y6, none, none, none, none, none, none, none, none] ∧ Same H4 H ∧ H q = some (.lst ys) ∧ DpAll K H ys (dueI ((iterI n n).take i)) ∧ ys.length ≤ 2 + 2 * i) ⟨q0, _, none, rfl, S5, e5, D5, by show 2 ≤ 2; decide⟩ (fun i σ H _ ⟨_, _, _, _, S, _⟩ => .of (S _ _ e4)) ?_ ?_⟩
    · rintro i x σ H hx ⟨q, ys, y6, rfl, S, e, D, hy⟩
      have hi : i < (iterI n n).length := by
        have := (List.getElem?_eq_some_iff.mp hx).1
        omega
      obtain ⟨dd, hdd, hdp⟩ := dps_at D4 hx
      have ed : dd = intT (iterI n n)[i] := by
        rw [List.getElem?_map, List.getElem?_eq_getElem hi] at hdd
        exact (Option.some.inj hdd).symm
      subst ed
      have dx := LT.dp_of_same S hdp
      refine ⟨.ref q, rfl, x, rfl, by show 1 ≤ sizeLine; decide, fun r1 m1 => ⟨by show 4 ≤ sizeLine; decide, fun u1 w1 => ⟨x, rfl, by show 1 ≤ sizeLine; decide, fun r2 m2 => ⟨by show 4 ≤ sizeLine; decide, fun u2 w2 => ⟨by show 2 ≤ sizeLine; decide, fun l2 v2 => ?_⟩⟩⟩⟩⟩
      have A1 := same_new (o := .tup [.str "plain"]) m1
      have A2 := same_new (o := .tup [.str "order", x, .int 0, .ref r1]) w1
      have A3 := same_new (o := .tup [.str "plain"]) m2
      have A4 := same_new (o := .tup [.str "order", x, .int 1, .ref r2]) w2
      have A5 := same_new (o := .lst [.ref u1, .ref u2]) v2
      have du1 : Dp K (upd (upd H r1 (.tup [.str "plain"])) u1 (.tup [.str "order", x, .int 0, .ref r1])) (.ref u1) (ordD (intT (iterI n n)[i]) 0) := .tup (.of upd_same) (.cons (.str _) (.cons (LT.dp_of_same (A1.trans A2) dx) (.cons (.int _) (.cons (.tup (.of (A2 _ _ upd_same)) (.cons (.str _) .nil)) .nil))))
      have du2 : Dp K (upd (upd (upd (upd H r1 (.tup [.str "plain"])) u1 (.tup [.str "order", x, .int 0, .ref r1])) r2 (.tup [.str "plain"])) u2 (.tup [.str "order", x, .int 1, .ref r2])) (.ref u2) (ordD (intT (iterI n n)[i]) 1) := .tup (.of upd_same) (.cons (.str _) (.cons (LT.dp_of_same (((A1.trans A2).trans A3).trans A4) dx) (.cons (.int _) (.cons (.tup (.of (A4 _ _ upd_same)) (.cons (.str _) .nil)) .nil))))
      have SA := (((A1.trans A2).trans A3).trans A4).trans A5
      refine ⟨q, l2, ys, [.ref u1, .ref u2], rfl, rfl, SA _ _ e, upd_same, Nat.le_of_lt (small1000 (by show ys.length + 2 ≤ 1000; omega)), fun q2 v3 => ?_⟩
      have A6 := same_new (o := .lst (ys ++ [.ref u1, .ref u2])) v3
      refine ⟨q2, _, _, rfl, (S.trans SA).trans A6, upd_same, ?_, by rw [List.length_append]; show ys.length + 2 ≤ _; omega⟩
      have et : dueI ((iterI n n).take (i + 1)) = dueI ((iterI n n).take i) ++ pairI (iterI n n)[i] := by
        unfold dueI
        rw [List.take_add_one, List.getElem?_eq_getElem hi, List.flatMap_append, List.append_assoc]
        congr 2
        first | done | (show pairI _ ++ [] = _; rw [List.append_nil])
      rw [et]
      exact LT.dps_of_same A6 (dps_append (LT.dps_of_same SA D) (.cons (LT.dp_of_same ((A3.trans A4).trans A5) du1) (.cons (LT.dp_of_same A5 du2) .nil)))
    rintro σ H6 ⟨q1, ys1, y6, rfl, S6, e6, D6, hy6⟩
    rw [hxl, List.take_length] at D6
    refine ⟨1, 4, rfl, ⟨by decide, by decide, by decide, by decide⟩, for_range (lo := 1) (n := 3) (fun k σ H => ∃ (q : Addr) (ys : List V) (y7 : Option V), σ = [some (.ref a), some (.ref d), some (.int (1 + c)), some (.ref l), y4, some (.ref q), y6, y7, none, none, none, none, none, none, none] ∧ Same H6 H ∧ H q = some (.lst ys) ∧ DpAll K H ys (dueI (iterI n n) ++ rounds6.take (2 * k)) ∧ ys.length ≤ 300 + 2 * k) ⟨q1, ys1, none, rfl, Same.refl _, e6, by rw [List.take_zero, List.append_nil]; exact D6, by omega⟩ ?_ ?_⟩
    · rintro k σ H hk ⟨q, ys, y7, rfl, S, e, D, hy⟩
      refine ⟨.ref q, rfl, .int (1 + k), rfl, by show 3 ≤ sizeLine; decide, fun u1 w1 => ⟨.int (1 + k), rfl, by show 3 ≤ sizeLine; decide, fun u2 w2 => ⟨by show 2 ≤ sizeLine; decide, fun l2 v2 => ?_⟩⟩⟩
      have A2 := same_new (o := .tup [.str "rounds", .int (1 + k), .int 0]) w1
      have A4 := same_new (o := .tup [.str "rounds", .int (1 + k), .int 1]) w2
      have A5 := same_new (o := .lst [.ref u1, .ref u2]) v2
      have du1 : Dp K (upd H u1 (.tup [.str "rounds", .int (1 + k), .int 0])) (.ref u1) (rndD (1 + k) 0) := .tup (.of upd_same) (.cons (.str _) (.cons (.int _) (.cons (.int _) .nil)))
      have du2 : Dp K (upd (upd H u1 (.tup [.str "rounds", .int (1 + k), .int 0])) u2 (.tup [.str "rounds", .int (1 + k), .int 1])) (.ref u2) (rndD (1 + k) 1) := .tup (.of upd_same) (.cons (.str _) (.cons (.int _) (.cons (.int _) .nil)))
      have SA := (A2.trans A4).trans A5
      refine ⟨q, l2, ys, [.ref u1, .ref u2], rfl, rfl, SA _ _ e, upd_same, Nat.le_of_lt (small1000 (by show ys.length + 2 ≤ 1000; omega)), fun q2 v3 => ?_⟩
      have A6 := same_new (o := .lst (ys ++ [.ref u1, .ref u2])) v3
      refine ⟨q2, _, _, rfl, (S.trans SA).trans A6, upd_same, ?_, by rw [List.length_append]; show ys.length + 2 ≤ _; omega⟩
      rw [take_r6 hk, ← List.append_assoc]
      exact LT.dps_of_same A6 (dps_append (LT.dps_of_same SA D) (.cons (LT.dp_of_same (A4.trans A5) du1) (.cons (LT.dp_of_same A5 du2) .nil)))
    rintro σ H7 ⟨q, ys, y7, rfl, S7, e7, D7, hy7⟩
    have D7 : DpAll K H7 ys (famD n) := by
      have := due_fam n1 n3
      rw [← this]
      exact D7
    obtain ⟨fs, fsched, flen⟩ := fam_facts n1 n3
    -- plain_family
    refine ⟨.int (1 + c), rfl, n, by rw [hn]; rfl, n1, n3, fun vf H8 dvf S8 => ?_⟩
    refine ⟨vf, rfl, .ref q, rfl, _, _, dvf, .lst (.of (S8 _ _ e7)) (LT.dps_of_same S8 D7), fs, fs, _, rfl, ite2 (fun e => absurd e (ne_self fs)) fun _ => ?_⟩
    obtain ⟨g8, gs, rfl, sg8, Dg8⟩ := dp_list dvf
    have S28 := ((S4.trans S6).trans S7).trans S8
    have k8 := Keep.same (T := T) S28
    have t8 := k8.tabs t2
    refine ⟨.ref g8, rfl, g8, rfl, ⟨_, sg8⟩, fun D nD => lc_list (a := g8) (xs := gs) (fun j H9 => Keep T H8 H9 ∧ H9 D = some (.lst [])) ⟨Keep.new nD, upd_same⟩ (fun j H9 _ ⟨k9, _⟩ => k9.sqL t8 sg8) ?_ ?_⟩
    · rintro j x H9 hx ⟨k9, e9⟩
      obtain ⟨dd, hdd, hdp⟩ := dps_at Dg8 hx
      have hs : schedD dd (.int (1 + c)) = true := by
        rw [hn]
        exact List.all_eq_true.mp fsched dd (List.mem_of_getElem? hdd)
      refine ⟨rfl, x, rfl, .int (1 + c), rfl, x, .int (1 + c), dd, .int (1 + c), rfl, dp_keep k9 t8 hdp, .int _, k9.tabs t8, fun H10 k10 => ⟨_, _, rfl, rfl, _, rfl, ite2 (fun e => absurd e (by rw [hs]; decide)) fun _ => ?_⟩⟩
      exact ⟨k9.trans k10, k10.lst (k9.tabs t8) e9⟩
    rintro H9 ⟨k9, e9⟩
    refine ⟨Nat.zero_le _, fun pe npe => ⟨.list [], .list [], .lst (.of (same_new npe _ _ e9)) .nil, .lst (.of upd_same) .nil, rfl, rfl, _, rfl, ite2 (fun e => absurd e (by decide)) fun _ => ?_⟩⟩
    have k10 := k9.trans (Keep.new (T := T) (o := .lst []) npe)
    generalize upd H9 pe (.lst []) = H10 at k10 ⊢
    have k10 := k8.trans k10
    have t10 := k10.tabs t2
    have dr10 := dr2.keep t2 k10
    -- the scheduler
    refine ⟨.ref d, rfl, d, nu, 4, rfl, by decide, by decide, dr10, fun c2 H11 d0 d1 fr11 => ⟨1, c2, rfl, rfl, ?_⟩⟩
    obtain ⟨m, hm, m1, m4⟩ : ∃ m : Nat, (1 + c2 : Int) = (m : Int) ∧ 1 ≤ m ∧ m ≤ 4 := ⟨(1 + c2).toNat, by omega, by omega, by omega⟩
    have t11 := fr11.tabs t10
    refine ⟨.ref d, rfl, .int (1 + c2), rfl, d, nu, m, by rw [hm]; rfl, m1, m4, t11, fr11.drw, fun hp x Hh dh gh frh => ?_⟩
    have th := frh.tabs t11
    have hok : schedD x (.int (1 + c2)) = true := by rw [hm]; exact sched_ok m1 m4 gh
    refine ⟨.ref hp, rfl, .int (1 + c2), rfl, .ref hp, .int (1 + c2), x, .int (1 + c2), rfl, dh, .int _, th, fun H12 k12 => ⟨_, _, rfl, rfl, _, rfl, ite2 (fun e => absurd e (by rw [hok]; decide)) fun _ => ?_⟩⟩
    obtain ⟨wd, rs, rfl, hwd⟩ := sched_head gh
    obtain ⟨hp', zs, ehp, sq, Dz⟩ := tup_head dh
    cases ehp
    have hzl : (V.str wd :: zs).length ≤ 4 := by
      have := sched_short_len gh
      rw [List.length_cons, dps_len Dz]
      exact this
    have t12 := k12.tabs th
    refine ⟨.ref hp, rfl, hp, _, 0, .str wd, rfl, rfl, k12.sqT th sq, atI_0 _ _, by show 4 ≤ sizeLine; decide, fun pt npt => ⟨pt, _, rfl, .inr (.inl (.inl upd_same)), rfl, rfl, ?_⟩⟩
    have k13 := k12.trans (Keep.new (T := T) (o := .tup [.str "order", .str "aging", .str "due", .str "shares"]) npt)
    generalize upd H12 pt (.tup [.str "order", .str "aging", .str "due", .str "shares"]) = H13 at k13 ⊢
    refine ⟨1, 5, rfl, ⟨by decide, by decide, by decide, by decide⟩, for_range (lo := 1) (n := 4) (fun k σ H => ∃ y13 : Option V, σ = [some (.ref a), some (.ref d), some (.int (1 + c)), some (.ref l), y4, some (.ref q), y6, y7, some (.ref g8), none, some (.int (1 + c2)), some (.ref hp), some (.bl (sizedD (.tuple (.str wd :: rs)))), y13, none] ∧ Keep T Hh H) ⟨none, rfl, k13⟩ ?_ ?_⟩
    · rintro k σ H hk ⟨y13, rfl, kk⟩
      have tk := kk.tabs th
      have ek : (1 + (k : Int)) = ((k + 1 : Nat) : Int) := by omega
      by_cases hs : sizedD (.tuple (.str wd :: rs)) = true
      · refine ⟨.int (1 + k), rfl, .int (1 + c2), rfl, rfl, _, rfl, ite2 (fun e1 => ?_) fun e1 => ?_⟩
        · have hne : k + 1 ≠ m := fun z => by
            have z2 : (1 + (k : Int)) = 1 + c2 := by omega
            rw [z2] at e1
            simp at e1
          have hfalse : schedD (.tuple (.str wd :: rs)) (.int (1 + (k : Int))) = false := by rw [ek]; exact sched_other (by omega) (by omega) hne gh hs
          refine ⟨_, rfl, _, rfl, ite2 (fun _ => ?_) fun e => absurd hs e⟩
          refine ⟨.ref hp, rfl, .int (1 + k), rfl, .ref hp, .int (1 + (k : Int)), _, .int (1 + (k : Int)), rfl, dp_keep kk th dh, .int _, tk, fun Hy ky => ⟨_, _, rfl, rfl, _, rfl, ite2 (fun e => absurd e (by rw [hfalse]; decide)) fun _ => ?_⟩⟩
          exact ⟨_, rfl, _, rfl, ite2 (fun e => absurd e (by rw [hs]; decide)) fun _ => ⟨_, rfl, kk.trans ky⟩⟩
        · exact ⟨_, rfl, _, rfl, ite2 (fun e => absurd e (by rw [hs]; decide)) fun _ => ⟨_, rfl, kk⟩⟩
      · have hs' : sizedD (.tuple (.str wd :: rs)) = false := Bool.eq_false_iff.mpr hs
        have htrue : schedD (.tuple (.str wd :: rs)) (.int (1 + (k : Int))) = true := by rw [ek]; exact sched_free (by omega) (by omega) gh hs'
        have two : tIfS (tAnd (tNot (tB (tVar 12))) (tTest (tOp rNotB (tCall (spSched K T) [] E0 (tCons (tVar 11) (tCons (tVar 13) tNil))) (tC (.bl true))))) (tRet (tC (.bl false))) tNext
            { nx := fun σ H => ∃ y13 : Option V, σ = [some (.ref a), some (.ref d), some (.int (1 + c)), some (.ref l), y4, some (.ref q), y6, y7, some (.ref g8), none, some (.int (1 + c2)), some (.ref hp), some (.bl (sizedD (.tuple (.str wd :: rs)))), y13, none] ∧ Keep T Hh H, rt := Q }
            [some (.ref a), some (.ref d), some (.int (1 + c)), some (.ref l), y4, some (.ref q), y6, y7, some (.ref g8), none, some (.int (1 + c2)), some (.ref hp), some (.bl (sizedD (.tuple (.str wd :: rs)))), some (.int (1 + k)), none] H :=
          ⟨_, rfl, _, rfl, ite2 (fun _ => ⟨.ref hp, rfl, .int (1 + k), rfl, .ref hp, .int (1 + (k : Int)), _, .int (1 + (k : Int)), rfl, dp_keep kk th dh, .int _, tk, fun Hy ky => ⟨_, _, rfl, rfl, _, rfl, ite2 (fun e => absurd e (by rw [htrue]; decide)) fun _ => ⟨_, rfl, kk.trans ky⟩⟩⟩) fun e => absurd (by rw [hs']; rfl) e⟩
        refine ⟨.int (1 + k), rfl, .int (1 + c2), rfl, rfl, _, rfl, ite2 (fun e1 => ?_) fun e1 => two⟩
        exact ⟨_, rfl, _, rfl, ite2 (fun e => absurd e hs) fun _ => two⟩
    rintro σ H14 ⟨y13, rfl, k14⟩
    have t14 := k14.tabs th
    have sq14 := k14.sqT th sq
    have dh14 := dp_keep k14 th dh
    obtain ⟨up1, up2⟩ := words_up wd hwd
    -- the bad ones
    refine ⟨.ref hp, rfl, by show 1 ≤ sizeLine; decide, fun r1 w1 => ?_⟩
    have A1 := same_new (o := .tup [.int 1]) w1
    have sT : ∀ {Ha Hb : Hp} {p : Addr} {xs : List V}, Same Ha Hb → SqT K Ha p xs → SqT K Hb p xs := fun {Ha Hb p xs} s h => (Keep.same (T := []) s).sqT (fun _ z => nomatch z) h
    refine ⟨hp, r1, _, [.int 1], rfl, rfl, sT A1 sq14, .of upd_same, Nat.le_of_lt (small1000 (by show (V.str wd :: zs).length + 1 ≤ 1000; omega)), fun b1 H15 sb1 S15 => ?_⟩
    have S15 := A1.trans S15
    have d15 := LT.dp_of_same S15 dh14
    have db1 : Dp K H15 (.ref b1) (.tuple ((.str wd :: rs) ++ [.int 1])) := .tup sb1 (dps_append (.cons (.str wd) (LT.dps_of_same S15 (dps_keep k14 th Dz))) (.cons (.int 1) .nil))
    have sq15 := sT S15 sq14
    have DZ15 : DpAll K H15 (V.str wd :: zs) (.str wd :: rs) := .cons (.str wd) (LT.dps_of_same S15 (dps_keep k14 th Dz))
    refine ⟨.ref hp, rfl, 1, rfl, -1, rfl, hp, _, rfl, sq15, (fun z => cut_short z.2), fun b2 w2 => ?_⟩
    have A2 := same_new (o := .tup (cutV (V.str wd :: zs) none (some (-1)))) w2
    have dz2 : DpAll K H15 (cutV (V.str wd :: zs) none (some (-1))) (PyData.str wd :: rs).dropLast := by
      rw [cut_last, List.dropLast_eq_take, ← dps_len DZ15]
      exact dps_take _ DZ15
    have db2 : Dp K (upd H15 b2 (.tup (cutV (V.str wd :: zs) none (some (-1))))) (.ref b2) (.tuple (PyData.str wd :: rs).dropLast) := .tup (.of upd_same) (LT.dps_of_same A2 dz2)
    refine ⟨.ref hp, rfl, hp, _, rfl, .inr (sT A2 sq15), fun b3 w3 => ?_⟩
    have A3 := same_new (o := .lst (V.str wd :: zs)) w3
    have db3 : Dp K (upd (upd H15 b2 (.tup (cutV (V.str wd :: zs) none (some (-1))))) b3 (.lst (V.str wd :: zs))) (.ref b3) (.list (.str wd :: rs)) := .lst (.of upd_same) (LT.dps_of_same (A2.trans A3) DZ15)
    refine ⟨.ref hp, rfl, hp, _, 0, .str wd, rfl, rfl, sT (A2.trans A3) sq15, atI_0 _ _, ⟨wd, rfl⟩, wd, rfl, rfl, by omega, by show 1 ≤ sizeLine; decide, fun r4 w4 => ?_⟩
    have A4 := same_new (o := .tup [.str (Txt.upper wd)]) w4
    refine ⟨.ref hp, rfl, 1, rfl, hp, _, rfl, sT ((A2.trans A3).trans A4) sq15, (fun z => absurd z.1 cut_one), fun r5 w5 => ?_⟩
    have A5 := same_new (o := .tup (cutV (V.str wd :: zs) (some 1) none)) w5
    refine ⟨r4, r5, _, _, rfl, rfl, sT A5 (.of upd_same), .of upd_same, ?_, fun b4 H16 sb4 S16 => ?_⟩
    · have := cutV_length (V.str wd :: zs) (some 1) none
      exact Nat.le_of_lt (small1000 (by show 1 + _ ≤ 1000; omega))
    have SB := (((A2.trans A3).trans A4).trans A5).trans S16
    have db4 : Dp K H16 (.ref b4) (.tuple (.str (Txt.upper wd) :: ((PyData.str wd :: rs).drop (HT.sIx (V.str wd :: zs).length 0 (some 1))).take (HT.sIx (V.str wd :: zs).length (V.str wd :: zs).length none - HT.sIx (V.str wd :: zs).length 0 (some 1)))) := .tup sb4 (.cons (.str _) (dps_take _ (dps_drop _ (LT.dps_of_same SB DZ15))))
    have db1 := LT.dp_of_same SB db1
    have db2 := LT.dp_of_same (((A3.trans A4).trans A5).trans S16) db2
    have db3 := LT.dp_of_same ((A4.trans A5).trans S16) db3
    refine ⟨Nat.zero_le _, fun b6 w6 => ⟨by show 7 ≤ sizeLine; decide, fun lb vb => ?_⟩⟩
    have A6 := (same_new (o := .tup []) w6).trans (same_new (o := .lst [.ref b1, .ref b2, .ref b3, .ref b4, .non, .ref b6, .str "first"]) vb)
    have DB : DpAll K (upd (upd H16 b6 (.tup [])) lb (.lst [.ref b1, .ref b2, .ref b3, .ref b4, .non, .ref b6, .str "first"])) [.ref b1, .ref b2, .ref b3, .ref b4, .non, .ref b6, .str "first"] _ := .cons (LT.dp_of_same A6 db1) (.cons (LT.dp_of_same A6 db2) (.cons (LT.dp_of_same A6 db3) (.cons (LT.dp_of_same A6 db4) (.cons .non (.cons (.tup (.of (same_new vb _ _ upd_same)) .nil) (.cons (.str "first") .nil))))))
    have elb : (upd (upd H16 b6 (.tup [])) lb (.lst [.ref b1, .ref b2, .ref b3, .ref b4, .non, .ref b6, .str "first"])) lb = some (.lst [.ref b1, .ref b2, .ref b3, .ref b4, .non, .ref b6, .str "first"]) := upd_same
    have k17 := (k14.trans (Keep.same (T := T) S15)).trans ((Keep.same (T := T) SB).trans (Keep.same (T := T) A6))
    generalize upd (upd H16 b6 (.tup [])) lb (.lst [.ref b1, .ref b2, .ref b3, .ref b4, .non, .ref b6, .str "first"]) = H17 at DB elb k17 ⊢
    have t17 := k17.tabs th
    have hbad := fun (dd : PD) hdd => bad_false (rest := ((PyData.str wd :: rs).drop (HT.sIx (V.str wd :: zs).length 0 (some 1))).take (HT.sIx (V.str wd :: zs).length (V.str wd :: zs).length none - HT.sIx (V.str wd :: zs).length 0 (some 1))) m1 m4 gh up1 dd hdd
    refine ⟨.ref lb, rfl, lb, rfl, ⟨_, .of elb⟩, fun D nD => lc_list (a := lb) (xs := [.ref b1, .ref b2, .ref b3, .ref b4, .non, .ref b6, .str "first"]) (fun j H9 => Keep T H17 H9 ∧ H9 D = some (.lst [])) ⟨Keep.new nD, upd_same⟩ (fun j H9 _ ⟨k9, _⟩ => .of (k9.lst t17 elb)) ?_ ?_⟩
    · rintro j x H9 hx ⟨k9, e9⟩
      obtain ⟨dd, hdd, hdp⟩ := dps_at DB hx
      have hs : schedD dd (.int (1 + c2)) = false := by
        rw [hm]
        exact hbad dd (List.mem_of_getElem? hdd)
      refine ⟨rfl, x, rfl, .int (1 + c2), rfl, x, .int (1 + c2), dd, .int (1 + c2), rfl, dp_keep k9 t17 hdp, .int _, k9.tabs t17, fun H10 k10 => ⟨_, _, rfl, rfl, _, rfl, ite2 (fun e => absurd e (by rw [hs]; decide)) fun _ => ?_⟩⟩
      exact ⟨k9.trans k10, k10.lst (k9.tabs t17) e9⟩
    rintro H18 ⟨k18, e18⟩
    refine ⟨Nat.zero_le _, fun pe npe => ⟨.list [], .list [], .lst (.of (same_new npe _ _ e18)) .nil, .lst (.of upd_same) .nil, rfl, rfl, _, rfl, ite2 (fun e => absurd e (by decide)) fun _ => ?_⟩⟩
    have k19 := k17.trans (k18.trans (Keep.new (T := T) (o := .lst []) npe))
    generalize upd H18 pe (.lst []) = H19 at k19 ⊢
    refine ⟨.ref hp, rfl, .ref hp, .int 5, _, .int 5, rfl, dp_keep k19 th dh, .int 5, k19.tabs th, fun H20 k20 => ⟨_, _, rfl, rfl, _, rfl, ite2 (fun e => absurd e (by rw [sched_five]; decide)) fun _ => ?_⟩⟩
    have k20 := k19.trans k20
    exact ⟨.ref hp, rfl, .int (1 + c2), rfl, .ref hp, _, m, by rw [hm]; rfl, dp_keep k20 th dh, gh, m1, m4, k20.tabs th, fun H' => qq H'⟩
end
end K13

namespace K13
open PySem PySem.Spec PyProof.Rows L2 DA
/-! ### the head: facts by names, the run -/
def hD (x : Str) (i : Nat) : He.DefD := ⟨(x, none), x, x, defArgs (top i), defBody (top i), defScope (top i), [], []⟩
def fn9 : List He.DefD := [hD "is_number" 5, hD "is_row" 6, hD "_first_word" 8, hD "_is_order" 9, hD "_is_rule" 10, hD "_is_bare" 11, hD "_is_by_order" 12, hD "_is_by_rounds" 13, hD "_is_by_levels" 14, hD "_is_by_age" 15, hD "_is_by_limits" 16, hD "_is_by_weights" 17, hD "is_scheduler" 19, hD "plain_family" 20, hD "_law_start" 22, hD "_law_draw" 23, hD "_law_pick" 24, hD "_law_order" 25, hD "_law_scheduler" 26, hD "_law_longer" 27, hD "_law_odd_orders" 28, hD "_law_known" 29, hD "_law_good" 30, hD "law" 31]
def fa9 : List He.Fa := [.glo "is_number", .glo "is_row", .glo "_first_word", .glo "_is_order", .glo "_is_rule", .glo "_is_bare", .glo "_is_by_order", .glo "_is_by_rounds", .glo "_is_by_levels", .glo "_is_by_age", .glo "_is_by_limits", .glo "_is_by_weights", .glo "is_scheduler", .glo "plain_family", .glo "_law_start", .glo "_law_draw", .glo "_law_pick", .glo "_law_order", .glo "_law_scheduler", .glo "_law_longer", .glo "_law_odd_orders", .glo "_law_known", .glo "_law_good", .glo "law", .free "isinstance", .free "int", .free "bool", .free "tuple", .free "list", .free "str", .free "len", .free "all", .free "any", .free "sorted", .free "range", .glo "KINDS"]
def tf9 : List He.Defn := [("is_row", none), ("_is_by_levels", none)]
def ts9 : List He.Tab := [(fun K => He.ga K "KINDS", kindNames)]
def ex9 (K : PySem.W.Frag) : Bool := (He.eqO (PySem.W.nsIn K mainGlobals "permutations") (some (some (.type "itertools.permutations"))) && (He.eqO (PySem.W.nsIn K (He.ga K "KINDS") "first") (some (some (.ref (He.ga K "_is_bare")))) && (He.eqO (PySem.W.nsIn K (He.ga K "KINDS") "last") (some (some (.ref (He.ga K "_is_bare")))) && (He.eqO (PySem.W.nsIn K (He.ga K "KINDS") "order") (some (some (.ref (He.ga K "_is_by_order")))) && (He.eqO (PySem.W.nsIn K (He.ga K "KINDS") "rounds") (some (some (.ref (He.ga K "_is_by_rounds")))) && (He.eqO (PySem.W.nsIn K (He.ga K "KINDS") "levels") (some (some (.ref (He.ga K "_is_by_levels")))) && (He.eqO (PySem.W.nsIn K (He.ga K "KINDS") "aging") (some (some (.ref (He.ga K "_is_by_age")))) && (He.eqO (PySem.W.nsIn K (He.ga K "KINDS") "due") (some (some (.ref (He.ga K "_is_by_limits")))) && He.eqO (PySem.W.nsIn K (He.ga K "KINDS") "shares") (some (some (.ref (He.ga K "_is_by_weights"))))))))))))
def loose9 : List Str := ["is_number", "TurnError", "BadScheduler", "KINDS", "is_row", "_first_word", "_is_order", "_is_rule", "_is_bare", "_is_by_order", "_is_by_rounds", "_is_by_levels", "_is_by_age", "_is_by_limits", "_is_by_weights", "is_scheduler", "plain_family", "_law_start", "_law_draw", "_law_pick", "_law_order", "_law_scheduler", "_law_longer", "_law_odd_orders", "_law_known", "_law_good", "permutations"]
abbrev R9 : PySem.W.OpenRow := PySem.W.OpenLaw.row PySem.Challenge.rw_processturns_k13_whole_family
abbrev hk9 : PySem.W.Hook := He.hookX 4 fa9 fn9 ts9 tf9 ex9
def ob9 (s : PySem.W.SharedT) : He.AlX := He.obsX 4 fa9 fn9 ts9 tf9 ex9 (HandSHeadRun.getT s)
theorem ob9_eq (s : PySem.W.SharedT) : ob9 s = hk9.obs s.abs := He.obsX_eq (HandSHeadRun.getT_eq s)
theorem funD_fun {K : PySem.W.Frag} {x : Str} {st : Stmt} {f : Addr} {fd : FuncData} (F : FunD K x x (defArgs st) (defBody st) (defScope st) [] [] f fd) : Fun K x x st f fd := by
  obtain ⟨oc, od, dV, kV, doc, pm, an, cdv, ct, osl, h1, h2, h3, h4, h5⟩ := F.ex
  rcases h4 with ⟨_, rfl⟩ | ⟨e, _⟩
  · exact ⟨⟨oc, od, kV, doc, pm, an, cdv, ct, osl, h1, h2, h3⟩, F.kp⟩
  · exact absurd rfl e
theorem funD_funC {K : PySem.W.Frag} {x : Str} {st : Stmt} {fd : FuncData} (F : FunD K x x (defArgs st) (defBody st) (defScope st) [] [] (He.fAd K (x, none)) fd) : FunC K x x st (He.fAd K (x, none)) fd (He.codeOf K (x, none)) := by
  obtain ⟨oc, od, dV, kV, doc, pm, an, cdv, ct, osl, h1, h2, h3, h4, h5⟩ := F.ex
  rcases h4 with ⟨_, rfl⟩ | ⟨e, _⟩
  · obtain ⟨c, rfl⟩ := He.codeIn_ref h3
    have ec : He.codeOf K (x, none) = c := He.codeOf_eq h2 (by rw [h1])
    rw [ec]
    exact ⟨⟨oc, od, kV, doc, pm, an, ct, osl, h1, h2, h3⟩, F.kp⟩
  · exact absurd rfl e
theorem triples_nil : TriplesOk (#[] : Array Value).toList := by trivial
theorem dict_at {K : PySem.W.Frag} {w : World} {a : Addr} {ks : List Str} (h : He.dicW K a = some (He.keysIn w.params ks)) : ∃ es n, KDict K w a es n ∧ es.toList.map He.keyOf = He.keysIn w.params ks := by
  obtain ⟨es, n, D⟩ := He.dicW_ok h
  refine ⟨es, n, D, ?_⟩
  unfold He.dicW at h
  rw [D.at_] at h
  have e : (decide (("dict" : String) = "dict") && ((#[] : Array (Option Value)).isEmpty && !(a == sysModules))) = true := by
    rw [D.low]; rfl
  have h2 : (match decide (("dict" : String) = "dict") && ((#[] : Array (Option Value)).isEmpty && !(a == sysModules)) with
    | true => some (es.toList.map He.keyOf)
    | false => none) = some (He.keysIn w.params ks) := h
  rw [e] at h2
  exact Option.some.inj h2
theorem ga_fAd (K : PySem.W.Frag) (x : Str) : He.ga K x = He.fAd K (x, none) := rfl
theorem law_at {w : World} {K : PySem.W.Frag} {h : Heap} {mg : Str → Option Value} {fl : Addr} (X : K.In h) (Gm : h.Ns mainGlobals mg) (hfa : mg ("law" : Str) = some (.ref fl)) (c : He.SaysX fa9 fn9 ts9 tf9 ex9 w h K) :
    LamX.LawAtS PySem.Challenge.rw_processturns_k13_whole_family w K CX0 10 63 "_law_script" mg fl h := by
  have cd : He.SaysD fa9 fn9 K := c.t.d
  have cx := c.more
  unfold ex9 at cx
  obtain ⟨x0, cx⟩ := He.ba cx
  obtain ⟨x1, cx⟩ := He.ba cx
  obtain ⟨x2, cx⟩ := He.ba cx
  obtain ⟨x3, cx⟩ := He.ba cx
  obtain ⟨x4, cx⟩ := He.ba cx
  obtain ⟨x5, cx⟩ := He.ba cx
  obtain ⟨x6, cx⟩ := He.ba cx
  obtain ⟨x7, cx⟩ := He.ba cx
  have x8 := cx
  obtain ⟨d0, D0⟩ := cd.def_ 0 (d := hD "is_number" 5) rfl
  have D0 : FunD K "is_number" "is_number" (defArgs (top 5)) (defBody (top 5)) (defScope (top 5)) [] [] (He.fAd K ("is_number", none)) d0 := D0
  have g0 : mg "is_number" = some (.ref (He.fAd K ("is_number", none))) := He.glo_ok X Gm (cd.fact 0 (f := .glo "is_number") rfl)
  have F0 := funD_fun (st := top 5) D0
  have b0 : Binds K d0 ["value", "least", "greatest"] [] := D0.bindsN fun _ _ _ _ _ _ us hl => match us, hl with | [_, _, _], _ => rfl
  obtain ⟨d1, D1⟩ := cd.def_ 1 (d := hD "is_row" 6) rfl
  have D1 : FunD K "is_row" "is_row" (defArgs (top 6)) (defBody (top 6)) (defScope (top 6)) [] [] (He.fAd K ("is_row", none)) d1 := D1
  have g1 : mg "is_row" = some (.ref (He.fAd K ("is_row", none))) := He.glo_ok X Gm (cd.fact 1 (f := .glo "is_row") rfl)
  have F1 := funD_funC (st := top 6) D1
  have b1 : Binds K d1 ["value", "many", "least", "greatest"] [] := D1.bindsN fun _ _ _ _ _ _ us hl => match us, hl with | [_, _, _, _], _ => rfl
  obtain ⟨d2, D2⟩ := cd.def_ 2 (d := hD "_first_word" 8) rfl
  have D2 : FunD K "_first_word" "_first_word" (defArgs (top 8)) (defBody (top 8)) (defScope (top 8)) [] [] (He.fAd K ("_first_word", none)) d2 := D2
  have g2 : mg "_first_word" = some (.ref (He.fAd K ("_first_word", none))) := He.glo_ok X Gm (cd.fact 2 (f := .glo "_first_word") rfl)
  have F2 := funD_fun (st := top 8) D2
  have b2 : Binds K d2 ["value"] [] := D2.bindsN fun _ _ _ _ _ _ us hl => match us, hl with | [_], _ => rfl
  obtain ⟨d3, D3⟩ := cd.def_ 3 (d := hD "_is_order" 9) rfl
  have D3 : FunD K "_is_order" "_is_order" (defArgs (top 9)) (defBody (top 9)) (defScope (top 9)) [] [] (He.fAd K ("_is_order", none)) d3 := D3
  have g3 : mg "_is_order" = some (.ref (He.fAd K ("_is_order", none))) := He.glo_ok X Gm (cd.fact 3 (f := .glo "_is_order") rfl)
  have F3 := funD_fun (st := top 9) D3
  have b3 : Binds K d3 ["value", "size"] [] := D3.bindsN fun _ _ _ _ _ _ us hl => match us, hl with | [_, _], _ => rfl
  obtain ⟨d4, D4⟩ := cd.def_ 4 (d := hD "_is_rule" 10) rfl
  have D4 : FunD K "_is_rule" "_is_rule" (defArgs (top 10)) (defBody (top 10)) (defScope (top 10)) [] [] (He.fAd K ("_is_rule", none)) d4 := D4
  have g4 : mg "_is_rule" = some (.ref (He.fAd K ("_is_rule", none))) := He.glo_ok X Gm (cd.fact 4 (f := .glo "_is_rule") rfl)
  have F4 := funD_fun (st := top 10) D4
  have b4 : Binds K d4 ["value", "size"] [] := D4.bindsN fun _ _ _ _ _ _ us hl => match us, hl with | [_, _], _ => rfl
  obtain ⟨d5, D5⟩ := cd.def_ 5 (d := hD "_is_bare" 11) rfl
  have D5 : FunD K "_is_bare" "_is_bare" (defArgs (top 11)) (defBody (top 11)) (defScope (top 11)) [] [] (He.fAd K ("_is_bare", none)) d5 := D5
  have g5 : mg "_is_bare" = some (.ref (He.fAd K ("_is_bare", none))) := He.glo_ok X Gm (cd.fact 5 (f := .glo "_is_bare") rfl)
  have F5 := funD_fun (st := top 11) D5
  have b5 : Binds K d5 ["value", "size"] [] := D5.bindsN fun _ _ _ _ _ _ us hl => match us, hl with | [_, _], _ => rfl
  obtain ⟨d6, D6⟩ := cd.def_ 6 (d := hD "_is_by_order" 12) rfl
  have D6 : FunD K "_is_by_order" "_is_by_order" (defArgs (top 12)) (defBody (top 12)) (defScope (top 12)) [] [] (He.fAd K ("_is_by_order", none)) d6 := D6
  have g6 : mg "_is_by_order" = some (.ref (He.fAd K ("_is_by_order", none))) := He.glo_ok X Gm (cd.fact 6 (f := .glo "_is_by_order") rfl)
  have F6 := funD_fun (st := top 12) D6
  have b6 : Binds K d6 ["value", "size"] [] := D6.bindsN fun _ _ _ _ _ _ us hl => match us, hl with | [_, _], _ => rfl
  obtain ⟨d7, D7⟩ := cd.def_ 7 (d := hD "_is_by_rounds" 13) rfl
  have D7 : FunD K "_is_by_rounds" "_is_by_rounds" (defArgs (top 13)) (defBody (top 13)) (defScope (top 13)) [] [] (He.fAd K ("_is_by_rounds", none)) d7 := D7
  have g7 : mg "_is_by_rounds" = some (.ref (He.fAd K ("_is_by_rounds", none))) := He.glo_ok X Gm (cd.fact 7 (f := .glo "_is_by_rounds") rfl)
  have F7 := funD_fun (st := top 13) D7
  have b7 : Binds K d7 ["value", "size"] [] := D7.bindsN fun _ _ _ _ _ _ us hl => match us, hl with | [_, _], _ => rfl
  obtain ⟨d8, D8⟩ := cd.def_ 8 (d := hD "_is_by_levels" 14) rfl
  have D8 : FunD K "_is_by_levels" "_is_by_levels" (defArgs (top 14)) (defBody (top 14)) (defScope (top 14)) [] [] (He.fAd K ("_is_by_levels", none)) d8 := D8
  have g8 : mg "_is_by_levels" = some (.ref (He.fAd K ("_is_by_levels", none))) := He.glo_ok X Gm (cd.fact 8 (f := .glo "_is_by_levels") rfl)
  have F8 := funD_funC (st := top 14) D8
  have b8 : Binds K d8 ["value", "size"] [] := D8.bindsN fun _ _ _ _ _ _ us hl => match us, hl with | [_, _], _ => rfl
  obtain ⟨d9, D9⟩ := cd.def_ 9 (d := hD "_is_by_age" 15) rfl
  have D9 : FunD K "_is_by_age" "_is_by_age" (defArgs (top 15)) (defBody (top 15)) (defScope (top 15)) [] [] (He.fAd K ("_is_by_age", none)) d9 := D9
  have g9 : mg "_is_by_age" = some (.ref (He.fAd K ("_is_by_age", none))) := He.glo_ok X Gm (cd.fact 9 (f := .glo "_is_by_age") rfl)
  have F9 := funD_fun (st := top 15) D9
  have b9 : Binds K d9 ["value", "size"] [] := D9.bindsN fun _ _ _ _ _ _ us hl => match us, hl with | [_, _], _ => rfl
  obtain ⟨d10, D10⟩ := cd.def_ 10 (d := hD "_is_by_limits" 16) rfl
  have D10 : FunD K "_is_by_limits" "_is_by_limits" (defArgs (top 16)) (defBody (top 16)) (defScope (top 16)) [] [] (He.fAd K ("_is_by_limits", none)) d10 := D10
  have g10 : mg "_is_by_limits" = some (.ref (He.fAd K ("_is_by_limits", none))) := He.glo_ok X Gm (cd.fact 10 (f := .glo "_is_by_limits") rfl)
  have F10 := funD_fun (st := top 16) D10
  have b10 : Binds K d10 ["value", "size"] [] := D10.bindsN fun _ _ _ _ _ _ us hl => match us, hl with | [_, _], _ => rfl
  obtain ⟨d11, D11⟩ := cd.def_ 11 (d := hD "_is_by_weights" 17) rfl
  have D11 : FunD K "_is_by_weights" "_is_by_weights" (defArgs (top 17)) (defBody (top 17)) (defScope (top 17)) [] [] (He.fAd K ("_is_by_weights", none)) d11 := D11
  have g11 : mg "_is_by_weights" = some (.ref (He.fAd K ("_is_by_weights", none))) := He.glo_ok X Gm (cd.fact 11 (f := .glo "_is_by_weights") rfl)
  have F11 := funD_fun (st := top 17) D11
  have b11 : Binds K d11 ["value", "size"] [] := D11.bindsN fun _ _ _ _ _ _ us hl => match us, hl with | [_, _], _ => rfl
  obtain ⟨d12, D12⟩ := cd.def_ 12 (d := hD "is_scheduler" 19) rfl
  have D12 : FunD K "is_scheduler" "is_scheduler" (defArgs (top 19)) (defBody (top 19)) (defScope (top 19)) [] [] (He.fAd K ("is_scheduler", none)) d12 := D12
  have g12 : mg "is_scheduler" = some (.ref (He.fAd K ("is_scheduler", none))) := He.glo_ok X Gm (cd.fact 12 (f := .glo "is_scheduler") rfl)
  have F12 := funD_fun (st := top 19) D12
  have b12 : Binds K d12 ["value", "size"] [] := D12.bindsN fun _ _ _ _ _ _ us hl => match us, hl with | [_, _], _ => rfl
  obtain ⟨d13, D13⟩ := cd.def_ 13 (d := hD "plain_family" 20) rfl
  have D13 : FunD K "plain_family" "plain_family" (defArgs (top 20)) (defBody (top 20)) (defScope (top 20)) [] [] (He.fAd K ("plain_family", none)) d13 := D13
  have g13 : mg "plain_family" = some (.ref (He.fAd K ("plain_family", none))) := He.glo_ok X Gm (cd.fact 13 (f := .glo "plain_family") rfl)
  have F13 := funD_fun (st := top 20) D13
  have b13 : Binds K d13 ["size"] [] := D13.bindsN fun _ _ _ _ _ _ us hl => match us, hl with | [_], _ => rfl
  obtain ⟨d14, D14⟩ := cd.def_ 14 (d := hD "_law_start" 22) rfl
  have D14 : FunD K "_law_start" "_law_start" (defArgs (top 22)) (defBody (top 22)) (defScope (top 22)) [] [] (He.fAd K ("_law_start", none)) d14 := D14
  have g14 : mg "_law_start" = some (.ref (He.fAd K ("_law_start", none))) := He.glo_ok X Gm (cd.fact 14 (f := .glo "_law_start") rfl)
  have F14 := funD_fun (st := top 22) D14
  have b14 : Binds K d14 ["_law_script"] [] := D14.bindsN fun _ _ _ _ _ _ us hl => match us, hl with | [_], _ => rfl
  obtain ⟨d15, D15⟩ := cd.def_ 15 (d := hD "_law_draw" 23) rfl
  have D15 : FunD K "_law_draw" "_law_draw" (defArgs (top 23)) (defBody (top 23)) (defScope (top 23)) [] [] (He.fAd K ("_law_draw", none)) d15 := D15
  have g15 : mg "_law_draw" = some (.ref (He.fAd K ("_law_draw", none))) := He.glo_ok X Gm (cd.fact 15 (f := .glo "_law_draw") rfl)
  have F15 := funD_fun (st := top 23) D15
  have b15 : Binds K d15 ["_law_draws", "_law_limit"] [] := D15.bindsN fun _ _ _ _ _ _ us hl => match us, hl with | [_, _], _ => rfl
  obtain ⟨d16, D16⟩ := cd.def_ 16 (d := hD "_law_pick" 24) rfl
  have D16 : FunD K "_law_pick" "_law_pick" (defArgs (top 24)) (defBody (top 24)) (defScope (top 24)) [] [] (He.fAd K ("_law_pick", none)) d16 := D16
  have g16 : mg "_law_pick" = some (.ref (He.fAd K ("_law_pick", none))) := He.glo_ok X Gm (cd.fact 16 (f := .glo "_law_pick") rfl)
  have F16 := funD_fun (st := top 24) D16
  have b16 : Binds K d16 ["_law_draws", "_law_choices"] [] := D16.bindsN fun _ _ _ _ _ _ us hl => match us, hl with | [_, _], _ => rfl
  obtain ⟨d17, D17⟩ := cd.def_ 17 (d := hD "_law_order" 25) rfl
  have D17 : FunD K "_law_order" "_law_order" (defArgs (top 25)) (defBody (top 25)) (defScope (top 25)) [] [] (He.fAd K ("_law_order", none)) d17 := D17
  have g17 : mg "_law_order" = some (.ref (He.fAd K ("_law_order", none))) := He.glo_ok X Gm (cd.fact 17 (f := .glo "_law_order") rfl)
  have F17 := funD_fun (st := top 25) D17
  have b17 : Binds K d17 ["_law_draws", "_law_size"] [] := D17.bindsN fun _ _ _ _ _ _ us hl => match us, hl with | [_, _], _ => rfl
  obtain ⟨d18, D18⟩ := cd.def_ 18 (d := hD "_law_scheduler" 26) rfl
  have D18 : FunD K "_law_scheduler" "_law_scheduler" (defArgs (top 26)) (defBody (top 26)) (defScope (top 26)) [] [] (He.fAd K ("_law_scheduler", none)) d18 := D18
  have g18 : mg "_law_scheduler" = some (.ref (He.fAd K ("_law_scheduler", none))) := He.glo_ok X Gm (cd.fact 18 (f := .glo "_law_scheduler") rfl)
  have F18 := funD_fun (st := top 26) D18
  have b18 : Binds K d18 ["_law_draws", "_law_size"] [] := D18.bindsN fun _ _ _ _ _ _ us hl => match us, hl with | [_, _], _ => rfl
  obtain ⟨d19, D19⟩ := cd.def_ 19 (d := hD "_law_longer" 27) rfl
  have D19 : FunD K "_law_longer" "_law_longer" (defArgs (top 27)) (defBody (top 27)) (defScope (top 27)) [] [] (He.fAd K ("_law_longer", none)) d19 := D19
  have g19 : mg "_law_longer" = some (.ref (He.fAd K ("_law_longer", none))) := He.glo_ok X Gm (cd.fact 19 (f := .glo "_law_longer") rfl)
  have F19 := funD_fun (st := top 27) D19
  have b19 : Binds K d19 ["_law_some", "_law_size"] [] := D19.bindsN fun _ _ _ _ _ _ us hl => match us, hl with | [_, _], _ => rfl
  obtain ⟨d20, D20⟩ := cd.def_ 20 (d := hD "_law_odd_orders" 28) rfl
  have D20 : FunD K "_law_odd_orders" "_law_odd_orders" (defArgs (top 28)) (defBody (top 28)) (defScope (top 28)) [] [] (He.fAd K ("_law_odd_orders", none)) d20 := D20
  have g20 : mg "_law_odd_orders" = some (.ref (He.fAd K ("_law_odd_orders", none))) := He.glo_ok X Gm (cd.fact 20 (f := .glo "_law_odd_orders") rfl)
  have F20 := funD_fun (st := top 28) D20
  have b20 : Binds K d20 ["_law_scheduler_here", "_law_wide"] [] := D20.bindsN fun _ _ _ _ _ _ us hl => match us, hl with | [_, _], _ => rfl
  obtain ⟨d21, D21⟩ := cd.def_ 21 (d := hD "_law_known" 29) rfl
  have D21 : FunD K "_law_known" "_law_known" (defArgs (top 29)) (defBody (top 29)) (defScope (top 29)) [] [] (He.fAd K ("_law_known", none)) d21 := D21
  have g21 : mg "_law_known" = some (.ref (He.fAd K ("_law_known", none))) := He.glo_ok X Gm (cd.fact 21 (f := .glo "_law_known") rfl)
  have F21 := funD_fun (st := top 29) D21
  have b21 : Binds K d21 [] [] := D21.bindsN fun _ _ _ _ _ _ us hl => match us, hl with | [], _ => rfl
  obtain ⟨d22, D22⟩ := cd.def_ 22 (d := hD "_law_good" 30) rfl
  have D22 : FunD K "_law_good" "_law_good" (defArgs (top 30)) (defBody (top 30)) (defScope (top 30)) [] [] (He.fAd K ("_law_good", none)) d22 := D22
  have g22 : mg "_law_good" = some (.ref (He.fAd K ("_law_good", none))) := He.glo_ok X Gm (cd.fact 22 (f := .glo "_law_good") rfl)
  have F22 := funD_fun (st := top 30) D22
  have b22 : Binds K d22 [] [] := D22.bindsN fun _ _ _ _ _ _ us hl => match us, hl with | [], _ => rfl
  obtain ⟨d23, D23⟩ := cd.def_ 23 (d := hD "law" 31) rfl
  have D23 : FunD K "law" "law" (defArgs (top 31)) (defBody (top 31)) (defScope (top 31)) [] [] (He.fAd K ("law", none)) d23 := D23
  have g23 : mg "law" = some (.ref (He.fAd K ("law", none))) := He.glo_ok X Gm (cd.fact 23 (f := .glo "law") rfl)
  have F23 := funD_fun (st := top 31) D23
  have b23 : Binds K d23 ["_law_script"] [] := D23.bindsN fun _ _ _ _ _ _ us hl => match us, hl with | [_], _ => rfl
  have G : Glob mg := ⟨He.free_ok X Gm (cd.fact 24 (f := .free "isinstance") rfl), He.free_ok X Gm (cd.fact 25 (f := .free "int") rfl), He.free_ok X Gm (cd.fact 26 (f := .free "bool") rfl), He.free_ok X Gm (cd.fact 27 (f := .free "tuple") rfl), He.free_ok X Gm (cd.fact 28 (f := .free "list") rfl), He.free_ok X Gm (cd.fact 29 (f := .free "str") rfl), He.free_ok X Gm (cd.fact 30 (f := .free "len") rfl), He.free_ok X Gm (cd.fact 31 (f := .free "all") rfl), He.free_ok X Gm (cd.fact 32 (f := .free "any") rfl), He.free_ok X Gm (cd.fact 33 (f := .free "sorted") rfl), He.free_ok X Gm (cd.fact 34 (f := .free "range") rfl)⟩
  have gk : mg "KINDS" = some (.ref (He.ga K "KINDS")) := He.glo_ok X Gm (cd.fact 35 (f := .glo "KINDS") rfl)
  have gp : mg "permutations" = some (.type "itertools.permutations") := PySem.W.mg_of X Gm (He.eqO_ok x0)
  have hts : He.dicW K (He.ga K "KINDS") = some (He.keysIn w.params kindNames) := by
    have e : [He.dicW K (He.ga K "KINDS")] = [some (He.keysIn w.params kindNames)] := congrArg (fun z : He.AlT => z.2) c.t
    exact List.head_eq_of_cons_eq e
  have KT : KindsAt K w (He.ga K "KINDS") (He.ga K "_is_bare") (He.ga K "_is_by_order") (He.ga K "_is_by_rounds") (He.ga K "_is_by_levels") (He.ga K "_is_by_age") (He.ga K "_is_by_limits") (He.ga K "_is_by_weights") :=
    ⟨dict_at hts, He.eqO_ok x1, He.eqO_ok x2, He.eqO_ok x3, He.eqO_ok x4, He.eqO_ok x5, He.eqO_ok x6, He.eqO_ok x7, He.eqO_ok x8⟩
  have el := hfa.symm.trans g23
  cases el
  have m0 : (("is_row", none) : He.Defn) ∈ tf9 := List.mem_cons_self
  have m1 : (("_is_by_levels", none) : He.Defn) ∈ tf9 := List.mem_cons_of_mem _ List.mem_cons_self
  have all2 : ∀ {A : Addr × Addr → Prop}, A (He.cT K ("is_row", none)) → A (He.cT K ("_is_by_levels", none)) → ∀ p ∈ [He.cT K ("is_row", none), He.cT K ("_is_by_levels", none)], A p := fun h1 h2 p hp => by
    rcases List.mem_cons.mp hp with e | e
    · rw [e]; exact h1
    · rw [List.mem_singleton.mp e]; exact h2
  refine ⟨d23, [He.cT K ("is_row", none), He.cT K ("_is_by_levels", none)], spLaw K [He.tabOf K (He.codeOf K ("is_row", none)), He.tabOf K (He.codeOf K ("_is_by_levels", none))], all2 (c.empty _ m0) (c.empty _ m1), all2 (c.out _ m0) (c.out _ m1), all2 (PySem.W.codeHd_of_K X (c.hd _ m0)) (PySem.W.codeHd_of_K X (c.hd _ m1)), fun s u => FunD.bindsA (ps := ["_law_script"]) D23 (fun _ _ _ _ _ _ us hl => match us, hl with | [_], _ => rfl) s [u] rfl, fun H a ns hl _ hT hS => ⟨a, ns, rfl, hS, hl, fun P hP => ?_, fun _ => rfl⟩, fun base hK hN hTB => ?_⟩
  · rcases List.mem_cons.mp hP with e | e
    · rw [e]
      exact ⟨#[], hT _ List.mem_cons_self, triples_nil⟩
    · rw [List.mem_singleton.mp e]
      exact ⟨#[], hT _ (List.mem_cons_of_mem _ List.mem_cons_self), triples_nil⟩
  · have tb0 := hTB _ List.mem_cons_self
    have tb1 := hTB _ (List.mem_cons_of_mem _ List.mem_cons_self)
    have TB0 : GxR.TabB base mg (He.codeOf K ("is_row", none)) (He.tabOf K (He.codeOf K ("is_row", none))) := ⟨tb0.code, tb0.bm, tb0.gP⟩
    have TB1 : GxR.TabB base mg (He.codeOf K ("_is_by_levels", none)) (He.tabOf K (He.codeOf K ("_is_by_levels", none))) := ⟨tb1.code, tb1.bm, tb1.gP⟩
    generalize hT : [He.tabOf K (He.codeOf K ("is_row", none)), He.tabOf K (He.codeOf K ("_is_by_levels", none))] = T
    have hP0 : He.tabOf K (He.codeOf K ("is_row", none)) ∈ T := by rw [← hT]; exact List.mem_cons_self
    have hP1 : He.tabOf K (He.codeOf K ("_is_by_levels", none)) ∈ T := by rw [← hT]; exact List.mem_cons_of_mem _ List.mem_cons_self
    have cN : Cal PySem.Challenge.pw_processturns_k13_whole_family w K mg base "is_number" 1 ["value", "least", "greatest"] (spNum K) _ _ := ⟨g0, F0.kp, b0, ok_num F0 G⟩
    have cR : Cal PySem.Challenge.pw_processturns_k13_whole_family w K mg base "is_row" 3 ["value", "many", "least", "greatest"] (spRow K T) _ _ := ⟨g1, F1.kp, b1, ok_row F1 TB0 hP0 G cN⟩
    have cF : Cal PySem.Challenge.pw_processturns_k13_whole_family w K mg base "_first_word" 1 ["value"] (spFirst K) _ _ := ⟨g2, F2.kp, b2, ok_first F2 G⟩
    have cO : Cal PySem.Challenge.pw_processturns_k13_whole_family w K mg base "_is_order" 4 ["value", "size"] (spOrder K T) _ _ := ⟨g3, F3.kp, b3, ok_order F3 G cR⟩
    have cU : Cal PySem.Challenge.pw_processturns_k13_whole_family w K mg base "_is_rule" 4 ["value", "size"] (spRule K T) _ _ := ⟨g4, F4.kp, b4, ok_rule F4 G cF cR⟩
    have kB : Held PySem.Challenge.pw_processturns_k13_whole_family w K mg base 5 _ (spKind K T bareM) := ⟨_, _, (ok_bare F5 G).mono (by decide), F5.kp, b5⟩
    have kO : Held PySem.Challenge.pw_processturns_k13_whole_family w K mg base 5 _ (spKind K T byOrderM) := ⟨_, _, ok_byOrder F6 G cO cN cU, F6.kp, b6⟩
    have kR : Held PySem.Challenge.pw_processturns_k13_whole_family w K mg base 5 _ (spKind K T roundsM) := ⟨_, _, (ok_rounds F7 G cN).mono (by decide), F7.kp, b7⟩
    have kL : Held PySem.Challenge.pw_processturns_k13_whole_family w K mg base 5 _ (spKind K T levelsM) := ⟨_, _, ok_levels F8 TB1 hP1 G cN cR, F8.kp, b8⟩
    have kA : Held PySem.Challenge.pw_processturns_k13_whole_family w K mg base 5 _ (spKind K T ageM) := ⟨_, _, ok_age F9 G cO cN, F9.kp, b9⟩
    have kD : Held PySem.Challenge.pw_processturns_k13_whole_family w K mg base 5 _ (spKind K T limitsM) := ⟨_, _, (ok_limits F10 G cR).mono (by decide), F10.kp, b10⟩
    have kW : Held PySem.Challenge.pw_processturns_k13_whole_family w K mg base 5 _ (spKind K T weightsM) := ⟨_, _, (ok_weights F11 G cR).mono (by decide), F11.kp, b11⟩
    have cS : Cal PySem.Challenge.pw_processturns_k13_whole_family w K mg base "is_scheduler" 6 ["value", "size"] (spSched K T) _ _ := ⟨g12, F12.kp, b12, ok_sched F12 cN cF gk KT kB kO kR kL kA kD kW (Named.of F5) (Named.of F6) (Named.of F7) (Named.of F8.fun) (Named.of F9) (Named.of F10) (Named.of F11)⟩
    have cFam : Cal PySem.Challenge.pw_processturns_k13_whole_family w K mg base "plain_family" 2 ["size"] (spFam K) _ _ := ⟨g13, F13.kp, b13, ok_fam F13 G gp cN⟩
    have cSt : Cal PySem.Challenge.pw_processturns_k13_whole_family w K mg base "_law_start" 1 ["_law_script"] (spStart K) _ _ := ⟨g14, F14.kp, b14, ok_start F14 G⟩
    have cD : Cal PySem.Challenge.pw_processturns_k13_whole_family w K mg base "_law_draw" 1 ["_law_draws", "_law_limit"] (spDraw T) _ _ := ⟨g15, F15.kp, b15, ok_draw F15 G⟩
    have cP : Cal PySem.Challenge.pw_processturns_k13_whole_family w K mg base "_law_pick" 2 ["_law_draws", "_law_choices"] (spPick K T) _ _ := ⟨g16, F16.kp, b16, ok_pick F16 G F15 b15 g15⟩
    have cOr : Cal PySem.Challenge.pw_processturns_k13_whole_family w K mg base "_law_order" 3 ["_law_draws", "_law_size"] (spLOrd K T) _ _ := ⟨g17, F17.kp, b17, ok_lord F17 G F15 b15 g15 F16 b16 g16⟩
    have cSc : Cal PySem.Challenge.pw_processturns_k13_whole_family w K mg base "_law_scheduler" 4 ["_law_draws", "_law_size"] (spLSch K T) _ _ := ⟨g18, F18.kp, b18, ok_lsch F18 G cD cP cOr⟩
    have cL : Cal PySem.Challenge.pw_processturns_k13_whole_family w K mg base "_law_longer" 1 ["_law_some", "_law_size"] (spLgr K) _ _ := ⟨g19, F19.kp, b19, ok_lgr F19 G⟩
    have cG : Cal PySem.Challenge.pw_processturns_k13_whole_family w K mg base "_law_good" 7 [] (spYes T) _ _ := ⟨g22, F22.kp, b22, ok_good F22 G cS⟩
    have cK : Cal PySem.Challenge.pw_processturns_k13_whole_family w K mg base "_law_known" 8 [] (spYes T) _ _ := ⟨g21, F21.kp, b21, ok_known F21 G cS cG⟩
    have cOd : Cal PySem.Challenge.pw_processturns_k13_whole_family w K mg base "_law_odd_orders" 9 ["_law_scheduler_here", "_law_wide"] (spOdd K T) _ _ := ⟨g20, F20.kp, b20, ok_odd F20 G cS cK⟩
    exact ok_law F23 G cSt cD cL cFam cS cSc cOd
end K13
open PySem PySem.W PySem.Calls PyProof.Rows
theorem PySem.Challenge.cw_processturns_k13_whole_family_holds : PySem.Challenge.rw_processturns_k13_whole_family.Holds := by
  w_on; o_law; o_head (K13.hk9)
  case hw => w_witness2
  case hc =>
    refine LamX.walk_ofTsE (l := PySem.Challenge.rw_processturns_k13_whole_family) (n := 63) (k := 10) (x := "_law_script") (CX := fun _ => L2.CX0) rfl (by decide) (by kernel_rfl) ⟨rfl, by decide, by decide⟩ ?F (fun _ _ _ _ _ z => z)
    intro w mg fa h Y G hmg0
    obtain ⟨K, KX, c⟩ := Y
    have hmg : mg ("law" : PySem.Str) = some (.ref fa) := by
      have e : (HandSHeadRun.topDef K13.R9.prog 31).name = ("law" : PySem.Str) := by kernel_rfl
      rw [← e]
      exact hmg0
    exact ⟨K, KX, K13.law_at KX G hmg c⟩
