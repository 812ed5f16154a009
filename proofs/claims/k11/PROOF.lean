import PyProof.Rows.All
import Wide.All
import OpenK.AllK
import Wide.FinOn
import HandS.ForMost
import HandS.EndTab
import HandS.AnyAll
import HandS.GenList
import HandS.SetBool
import HandS.Strs
import HandS.TupSets
import HandS.IsInst
import HandS.Deep
import HandS.Flow
import HandS.SetFor
import PySem.Challenge.RW_processturns_k11_whole_programs
import HandS.Style
import HandS.More
import HandS.SortRule
import HandS.Head0
import HandS.Head1
import HandS.Head2
import HandS.HeadEnd
import HandS.HeadHook1
import HandS.HeadHook2
import HandS.HeadHook3
import HandS.HeadHook4
import HandS.HeadWalk
import HandS.Defaults
set_option Elab.async false
set_option linter.all false
set_option maxRecDepth 100000
set_option maxHeartbeats 0
namespace GE
open PySem PySem.Spec PyProof.Rows L2 GenW

/-- the context of a generator expression's frame -/
abbrev gcx (X : Cx) (A : Around) (s : Shared) (H : Hp) (env : Env) (fp : List Addr) (pn : List (Addr × Obj)) : Cx :=
  { X with A := A, s_0 := s, H_0 := H, env := env, outer := X.stack, stack := env :: X.stack, ex := fp, fn := fun _ => false, pn := pn, xe := fun _ _ => False }

/-- the names of a generator expression: its own, or captured; none is captured further in -/
structure GxOk (N : List Str) (sc scope : Scope) (own : List (Str × Nat)) : Prop where
  blk : BlkOk N sc scope own
  co : scope.isCoroutine = false
  cell : ∀ y ∈ scope.names, y.2 ≠ .cell
  dot : scope.names.lookup (".0" : Str) = some NameKind.local

abbrev clo (X : Cx) (scope : Scope) : List (Str × Addr) := cloFrom X.env.cells scope.names []

theorem gx_start {X : Cx} {pins : List (Addr × Obj)} {σ : L2.St} {H : Hp} {s : Shared} {scope : Scope} {own : List (Str × Nat)} {fp : List Addr} {code it : Value} {A : Around} {h' : Heap} {go : Obj} {g' : Array GenState} {tk : Nat}
    (I : Inv X pins σ H s) (ok : GxOk X.N X.env.scope scope own) (hN : X.N.Nodup) (hfp : ∀ b ∈ fp, FpOk X pins H b ∧ b < s.heap.objs.size) (hA : X.calm = true → A.handled = none)
    (hAf : A.frames = some (genEnv scope (clo X scope) s.heap.objs.size code builtinsNs X.env :: X.stack))
    (ns : h'.Ns s.heap.objs.size (fun y => if y = ".0" then some it else none)) (sb : Heap.SameBut s.heap.objs.size (s.heap.push { cls := .type "frame", data := .dict #[] }) h') (hgo : ∀ v, go.data ≠ .cell v) (hg : AllBare g') (hgp : ∀ h : Heap, (h.push go).get? h.objs.size = some go) :
    Inv (gcx X A s H (genEnv scope (clo X scope) s.heap.objs.size code builtinsNs X.env) fp [(h'.objs.size, go)]) [] (wipe σ (own.map (·.2))) H { s with gens := g', toks := tk, heap := h'.push go } := by
  have hfree : ∀ y ∈ scope.names, y.2 = .free → ∃ c, X.env.cells.lookup y.1 = some c := fun y hy e => by
    rcases ok.blk.free y hy e with k | k
    · exact I.ok.has _ (.inl k)
    · exact I.ok.has _ (.inr k)
  have sz : h'.objs.size = s.heap.objs.size + 1 := by rw [sb.1, Heap.size_push]
  generalize hcenv : genEnv scope (clo X scope) s.heap.objs.size code builtinsNs X.env = cenv at hAf ⊢
  have kp : ∀ b o, s.heap.get? b = some o → (h'.push go).get? b = some o := fun b o e => Heap.get?_push_of_some _ (sb.extBut b o (Nat.ne_of_lt (Heap.lt_size e)) (Heap.get?_push_of_some _ e))
  have hL : cenv.locals = s.heap.objs.size := by rw [← hcenv]; rfl
  have hcl : cenv.cells = clo X scope := by rw [← hcenv]; rfl
  have hsc : cenv.scope = scope := by rw [← hcenv]; rfl
  have cm : ∀ {y c}, (y, c) ∈ clo X scope → X.env.cells.lookup y = some c ∧ c < s.heap.objs.size := fun {y c} hm => by
    rcases cloFrom_mem hm with hm | ⟨h1, rfl⟩
    · cases hm
    · obtain ⟨c, hc⟩ := hfree _ h1 rfl
      rw [hc]
      obtain ⟨w, z⟩ := I.cell _ _ hc
      exact ⟨rfl, z.lt⟩
  have mem : ∀ {y c}, cenv.cells.lookup y = some c → X.env.cells.lookup y = some c ∧ c < s.heap.objs.size := fun {y c} e => by
    rw [hcl] at e
    exact cm (PySem.mem_of_lookup e)
  have look : ∀ {y}, scope.names.lookup y = some .free → ∃ c, cenv.cells.lookup y = some c ∧ X.env.cells.lookup y = some c := fun {y} hl => by
    have hy : (y, NameKind.free) ∈ scope.names := PySem.mem_of_lookup hl
    obtain ⟨c', e'⟩ := L2.mem_lookup (cloFrom_has (cells := X.env.cells) (acc := []) hy)
    have e2 : cenv.cells.lookup y = some c' := by rw [hcl]; exact e'
    exact ⟨c', e2, (mem e2).1⟩
  have okB : (gcx X A s H cenv fp [(h'.objs.size, go)]).Ok := by
    refine ⟨I.ok.mod, by show cenv.scope.kind = _; rw [hsc]; exact ok.blk.kind, by show cenv.globals = _; rw [← hcenv]; exact I.ok.glob, by show cenv.builtins = _; rw [← hcenv]; rfl, by show s.heap.objs.size ≤ cenv.locals; rw [hL]; exact Nat.le_refl _,
      fun y z c e1 e2 => I.ok.inj y z c (mem e1).1 (mem e2).1, fun y hy => ?_, fun y c z e => absurd z Bool.false_ne_true, hA, hAf, .inr ⟨rfl, ?_⟩, fun b hb => ⟨?_, fun y c e z => ?_⟩, I.bs, Nat.le_trans I.ok.bsz I.sz, fun b o e hb => ?_, fun b hb z => ?_, I.stack, I.stkFree⟩
    · show ∃ c, cenv.cells.lookup y = some c
      have key : ∀ k, cenv.scope.names.lookup y = some k → (k = .cell ∨ k = .free) → ∃ c, cenv.cells.lookup y = some c := fun k hk hk' => by
        rw [hsc] at hk
        rcases hk' with rfl | rfl
        · exact absurd rfl (ok.cell _ (PySem.mem_of_lookup hk))
        · obtain ⟨c, h1, _⟩ := look hk
          exact ⟨c, h1⟩
      rcases hy with hy | hy
      · exact key _ hy (.inl rfl)
      · exact key _ hy (.inr rfl)
    · show cenv.frame = some cenv.locals
      rw [← hcenv]; rfl
    · show b ≠ cenv.locals
      rw [hL]; exact Nat.ne_of_lt (hfp b hb).2
    · exact (hfp b hb).1.2.2.2.2.1 y c (mem (show cenv.cells.lookup y = some c from e)).1 z
    · rcases (hfp b hb).1.2.2.2.1 with z | z
      · exact I.ok.noex b o e z
      · exact absurd (Nat.lt_of_lt_of_le (Heap.lt_size e) (Nat.le_trans I.ok.bsz z)) (Nat.lt_irrefl _)
    · rcases List.mem_cons.mp (I.stkSub b z) with z | z
      · exact (hfp b hb).1.2.1 z
      · exact (hfp b hb).1.2.2.1 z
  refine ⟨okB, rfl, hg, Un.kept kp, ⟨fun y => if y = ".0" then some it else none, ?_, fun i y av e1 e2 e3 => ?_⟩, fun y c e => ?_, ?_, fun y c e => I.freeC y c (mem e).1, fun p hp => ?_, I.hok.kept kp, by rw [wipe_length]; exact I.len⟩
  · show Heap.Ns _ cenv.locals _
    rw [hL]
    exact Heap.Ns.keeps ns fun b o e => Heap.get?_push_of_some _ e
  · obtain ⟨e2, hne⟩ := wipe_some e2
    have e3 : Vis cenv.scope y := e3
    have hfr : scope.names.lookup y = some .free := by
      have no : ∀ k', scope.names.lookup y = some k' → ¬ (k' = .local ∨ k' = .cell) := fun k' e hh => by
        rcases ok.blk.own _ (PySem.mem_of_lookup e) hh with e' | e'
        · obtain ⟨p, hp, hpy⟩ := List.mem_map.mp e'
          have e4 := ok.blk.ix p hp
          have : p.1 = y := hpy
          rw [this] at e4
          exact hne (List.mem_map.mpr ⟨p, hp, nodup_ix hN e4 e1⟩)
        · exact e' (List.mem_of_getElem? e1)
      unfold Vis at e3
      rw [hsc] at e3
      rcases e3 with e3 | e3 | e3
      · exact absurd (.inl rfl) (no _ e3)
      · exact absurd (.inr rfl) (no _ e3)
      · exact e3
    obtain ⟨m, hn, hl⟩ := I.loc
    have hvis : Vis X.env.scope y := (ok.blk.free _ (PySem.mem_of_lookup hfr) rfl).elim (fun k => .inr (.inl k)) (fun k => .inr (.inr k))
    obtain ⟨w, r, q⟩ := hl i y av e1 e2 hvis
    refine ⟨w, r, .inr ⟨.inr (by show cenv.scope.names.lookup y = _; rw [hsc]; exact hfr), ?_⟩⟩
    obtain ⟨c, h1, h2⟩ := look hfr
    rcases q with ⟨k, _⟩ | ⟨_, c', e', z⟩
    · have k : X.env.scope.names.lookup y = some .local := k
      rcases ok.blk.free _ (PySem.mem_of_lookup hfr) rfl with k' | k' <;> rw [show X.env.scope.names.lookup y = _ from k'] at k <;> cases k
    · rw [h2] at e'; cases e'
      exact ⟨c, h1, z.keeps kp⟩
  · obtain ⟨w, z⟩ := I.cell y c (mem (show cenv.cells.lookup y = some c from e)).1
    exact ⟨w, z.keeps kp⟩
  · show H cenv.locals = none
    rw [hL]; exact I.hok.fresh (Nat.le_refl _)
  · have hp' : p = (h'.objs.size, go) := by
      have q : p ∈ [(h'.objs.size, go)] ++ ([] : List (Addr × Obj)) := hp
      simpa using q
    subst hp'
    have hge : s.heap.objs.size ≤ h'.objs.size := by rw [sz]; exact Nat.le_succ _
    refine ⟨hgp h', I.hok.fresh hge, ?_, fun z => ?_, hgo⟩
    · show h'.objs.size ≠ cenv.locals
      rw [hL, sz]; exact Nat.succ_ne_self _
    · rcases List.mem_cons.mp (I.stkSub _ z) with z | z
      · have z' : h'.objs.size = X.env.locals := z
        have q := Nat.lt_of_lt_of_le I.lt hge
        rw [z'] at q
        exact absurd q (Nat.lt_irrefl _)
      · exact I.nofs hge z

/-! ### the generator's run -/
section
variable {X : Cx} {Ag : Around} {s4 : Shared} {H4 : Hp} {cenv : Env} {fp : List Addr} {pn : List (Addr × Obj)} {elt tg iter : Expr} {scope : Scope} {gpos : Pos} {it : Addr} {tn : Nat → Heap → Prop} {J : It} {g : TG} {te : TE}

abbrev gcode (elt tg iter : Expr) (scope : Scope) (gpos : Pos) (it : Addr) (cenv : Env) : Code := .compLoop (.GeneratorExp elt [⟨tg, iter, [], 0⟩] scope gpos) 0 (.ref it) .none cenv
abbrev gstart (elt tg iter : Expr) (scope : Scope) (gpos : Pos) (it : Addr) (cenv : Env) : Code := .compStart (.GeneratorExp elt [⟨tg, iter, [], 0⟩] scope gpos) 0 (.ref it) .none cenv

/-- the end; what is handed out -/
def GR (Z : Cx) (σw : L2.St) (N : Nat) (W : Nat → Hp → Prop) : GenEnd := fun n _ r s1 => r = .ok .next ∧ (n = 1 ∧ ∃ H, W N H ∧ Inv Z [] σw H s1)
def GYd (Z : Cx) (σw : L2.St) (fp : List Addr) (tn : Nat → Heap → Prop) (N : Nat) (f : Nat → V) (W Vv : Nat → Hp → Prop) : Protocol := fun n _ v s1 kap =>
  ∃ i H, (n + i = N ∧ i < N) ∧ RelV (f i) v ∧ Vv i H ∧ Inv Z [] σw H s1 ∧ tn (i + 1) s1.heap ∧ (∀ b ∈ fp, H b = none) ∧
    ∀ s' H', Inv Z [] σw H' s' → tn (i + 1) s'.heap → (∀ b ∈ fp, H' b = none) → W (i + 1) H' → kap (.send .none) s'

theorem seg_loop {N : Nat} {f : Nat → V} {W Vv : Nat → Hp → Prop} {σw : L2.St} {vs : List Nat} (hc : X.calm = true) (hco : cenv.scope.isCoroutine = false) (T : Turn X.prog X.w X.K tg J fp it tn)
    (Z : Cx) (hZ : Z = gcx X (Ag.over (gcode elt tg iter scope gpos it cenv) []) s4 H4 cenv fp pn) (hpn : ∀ b ∈ fp, ∀ p ∈ pn, p.1 ≠ b) (pg : PG Z tg g) (pe : PE Z elt te) (hσ : wipe σw vs = σw)
    (turn : ∀ i H, i < N → W i H → J.go i H ∧ ∀ x H', J.yld i H x H' → g x σw H' fun σ2 H2 => wipe σ2 vs = σw ∧ te σ2 H2 fun y H3 => y = f i ∧ Vv i H3) (stop : ∀ H, W N H → J.stop N H) :
    ∀ (k i : Nat) (s₀ s : Shared) (H : Hp), N - i = k → i ≤ N → Inv Z [] σw H s → tn i s.heap → (∀ b ∈ fp, H b = none) → W i H →
      Seg (model X.prog X.w) Ag (GR Z σw N W) (GYd Z σw fp tn N f W Vv) (N - i + 1) s₀ (gcode elt tg iter scope gpos it cenv) ((model X.prog X.w).den (gcode elt tg iter scope gpos it cenv)) [] s := by
  have stat : ∀ {σ' : L2.St} {H' : Hp} {s' : Shared}, Inv Z [] σ' H' s' → (∀ b ∈ fp, H' b = none) → ∀ b ∈ fp, FpOk Z [] H' b := fun {σ' H' s'} I' hn b hb => by
    subst hZ
    exact ⟨hn b hb, (I'.ok.exf b hb).1, I'.ok.exfs b hb, .inl hb, fun x c e => (I'.ok.exf b hb).2 x c e, fun p hp => hpn b hb p (by simpa using hp)⟩
  have hA : Z.A = Ag.over (gcode elt tg iter scope gpos it cenv) [] := by subst hZ; rfl
  have hP : Z.prog = X.prog := by subst hZ; rfl
  have hw : Z.w = X.w := by subst hZ; rfl
  have hK : Z.K = X.K := by subst hZ; rfl
  have hcZ : Z.calm = true := by subst hZ; exact hc
  have hxe : Z.xe = fun _ _ => False := by subst hZ; rfl
  have henv : Z.env = cenv := by subst hZ; rfl
  intro k
  induction k with
  | zero =>
    intro i s₀ s H hk hi I st nf w
    have hin : i = N := by omega
    subst hin
    show Seg _ Ag _ _ _ s₀ _ ((compTurn (.GeneratorExp elt [⟨tg, iter, [], 0⟩] scope gpos) 0 (.ref it) .none cenv).onRaise (leaving cenv)) [] s
    rw [compTurn_gen, Sem.onRaise_eq_wrap]
    refine seg_bind_wrap (wpAny_standAt ?_)
    have td := T.done Z hP hw hK hcZ i [] s σw H (fun _ _ => False) I (stat I nf) st (stop H w)
    rw [hA] at td
    refine seg_bind_wrap (thnF td fun r s6 ⟨hr, I6⟩ => ?_)
    subst hr
    exact seg_end (.ok .next) ⟨rfl, by omega, H, w, I6⟩
  | succ k ih =>
    intro i s₀ s H hk hi I st nf w
    have hlt : i < N := by omega
    obtain ⟨go, step⟩ := turn i H hlt w
    show Seg _ Ag _ _ _ s₀ _ ((compTurn (.GeneratorExp elt [⟨tg, iter, [], 0⟩] scope gpos) 0 (.ref it) .none cenv).onRaise (leaving cenv)) [] s
    rw [compTurn_gen, Sem.onRaise_eq_wrap]
    refine seg_bind_wrap (wpAny_standAt ?_)
    have ti := T.item Z hP hw hK hcZ i [] s σw H (fun _ _ => False) I (stat I nf) st go
    rw [hA] at ti
    refine seg_bind_wrap (thnF ti fun r s6 ⟨u, hr, h6⟩ => ?_)
    subst hr
    refine seg_bind_wrap (thnF h6 fun _ s7 ⟨x, H7, I7, r7, y7, st7, n7⟩ => ?_)
    have I7' := I7.pinned (stat I7 n7) (T.obj _ _ st7)
    have hpg := pg.run _ s7 _ H7 x u _ I7' r7 (step x H7 y7)
    rw [hP, hw, hA, hxe, henv] at hpg
    refine seg_bind_wrap (thnF hpg fun _ s8 ⟨σ8, H8, I8, hw8, q8⟩ => ?_)
    refine seg_bind_wrap (wpAny_tests_nil ?_)
    simp only [if_true]
    have hy : ∀ v, yieldOut cenv v = yieldValue v := fun v => by simp only [yieldOut, hco, Bool.false_eq_true, if_false]
    simp only [hy]
    rw [Sem.bind_eq_wrap', Sem.bind_eq_wrap', Sem.wrap_wrap, Sem.wrap_wrap]
    have hpe := pe.run _ s8 σ8 H8 _ I8 q8
    rw [hP, hw, hA, hxe, henv] at hpe
    refine seg_wrap (thnF hpe fun z s9 ⟨y, H9, I9, r9, ey, v9⟩ => ?_)
    subst ey
    have pin' : ∀ b ∈ fp, ∀ o, s7.heap.get? b = some o → s9.heap.get? b = some o ∧ H9 b = none := fun b hb o e =>
      let z := I9.pin (b, o) (List.mem_append_right _ (List.mem_append_right _ (mem_pinsAt hb e)))
      ⟨z.1, z.2.1⟩
    have hl : σw.length = σ8.length := by rw [← hw8, wipe_length]
    have I10 : Inv Z [] σw H9 s9 := (I9.unpinned (pins := [])).weak hl fun j v e => by
      rw [← hw8] at e
      exact (wipe_some e).1
    have st9 : tn (i + 1) s9.heap := T.keep _ _ _ st7 fun b hb o e => (pin' b hb o e).1
    have n9 : ∀ b ∈ fp, H9 b = none := fun b hb => by
      obtain ⟨o, e, _⟩ := T.obj _ _ st7 b hb
      exact (pin' b hb o e).2
    refine seg_at (seg_yield rfl rfl rfl ⟨i, H9, ⟨by omega, hlt⟩, r9, v9, I10, st9, n9, fun s' H' I' st' n' w' => ?_⟩)
    have e2 : N - i = N - (i + 1) + 1 := by omega
    rw [e2]
    exact seg_again rfl (ih (i + 1) s' s' H' (by omega) hlt I' st' n' w')

theorem seg_start {N : Nat} {f : Nat → V} {W Vv : Nat → Hp → Prop} {σw : L2.St} {vs : List Nat} (hc : X.calm = true) (hco : cenv.scope.isCoroutine = false) (T : Turn X.prog X.w X.K tg J fp it tn)
    (Z : Cx) (hZ : Z = gcx X (Ag.over (gcode elt tg iter scope gpos it cenv) []) s4 H4 cenv fp pn) (hpn : ∀ b ∈ fp, ∀ p ∈ pn, p.1 ≠ b) (pg : PG Z tg g) (pe : PE Z elt te) (hσ : wipe σw vs = σw)
    (turn : ∀ i H, i < N → W i H → J.go i H ∧ ∀ x H', J.yld i H x H' → g x σw H' fun σ2 H2 => wipe σ2 vs = σw ∧ te σ2 H2 fun y H3 => y = f i ∧ Vv i H3) (stop : ∀ H, W N H → J.stop N H)
    (s₀ s : Shared) (H : Hp) (I : Inv Z [] σw H s) (st : tn 0 s.heap) (nf : ∀ b ∈ fp, H b = none) (w : W 0 H) :
    Seg (model X.prog X.w) Ag (GR Z σw N W) (GYd Z σw fp tn N f W Vv) (N + 1) s₀ (gstart elt tg iter scope gpos it cenv) ((model X.prog X.w).den (gstart elt tg iter scope gpos it cenv)) [] s := by
  have loop := seg_loop (s4 := s4) (H4 := H4) (pn := pn) hc hco T Z hZ hpn pg pe hσ turn stop N 0 s₀ s H (Nat.sub_zero _) (Nat.zero_le _) I st nf w
  rw [Nat.sub_zero] at loop
  show Seg _ Ag _ _ _ s₀ _ ((compStart (.GeneratorExp elt [⟨tg, iter, [], 0⟩] scope gpos) 0 (.ref it) .none cenv).onRaise (leaving cenv)) [] s
  unfold compStart
  rw [Sem.onRaise_eq_wrap]
  show Seg _ Ag _ _ _ s₀ _ ((ask >>= _).wrap _ _ _ _) [] s
  refine seg_bind_wrap (wpAny_askSetting ?_)
  split
  · exact seg_again rfl loop
  · first
      | exact seg_bind_wrap (wpAny_rule (seg_bind_wrap (wpAny_standAt (seg_bind_wrap (T.self _ 0 s _ _ st (seg_again rfl loop))))))
      | (refine seg_bind_wrap (wpAny_rule ?_); show Seg _ Ag _ _ _ s₀ _ ((standAt iter.pos >>= _).wrap _ _ _ _) [] s; exact seg_bind_wrap (wpAny_standAt (seg_bind_wrap (T.self _ 0 s _ _ st (seg_again rfl loop)))))

/-- before turn i; behind the i-th item -/
def St (Z : Cx) (Ag : Around) (σw : L2.St) (fp : List Addr) (tn : Nat → Heap → Prop) (N : Nat) (f : Nat → V) (W Vv : Nat → Hp → Prop) (gn i : Nat) (s : Shared) : Prop :=
  ∃ H gs, Inv Z [] σw H s ∧ tn i s.heap ∧ (∀ b ∈ fp, H b = none) ∧ W i H ∧ s.gens[gn]? = some gs ∧ gs.Goes (model Z.prog Z.w) Ag (GR Z σw N W) (GYd Z σw fp tn N f W Vv) (N - i + 1) (.send .none) (s.setGen gn .running)
def Mid (Z : Cx) (Ag : Around) (σw : L2.St) (fp : List Addr) (tn : Nat → Heap → Prop) (N : Nat) (f : Nat → V) (W Vv : Nat → Hp → Prop) (gn i : Nat) (s : Shared) : Prop :=
  ∃ H, Inv Z [] σw H s ∧ Vv i H ∧ (∀ b ∈ fp, H b = none) ∧ ∀ s' H', s'.gens = s.gens → Inv Z [] σw H' s' → (∀ b ∈ fp, ∀ o, s.heap.get? b = some o → s'.heap.get? b = some o) → (∀ b ∈ fp, H' b = none) → W (i + 1) H' → St Z Ag σw fp tn N f W Vv gn (i + 1) s'

theorem Inv.gens {Z : Cx} {σ : L2.St} {H : Hp} {s : Shared} {pins : List (Addr × Obj)} (I : Inv Z pins σ H s) {g' : Array GenState} (hg : AllBare g') : Inv Z pins σ H { s with gens := g' } :=
  ⟨I.ok, I.os, hg, I.base, I.loc, I.cell, I.free, I.freeC, I.pin, I.hok, I.len⟩
theorem Inv.setGen {Z : Cx} {σ : L2.St} {H : Hp} {s : Shared} {pins : List (Addr × Obj)} (I : Inv Z pins σ H s) {gn : Nat} {x : GenState} (hx : x.bare = true) : Inv Z pins σ H (s.setGen gn x) :=
  Inv.gens I (allBare_setGen I.bare hx)

theorem next_item {Z : Cx} {Ac : Around} {σw : L2.St} {N : Nat} {f : Nat → V} {W Vv : Nat → Hp → Prop} {gn i a : Nat} {s : Shared} {go : Obj} {Q : Option Value → Shared → Prop} {E : Value → Shared → Prop}
    (T : Turn X.prog X.w X.K tg J fp it tn)
    (hpn : (a, go) ∈ Z.pn) (hgo : ∀ h : Heap, h.get? a = some go → h.IsGen a gn) (hh : Ac.handled = none) (hroom : Ac.depth < recursionLimit) (hi : i < N) (st : St Z Ac.in1 σw fp tn N f W Vv gn i s)
    (hQ : ∀ v s', RelV (f i) v → Mid Z Ac.in1 σw fp tn N f W Vv gn i s' → Q (some v) s') : wpAny (model Z.prog Z.w) Ac (pyNext (.ref a)) Q E s := by
  obtain ⟨H, gs, I, t, nf, w, hgs, hgoes⟩ := st
  have hlt : gn < s.gens.size := (Array.getElem?_eq_some_iff.mp hgs).1
  have hg := hgo s.heap (I.pin (a, go) (List.mem_append_left _ hpn)).1
  refine wpAny_gsz (n := s.gens.size) (Nat.le_refl _) ?_
  refine wpAny_pyNext_genexpQ (P := fun n _ s1 => n = 1 ∧ ∃ H, W N H ∧ Inv Z [] σw H s1) hh I.nolimit hroom hg hgs hgoes (fun v s₁ gs' hb hv => ?_) (fun s₁ hp h' hk => ?_)
  · obtain ⟨j, H3, hj, rv, vv, I3, t3, n3, kap⟩ := hv
    have hji : j = i := by omega
    subst hji
    intro hsz
    have hsz : s.gens.size ≤ (s₁.setGen gn gs').gens.size := hsz
    have hsz2 : gn < (s₁.setGen gn gs').gens.size := Nat.lt_of_lt_of_le hlt hsz
    have hsz3 : gn < s₁.gens.size := by rw [setGen_size] at hsz2; exact hsz2
    refine hQ v _ rv ⟨H3, Inv.setGen I3 hb, vv, n3, fun s' H' eg I' hk hn' w' => ?_⟩
    have egs : s'.gens[gn]? = some gs' := by rw [eg]; exact setGen_at hsz3
    refine ⟨H', gs', I', T.keep _ _ _ t3 fun b hb o e => hk b hb o e, hn', w', egs, ?_⟩
    have e2 : N - (j + 1) + 1 = N - j := by omega
    rw [e2]
    exact kap (s'.setGen gn .running) H' (Inv.setGen I' rfl) (T.keep _ _ _ t3 fun b hb o e => hk b hb o e) hn' w'
  · have := hp.1
    omega
theorem next_done {Z : Cx} {Ac : Around} {σw : L2.St} {N : Nat} {f : Nat → V} {W Vv : Nat → Hp → Prop} {gn a : Nat} {s : Shared} {go : Obj} {Q : Option Value → Shared → Prop} {E : Value → Shared → Prop}
    (hpn : (a, go) ∈ Z.pn) (hgo : ∀ h : Heap, h.get? a = some go → h.IsGen a gn) (hh : Ac.handled = none) (hroom : Ac.depth < recursionLimit) (st : St Z Ac.in1 σw fp tn N f W Vv gn N s)
    (hQ : ∀ s' H, W N H → Inv Z [] σw H s' → Q none s') : wpAny (model Z.prog Z.w) Ac (pyNext (.ref a)) Q E s := by
  obtain ⟨H, gs, I, t, nf, w, hgs, hgoes⟩ := st
  have hg := hgo s.heap (I.pin (a, go) (List.mem_append_left _ hpn)).1
  refine wpAny_pyNext_genexpQ (P := fun n _ s1 => n = 1 ∧ ∃ H, W N H ∧ Inv Z [] σw H s1) hh I.nolimit hroom hg hgs hgoes (fun v s₁ gs' hb hv => ?_) (fun s₁ hp h' hk => ?_)
  · obtain ⟨j, H3, hj, _⟩ := hv
    omega
  · obtain ⟨_, H3, w3, I3⟩ := hp
    exact hQ _ H3 w3 (Inv.setGen (I3.kept (t' := s₁.toks) hk) rfl)
end

section
variable {X : Cx} {pins : List (Addr × Obj)} {σ : L2.St} {H : Hp} {s : Shared}

def Turns (J : It) (g : TG) (te : TE) (vs : List Nat) (σw : L2.St) (N : Nat) (f : Nat → V) (W Vv : Nat → Hp → Prop) : Prop :=
  ∀ i H, i < N → W i H → J.go i H ∧ ∀ x H', J.yld i H x H' → g x σw H' fun σ2 H2 => wipe σ2 vs = σw ∧ te σ2 H2 fun y H3 => y = f i ∧ Vv i H3
/-- the generator at a, made and not begun -/
def Ready (X : Cx) (pins : List (Addr × Obj)) (σ : L2.St) (J : It) (g : TG) (te : TE) (vs : List Nat) (a : Addr) (H2 : Hp) (s5 : Shared) : Prop :=
  ∃ (Z : Cx) (tg : Expr) (go : Obj) (gn : Nat) (fp : List Addr) (it : Addr) (tn : Nat → Heap → Prop), Z.prog = X.prog ∧ Z.w = X.w ∧ Z.K = X.K ∧ Turn X.prog X.w X.K tg J fp it tn ∧ (a, go) ∈ Z.pn ∧ (∀ h : Heap, h.get? a = some go → h.IsGen a gn) ∧ Inv Z [] (wipe σ vs) H2 s5 ∧ (∀ b ∈ fp, H2 b = none ∧ b < s5.heap.objs.size) ∧
    (∀ H' s', Inv Z [] (wipe σ vs) H' s' → Inv X pins σ H' s') ∧
    ∀ N f W Vv, Turns J g te vs (wipe σ vs) N f W Vv → (∀ H, W N H → J.stop N H) → ∀ s' H', s'.gens = s5.gens → Inv Z [] (wipe σ vs) H' s' → (∀ b ∈ fp, ∀ o, s5.heap.get? b = some o → s'.heap.get? b = some o) → (∀ b ∈ fp, H' b = none) → W 0 H' →
      St Z X.A.in1.in1 (wipe σ vs) fp tn N f W Vv gn 0 s'

theorem wipe_wipe (σ : L2.St) : ∀ vs : List Nat, wipe (wipe σ vs) vs = wipe σ vs := by
  intro vs
  refine List.ext_getElem? fun i => ?_
  by_cases hi : i ∈ vs
  · have e : ∀ τ : L2.St, (wipe τ vs)[i]? = if i < τ.length then some none else none := fun τ => by
      have hl : (wipe τ vs).length = τ.length := wipe_length τ vs
      by_cases hl2 : i < τ.length
      · rw [if_pos hl2]
        cases e1 : (wipe τ vs)[i]? with
        | none => rw [List.getElem?_eq_none_iff] at e1; omega
        | some o =>
          cases o with
          | none => rfl
          | some v => exact absurd hi (wipe_some e1).2
      · rw [if_neg hl2, List.getElem?_eq_none_iff]; omega
    rw [e, e, wipe_length]
  · rw [wipe_out hi]

theorem over_g {A : Around} {elt tg iter : Expr} {scope : Scope} {gpos : Pos} {it : Addr} {cenv : Env} {l : List Env} (h : A.frames = some l) : (A.over (gcode elt tg iter scope gpos it cenv) []).frames = some (cenv :: l) := by
  show pushEnvs [cenv] (pushEnvs [] A.frames) = _
  rw [h]
  rfl
theorem room_g {X : Cx} {k : Nat} {elt tg iter : Expr} {scope : Scope} {gpos : Pos} {it : Addr} {cenv : Env} (hr : Room (k + 1) X.A) : Room k (X.A.in1.in1.over (gcode elt tg iter scope gpos it cenv) []) := by
  refine ⟨hr.hd, ?_, ?_⟩
  · have := hr.dp
    show X.A.depth + 0 + 1 + 3 * k + 5 < _
    omega
  · have := hr.un
    show X.A.units + 1 + 1 + 0 + 3 + 16 * k + 200 < _
    omega

theorem gen_make {c P : Addr} {elt tg iter : Expr} {gpos : Pos} {scope : Scope} {own : List (Str × Nat)} {k : Nat} {wi : TI} {g : TG} {te : TE} {Q' : Value → Shared → Prop} {R : It → Hp → Prop}
    (hr : Room (k + 1) X.A) (hc : X.calm = true) (hN : X.N.Nodup) (TB : GxR.TabB X.base X.mg c P) (hcode : X.env.code = .ref c) (ok : GxOk X.N X.env.scope scope own) (hi : PI X tg iter wi)
    (hg : ∀ (A : Around) (s : Shared) (H : Hp) (code : Value) (fp : List Addr) (pn : List (Addr × Obj)), PG (gcx X A s H (genEnv scope (clo X scope) s.heap.objs.size code builtinsNs X.env) fp pn) tg g)
    (he : ∀ (A : Around) (s : Shared) (H : Hp) (code : Value) (fp : List Addr) (pn : List (Addr × Obj)), Room k A → PE (gcx X A s H (genEnv scope (clo X scope) s.heap.objs.size code builtinsNs X.env) fp pn) elt te)
    (hs : ∀ v, genFold iter X.env v = pure v) (I : Inv X pins σ H s) (h : wi σ H fun J H1 => GxR.TabG H1 P ∧ R J H1)
    (hQ : ∀ J H1 H2 a s5, R J H1 → GxR.Tabbed P H1 H2 → Ready X pins σ J g te (own.map (·.2)) a H2 s5 → Q' (.ref a) s5) :
    wpAny (model X.prog X.w) X.A (eval (.GeneratorExp elt [⟨tg, iter, [], 0⟩] scope gpos) X.env) Q' X.xe s := by
  have hfree : ∀ y ∈ scope.names, y.2 = .free → ∃ c, X.env.cells.lookup y.1 = some c := fun y hy e => by
    rcases ok.blk.free y hy e with k | k
    · exact I.ok.has _ (.inl k)
    · exact I.ok.has _ (.inr k)
  refine wpAny_GeneratorExp_make ok.co (closure_ok hfree) ok.cell ok.dot ok.blk.kind hr.depth ?_ hs
  refine thn (hi.run pins s σ H _ I h) fun xv s1 hx => thn hx fun itv s2 h2 => ?_
  obtain ⟨it, fp, tn, J, H2, e, I2, T, st2, f2, ⟨ps, hP, ht⟩, q⟩ := h2
  subst e
  have hPs : s2.heap.get? P = some { cls := .none, data := .fields ps } := I2.hok P _ hP
  have cd : PySem.W.CodeHd s2.heap c P := TB.code.keeps fun b u e => I2.bk b u e
  refine ⟨I2.nolimit, ?_⟩
  have cont : ∀ (code : Value) (h3 : Heap) (tk : Nat) (ps' : Array Value), Heap.ExtBut P s2.heap h3 → h3.get? P = some { cls := .none, data := .fields ps' } → (∃ more, ps' = ps ++ more) → TriplesOk ps'.toList →
      wpAny (model X.prog X.w) X.A (builtinsFor X.env.globals X.env.builtins) (fun bi s₄ =>
        ∀ h', h'.Ns s₄.heap.objs.size (fun y => if y = ".0" then some (.ref it) else none) → Heap.SameBut s₄.heap.objs.size (s₄.heap.push { cls := .type "frame", data := .dict #[] }) h' →
          Q' (.ref h'.objs.size) { s₄ with
            gens := s₄.gens.push (.fresh (.compStart (.GeneratorExp elt [⟨tg, iter, [], 0⟩] scope gpos) 0 (.ref it) .none (genEnv scope (clo X scope) s₄.heap.objs.size code bi X.env))),
            toks := s₄.toks + 1 + 1 + 1,
            heap := h'.push { cls := .type "generator", data := .fields #[.int s₄.gens.size 0, .str "<genexpr>" (s₄.toks + 1), .str (X.env.qual ++ "<genexpr>") (s₄.toks + 1 + 1)] } }) X.xe { s2 with heap := h3, toks := tk } := by
    intro code h3 tk ps' hx hP3 hmore ht3
    obtain ⟨more, em⟩ := hmore
    obtain ⟨bm, ob, e1, e2, e3, e4, e5, e6, e7, e8⟩ := TB.bm
    have J3 : Inv X pins σ (upd H2 P (.tbl (ps ++ more))) { s2 with heap := h3, gens := s2.gens, drawn := s2.drawn, toks := tk } :=
      GxR.inv_tab (more := more) (h' := h3) (g' := s2.gens) (d' := s2.drawn) (t' := tk) I2 hP (fun b u hb e => hx b u hb e) (by rw [← em]; exact hP3) I2.bare
    refine wpAny_builtinsFor (m := X.mg) (by rw [I2.ok.glob]; exact (I2.mod.glob.keeps I2.bk).extBut hx TB.gP) e1 e2 (hx _ _ e4 (I2.bk _ _ e5)) e6 e7 e8 ?_
    intro h' ns sb
    have nP : ∀ b, H2 b = none → b ≠ P := fun b n z => by rw [z, hP] at n; cases n
    have f3 : ∀ b ∈ fp, FpOk X pins (upd H2 P (.tbl (ps ++ more))) b ∧ b < h3.objs.size := fun b hb => by
      obtain ⟨o, e, _⟩ := T.obj _ _ st2 b hb
      refine ⟨⟨?_, (f2 b hb).2⟩, ?_⟩
      · rw [upd_ne (nP b (f2 b hb).1)]
        exact (f2 b hb).1
      · exact Heap.lt_size (hx b o (nP b (f2 b hb).1) e)
    have st3 : tn 0 h3 := T.keep _ _ _ st2 fun b hb o e => hx b o (nP b (f2 b hb).1) e
    have sz : h'.objs.size = h3.objs.size + 1 := by rw [sb.1]; exact Heap.size_push ..
    generalize hcenv : genEnv scope (clo X scope) h3.objs.size code builtinsNs X.env = cenv
    generalize hgo : ({ cls := .type "generator", data := .fields #[.int s2.gens.size 0, .str "<genexpr>" (tk + 1), .str (X.env.qual ++ "<genexpr>") (tk + 1 + 1)] } : Obj) = go
    have hgd : ∀ v, go.data ≠ .cell v := fun v z => by rw [← hgo] at z; cases z
    have hgp : ∀ h : Heap, (h.push go).get? h.objs.size = some go := fun h => by rw [← hgo]; exact Heap.get?_push_size _ rfl
    have hgen : ∀ (a : Addr) (h : Heap), h.get? a = some go → h.IsGen a s2.gens.size := fun a h e => by
      rw [← hgo] at e
      exact ⟨_, _, _, e, rfl, rfl, rfl⟩
    have hAf : (X.A.in1.in1.over (gcode elt tg iter scope gpos it cenv) []).frames = some (cenv :: X.stack) := over_g (show X.A.in1.in1.frames = some X.stack from I2.ok.frames)
    generalize hZ : gcx X (X.A.in1.in1.over (gcode elt tg iter scope gpos it cenv) []) { s2 with heap := h3, toks := tk } (upd H2 P (.tbl (ps ++ more))) cenv fp [(h'.objs.size, go)] = Z
    have I5 : Inv Z [] (wipe σ (own.map (·.2))) (upd H2 P (.tbl (ps ++ more))) { s2 with gens := s2.gens.push (.fresh (gstart elt tg iter scope gpos it cenv)), toks := tk + 1 + 1 + 1, heap := h'.push go } := by
      rw [← hZ, ← hcenv]
      exact gx_start (A := X.A.in1.in1.over (gcode elt tg iter scope gpos it (genEnv scope (clo X scope) h3.objs.size code builtinsNs X.env)) []) J3 ok hN f3 (fun _ => hr.hd) (by rw [hcenv]; exact hAf) ns sb hgd (I2.bare.push rfl) hgp
    have pg := hg (X.A.in1.in1.over (gcode elt tg iter scope gpos it cenv) []) { s2 with heap := h3, toks := tk } (upd H2 P (.tbl (ps ++ more))) code fp [(h'.objs.size, go)]
    have pe := he (X.A.in1.in1.over (gcode elt tg iter scope gpos it cenv) []) { s2 with heap := h3, toks := tk } (upd H2 P (.tbl (ps ++ more))) code fp [(h'.objs.size, go)] (room_g hr)
    have ezz : genEnv scope (clo X scope) ({ s2 with heap := h3, toks := tk } : Shared).heap.objs.size code builtinsNs X.env = cenv := hcenv
    rw [ezz, hZ] at pg pe
    have hzpn : (h'.objs.size, go) ∈ Z.pn := by rw [← hZ]; exact List.mem_singleton.mpr rfl
    have n5 : ∀ b ∈ fp, (upd H2 P (.tbl (ps ++ more))) b = none := fun b hb => (f3 b hb).1.1
    have hfpn : ∀ b ∈ fp, ∀ p ∈ [(h'.objs.size, go)], p.1 ≠ b := fun b hb p hp z => by
      rw [List.mem_singleton.mp hp] at z
      have z' : h'.objs.size = b := z
      have q := (f3 b hb).2
      rw [← z', sz] at q
      exact absurd q (Nat.not_lt.mpr (Nat.le_succ _))
    refine hQ J H2 (upd H2 P (.tbl (ps ++ more))) h'.objs.size _ q ⟨⟨ps ++ more, upd_same, by rw [← em]; exact ht3⟩, fun b hb => upd_ne hb⟩ ?_
    refine ⟨Z, tg, go, s2.gens.size, fp, it, tn, by rw [← hZ], by rw [← hZ], by rw [← hZ], T, hzpn, hgen _, I5, fun b hb => ⟨n5 b hb, ?_⟩, fun H' s' I' => ?_, fun N f W Vv ht hst s' H' eg I' hk hn w' => ?_⟩
    · show b < (h'.push go).objs.size
      rw [Heap.size_push, sz]
      exact Nat.lt_succ_of_lt (Nat.lt_succ_of_lt (f3 b hb).2)
    · have I6 : Inv (gcx X (X.A.in1.in1.over (gcode elt tg iter scope gpos it cenv) []) { s2 with heap := h3, toks := tk } (upd H2 P (.tbl (ps ++ more))) cenv fp [(h'.objs.size, go)]) [] (wipe σ (own.map (·.2))) H' s' := by rw [hZ]; exact I'
      exact J3.call' (ch := fp) I6.os I6.base I6.hok I6.bare fun b hb => ⟨(f3 b hb).1.2.2.2.1, (f3 b hb).1.2.1, (f3 b hb).1.2.2.2.2.1, (f3 b hb).1.2.2.2.2.2⟩
    · have st5 : tn 0 s'.heap := T.keep _ _ _ st3 fun b hb o e => by
        have hb3 := (f3 b hb).2
        have e1 : (h3.push { cls := .type "frame", data := .dict #[] }).get? b = some o := Heap.get?_push_of_some _ e
        have e2 : h'.get? b = some o := sb.extBut b o (Nat.ne_of_lt hb3) e1
        exact hk b hb o (Heap.get?_push_of_some _ e2)
      have egs : s'.gens[s2.gens.size]? = some (.fresh (gstart elt tg iter scope gpos it cenv)) := by rw [eg]; exact Array.getElem?_push_size ..
      have hp' : Z.prog = X.prog := by rw [← hZ]
      have hw' : Z.w = X.w := by rw [← hZ]
      refine ⟨H', _, I', st5, hn, w', egs, ?_⟩
      rw [hp', hw']
      refine ⟨rfl, ?_⟩
      exact seg_start (s4 := { s2 with heap := h3, toks := tk }) (H4 := upd H2 P (.tbl (ps ++ more))) (pn := [(h'.objs.size, go)]) hc (by rw [← hcenv]; exact ok.co) T Z hZ.symm hfpn pg pe (wipe_wipe _ _) ht hst _ _ H' (Inv.setGen I' rfl) st5 hn w'
  cases hf : codeAmong gpos ps.toList with
  | none =>
    refine wpAny_genexprCodeX hcode (cd.code hPs ht) (cd.tab hPs) hf fun c' h' tk hx hge hlt hco' _ htab' _ => ?_
    obtain ⟨o1, vs, f1, tf, fl, tg', inF, tx, tt, op, _, _, _, _, _, _, _, _, _, htr, _⟩ := hco'
    exact cont _ h' tk _ hx htab'.2 ⟨_, rfl⟩ htr
  | some cv =>
    refine wpAny_genexprCode_hit hcode (cd.code hPs ht) hf ?_
    exact cont cv s2.heap s2.toks ps (Heap.ExtBut.refl _ _) hPs ⟨#[], by simp⟩ ht
end

/-! ### all, any -/
section
variable {X : Cx}
def tAllG (P : Addr) (wi : TI) (g : TG) (te : TE) (vs : List Nat) : TE := fun σ H Q => wi σ H fun J H1 => GxR.TabG H1 P ∧ ∀ H2, GxR.Tabbed P H1 H2 → ∃ (N : Nat) (f : Nat → Bool) (W : Nat → Hp → Prop),
  W 0 H2 ∧ Turns J g te vs (wipe σ vs) N (fun i => .bl (f i)) W (fun i => W (i + 1)) ∧ (∀ H, W N H → J.stop N H) ∧ ∀ i H, i ≤ N → W i H → Q (.bl ((List.range N).all f)) H
def tAnyG (P : Addr) (wi : TI) (g : TG) (te : TE) (vs : List Nat) : TE := fun σ H Q => wi σ H fun J H1 => GxR.TabG H1 P ∧ ∀ H2, GxR.Tabbed P H1 H2 → ∃ (N : Nat) (f : Nat → Bool) (W : Nat → Hp → Prop),
  W 0 H2 ∧ Turns J g te vs (wipe σ vs) N (fun i => .bl (f i)) W (fun i => W (i + 1)) ∧ (∀ H, W N H → J.stop N H) ∧ ∀ i H, i ≤ N → W i H → Q (.bl ((List.range N).any f)) H

theorem all_loop {Z : Cx} {A : Around} {R : Result → Shared → Prop} {tg : Expr} {J : It} {it a : Addr} {go : Obj} {gn : Nat} {fp : List Addr} {tn : Nat → Heap → Prop} {σw : L2.St} {N : Nat} {f : Nat → Bool} {W : Nat → Hp → Prop} (T : Turn Z.prog Z.w Z.K tg J fp it tn)
    (hpn : (a, go) ∈ Z.pn) (hgo : ∀ h : Heap, h.get? a = some go → h.IsGen a gn) (hh : A.handled = none) (hroom : A.depth < recursionLimit)
    (hR : ∀ i s' H, i ≤ N → W i H → Inv Z [] σw H s' → R (.ok (.ret (.bool ((List.range N).all f)))) s') :
    ∀ (k i : Nat) (s : Shared), N - i = k → i ≤ N → ((List.range N).all f = ((List.range N).drop i).all f) → St Z A.in1.in1 σw fp tn N (fun i => .bl (f i)) W (fun i => W (i + 1)) gn i s → codeAny (model Z.prog Z.w) A (.builtin "all.loop" ⟨[.ref a], []⟩) R s := by
  intro k
  induction k with
  | zero =>
    intro i s hk hi hall st
    have hin : i = N := by omega
    subst hin
    refine codeAny_builtin F.entry_all_loop ?_
    rw [Around.under_plainId F.plain_all_loop _]
    show wpAny _ A.in1 (pyNext (.ref a) >>= _) _ _ s
    refine wpAny_bind (next_done hpn hgo hh hroom st fun s' H w I => ?_)
    refine wpAny_bind (wpAny_rule (wpAny_pure ?_))
    have h9 := hR i s' H (Nat.le_refl _) w I
    rw [hall, List.drop_of_length_le (by simp)] at h9
    exact h9
  | succ k ih =>
    intro i s hk hi hall st
    have hlt : i < N := by omega
    have hd : (List.range N).drop i = i :: (List.range N).drop (i + 1) := by
      rw [List.drop_eq_getElem_cons (by simpa using hlt)]; simp
    refine codeAny_builtin F.entry_all_loop ?_
    rw [Around.under_plainId F.plain_all_loop _]
    show wpAny _ A.in1 (pyNext (.ref a) >>= _) _ _ s
    refine wpAny_bind (next_item T hpn hgo hh hroom hlt st fun v s' rv hm => ?_)
    obtain rfl : v = Value.bool (f i) := rv
    obtain ⟨H, I, w, nfp, mid⟩ := hm
    refine wpAny_bind (wpAny_holding (wpAny_truthy_bool ?_))
    refine wpAny_bind (wpAny_letGo ?_)
    cases hb : f i with
    | true =>
      simp only [if_true]
      refine wpAny_pure ⟨plainId_quiet F.plain_all_loop _, ih (i + 1) _ (by omega) hlt ?_ (mid s' H rfl I (fun _ _ _ e => e) nfp w)⟩
      rw [hall, hd, List.all_cons, hb, Bool.true_and]
    | false =>
      simp only [Bool.false_eq_true, if_false]
      refine wpAny_bind (wpAny_rule (wpAny_pure ?_))
      have h9 := hR (i + 1) s' H hlt w I
      rw [hall, hd, List.all_cons, hb, Bool.false_and] at h9
      exact h9
theorem any_loop {Z : Cx} {A : Around} {R : Result → Shared → Prop} {tg : Expr} {J : It} {it a : Addr} {go : Obj} {gn : Nat} {fp : List Addr} {tn : Nat → Heap → Prop} {σw : L2.St} {N : Nat} {f : Nat → Bool} {W : Nat → Hp → Prop} (T : Turn Z.prog Z.w Z.K tg J fp it tn)
    (hpn : (a, go) ∈ Z.pn) (hgo : ∀ h : Heap, h.get? a = some go → h.IsGen a gn) (hh : A.handled = none) (hroom : A.depth < recursionLimit)
    (hR : ∀ i s' H, i ≤ N → W i H → Inv Z [] σw H s' → R (.ok (.ret (.bool ((List.range N).any f)))) s') :
    ∀ (k i : Nat) (s : Shared), N - i = k → i ≤ N → ((List.range N).any f = ((List.range N).drop i).any f) → St Z A.in1.in1 σw fp tn N (fun i => .bl (f i)) W (fun i => W (i + 1)) gn i s → codeAny (model Z.prog Z.w) A (.builtin "any.loop" ⟨[.ref a], []⟩) R s := by
  intro k
  induction k with
  | zero =>
    intro i s hk hi hall st
    have hin : i = N := by omega
    subst hin
    refine codeAny_builtin F.entry_any_loop ?_
    rw [Around.under_plainId F.plain_any_loop _]
    show wpAny _ A.in1 (pyNext (.ref a) >>= _) _ _ s
    refine wpAny_bind (next_done hpn hgo hh hroom st fun s' H w I => ?_)
    refine wpAny_bind (wpAny_rule (wpAny_pure ?_))
    have h9 := hR i s' H (Nat.le_refl _) w I
    rw [hall, List.drop_of_length_le (by simp)] at h9
    exact h9
  | succ k ih =>
    intro i s hk hi hall st
    have hlt : i < N := by omega
    have hd : (List.range N).drop i = i :: (List.range N).drop (i + 1) := by
      rw [List.drop_eq_getElem_cons (by simpa using hlt)]; simp
    refine codeAny_builtin F.entry_any_loop ?_
    rw [Around.under_plainId F.plain_any_loop _]
    show wpAny _ A.in1 (pyNext (.ref a) >>= _) _ _ s
    refine wpAny_bind (next_item T hpn hgo hh hroom hlt st fun v s' rv hm => ?_)
    obtain rfl : v = Value.bool (f i) := rv
    obtain ⟨H, I, w, nfp, mid⟩ := hm
    refine wpAny_bind (wpAny_holding (wpAny_truthy_bool ?_))
    refine wpAny_bind (wpAny_letGo ?_)
    cases hb : f i with
    | false =>
      simp only [Bool.false_eq_true, if_false]
      refine wpAny_pure ⟨plainId_quiet F.plain_any_loop _, ih (i + 1) _ (by omega) hlt ?_ (mid s' H rfl I (fun _ _ _ e => e) nfp w)⟩
      rw [hall, hd, List.any_cons, hb, Bool.false_or]
    | true =>
      simp only [if_true]
      refine wpAny_bind (wpAny_rule (wpAny_pure ?_))
      have h9 := hR (i + 1) s' H hlt w I
      rw [hall, hd, List.any_cons, hb, Bool.true_or] at h9
      exact h9

theorem pe_allG {c P : Addr} {elt tg iter : Expr} {p pos gpos : Pos} {scope : Scope} {own : List (Str × Nat)} {k : Nat} {wi : TI} {g : TG} {te : TE}
    (hr : Room (k + 1) X.A) (hc : X.calm = true) (hN : X.N.Nodup) (hgl : Gl X "all") (hm : X.mg "all" = none) (TB : GxR.TabB X.base X.mg c P) (hcode : X.env.code = .ref c) (ok : GxOk X.N X.env.scope scope own) (hi : PI X tg iter wi)
    (hg : ∀ (A : Around) (s : Shared) (H : Hp) (code : Value) (fp : List Addr) (pn : List (Addr × Obj)), PG (gcx X A s H (genEnv scope (clo X scope) s.heap.objs.size code builtinsNs X.env) fp pn) tg g)
    (he : ∀ (A : Around) (s : Shared) (H : Hp) (code : Value) (fp : List Addr) (pn : List (Addr × Obj)), Room k A → PE (gcx X A s H (genEnv scope (clo X scope) s.heap.objs.size code builtinsNs X.env) fp pn) elt te)
    (hs : ∀ v, genFold iter X.env v = pure v := by intro _; rfl)
    (hst : starEach [.GeneratorExp elt [⟨tg, iter, [], 0⟩] scope gpos] X.env = (false, eval (.GeneratorExp elt [⟨tg, iter, [], 0⟩] scope gpos) X.env) :: starEach [] X.env := by rfl) :
    PE X (.Call (.Name "all" p) [.GeneratorExp elt [⟨tg, iter, [], 0⟩] scope gpos] [] pos) (tAllG P wi g te (own.map (·.2))) := by
  refine ⟨fun pins s σ H Q I h => ?_⟩
  refine wpAny_Call_Name_kw (ld_blt I hgl hm boot_all ?_)
  refine PyProof.Rows.callWith_builtin1 ?_ hst (by rfl)
  rw [hst]
  show wpAny _ _ (spliced ((false, eval (.GeneratorExp elt [⟨tg, iter, [], 0⟩] scope gpos) X.env) :: backTo pos (starEach [] X.env))) _ _ s
  refine Calls.spliced_cons (gen_make hr hc hN TB hcode ok hi hg he hs I h fun J H1 H2 a s5 hR hT hrdy => ?_)
  refine Calls.spliced_nil ?_
  obtain ⟨N, f, W, w0, ht, hstop, hQ⟩ := hR H2 hT
  obtain ⟨Z, tg', go, gn, fp, it, tn, hp, hw, hK, T, hpn, hgo, I5, n5, back, mk⟩ := hrdy
  have st := mk N (fun i => .bl (f i)) W (fun i => W (i + 1)) ht hstop s5 H2 rfl I5 (fun _ _ _ e => e) (fun b hb => (n5 b hb).1) w0
  rw [← hp, ← hw, ← hK] at T
  refine call_function_tree F.kind_all F.plain_all F.entry_all (F.args_all1 _) ?_
  unfold Builtin.«all»
  refine wpAny_bind (m := oneArg "all" _) (wpAny_pure ?_)
  have hG := hgo s5.heap (I5.pin (a, go) (List.mem_append_left _ hpn)).1
  refine wpAny_bind (wpAny_pyIter_gen hG ?_)
  have lp := all_loop (A := X.A) (R := fun r s' => ∃ v, r = .ok (.ret v) ∧ EP X pins σ Q v s') T hpn hgo hr.hd hr.depth (fun i s' H hi w I' => ⟨_, rfl, .bl _, H, back H s' I', rfl, hQ i H hi w⟩) N 0 s5 (Nat.sub_zero _) (Nat.zero_le _) (by rw [List.drop_zero]) st
  rw [hp, hw] at lp
  refine wpAny_pure ⟨plainId_quiet F.plain_all_loop _, codeAny_mono lp fun r s' ⟨v, e, q⟩ => ?_⟩
  subst e
  exact q
theorem pe_anyG {c P : Addr} {elt tg iter : Expr} {p pos gpos : Pos} {scope : Scope} {own : List (Str × Nat)} {k : Nat} {wi : TI} {g : TG} {te : TE}
    (hr : Room (k + 1) X.A) (hc : X.calm = true) (hN : X.N.Nodup) (hgl : Gl X "any") (hm : X.mg "any" = none) (TB : GxR.TabB X.base X.mg c P) (hcode : X.env.code = .ref c) (ok : GxOk X.N X.env.scope scope own) (hi : PI X tg iter wi)
    (hg : ∀ (A : Around) (s : Shared) (H : Hp) (code : Value) (fp : List Addr) (pn : List (Addr × Obj)), PG (gcx X A s H (genEnv scope (clo X scope) s.heap.objs.size code builtinsNs X.env) fp pn) tg g)
    (he : ∀ (A : Around) (s : Shared) (H : Hp) (code : Value) (fp : List Addr) (pn : List (Addr × Obj)), Room k A → PE (gcx X A s H (genEnv scope (clo X scope) s.heap.objs.size code builtinsNs X.env) fp pn) elt te)
    (hs : ∀ v, genFold iter X.env v = pure v := by intro _; rfl)
    (hst : starEach [.GeneratorExp elt [⟨tg, iter, [], 0⟩] scope gpos] X.env = (false, eval (.GeneratorExp elt [⟨tg, iter, [], 0⟩] scope gpos) X.env) :: starEach [] X.env := by rfl) :
    PE X (.Call (.Name "any" p) [.GeneratorExp elt [⟨tg, iter, [], 0⟩] scope gpos] [] pos) (tAnyG P wi g te (own.map (·.2))) := by
  refine ⟨fun pins s σ H Q I h => ?_⟩
  refine wpAny_Call_Name_kw (ld_blt I hgl hm boot_any ?_)
  refine PyProof.Rows.callWith_builtin1 ?_ hst (by rfl)
  rw [hst]
  show wpAny _ _ (spliced ((false, eval (.GeneratorExp elt [⟨tg, iter, [], 0⟩] scope gpos) X.env) :: backTo pos (starEach [] X.env))) _ _ s
  refine Calls.spliced_cons (gen_make hr hc hN TB hcode ok hi hg he hs I h fun J H1 H2 a s5 hR hT hrdy => ?_)
  refine Calls.spliced_nil ?_
  obtain ⟨N, f, W, w0, ht, hstop, hQ⟩ := hR H2 hT
  obtain ⟨Z, tg', go, gn, fp, it, tn, hp, hw, hK, T, hpn, hgo, I5, n5, back, mk⟩ := hrdy
  have st := mk N (fun i => .bl (f i)) W (fun i => W (i + 1)) ht hstop s5 H2 rfl I5 (fun _ _ _ e => e) (fun b hb => (n5 b hb).1) w0
  rw [← hp, ← hw, ← hK] at T
  refine call_function_tree F.kind_any F.plain_any F.entry_any (F.args_any1 _) ?_
  unfold Builtin.«any»
  refine wpAny_bind (m := oneArg "any" _) (wpAny_pure ?_)
  have hG := hgo s5.heap (I5.pin (a, go) (List.mem_append_left _ hpn)).1
  refine wpAny_bind (wpAny_pyIter_gen hG ?_)
  have lp := any_loop (A := X.A) (R := fun r s' => ∃ v, r = .ok (.ret v) ∧ EP X pins σ Q v s') T hpn hgo hr.hd hr.depth (fun i s' H hi w I' => ⟨_, rfl, .bl _, H, back H s' I', rfl, hQ i H hi w⟩) N 0 s5 (Nat.sub_zero _) (Nat.zero_le _) (by rw [List.drop_zero]) st
  rw [hp, hw] at lp
  refine wpAny_pure ⟨plainId_quiet F.plain_any_loop _, codeAny_mono lp fun r s' ⟨v, e, q⟩ => ?_⟩
  subst e
  exact q
end

/-! ### sum -/
def preS (f : Nat → Int) : Nat → Int
  | 0 => 0
  | n + 1 => preS f n + f n
section
variable {X : Cx}
def tSumG (P : Addr) (wi : TI) (g : TG) (te : TE) (vs : List Nat) : TE := fun σ H Q => wi σ H fun J H1 => GxR.TabG H1 P ∧ ∀ H2, GxR.Tabbed P H1 H2 → ∀ D, H2 D = none → ∃ (N : Nat) (f : Nat → Int) (W Vv : Nat → Hp → Prop),
  W 0 (upd H2 D (.lst [.int 0])) ∧ Turns J g te vs (wipe σ vs) N (fun i => .int (f i)) W Vv ∧ (∀ H, W N H → J.stop N H) ∧ (∀ i H, i ≤ N → W i H → H D = some (.lst [.int (preS f i)])) ∧
  (∀ i H, i < N → Vv i H → H D = some (.lst [.int (preS f i)]) ∧ W (i + 1) (upd H D (.lst [.int (preS f (i + 1))]))) ∧ ∀ H, W N H → Q (.int (preS f N)) H
theorem inv_S {Z : Cx} {σ : L2.St} {H : Hp} {s : Shared} {S : Addr} {acc : Int} (I : Inv Z [] σ H s) (hS : H S = some (.lst [.int acc])) :
    ∃ tA c, s.heap.get? S = some { cls := .type "list", dict := none, data := .seq #[.int acc tA] c, slots := #[] } ∧
      ∀ (m : Int) (t : Tok) (tk : Nat), Inv Z [] σ (upd H S (.lst [.int m])) { s with heap := s.heap.update S (Obj.mapSeq fun _ => #[.int m t]), toks := tk } := by
  obtain ⟨hz, its, n, ri, e⟩ := I.hok S _ hS
  cases ri with
  | cons r1 r2 =>
    cases r2
    obtain ⟨tA, rfl⟩ := r1
    refine ⟨tA, n, e, fun m t tk => ?_⟩
    have e2 := Heap.get?_update_self (Obj.mapSeq fun _ => #[Value.int m t]) e rfl
    exact I.write (t' := tk) (by rw [hS]; trivial) (.inl rfl) (fun b u hb q => (Heap.get?_update_other _ _ (Ne.symm hb)).trans q) ⟨_, e2⟩ ⟨hz, [.int m t], n, .cons ⟨t, rfl⟩ .nil, e2⟩
theorem sum_loop {Z : Cx} {A : Around} {R : Result → Shared → Prop} {tg : Expr} {J : It} {it a S : Addr} {go : Obj} {gn : Nat} {fp : List Addr} {tn : Nat → Heap → Prop} {σw : L2.St} {N : Nat} {f : Nat → Int} {W Vv : Nat → Hp → Prop} (T : Turn Z.prog Z.w Z.K tg J fp it tn)
    (hpn : (a, go) ∈ Z.pn) (hgo : ∀ h : Heap, h.get? a = some go → h.IsGen a gn) (hh : A.handled = none) (hroom : A.depth < recursionLimit)
    (hW : ∀ i H, i ≤ N → W i H → H S = some (.lst [.int (preS f i)])) (hV : ∀ i H, i < N → Vv i H → H S = some (.lst [.int (preS f i)]) ∧ W (i + 1) (upd H S (.lst [.int (preS f (i + 1))])))
    (hR : ∀ s' H t, W N H → Inv Z [] σw H s' → R (.ok (.ret (.int (preS f N) t))) s') :
    ∀ (k i : Nat) (s : Shared) (st : Int), (st = 0 ∨ st = 2) → N - i = k → i ≤ N → St Z A.in1.in1 σw fp tn N (fun i => .int (f i)) W Vv gn i s → codeAny (model Z.prog Z.w) A (.builtin "sum.loop" ⟨[.ref a, .ref S, rawInt st, rawInt 0], []⟩) R s := by
  intro k
  induction k with
  | zero =>
    intro i s st hst2 hk hi hst
    have hin : i = N := by omega
    subst hin
    obtain ⟨tA, c, hS, _⟩ : ∃ tA c, s.heap.get? S = some { cls := .type "list", dict := none, data := .seq #[.int (preS f i) tA] c, slots := #[] } ∧ True := by
      obtain ⟨H, gs, I, _, _, w, _⟩ := hst
      obtain ⟨tA, c, e, _⟩ := inv_S I (hW i H (Nat.le_refl _) w)
      exact ⟨tA, c, e, trivial⟩
    refine codeAny_builtin F.entry_sum_loop ?_
    rw [Around.under_plainId F.plain_sum_loop _]
    show wpAny _ A.in1 (seqItems? (.ref S) >>= _) _ _ s
    refine wpAny_bind (wpAny_seqItems hS rfl ?_)
    show wpAny _ A.in1 (tryCatch (pyNext (.ref a)) _ >>= _) _ _ s
    refine wpAny_bind (wpAny_tryCatch (next_done hpn hgo hh hroom hst fun s' H w I => ?_))
    exact wpAny_pure (hR s' H tA w I)
  | succ k ih =>
    intro i s st hst2 hk hi hst
    have hlt : i < N := by omega
    obtain ⟨tA, c, hS, _⟩ : ∃ tA c, s.heap.get? S = some { cls := .type "list", dict := none, data := .seq #[.int (preS f i) tA] c, slots := #[] } ∧ True := by
      obtain ⟨H, gs, I, _, _, w, _⟩ := hst
      obtain ⟨tA, c, e, _⟩ := inv_S I (hW i H hi w)
      exact ⟨tA, c, e, trivial⟩
    refine codeAny_builtin F.entry_sum_loop ?_
    rw [Around.under_plainId F.plain_sum_loop _]
    show wpAny _ A.in1 (seqItems? (.ref S) >>= _) _ _ s
    refine wpAny_bind (wpAny_seqItems hS rfl ?_)
    show wpAny _ A.in1 (tryCatch (pyNext (.ref a)) _ >>= _) _ _ s
    refine wpAny_bind (wpAny_tryCatch (next_item T hpn hgo hh hroom hlt hst fun v s' rv hm => ?_))
    obtain ⟨t, rfl⟩ := (show ∃ t, v = Value.int (f i) t from rv)
    obtain ⟨H, I, vv, nfp, mid⟩ := hm
    obtain ⟨hSH, w'⟩ := hV i H hlt vv
    obtain ⟨tB, c', hS', up1⟩ := inv_S I hSH
    have nS : ∀ b ∈ fp, b ≠ S := fun b hb z => by
      have q := nfp b hb
      rw [z, hSH] at q; cases q
    have nf : ∀ b ∈ fp, upd H S (.lst [.int (preS f (i + 1))]) b = none := fun b hb => by
      rw [upd_ne (nS b hb)]; exact nfp b hb
    rcases hst2 with rfl | rfl
    · show wpAny _ A.in1 (if (_ : Bool) = true then (mkInt (preS f i + f i) >>= _) else _) _ _ _
      split
      · refine wpAny_bind (wpAny_mkInt ?_)
        show wpAny _ A.in1 (updateSeq S (fun _ => #[.int (preS f i + f i) s'.toks]) >>= _) _ _ _
        refine wpAny_bind ?_
        refine wpAny_updateSeq hS' rfl (wpAny_pure ⟨plainId_quiet F.plain_sum_loop _, ih (i + 1) _ 0 (.inl rfl) (by omega) hlt (mid _ _ rfl (up1 (preS f i + f i) s'.toks (s'.toks + 1)) (fun b hb o e => ?_) nf w')⟩)
        exact (Heap.get?_update_other _ _ (Ne.symm (nS b hb))).trans e
      · refine wpAny_bind (wpAny_rule ?_)
        refine wpAny_bind (wpAny_attempt (wpAny_holding (wpAny_add_int ?_)))
        show wpAny _ A.in1 (updateSeq S (fun _ => #[.int (preS f i + f i) s'.toks]) >>= _) _ _ _
        refine wpAny_bind (wpAny_updateSeq hS' rfl ?_)
        have I2 := up1 (preS f i + f i) s'.toks (s'.toks + 1)
        obtain ⟨tC, c2, hS2, up2⟩ := inv_S I2 upd_same
        have I3 := up2 (preS f i + f i) s'.toks (s'.toks + 1)
        rw [upd_upd] at I3
        refine wpAny_bind (wpAny_letGo ?_)
        refine wpAny_bind (wpAny_updateSeq hS2 rfl (wpAny_pure ⟨plainId_quiet F.plain_sum_loop _, ih (i + 1) _ 2 (.inr rfl) (by omega) hlt (mid _ _ rfl I3 (fun b hb o e => ?_) nf w')⟩))
        exact (Heap.get?_update_other _ _ (Ne.symm (nS b hb))).trans ((Heap.get?_update_other _ _ (Ne.symm (nS b hb))).trans e)
    · show wpAny _ A.in1 ((holding [Value.int (f i) t] (binaryOp .Add (.int (preS f i) tA) (.int (f i) t))).attempt >>= _) _ _ _
      refine wpAny_bind (wpAny_attempt (wpAny_holding (wpAny_add_int ?_)))
      show wpAny _ A.in1 (updateSeq S (fun _ => #[.int (preS f i + f i) s'.toks]) >>= _) _ _ _
      refine wpAny_bind (wpAny_updateSeq hS' rfl ?_)
      have I2 := up1 (preS f i + f i) s'.toks (s'.toks + 1)
      obtain ⟨tC, c2, hS2, up2⟩ := inv_S I2 upd_same
      have I3 := up2 (preS f i + f i) s'.toks (s'.toks + 1)
      rw [upd_upd] at I3
      refine wpAny_bind (wpAny_letGo ?_)
      refine wpAny_bind (wpAny_updateSeq hS2 rfl (wpAny_pure ⟨plainId_quiet F.plain_sum_loop _, ih (i + 1) _ 2 (.inr rfl) (by omega) hlt (mid _ _ rfl I3 (fun b hb o e => ?_) nf w')⟩))
      exact (Heap.get?_update_other _ _ (Ne.symm (nS b hb))).trans ((Heap.get?_update_other _ _ (Ne.symm (nS b hb))).trans e)

theorem pe_sumG {c P : Addr} {elt tg iter : Expr} {p pos gpos : Pos} {scope : Scope} {own : List (Str × Nat)} {k : Nat} {wi : TI} {g : TG} {te : TE}
    (hr : Room (k + 1) X.A) (hc : X.calm = true) (hN : X.N.Nodup) (hgl : Gl X "sum") (hm : X.mg "sum" = none) (TB : GxR.TabB X.base X.mg c P) (hcode : X.env.code = .ref c) (ok : GxOk X.N X.env.scope scope own) (hi : PI X tg iter wi)
    (hg : ∀ (A : Around) (s : Shared) (H : Hp) (code : Value) (fp : List Addr) (pn : List (Addr × Obj)), PG (gcx X A s H (genEnv scope (clo X scope) s.heap.objs.size code builtinsNs X.env) fp pn) tg g)
    (he : ∀ (A : Around) (s : Shared) (H : Hp) (code : Value) (fp : List Addr) (pn : List (Addr × Obj)), Room k A → PE (gcx X A s H (genEnv scope (clo X scope) s.heap.objs.size code builtinsNs X.env) fp pn) elt te)
    (hs : ∀ v, genFold iter X.env v = pure v := by intro _; rfl)
    (hst : starEach [.GeneratorExp elt [⟨tg, iter, [], 0⟩] scope gpos] X.env = (false, eval (.GeneratorExp elt [⟨tg, iter, [], 0⟩] scope gpos) X.env) :: starEach [] X.env := by rfl) :
    PE X (.Call (.Name "sum" p) [.GeneratorExp elt [⟨tg, iter, [], 0⟩] scope gpos] [] pos) (tSumG P wi g te (own.map (·.2))) := by
  refine ⟨fun pins s σ H Q I h => ?_⟩
  refine wpAny_Call_Name_kw (ld_blt I hgl hm boot_sum ?_)
  refine PyProof.Rows.callWith_builtin1 ?_ hst (by rfl)
  rw [hst]
  show wpAny _ _ (spliced ((false, eval (.GeneratorExp elt [⟨tg, iter, [], 0⟩] scope gpos) X.env) :: backTo pos (starEach [] X.env))) _ _ s
  refine Calls.spliced_cons (gen_make hr hc hN TB hcode ok hi hg he hs I h fun J H1 H2 a s5 hR hT hrdy => ?_)
  refine Calls.spliced_nil ?_
  obtain ⟨Z, tg', go, gn, fp, it, tn, hp, hw, hK, T, hpn, hgo, I5, n5, back, mk⟩ := hrdy
  have hSn : H2 s5.heap.objs.size = none := I5.hok.fresh (Nat.le_refl _)
  obtain ⟨N, f, W, Vv, w0, ht, hstop, hW, hV, hQ⟩ := hR H2 hT s5.heap.objs.size hSn
  rw [← hp, ← hw, ← hK] at T
  refine call_function_tree F.kind_sum F.plain_sum F.entry_sum (F.args_sum1 _) ?_
  unfold Builtin.«sum»
  simp only [List.length_cons, List.length_nil]
  rw [if_neg (by decide)]
  refine wpAny_bind (wpAny_of_eq (show Builtin.Builtins.bindParams "sum" ["start"] 0 { } = pure [none] from rfl) ?_)
  have hG := hgo s5.heap (I5.pin (a, go) (List.mem_append_left _ hpn)).1
  refine wpAny_bind (wpAny_pyIter_gen hG ?_)
  refine wpAny_bind (wpAny_mkInt ?_)
  refine wpAny_bind (wpAny_pure ?_)
  simp only [List.forIn_cons, List.forIn_nil]
  refine wpAny_bind (wpAny_bind (wpAny_bind (wpAny_isInstance (T := "int") (b := false) (typeIs_int _ _ _) PySem.sub_int_str ?_)))
  simp only [Bool.false_eq_true, if_false]
  refine wpAny_pure (wpAny_bind (wpAny_bind (wpAny_isInstance (T := "int") (b := false) (typeIs_int _ _ _) sub_int_bytes ?_)))
  simp only [Bool.false_eq_true, if_false]
  refine wpAny_pure (wpAny_bind (wpAny_bind (wpAny_isInstance (T := "int") (b := false) (typeIs_int _ _ _) sub_int_bytearray ?_)))
  simp only [Bool.false_eq_true, if_false]
  refine wpAny_pure (wpAny_pure ?_)
  refine wpAny_bind (wpAny_newObj_type ?_)
  have I6 : Inv Z [] (wipe σ (own.map (·.2))) (upd H2 s5.heap.objs.size (.lst [.int 0])) { s5 with heap := s5.heap.push { cls := .type "list", data := .seq #[Value.int 0 s5.toks] }, toks := s5.toks + 1 } :=
    I5.laid (fun b o e => Heap.get?_push_of_some _ e) (Nat.le_refl _) ⟨by show 1 ≤ sizeLine; decide, [.int 0 s5.toks], 0, .cons ⟨_, rfl⟩ .nil, Heap.get?_push_size _ rfl⟩
  have nS : ∀ b ∈ fp, (upd H2 s5.heap.objs.size (.lst [.int 0])) b = none := fun b hb => by
    have q := n5 b hb
    rw [upd_ne (Nat.ne_of_lt q.2)]
    exact q.1
  have st := mk N (fun i => .int (f i)) W Vv ht hstop { s5 with heap := s5.heap.push { cls := .type "list", data := .seq #[Value.int 0 s5.toks] }, toks := s5.toks + 1 } (upd H2 s5.heap.objs.size (.lst [.int 0])) rfl I6 (fun b hb o e => Heap.get?_push_of_some _ e) nS w0
  have lp := sum_loop (A := X.A) (S := s5.heap.objs.size) (R := fun r s' => ∃ v, r = .ok (.ret v) ∧ EP X pins σ Q v s') T hpn hgo hr.hd hr.depth hW hV (fun s' H t w I' => ⟨_, rfl, .int _, H, back H s' I', ⟨t, rfl⟩, hQ H w⟩) N 0 _ 0 (.inl rfl) (Nat.sub_zero _) (Nat.zero_le _) st
  rw [hp, hw] at lp
  refine wpAny_pure ⟨plainId_quiet F.plain_sum_loop _, codeAny_mono lp fun r s' ⟨v, e, q⟩ => ?_⟩
  subst e
  exact q
end
end GE

/-! set comprehensions of any elements: what a new set is, and what add does to it, are given -/
namespace SC
open PySem PySem.Spec PyProof.Rows L2
abbrev fresh0 (w : World) : Obj := { cls := .type "set", dict := none, data := .set #[] 0 (.fresh 0 0 (!w.params.followText "set-order")) }
/-- an empty set object is o -/
def Empty (P : Program) (w : World) (a : Addr) (o : HO) : Prop := ∀ (H : Hp) (h : Heap), h.get? a = some (fresh0 w) → ObjOk P w H h a o
/-- add of y to the set at D turns H into H' -/
def Adds (P : Program) (w : World) (K : PySem.W.Frag) (D : Addr) (y : V) (H H' : Hp) : Prop :=
  ∀ (X : Cx) (pins : List (Addr × Obj)) (σ : L2.St) (s : Shared) (v : Value) (Q : Value → Shared → Prop) (E : Value → Shared → Prop), X.prog = P → X.w = w → X.K = K → X.A.units < cLine → Inv X pins σ H s → RelV y v →
    (∀ s', Inv X pins σ H' s' → Q .none s') → wpAny (model P w) X.A (call (.builtin "set.add") [.ref D, v]) Q E s
section
variable {X : Cx}
def tSC (P : Program) (w : World) (K : PySem.W.Frag) (wi : TI) (g : TG) (tt : TT) (te : TE) (vs : List Nat) : TE := fun σ H Q => wi σ H fun J H1 => ∀ D, H1 D = none → ∃ (o : HO) (N : Nat) (W : Nat → Hp → Prop), Empty P w D o ∧ W 0 (upd H1 D o) ∧
  (∀ i H, i < N → W i H → J.go i H ∧ ∀ x H', J.yld i H x H' → g x (wipe σ vs) H' fun σ2 H2 => wipe σ2 vs = wipe σ vs ∧ tt σ2 H2 fun b H3 =>
    if b = true then te σ2 H3 fun y H4 => ∃ H5, Adds P w K D y H4 H5 ∧ W (i + 1) H5 else W (i + 1) H3) ∧ ∀ H, W N H → J.stop N H ∧ Q (.ref D) H
theorem pe_setcomp {elt tg iter : Expr} {ifs : List Expr} {scope : Scope} {own : List (PySem.Str × Nat)} {pos : Pos} {wi : TI} {g : TG} {tt : TT} {te : TE} (hu : X.A.units < cLine) (hc : X.calm = true) (hN : X.N.Nodup) (hi : PI X tg iter wi) (ok : BlkOk X.N X.env.scope scope own)
    (hg : ∀ (s : Shared) (H : Hp) (C : Addr) (cl : List (PySem.Str × Addr)) (fp : List Addr), PG (X.blk s H scope (compEnvC scope cl C X.env) fp) tg g)
    (ht : ∀ (s : Shared) (H : Hp) (C : Addr) (cl : List (PySem.Str × Addr)) (fp : List Addr), PTs (X.blk s H scope (compEnvC scope cl C X.env) fp) ifs tt)
    (he : ∀ (s : Shared) (H : Hp) (C : Addr) (cl : List (PySem.Str × Addr)) (fp : List Addr), PE (X.blk s H scope (compEnvC scope cl C X.env) fp) elt te) (hs : ∀ x, foldedSetIterable iter X.env x = pure x := by intro _; rfl) :
    PE X (.SetComp elt [⟨tg, iter, ifs, 0⟩] scope pos) (tSC X.prog X.w X.K wi g tt te (own.map (·.2))) := by
  refine ⟨fun pins s σ H Q I h => ?_⟩
  rw [PpSet.eval_SetComp]
  have hfree : ∀ y ∈ scope.names, y.2 = .free → ∃ c, X.env.cells.lookup y.1 = some c := fun y hy e => (ok.free y hy e).elim (fun k => I.ok.has _ (.inl k)) fun k => I.ok.has _ (.inr k)
  refine wpAny_comprehension_free (use := none) rfl hs (closure_ok hfree) ok.kind (fun y hy e => by rw [ok.uniq y hy, e]) (thn (hi.run pins s σ H _ I h) fun xv s1 hx => thn hx fun itv s2 h2 => ?_)
  obtain ⟨it, fp, tn, J, H2, rfl, I2, T, st2, f2, q⟩ := h2
  refine PpSet.newSet_ok (newEnv_comp ?_)
  obtain ⟨o, N, W, ho, w0, turn, stop⟩ := q s2.heap.objs.size (I2.hok.fresh (Nat.le_refl _))
  generalize hD : s2.heap.objs.size = D at *
  generalize hs3 : ({ s2 with heap := s2.heap.push (fresh0 X.w) } : Shared) = s3
  have h3 : s3.heap = s2.heap.push (fresh0 X.w) := by rw [← hs3]
  have k3 : ∀ b o, s2.heap.get? b = some o → s3.heap.get? b = some o := fun b o e => by rw [h3]; exact Heap.get?_push_of_some _ e
  generalize hH3 : upd H2 D o = H3 at *
  have I3 : Inv X pins σ H3 s3 := by
    rw [← hs3, ← hH3]
    exact I2.laid (t' := s2.toks) (fun b o e => Heap.get?_push_of_some _ e) (Nat.le_of_eq hD) (ho _ _ (by rw [← hD]; exact Heap.get?_push_size _ rfl))
  have f3 : ∀ b ∈ fp, FpOk X pins H3 b ∧ b < s3.heap.objs.size := fun b hb => by
    obtain ⟨ob, e, _⟩ := T.obj _ _ st2 b hb
    have hlt := Heap.lt_size e
    refine ⟨⟨?_, (f2 b hb).2⟩, Heap.lt_size (k3 b ob e)⟩
    rw [← hH3, upd_ne (by rw [← hD]; exact Nat.ne_of_lt hlt)]
    exact (f2 b hb).1
  have I4 := block_start I3 ok hN f3
  have pg := hg s3 H3 s3.heap.objs.size (cellsFrom (s3.heap.objs.size + 1) scope.names (cloFrom X.env.cells scope.names [])) fp
  have pt := ht s3 H3 s3.heap.objs.size (cellsFrom (s3.heap.objs.size + 1) scope.names (cloFrom X.env.cells scope.names [])) fp
  have pe := he s3 H3 s3.heap.objs.size (cellsFrom (s3.heap.objs.size + 1) scope.names (cloFrom X.env.cells scope.names [])) fp
  show codeAny _ _ (.compStart (.SetComp elt [⟨tg, iter, ifs, 0⟩] scope pos) 0 (.ref it) (.ref D) (compEnvC scope (cellsFrom (s3.heap.objs.size + 1) scope.names (cloFrom X.env.cells scope.names [])) s3.heap.objs.size X.env)) (compPost (model X.prog X.w) X.A X.xe none (EP X pins σ Q) (.ref D) s3.heap.objs.size) { s3 with heap := pushCells (s3.heap.push { cls := .type "dict", data := .dict #[] }) scope.names }
  generalize hce : compEnvC scope (cellsFrom (s3.heap.objs.size + 1) scope.names (cloFrom X.env.cells scope.names [])) s3.heap.objs.size X.env = ce at I4 pg pt pe ⊢
  have cL : ce.locals = s3.heap.objs.size := by rw [← hce]; rfl
  generalize hs4 : ({ s3 with heap := pushCells (s3.heap.push { cls := .type "dict", data := .dict #[] }) scope.names } : Shared) = s4 at I4 ⊢
  have st4 : tn 0 s4.heap := T.keep _ _ _ st2 fun b _ o e => by rw [← hs4]; exact pushCells_keeps _ _ _ _ (Heap.get?_push_of_some _ (k3 b o e))
  have own3 : ∀ {σ' : L2.St} {H' : Hp} {s' : Shared}, Inv (X.blk s3 H3 scope ce fp) [] σ' H' s' → (∀ b ∈ fp, H' b = none) → ∀ b ∈ fp, FpOk (X.blk s3 H3 scope ce fp) [] H' b := fun {σ' H' s'} I' hn b hb =>
    ⟨hn b hb, (I'.ok.exf b hb).1, I'.ok.exfs b hb, .inl hb, fun x c e => (I'.ok.exf b hb).2 x c e, fun p hp => absurd (show p ∈ ([] : List (Addr × Obj)) ++ [] from hp) (by simp)⟩
  have hA : (X.blk s3 H3 scope ce fp).A = X.A := rfl
  refine PpSet.codeAny_compStart_set ?_ (T.self X.A 0 _ _ _ st4 ?_)
  all_goals
    refine PpSet.compLoopS_any (fun n s' => ∃ i H', n = N - i ∧ i ≤ N ∧ Inv (X.blk s3 H3 scope ce fp) [] (wipe σ (own.map (·.2))) H' s' ∧ tn i s'.heap ∧ (∀ b ∈ fp, H' b = none) ∧ W i H') ?_ N ⟨0, H3, rfl, Nat.zero_le _, I4, st4, fun b hb => (f3 b hb).1.1, w0⟩
    rintro n s5 ⟨i, H5, rfl, hiN, I5, st5, n5, w5⟩
    by_cases hi : i < N
    · obtain ⟨go, step⟩ := turn i H5 hi w5
      refine thnF (T.item (X.blk s3 H3 scope ce fp) rfl rfl rfl hc i [] s5 _ H5 (fun _ _ => False) I5 (own3 I5 n5) st5 go) fun r s6 ⟨u, hr, h6⟩ => ?_
      subst hr
      refine thnF h6 fun _ s7 ⟨x, H7, I7, r7, y7, st7, n7⟩ => ?_
      refine thnF (pg.run _ s7 _ H7 x u _ (I7.pinned (own3 I7 n7) (T.obj _ _ st7)) r7 (step x H7 y7)) fun _ s8 ⟨σ8, H8, I8, hw8, q8⟩ => ?_
      refine thnF (pt.run _ s8 σ8 H8 _ I8 q8) fun b s9 ⟨H9, I9, q9⟩ => ?_
      have fin : ∀ {s' : Shared} {H' : Hp}, Inv (X.blk s3 H3 scope ce fp) ([] ++ pinsAt fp s7.heap) σ8 H' s' → W (i + 1) H' → ∃ m, m < N - i ∧ ∃ j H', m = N - j ∧ j ≤ N ∧ Inv (X.blk s3 H3 scope ce fp) [] (wipe σ (own.map (·.2))) H' s' ∧ tn j s'.heap ∧ (∀ b ∈ fp, H' b = none) ∧ W j H' := fun {s' H'} I' w' => by
        have pin' : ∀ b ∈ fp, ∀ o, s7.heap.get? b = some o → s'.heap.get? b = some o ∧ H' b = none := fun b hb o e =>
          let z := I'.pin (b, o) (List.mem_append_right _ (List.mem_append_right _ (mem_pinsAt hb e)))
          ⟨z.1, z.2.1⟩
        refine ⟨N - (i + 1), by omega, i + 1, H', rfl, hi, (I'.unpinned (pins := [])).weak (by rw [← hw8, wipe_length]) (fun j v e => ?_), T.keep _ _ _ st7 fun b hb o e => (pin' b hb o e).1, fun b hb => ?_, w'⟩
        · rw [← hw8] at e
          exact (wipe_some e).1
        · obtain ⟨ob, e, _⟩ := T.obj _ _ st7 b hb
          exact (pin' b hb ob e).2
      cases b with
      | false =>
        simp only [Bool.false_eq_true, if_false] at q9 ⊢
        exact fin I9 q9
      | true =>
        simp only [if_true] at q9 ⊢
        refine thnF (pe.run _ s9 σ8 H9 _ I9 q9) fun z s10 ⟨yv, H10, I10, r10, H11, ad, w11⟩ => ?_
        exact ad (X.blk s3 H3 scope ce fp) _ σ8 s10 z _ _ rfl rfl rfl hu I10 r10 fun s11 I11 => fin I11 w11
    · have e : i = N := by omega
      subst e
      obtain ⟨hst, qq⟩ := stop H5 w5
      refine thnF (T.done (X.blk s3 H3 scope ce fp) rfl rfl rfl hc i [] s5 _ H5 (fun _ _ => False) I5 (own3 I5 n5) st5 hst) fun r s6 ⟨hr, I6⟩ => ?_
      subst hr
      have I7 : Inv X pins σ H5 s6 := I3.call' (ch := fp) I6.os I6.base I6.hok I6.bare fun b hb => ⟨(f3 b hb).1.2.2.2.1, (f3 b hb).1.2.1, (f3 b hb).1.2.2.2.2.1, (f3 b hb).1.2.2.2.2.2⟩
      have nC : H5 s3.heap.objs.size = none := by rw [← cL]; exact I6.free
      obtain ⟨m, hn, _⟩ := I6.loc
      have hn : s6.heap.Ns s3.heap.objs.size m := by rw [← cL]; exact hn
      refine ⟨m, hn, fun h'' sb => ?_⟩
      obtain ⟨g0, g1, g2, g3, g4, g5⟩ := I3.fpOk (Nat.le_refl _) nC
      exact ⟨.ref D, H5, I7.turned (t' := s6.toks) (fun b o hb e => (sb.2 b hb).trans e) g0 g1 g3 g4 g5, rfl, qq⟩
end

/-! ### sets of ints -/
theorem empty_int {P : Program} {w : World} {a : Addr} : Empty P w a (SetO w a (fun _ => false) 0) := fun H h e => by
  refine setO_new ⟨_, #[], 0, _, e, ⟨rfl, rfl, rfl⟩, rfl, by simp, by simp, by simp, by decide, rfl, rfl, List.Pairwise.nil, ?_⟩
  show _ ∨ (!w.params.followText "set-order") = true
  cases w.params.followText "set-order" <;> simp
theorem adds_int {P : Program} {w : World} {K : PySem.W.Frag} {D : Addr} {k : Int} {S : Int → Bool} {n : Nat} {H : Hp} (hD : H D = some (SetO w D S n)) (room : n + 1 < scanBound) :
    Adds P w K D (.int k) H (upd H D (SetO w D (fun j => S j || decide (j = k)) (if S k = true then n else n + 1))) := by
  rintro X pins σ s v Q E rfl rfl rfl hu I ⟨t, rfl⟩ h
  refine setR_add (setO_get I hD) room fun h' sb new => h _ (I.write (e := D) (t' := s.toks + 1) (by rw [hD]; trivial) (.inl rfl) (fun b u hb hu => (sb.2 b hb).trans hu) ?_ (setO_new new))
  obtain ⟨o, _, _, _, ho, _⟩ := new
  exact ⟨o, ho⟩
/-! ### sets of tuples of ints -/
theorem empty_tup {P : Program} {w : World} {a : Addr} : Empty P w a (SetTO P w a []) := fun H h e => setTO_new (SetTR.t0 (setTR_fresh e))
theorem setTR_type {P : Program} {w : World} {h : Heap} {a : Addr} {L : List (Addr × List Int)} {es : Array (Int × Value)} {ep : Nat} {t : SetTable} (R : SetTR P w h a L es ep t) : (∃ o, h.get? a = some o ∧ o.cls = .type "set" ∧ o.dict = none) := by
  obtain ⟨o, ho, hx, _⟩ := R.ob
  exact ⟨o, ho, hx.1, hx.2.1⟩
theorem adds_tup {P : Program} {w : World} {K : PySem.W.Frag} {D b : Addr} {k : List Int} {L : List (Addr × List Int)} {H : Hp} (hD : H D = some (SetTO P w D L)) (hL : ∀ p ∈ L, SqT K H p.1 (p.2.map V.int)) (hb : SqT K H b (k.map V.int)) (few : L.length + 1 < 64)
    {X : Cx} {pins : List (Addr × Obj)} {σ : L2.St} {s : Shared} {Q : Value → Shared → Prop} {E : Value → Shared → Prop} (hP : X.prog = P) (hw : X.w = w) (hK : X.K = K) (hu : X.A.units + 1 < cLine) (I : Inv X pins σ H s)
    (h : ∀ s' L', (k ∈ L.map (·.2) → L' = L) → (k ∉ L.map (·.2) → L'.Perm ((b, k) :: L)) → Inv X pins σ (upd H D (SetTO P w D L')) s' → Q .none s') : wpAny (model P w) X.A (call (.builtin "set.add") [.ref D, .ref b]) Q E s := by
  subst hP hw hK
  have R0 : SetT0 X.prog X.w s.heap D L := (I.hok D _ hD).1
  obtain ⟨es, ep, t, R⟩ := R0.full fun p hp => Inv.isT I (hL p hp)
  obtain ⟨o, ho, hcls, hdict⟩ := setTR_type R
  refine wpAny_call_entry F.slot_set_add ⟨o, ho, hcls⟩ F.entry_set_add ?_ (F.args_set_add_2 _ _)
  unfold Builtin.«set.add» Builtin.Frozenset.oneOther
  simp only [List.isEmpty_nil, bind_assoc]
  unfold Builtin.Frozenset.addrOf setAdd
  refine wpAny_bind (wpAny_pure ?_)
  try dsimp only
  refine wpAny_bind (wpAny_pure ?_)
  try dsimp only
  refine wpAny_bind ?_
  refine wpAny_holding ?_
  have hx := Inv.isT I hb
  refine wpAny_bind (wpAny_pyHash_tuple (A := X.A.in1) (show X.A.units + 1 < cLine from hu) hx ?_)
  refine add_at (s := { s with toks := s.toks + (k.length + 1) }) (A := X.A.in1) R hx (show X.A.units + 1 < cLine from hu) few fun bb h' L' es' ep' t' hsb R2 c1 c2 => ?_
  show wpAny _ _ (ret Value.none) _ _ _
  refine wpAny_pure ⟨_, rfl, h _ L' c1 c2 (I.write (e := D) (t' := s.toks + (k.length + 1)) (by rw [hD]; trivial) (.inl rfl) (fun b u hb hu => (hsb.2 b hb).trans hu) ?_ (setTO_new R2.t0))⟩
  obtain ⟨o2, ho2, _⟩ := R2.ob
  exact ⟨o2, ho2⟩
section
variable {X : Cx}
def rSet0T (P : Program) (w : World) : List V → Hp → VK → Prop := fun xs H Q => xs = [] ∧ ∀ p, H p = none → Q (.ref p) (upd H p (SetTO P w p []))
theorem cr_set0T : CallR X (.type "set") (rSet0T X.prog X.w) := by
  intro pins s σ H xs us Q I r h
  obtain ⟨rfl, q⟩ := h
  cases r
  refine setR_new fun _ => ?_
  exact ⟨.ref _, upd H s.heap.objs.size (SetTO X.prog X.w s.heap.objs.size []), I.laid (t' := s.toks) (fun b u e => Heap.get?_push_of_some _ e) (Nat.le_refl _) (empty_tup _ _ (Heap.get?_push_size _ rfl)), rfl, q _ (I.hok.fresh (Nat.le_refl _))⟩
/-- found.add(t) -/
def tSAddT (P : Program) (w : World) (K : PySem.W.Frag) (to : TE) (t : TA) : TE := fun σ H Q => to σ H fun x H1 => ∃ a, x = V.ref a ∧ (∃ L, H1 a = some (SetTO P w a L)) ∧ t σ H1 fun xs H2 => ∃ (L : List (Addr × List Int)) (b : Addr) (k : List Int),
  xs = [.ref b] ∧ H2 a = some (SetTO P w a L) ∧ (∀ p ∈ L, SqT K H2 p.1 (p.2.map V.int)) ∧ SqT K H2 b (k.map V.int) ∧ L.length + 1 < 64 ∧
  ∀ L', (k ∈ L.map (·.2) → L' = L) → (k ∉ L.map (·.2) → L'.Perm ((b, k) :: L)) → Q .non (upd H2 a (SetTO P w a L'))
variable {o e : Expr} {es : List Expr} {to : TE} {t : TA} {apos cpos : Pos}
theorem pe_saddT (hu : X.A.units + 1 < cLine) (ho : PE X o to) (ha : PA X (e :: es) t)
    (hbase : attributeBase o "add" X.env (eval o X.env) = eval o X.env := by rfl)
    (hfew : ((backTo cpos (starEach (e :: es) X.env)).all (fun x => !x.1) && (backToKw cpos (keywordEach [] X.env)).all (fun x => x.1.isSome)
      && decide ((e :: es).length + ([] : List Keyword).length + (if ([] : List Keyword).isEmpty then 0 else 1) < 30)) = true := by rfl)
    (hline : (apos.endLine == cpos.line) = true := by rfl) (hs : starEach (e :: es) X.env = (false, eval e X.env) :: starEach es X.env := by rfl) (hplain : (backTo cpos (starEach es X.env)).any (·.1) = false := by rfl) :
    PE X (.Call (.Attribute o "add" apos) (e :: es) [] cpos) (tSAddT X.prog X.w X.K to t) := by
  refine ⟨fun pins s σ H Q I h => ?_⟩
  refine wpAny_Call_method_late hbase hfew hline rfl (thn (ho.run pins s σ H _ I h) fun v s1 ⟨x, H1, I1, r1, a, ex, ⟨L0, hk⟩, q1⟩ => ?_)
  subst ex
  cases r1
  have R0 : SetT0 X.prog X.w s1.heap a L0 := (I1.hok a _ hk).1
  obtain ⟨es0, ep0, t0, ⟨ob, hob, hx, _⟩, _⟩ := R0.ex
  refine ⟨"set", "set.add", F.plainAttrs_set, F.slot_set_add, F.type_set_add, ⟨ob, hob, hx.1⟩, ?_, ?_⟩
  · intro b eb
    cases eb
    exact ⟨ob, hob, hx.2.1⟩
  · have hA := ha.run cpos pins s1 σ H1 _ I1 q1
    rw [hs] at hA ⊢
    refine Calls.callWith_builtin (by show (false || (backTo cpos (starEach es X.env)).any (·.1)) = false; rw [hplain] <;> rfl) (Calls.evalArgs_plain ?_)
    refine thn hA fun us s2 ⟨vs, H2, I2, r2, q2⟩ => ?_
    obtain ⟨L, b, k, e1, h2, h3, h4, h5, q3⟩ := q2
    subst e1
    rw [Vals.ref1 r2]
    exact adds_tup h2 h3 h4 h5 rfl rfl rfl hu I2 fun s' L' c1 c2 I' => ⟨.non, _, I', rfl, q3 L' c1 c2⟩
end
end SC

/-! data in the heap: what keeps it, what a pure def promises -/
namespace DA
open PySem PySem.Spec PyProof.Rows L2
abbrev PD := PyData

/-! ### heaps that keep all but tables -/
def Tabs (T : List Addr) (H : Hp) : Prop := ∀ P ∈ T, GxR.TabG H P
structure Keep (T : List Addr) (H H' : Hp) : Prop where
  at_ : ∀ b o, H b = some o → b ∉ T → H' b = some o
  tab : ∀ P ∈ T, GxR.TabG H P → GxR.TabG H' P
theorem Keep.refl {T : List Addr} {H : Hp} : Keep T H H := ⟨fun _ _ e _ => e, fun _ _ e => e⟩
theorem Keep.trans {T : List Addr} {H H1 H2 : Hp} (a : Keep T H H1) (b : Keep T H1 H2) : Keep T H H2 := ⟨fun c o e n => b.at_ c o (a.at_ c o e n) n, fun P hP t => b.tab P hP (a.tab P hP t)⟩
theorem Keep.tabs {T : List Addr} {H H1 : Hp} (a : Keep T H H1) (t : Tabs T H) : Tabs T H1 := fun P hP => a.tab P hP (t P hP)
theorem Keep.same {T : List Addr} {H H1 : Hp} (s : Same H H1) : Keep T H H1 := ⟨fun b o e _ => s b o e, fun P _ ⟨ps, e, ok⟩ => ⟨ps, s _ _ e, ok⟩⟩
theorem same_new {H : Hp} {p : Addr} {o : HO} (h : H p = none) : Same H (upd H p o) := fun b x e => by
  rw [upd_ne (ne_of_none e h)]
  exact e
theorem Keep.new {T : List Addr} {H : Hp} {p : Addr} {o : HO} (h : H p = none) : Keep T H (upd H p o) := .same (same_new h)
/-- an object that is none of the first heap's is written -/
theorem Keep.own {T : List Addr} {H H1 : Hp} {p : Addr} {o : HO} (k : Keep T H H1) (t : Tabs T H) (h : H p = none) : Keep T H (upd H1 p o) := by
  have nT : p ∉ T := fun m => by
    obtain ⟨ps, e, _⟩ := t p m
    rw [h] at e; cases e
  refine ⟨fun b x e n => ?_, fun P hP tb => ?_⟩
  · rw [upd_ne (ne_of_none e h)]
    exact k.at_ b x e n
  · obtain ⟨ps, e, ok⟩ := k.tab P hP tb
    refine ⟨ps, ?_, ok⟩
    rw [upd_ne (fun z => nT (by rw [← z]; exact hP))]
    exact e
theorem Keep.tabbed {T : List Addr} {P : Addr} {H H1 : Hp} (hP : P ∈ T) (t : GxR.Tabbed P H H1) : Keep T H H1 := by
  refine ⟨fun b o e n => ?_, fun R hR tb => ?_⟩
  · rw [t.2 b (fun z => n (by rw [z]; exact hP))]
    exact e
  · by_cases z : R = P
    · rw [z]; exact t.1
    · obtain ⟨ps, e, ok⟩ := tb
      exact ⟨ps, by rw [t.2 R z]; exact e, ok⟩
theorem nT_of {T : List Addr} {H : Hp} {a : Addr} {o : HO} (t : Tabs T H) (e : H a = some o) (hn : ∀ ps, o ≠ .tbl ps) : a ∉ T := fun m => by
  obtain ⟨ps, e', _⟩ := t a m
  rw [e] at e'
  exact hn ps (Option.some.inj e')
theorem Keep.free {T : List Addr} {H H1 : Hp} (k : Keep T H H1) (t : Tabs T H) {p : Addr} (h : H1 p = none) : H p = none := by
  cases e : H p with
  | none => rfl
  | some o =>
    by_cases m : p ∈ T
    · obtain ⟨ps, e', _⟩ := k.tabs t p m
      rw [h] at e'; cases e'
    · have := k.at_ p o e m
      rw [h] at this; cases this
section
variable {K : PySem.W.Frag} {T : List Addr} {H H1 : Hp}
theorem Keep.sqL {a : Addr} {xs : List V} (k : Keep T H H1) (t : Tabs T H) (h : SqL K H a xs) : SqL K H1 a xs := by
  rcases h with (h | ⟨o, h⟩) | h
  · exact .inl (.inl (k.at_ _ _ h (nT_of t h fun ps z => by cases z)))
  · exact .inl (.inr ⟨o, k.at_ _ _ h (nT_of t h fun ps z => by cases z)⟩)
  · exact .inr h
theorem Keep.sqT {a : Addr} {xs : List V} (k : Keep T H H1) (t : Tabs T H) (h : SqT K H a xs) : SqT K H1 a xs := by
  rcases h with (h | ⟨o, h⟩) | h
  · exact .inl (.inl (k.at_ _ _ h (nT_of t h fun ps z => by cases z)))
  · exact .inl (.inr ⟨o, k.at_ _ _ h (nT_of t h fun ps z => by cases z)⟩)
  · exact .inr h
theorem Keep.lst {a : Addr} {xs : List V} (k : Keep T H H1) (t : Tabs T H) (h : H a = some (.lst xs)) : H1 a = some (.lst xs) := k.at_ _ _ h (nT_of t h fun ps z => by cases z)
mutual
theorem dp_keep (k : Keep T H H1) (t : Tabs T H) : ∀ {d : PD} {v : V}, Dp K H v d → Dp K H1 v d
  | _, _, .non => .non
  | _, _, .bl b => .bl b
  | _, _, .int i => .int i
  | _, _, .str x => .str x
  | _, _, .lst h a => .lst (k.sqL t h) (dps_keep k t a)
  | _, _, .tup h a => .tup (k.sqT t h) (dps_keep k t a)
theorem dps_keep (k : Keep T H H1) (t : Tabs T H) : ∀ {ds : List PD} {vs : List V}, DpAll K H vs ds → DpAll K H1 vs ds
  | _, _, .nil => .nil
  | _, _, .cons a r => .cons (dp_keep k t a) (dps_keep k t r)
end
theorem dp_bool {v : V} {b : Bool} (h : Dp K H v (.bool b)) : v = .bl b := by cases h; rfl
theorem dp_int {v : V} {b : Int} (h : Dp K H v (.int b)) : v = .int b := by cases h; rfl
theorem dp_str {v : V} {b : Str} (h : Dp K H v (.str b)) : v = .str b := by cases h; rfl
theorem dp_none {v : V} (h : Dp K H v .none) : v = .non := by cases h; rfl
theorem dp_list {v : V} {ds : List PD} (h : Dp K H v (.list ds)) : ∃ a xs, v = .ref a ∧ SqL K H a xs ∧ DpAll K H xs ds := by
  cases h with
  | lst h a => exact ⟨_, _, rfl, h, a⟩
theorem dp_tup {v : V} {ds : List PD} (h : Dp K H v (.tuple ds)) : ∃ a xs, v = .ref a ∧ SqT K H a xs ∧ DpAll K H xs ds := by
  cases h with
  | tup h a => exact ⟨_, _, rfl, h, a⟩
theorem dps_len : ∀ {xs : List V} {ds : List PD}, DpAll K H xs ds → xs.length = ds.length
  | _, _, .nil => rfl
  | _, _, .cons _ r => by rw [List.length_cons, List.length_cons, dps_len r]
theorem dps_get : ∀ {xs : List V} {ds : List PD} {i : Nat} {d : PD}, DpAll K H xs ds → ds[i]? = some d → ∃ x, xs[i]? = some x ∧ Dp K H x d
  | _, _, _, _, .nil, e => by simp at e
  | _, _, 0, _, .cons a _, e => by simp at e; subst e; exact ⟨_, rfl, a⟩
  | _, _, i + 1, d, .cons _ r, e => by
    obtain ⟨x, h1, h2⟩ := dps_get (i := i) (d := d) r (by simpa using e)
    exact ⟨x, by simpa using h1, h2⟩
theorem dps_at : ∀ {xs : List V} {ds : List PD} {i : Nat} {x : V}, DpAll K H xs ds → xs[i]? = some x → ∃ d, ds[i]? = some d ∧ Dp K H x d
  | _, _, _, _, .nil, e => by simp at e
  | _, _, 0, _, .cons a _, e => by simp at e; subst e; exact ⟨_, rfl, a⟩
  | _, _, i + 1, d, .cons _ r, e => by
    obtain ⟨x, h1, h2⟩ := dps_at (i := i) (x := d) r (by simpa using e)
    exact ⟨x, by simpa using h1, h2⟩
theorem dps_append : ∀ {xs ys : List V} {ds es : List PD}, DpAll K H xs ds → DpAll K H ys es → DpAll K H (xs ++ ys) (ds ++ es)
  | _, _, _, _, .nil, b => b
  | _, _, _, _, .cons a r, b => .cons a (dps_append r b)
theorem dps_set : ∀ {xs : List V} {ds : List PD} (i : Nat) {x : V} {d : PD}, DpAll K H xs ds → Dp K H x d → DpAll K H (xs.set i x) (ds.set i d)
  | _, _, _, _, _, .nil, _ => .nil
  | _, _, 0, _, _, .cons _ r, a => .cons a r
  | _, _, i + 1, _, _, .cons a r, b => .cons a (dps_set i r b)
theorem dps_take : ∀ {xs : List V} {ds : List PD} (n : Nat), DpAll K H xs ds → DpAll K H (xs.take n) (ds.take n)
  | _, _, 0, _ => .nil
  | _, _, _ + 1, .nil => .nil
  | _, _, n + 1, .cons a r => .cons a (dps_take n r)
theorem dps_drop : ∀ {xs : List V} {ds : List PD} (n : Nat), DpAll K H xs ds → DpAll K H (xs.drop n) (ds.drop n)
  | _, _, 0, r => r
  | _, _, _ + 1, .nil => .nil
  | _, _, n + 1, .cons _ r => dps_drop n r
theorem dps_ints : ∀ (ns : List Int), DpAll K H (ns.map V.int) (ns.map PyData.int)
  | [] => .nil
  | n :: ns => .cons (.int n) (dps_ints ns)
theorem dps_ints_inv : ∀ {ns : List Int} {xs : List V}, DpAll K H xs (ns.map PyData.int) → xs = ns.map V.int
  | [], _, .nil => rfl
  | n :: ns, _, .cons a r => by rw [dp_int a, dps_ints_inv r]; rfl
theorem dps_of {f : PD → V} : ∀ {ds : List PD}, (∀ d ∈ ds, Dp K H (f d) d) → DpAll K H (ds.map f) ds
  | [], _ => .nil
  | d :: ds, h => .cons (h d List.mem_cons_self) (dps_of fun e he => h e (List.mem_cons_of_mem _ he))
end

/-! ### a pure def over data -/
def spF (K : PySem.W.Frag) (T : List Addr) (ok : List PD → Prop) (F : List PD → PD) : Sp := fun vs H Q _ => ∃ ds, DpAll K H vs ds ∧ ok ds ∧ Tabs T H ∧ ∀ v H', Dp K H' v (F ds) → Keep T H H' → Q v H'

/-! ### isinstance -/
def clsD : PD → String
  | .none => "NoneType" | .bool _ => "bool" | .int _ => "int" | .str _ => "str" | .list _ => "list" | .tuple _ => "tuple" | .dict _ => "dict"
theorem dp_ty {K : PySem.W.Frag} {H : Hp} {v : V} {d : PD} (h : Dp K H v d) : TyX K H v (.type (clsD d)) := by
  cases h with
  | non => exact .base .non
  | bl b => exact .base (.bl b)
  | int i => exact .base (.int i)
  | str x => exact .base (.str x)
  | lst h a =>
    rcases h with (h | ⟨o, h⟩) | ⟨o, its, n, e, c, _⟩
    · exact .base (.lst h)
    · exact .base (.frz h)
    · exact .kList e c
  | tup h a =>
    rcases h with (h | ⟨o, h⟩) | ⟨o, its, n, e, c, _⟩
    · exact .base (.tup h)
    · exact .fTuple h
    · exact .kTuple e c
def isInt : PD → Bool | .int _ => true | .bool _ => true | _ => false
def isBool : PD → Bool | .bool _ => true | _ => false
def isTup : PD → Bool | .tuple _ => true | _ => false
def isList : PD → Bool | .list _ => true | _ => false
def isStr : PD → Bool | .str _ => true | _ => false
theorem kit_int {K : PySem.W.Frag} {H : Hp} {v : V} {d : PD} (h : Dp K H v d) : PySem.W.kitOne K (.type (clsD d)) (.type "int") = some (isInt d) := by
  cases h <;> (simp only [clsD, isInt]; exact kit_ty (by decide +kernel))
theorem kit_bool {K : PySem.W.Frag} {H : Hp} {v : V} {d : PD} (h : Dp K H v d) : PySem.W.kitOne K (.type (clsD d)) (.type "bool") = some (isBool d) := by
  cases h <;> (simp only [clsD, isBool]; exact kit_ty (by decide +kernel))
theorem kit_tup {K : PySem.W.Frag} {H : Hp} {v : V} {d : PD} (h : Dp K H v d) : PySem.W.kitOne K (.type (clsD d)) (.type "tuple") = some (isTup d) := by
  cases h <;> (simp only [clsD, isTup]; exact kit_ty (by decide +kernel))
theorem kit_list {K : PySem.W.Frag} {H : Hp} {v : V} {d : PD} (h : Dp K H v d) : PySem.W.kitOne K (.type (clsD d)) (.type "list") = some (isList d) := by
  cases h <;> (simp only [clsD, isList]; exact kit_ty (by decide +kernel))
theorem kit_str {K : PySem.W.Frag} {H : Hp} {v : V} {d : PD} (h : Dp K H v d) : PySem.W.kitOne K (.type (clsD d)) (.type "str") = some (isStr d) := by
  cases h <;> (simp only [clsD, isStr]; exact kit_ty (by decide +kernel))

/-! ### a def whose code object is known -/
structure FunC (K : PySem.W.Frag) (x qual : Str) (st : Stmt) (f : Addr) (fd : FuncData) (c : Addr) : Prop where
  ex : ∃ (oc : Value) (od : Option Addr) (kV doc pm : Value) (an : Option Addr) (ct : Value) (osl : Array (Option Value)),
    fd = PySem.W.fnOf x qual (defArgs st) (defBody st) (defScope st) .none kV doc pm an (.ref c) ct ∧ K.lookup f = some ⟨oc, od, .func fd, osl⟩ ∧ PySem.W.codeIn K (.ref c) qual = true
  kp : PySem.W.keepIn K (.ref f) = true
theorem FunC.fun {K : PySem.W.Frag} {x qual : Str} {st : Stmt} {f : Addr} {fd : FuncData} {c : Addr} (F : FunC K x qual st f fd c) : Fun K x qual st f fd := by
  obtain ⟨oc, od, kV, doc, pm, an, ct, osl, h⟩ := F.ex
  exact ⟨⟨oc, od, kV, doc, pm, an, .ref c, ct, osl, h⟩, F.kp⟩
theorem FunC.ok {P : Program} {w : World} {K : PySem.W.Frag} {mg : Str → Option Value} {base : Heap} {x qual : Str} {st : Stmt} {f : Addr} {fd : FuncData} {c : Addr} {N ps : List Str} {k : Nat} {sp : Sp} (F : FunC K x qual st f fd c) (S : FnScope N ps (defScope st)) (len : ∀ vs H Q E, sp vs H Q E → vs.length = ps.length)
    (hbody : ∀ (A : Around) (outer : List Env) (s : Shared) (H : Hp) (vs : List V) (Q : VK) (E : XK), Room k (A.deeper (envOfC qual (defScope st) s.heap.objs.size f (.ref c))) → sp vs H Q E →
      ∃ t, PSs (cxOf CX0 P w K mg base N qual (defScope st) f (.ref c) A outer s H E).nox (defBody st) t ∧ t { nx := fun _ H' => Q .non H', rt := Q } (start N vs) H) : FnOk P w K mg base CX0 (k + 1) f fd ps sp := by
  obtain ⟨oc, od, kV, doc, pm, an, ct, osl, rfl, lk, hcd⟩ := F.ex
  refine fn_of lk hcd S len fun A outer s H vs Q E hr hsp => ?_
  obtain ⟨t, h, q⟩ := hbody A outer s H vs Q E hr hsp
  exact ⟨t, h.nox, q⟩
end DA

namespace K11
open PySem PySem.Spec PyProof.Rows L2 DA
def top (i : Nat) : Stmt := PySem.Challenge.pw_processturns_k11_whole_programs.main.body.getD i (.Pass ⟨0, 0, 0, 0⟩)
/-- the built-ins' names are the built-ins' -/
structure Glob (mg : Str → Option Value) : Prop where
  isi : mg "isinstance" = none
  int : mg "int" = none
  bool : mg "bool" = none
  tuple : mg "tuple" = none
  list : mg "list" = none
  str : mg "str" = none
  len : mg "len" = none
  all : mg "all" = none
  sum : mg "sum" = none
  set : mg "set" = none
  sorted : mg "sorted" = none
  max : mg "max" = none
  range : mg "range" = none
abbrev sNum : Stmt := top 4
theorem scNum : FnScope ["value", "least", "greatest"] ["value", "least", "greatest"] (defScope sNum) := ⟨rfl, rfl, rfl, by decide +kernel, rfl, by decide +kernel, by decide +kernel⟩
def numD (d : PD) (lo hi : Int) : Bool := match d with | .int i => decide (lo ≤ i) && decide (i ≤ hi) | _ => false
def spNum (K : PySem.W.Frag) : Sp := fun vs H Q _ => ∃ v d lo hi, vs = [v, .int lo, .int hi] ∧ Dp K H v d ∧ Q (.bl (numD d lo hi)) H
section
variable {P : Program} {w : World} {K : PySem.W.Frag} {mg : Str → Option Value} {base : Heap} {f : Addr} {fd : FuncData}
theorem ok_num (F : Fun K "is_number" "is_number" sNum f fd) (G : Glob mg) : FnOk P w K mg base CX0 1 f fd ["value", "least", "greatest"] (spNum K) := by
  refine F.ok scNum (fun vs H Q E h => ?_) (fun cdv A outer s H vs Q E hr h => ?_)
  · obtain ⟨v, d, lo, hi, rfl, _⟩ := h
    rfl
  · obtain ⟨v, d, lo, hi, rfl, hv, q⟩ := h
    refine ⟨_, pss_cons (ps_if (PW.pt (pw_or (pt_not (pt_val (pe_callB call_isi (by rfl) G.isi boot_isinstance (pa_cons (pv 0) (pa_cons (pe_bltn (v := .ty "int") (by rfl) G.int (by decide +kernel) rfl) pa_nil)))))
        (pw_or1 (pt_val (pe_callB call_isi (by rfl) G.isi boot_isinstance (pa_cons (pv 0) (pa_cons (pe_bltn (v := .ty "bool") (by rfl) G.bool (by decide +kernel) rfl) pa_nil))))))) (pss_one (ps_ret pe_bl)) pss_nil)
      (pss_one (ps_ret (pe_chain op_le op_le (pv 1) (pv 0) (pv 2)))), ?_⟩
    refine ⟨v, rfl, v, .ty "int", _, _, _, rfl, .ty _, dp_ty hv, kit_int hv, _, rfl, ?_⟩
    cases hv with
    | int i =>
      refine iteF ?_
      refine ⟨_, rfl, _, .ty "bool", _, _, _, rfl, .ty _, dp_ty (.int i), kit_bool (H := H) (.int i), _, rfl, ?_⟩
      refine iteF ?_
      refine ⟨_, rfl, _, rfl, lo, i, rfl, rfl, _, rfl, ?_⟩
      by_cases h1 : lo ≤ i
      · rw [decide_eq_true h1]
        refine ⟨_, rfl, i, hi, rfl, rfl, ?_⟩
        have e : numD (.int i) lo hi = decide (i ≤ hi) := by simp [numD, h1]
        show Q (.bl (decide (i ≤ hi))) H
        rw [← e]; exact q
      · rw [decide_eq_false h1]
        have e : numD (.int i) lo hi = false := by simp [numD, h1]
        refine iteF ?_
        show Q (.bl false) H
        rw [← e]; exact q
    | bl b =>
      refine iteF ?_
      refine ⟨_, rfl, _, .ty "bool", _, _, _, rfl, .ty _, dp_ty (.bl b), kit_bool (H := H) (.bl b), _, rfl, ?_⟩
      exact q
    | non => exact q
    | str x => exact q
    | lst h a => exact q
    | tup h a => exact q

/-! ### is_deed -/
abbrev sDeed : Stmt := top 8
theorem scDeed : FnScope ["value", "kind", "number"] ["value"] (defScope sDeed) := ⟨rfl, rfl, rfl, by decide +kernel, rfl, by decide +kernel, by decide +kernel⟩
def kin (k a b : Str) : Bool := inV (.str k) [.str a, .str b]
def deedD (d : PD) : Bool := match d with | .tuple [.str k, n] => if kin k "work" "sleep" = true then numD n 1 99 else (kin k "take" "give" && numD n 0 1) | _ => false
theorem deedD_len {ds : List PD} (h : ds.length ≠ 2) : deedD (.tuple ds) = false := by
  unfold deedD
  split
  · next k n e =>
    cases e
    exact absurd rfl h
  · rfl
theorem dp_new {K : PySem.W.Frag} {H : Hp} {v : V} {d : PD} {p : Addr} {o : HO} (np : H p = none) (h : Dp K H v d) : Dp K (upd H p o) v d := dp_keep (T := []) (.new np) (fun _ h => nomatch h) h
theorem dp_same {K : PySem.W.Frag} {H H1 : Hp} {v : V} {d : PD} (s : Same H H1) (h : Dp K H v d) : Dp K H1 v d := dp_keep (T := []) (.same s) (fun _ h => nomatch h) h
def spDeed (K : PySem.W.Frag) : Sp := fun vs H Q _ => ∃ v d, vs = [v] ∧ Dp K H v d ∧ ∀ H', Same H H' → Q (.bl (deedD d)) H'
theorem r_isi {K : PySem.W.Frag} {H : Hp} {v : V} {d : PD} {T : String} {r : Bool} {Q : VK} (h : Dp K H v d) (hk : PySem.W.kitOne K (.type (clsD d)) (.type T) = some r) (q : Q (.bl r) H) : rIsi K [v, .ty T] H Q := ⟨v, .ty T, _, _, r, rfl, .ty _, dp_ty h, hk, q⟩
theorem ok_deed {fN : Addr} {fdN : FuncData} {t99 : Tok} (F : Fun K "is_deed" "is_deed" sDeed f fd) (G : Glob mg) (FN : Fun K "is_number" "is_number" sNum fN fdN) (bN : Binds K fdN ["value", "least", "greatest"] []) (gN : mg "is_number" = some (.ref fN)) (gU : mg "MOST_UNITS" = some (.int 99 t99)) :
    FnOk P w K mg base CX0 2 f fd ["value"] (spDeed K) := by
  have GN : FnOk P w K mg base CX0 1 fN fdN ["value", "least", "greatest"] (spNum K) := ok_num FN G
  refine F.ok scDeed (fun vs H Q E h => ?_) (fun cdv A outer s H vs Q E hr h => ?_)
  · obtain ⟨v, d, rfl, _⟩ := h
    rfl
  · obtain ⟨v, d, rfl, hv, q⟩ := h
    refine ⟨_, pss_cons (ps_if (PW.pt (pw_or (pt_not (pt_val (pe_callB call_isi (by rfl) G.isi boot_isinstance (pa_cons (pv 0) (pa_cons (pe_bltn (v := .ty "tuple") (by rfl) G.tuple (by decide +kernel) rfl) pa_nil)))))
        (pw_or1 (pt_cmpR op_ne (pe_callB call_len (by rfl) G.len PySem.boot_len (pa_cons (pv 0) pa_nil)) pe_int (nomark _))))) (pss_one (ps_ret pe_bl)) pss_nil)
      (pss_cons (ps_asg (pv 0) (pg_tup (by rfl) (pgs_cons (pg_name (i := 1) scDeed.nd rfl (.inl rfl)) (pgs_cons (pg_name (i := 2) scDeed.nd rfl (.inl rfl)) pgs_nil))))
      (pss_cons (ps_if (pt_not (pt_val (pe_callB call_isi (by rfl) G.isi boot_isinstance (pa_cons (pv 1) (pa_cons (pe_bltn (v := .ty "str") (by rfl) G.str (by decide +kernel) rfl) pa_nil))))) (pss_one (ps_ret pe_bl)) pss_nil)
      (pss_cons (ps_if (pt_cmpR op_in_seq (pv 1) (pe_tup (pa_cons pe_str (pa_cons pe_str pa_nil))) (by rfl)) (pss_one (ps_ret (pe_call GN hr (by rfl) gN FN.kp bN .nil pass0 (pa_cons (pv 2) (pa_cons pe_int (pa_cons (pe_glob (v := .int 99) (by rfl) gU ⟨_, rfl⟩) pa_nil)))))) pss_nil)
      (pss_one (ps_ret (pe_and (pe_cmpR op_in_seq (pv 1) (pe_tup (pa_cons pe_str (pa_cons pe_str pa_nil))) (by rfl)) (pe_one (pe_call GN hr (by rfl) gN FN.kp bN .nil pass0 (pa_cons (pv 2) (pa_cons pe_int (pa_cons pe_int pa_nil))))))))))), ?_⟩
    refine ⟨v, rfl, v, .ty "tuple", _, _, _, rfl, .ty _, dp_ty hv, kit_tup hv, _, rfl, ?_⟩
    cases hv with
    | @tup t xs ds h a =>
      refine iteF ?_
      refine ⟨_, rfl, ⟨_, _, rfl, .inr ⟨_, h, rfl⟩, ?_⟩⟩
      refine ⟨rfl, _, rfl, ite2 (fun e => ?_) fun e => ?_⟩
      · have n2 : ds.length ≠ 2 := fun z => by
          rw [dps_len a, z] at e
          simp at e
        have e2 : deedD (.tuple ds) = false := deedD_len n2
        rw [← e2]
        exact q H (Same.refl H)
      · have n2 : xs.length = 2 := by
          by_cases z : xs.length = 2
          · exact z
          · refine absurd ?_ e
            rw [decide_eq_false (fun y => z (by have := V.int.inj y; omega))]
            rfl
        cases a with
        | nil => cases n2
        | @cons x1 xs1 d1 ds1 a1 r1 =>
          cases r1 with
          | nil => cases n2
          | @cons x2 xs2 d2 ds2 a2 r2 =>
            cases r2 with
            | cons _ _ => simp at n2
            | nil =>
              refine ⟨.ref t, rfl, t, _, rfl, h, rfl, x1, [x2], rfl, x2, [], rfl, rfl, ?_⟩
              refine ⟨x1, rfl, x1, .ty "str", _, _, _, rfl, .ty _, dp_ty a1, kit_str a1, _, rfl, ?_⟩
              cases a1 with
              | str k =>
                refine iteF ?_
                refine ⟨.str k, rfl, by show 2 ≤ sizeLine; decide, fun p np => ?_⟩
                refine ⟨p, _, rfl, .inr (.inl (.inl upd_same)), rfl, rfl, _, rfl, ite2 (fun e1 => ?_) fun e1 => ?_⟩
                · have e1 : kin k "work" "sleep" = true := e1
                  refine ⟨x2, rfl, x2, d2, 1, 99, rfl, dp_new np a2, ?_⟩
                  have e2 : deedD (.tuple [.str k, d2]) = numD d2 1 99 := by show (if kin k "work" "sleep" = true then _ else _) = _; rw [if_pos e1]
                  rw [← e2]
                  exact q _ (same_new np)
                · have e1 : ¬ kin k "work" "sleep" = true := e1
                  have e2 : deedD (.tuple [.str k, d2]) = (kin k "take" "give" && numD d2 0 1) := by show (if kin k "work" "sleep" = true then _ else _) = _; rw [if_neg e1]
                  refine ⟨.str k, rfl, by show 2 ≤ sizeLine; decide, fun p' np' => ?_⟩
                  refine ⟨p', _, rfl, .inr (.inl (.inl upd_same)), rfl, rfl, _, rfl, ite2 (fun e3 => ?_) fun e3 => ?_⟩
                  · have e3 : kin k "take" "give" = true := e3
                    refine ⟨x2, rfl, x2, d2, 0, 1, rfl, dp_new np' (dp_new np a2), ?_⟩
                    rw [e3, Bool.true_and] at e2
                    rw [← e2]
                    exact q _ ((same_new np).trans (same_new np'))
                  · have e3 : kin k "take" "give" = false := Bool.eq_false_iff.mpr e3
                    rw [e3, Bool.false_and] at e2
                    show Q (.bl false) _
                    rw [← e2]
                    exact q _ ((same_new np).trans (same_new np'))
              | _ =>
                exact q H (Same.refl H)
    | _ => exact q H (Same.refl H)

/-! ### _locks_fit -/
abbrev sFit : Stmt := top 10
theorem scFit : FnScope ["deeds", "held", "kind", "number"] ["deeds"] (defScope sFit) := ⟨rfl, rfl, rfl, by decide +kernel, rfl, by decide +kernel, by decide +kernel⟩
def fitGo : List PD → List Int → Bool
  | [], held => held.isEmpty
  | .tuple [.str k, .int n] :: r, held =>
    if k = "sleep" ∧ held ≠ [] then false else if k = "take" then (if n ∈ held then false else fitGo r (held ++ [n])) else if k = "give" then (if n ∈ held then fitGo r (held.erase n) else false) else fitGo r held
  | _ :: _, _ => false
def isPair (d : PD) : Prop := ∃ k n, d = .tuple [.str k, .int n]
theorem deedD_pair {d : PD} (h : deedD d = true) : isPair d := by
  unfold deedD at h
  split at h
  · next k n =>
    have num : ∀ {lo hi}, numD n lo hi = true → ∃ i, n = .int i := fun {lo hi} q => by
      unfold numD at q
      split at q
      · exact ⟨_, rfl⟩
      · cases q
    split at h
    · obtain ⟨i, rfl⟩ := num h
      exact ⟨k, i, rfl⟩
    · rw [Bool.and_eq_true] at h
      obtain ⟨i, rfl⟩ := num h.2
      exact ⟨k, i, rfl⟩
  · cases h
def spFit (K : PySem.W.Frag) : Sp := fun vs H Q _ => ∃ a xs ds, vs = [.ref a] ∧ SqL K H a xs ∧ DpAll K H xs ds ∧ (∀ d ∈ ds, isPair d) ∧ ds.length ≤ 1000 ∧ ∀ H', Same H H' → Q (.bl (fitGo ds [])) H'
theorem inV_ints (n : Int) : ∀ ns : List Int, inV (.int n) (ns.map V.int) = decide (n ∈ ns)
  | [] => by simp [inV]
  | m :: ns => by
    have ih := inV_ints n ns
    show (eqV (.int m) (.int n) || inV (.int n) (ns.map V.int)) = _
    rw [ih]
    show ((m == n) || _) = _
    by_cases h : m = n
    · subst h; simp
    · have h2 : ¬ n = m := fun z => h z.symm
      simp [h, h2]
theorem pair_inv {K : PySem.W.Frag} {H : Hp} {v : V} {k : Str} {n : Int} (h : Dp K H v (.tuple [.str k, .int n])) : ∃ t, v = .ref t ∧ SqT K H t [.str k, .int n] := by
  obtain ⟨t, xs, rfl, h1, h2⟩ := dp_tup h
  cases h2 with
  | cons a r =>
    cases r with
    | cons b r2 =>
      cases r2
      rw [dp_str a, dp_int b] at h1
      exact ⟨t, rfl, h1⟩
theorem flat_ints (ns : List Int) : (ns.map V.int).all flatV = true := by
  induction ns with
  | nil => rfl
  | cons n r ih => rw [List.map_cons, List.all_cons, ih]; rfl
theorem idx_first {n : Int} : ∀ (ns : List Int) (m : Nat), m < ns.idxOf n → ns[m]? ≠ some n
  | [], m, h => by simp at h
  | x :: r, 0, h => by
    intro e
    have e' : x = n := by simpa using e
    rw [e', List.idxOf_cons_self] at h
    exact absurd h (Nat.lt_irrefl _)
  | x :: r, m + 1, h => by
    have hx : ¬ x = n := fun e' => by
      rw [e', List.idxOf_cons_self] at h
      omega
    have e0 : List.idxOf n (x :: r) = List.idxOf n r + 1 := by rw [List.idxOf_cons, show (x == n) = false from beq_eq_false_iff_ne.mpr hx]; rfl
    rw [e0] at h
    have := idx_first r m (Nat.lt_of_succ_lt_succ h)
    simpa using this
theorem first_ix {ns : List Int} {n : Int} (h : n ∈ ns) : ns[ns.idxOf n]? = some n ∧ (∀ m : Nat, m < ns.idxOf n → ns[m]? ≠ some n) ∧ ns.eraseIdx (ns.idxOf n) = ns.erase n := by
  refine ⟨?_, fun m hm e => idx_first ns m hm e, ?_⟩
  · have := List.idxOf_lt_length_iff.mpr h
    rw [List.getElem?_eq_getElem this, List.getElem_idxOf]
  · exact (List.erase_eq_eraseIdx_of_idxOf rfl).symm

theorem ok_fit (F : Fun K "_locks_fit" "_locks_fit" sFit f fd) : FnOk P w K mg base CX0 1 f fd ["deeds"] (spFit K) := by
  refine F.ok scFit (fun vs H Q E h => ?_) (fun cdv A outer s H vs Q E hr h => ?_)
  · obtain ⟨a, xs, ds, rfl, _⟩ := h
    rfl
  · obtain ⟨a, xs, ds, rfl, hS, hD, hp, hlen, q⟩ := h
    refine ⟨_, pss_cons (ps_set (i := 1) scFit.nd rfl (.inl rfl) (pe_lst pa_nil))
      (pss_cons (ps_for PassesOwn.never rfl (pi_list (pv 0)) (pg_tup (by rfl) (pgs_cons (pg_name (i := 2) scFit.nd rfl (.inl rfl)) (pgs_cons (pg_name (i := 3) scFit.nd rfl (.inl rfl)) pgs_nil)))
        (pss_cons (ps_if (PW.pt (pw_and (pt_cmpR op_eq (pv 2) pe_str (nomark _)) (pw_and1 (pt_truth (pv 1) (by intro _; rfl))))) (pss_one (ps_ret pe_bl)) pss_nil)
        (pss_cons (ps_if (pt_cmpR op_eq (pv 2) pe_str (nomark _)) (pss_cons (ps_if (pt_cmpR op_in_seq (pv 3) (pv 1) (by rfl)) (pss_one (ps_ret pe_bl)) pss_nil)
            (pss_one (ps_expr (pe_bm PySem.F.plainAttrs_list PySem.F.slot_list_append PySem.F.type_list_append mt_append (pv 1) (pa_cons (pv 3) pa_nil))))) pss_nil)
        (pss_one (ps_if (pt_cmpR op_eq (pv 2) pe_str (nomark _)) (pss_cons (ps_if (pt_cmpR op_notIn_seq (pv 3) (pv 1) (by rfl)) (pss_one (ps_ret pe_bl)) pss_nil)
            (pss_one (ps_expr (pe_bm PySem.F.plainAttrs_list PySem.F.slot_list_remove PySem.F.type_list_remove mt_remove (pv 1) (pa_cons (pv 3) pa_nil))))) pss_nil)))))
      (pss_one (ps_ret (pe_notT (pv 1))))), ?_⟩
    refine ⟨Nat.zero_le _, fun h nh => ?_⟩
    have s1 : Same H (upd H h (.lst [])) := same_new nh
    have k1 : Keep [] H (upd H h (.lst [])) := .same s1
    have t0 : Tabs [] H := fun _ z => nomatch z
    refine ⟨.ref a, rfl, a, rfl, ⟨xs, k1.sqL t0 hS⟩, for_list (K := K) (a := a) (xs := xs) (fun i σ H2 => ∃ (held : List Int) (y2 y3 : Option V), σ = [some (.ref a), some (.ref h), y2, y3] ∧ Same H H2 ∧ H2 h = some (.lst (held.map V.int)) ∧ fitGo ds [] = fitGo (ds.drop i) held ∧ held.length ≤ i)
      ⟨[], none, none, rfl, s1, upd_same, rfl, Nat.le_refl _⟩ (fun i σ H2 _ ⟨_, _, _, _, sm, _⟩ => (Keep.same sm).sqL t0 hS) ?_ ?_⟩
    · rintro i x σ H2 hx ⟨held, y2, y3, rfl, sm, eh, ef, hl⟩
      obtain ⟨d, hd, hdp⟩ := dps_at hD hx
      have hi : i < ds.length := (List.getElem?_eq_some_iff.mp hd).1
      obtain ⟨k, n, rfl⟩ := hp d (List.mem_of_getElem? hd)
      obtain ⟨t, rfl, ht⟩ := pair_inv (dp_same sm hdp)
      have edrop : ds.drop i = .tuple [.str k, .int n] :: ds.drop (i + 1) := by
        rw [List.drop_eq_getElem_cons hi, (List.getElem?_eq_some_iff.mp hd).2]
      rw [edrop] at ef
      have estep : fitGo (.tuple [.str k, .int n] :: ds.drop (i + 1)) held = if k = "sleep" ∧ held ≠ [] then false else if k = "take" then (if n ∈ held then false else fitGo (ds.drop (i + 1)) (held ++ [n])) else if k = "give" then (if n ∈ held then fitGo (ds.drop (i + 1)) (held.erase n) else false) else fitGo (ds.drop (i + 1)) held := rfl
      rw [estep] at ef
      refine ⟨t, _, rfl, ht, rfl, .str k, [.int n], rfl, .int n, [], rfl, rfl, ?_⟩
      -- behind the first test
      have rest : ¬ (k = "sleep" ∧ held ≠ []) → tSeq (tIfS (tTest (tOp rEq (tVar 2) (tC (V.str "take")))) (tSeq (tIfS (tTest (tOp (rIn K false) (tVar 3) (tVar 1))) (tRet (tC (.bl false))) tNext) (tDrop (tBM K "list" rAppend (tVar 1) (tCons (tVar 3) tNil)))) tNext)
          (tIfS (tTest (tOp rEq (tVar 2) (tC (V.str "give")))) (tSeq (tIfS (tTest (tOp (rIn K true) (tVar 3) (tVar 1))) (tRet (tC (.bl false))) tNext) (tDrop (tBM K "list" rRemI (tVar 1) (tCons (tVar 3) tNil)))) tNext)
          { nx := fun σ H2 => ∃ (held : List Int) (y2 y3 : Option V), σ = [some (.ref a), some (.ref h), y2, y3] ∧ Same H H2 ∧ H2 h = some (.lst (held.map V.int)) ∧ fitGo ds [] = fitGo (ds.drop (i + 1)) held ∧ held.length ≤ i + 1, rt := Q } [some (.ref a), some (.ref h), some (.str k), some (.int n)] H2 := by
        intro hne
        rw [if_neg hne] at ef
        refine ⟨.str k, rfl, rfl, _, rfl, ite2 (fun e1 => ?_) fun e1 => ?_⟩
        · have e1 : k = "take" := V.str.inj (of_decide_eq_true e1)
          rw [if_pos e1] at ef
          refine ⟨.int n, rfl, .ref h, rfl, h, _, rfl, .inl (.of eh), rfl, flat_ints _, _, rfl, ite2 (fun e2 => ?_) fun e2 => ?_⟩
          · have e2 : inV (.int n) (held.map V.int) = true := e2
            rw [inV_ints] at e2
            rw [if_pos (of_decide_eq_true e2)] at ef
            show Q (.bl false) H2
            rw [← ef]; exact q H2 sm
          · have e2 : ¬ inV (.int n) (held.map V.int) = true := e2
            rw [inV_ints] at e2
            rw [if_neg (fun z => e2 (decide_eq_true z))] at ef
            refine ⟨.ref h, rfl, .inl ⟨rfl, _, .of eh⟩, .int n, rfl, h, _, _, rfl, rfl, eh, small1000 (by rw [List.length_map]; omega), ?_⟩
            refine ⟨.str k, rfl, rfl, _, rfl, ite2 (fun e3 => ?_) fun e3 => ?_⟩
            · have e3 : k = "give" := V.str.inj (of_decide_eq_true e3)
              rw [e1] at e3
              exact absurd e3 (by decide +kernel)
            · refine ⟨held ++ [n], _, _, rfl, fun b o e => ?_, by rw [upd_same, List.map_append]; rfl, ef, by rw [List.length_append]; exact Nat.succ_le_succ hl⟩
              rw [upd_ne (ne_of_none e nh)]
              exact sm b o e
        · have e1 : ¬ k = "take" := fun z => e1 (decide_eq_true (by rw [z]))
          rw [if_neg e1] at ef
          refine ⟨.str k, rfl, rfl, _, rfl, ite2 (fun e3 => ?_) fun e3 => ?_⟩
          · have e3 : k = "give" := V.str.inj (of_decide_eq_true e3)
            rw [if_pos e3] at ef
            refine ⟨.int n, rfl, .ref h, rfl, h, _, rfl, .inl (.of eh), rfl, flat_ints _, _, rfl, ite2 (fun e2 => ?_) fun e2 => ?_⟩
            · have e2 : (!inV (.int n) (held.map V.int)) = true := e2
              rw [inV_ints] at e2
              have e2 : ¬ n ∈ held := by simpa using e2
              rw [if_neg e2] at ef
              show Q (.bl false) H2
              rw [← ef]; exact q H2 sm
            · have e2 : ¬ (!inV (.int n) (held.map V.int)) = true := e2
              rw [inV_ints] at e2
              have e2 : n ∈ held := by simpa using e2
              rw [if_pos e2] at ef
              obtain ⟨f1, f2, f3⟩ := first_ix e2
              refine ⟨.ref h, rfl, .inl ⟨rfl, _, .of eh⟩, .int n, rfl, h, held, n, _, rfl, rfl, eh, f1, f2, ?_⟩
              rw [f3]
              refine ⟨held.erase n, _, _, rfl, fun b o e => ?_, upd_same, ef, Nat.le_trans (List.length_erase_le) (Nat.le_succ_of_le hl)⟩
              rw [upd_ne (ne_of_none e nh)]
              exact sm b o e
          · have e3 : ¬ k = "give" := fun z => e3 (decide_eq_true (by rw [z]))
            rw [if_neg e3] at ef
            exact ⟨held, _, _, rfl, sm, eh, ef, Nat.le_succ_of_le hl⟩
      refine ⟨.str k, rfl, rfl, _, rfl, ite2 (fun e1 => ?_) fun e1 => ?_⟩
      · have e1 : k = "sleep" := V.str.inj (of_decide_eq_true e1)
        refine ⟨.ref h, rfl, _, .inl ⟨_, .of eh, rfl⟩, ite2 (fun e2 => ?_) fun e2 => ?_⟩
        · have hne : held ≠ [] := fun z => by rw [z] at e2; cases e2
          rw [if_pos ⟨e1, hne⟩] at ef
          show Q (.bl false) H2
          rw [← ef]; exact q H2 sm
        · refine rest fun z => e2 ?_
          cases held with
          | nil => exact absurd rfl z.2
          | cons _ _ => rfl
      · exact rest fun z => e1 (decide_eq_true (by rw [z.1]))
    · rintro σ H2 ⟨held, y2, y3, rfl, sm, eh, ef, hl⟩
      rw [dps_len hD, List.drop_length] at ef
      refine ⟨.ref h, rfl, _, .inl ⟨_, .of eh, rfl⟩, ?_⟩
      have e3 : (!(!(held.map V.int).isEmpty)) = fitGo ds [] := by
        rw [ef]
        cases held <;> rfl
      rw [e3]
      exact q H2 sm

/-! ### is_program -/
abbrev sProg : Stmt := top 9
theorem scProg : FnScope ["value", "deed"] ["value"] (defScope sProg) := ⟨rfl, rfl, rfl, by decide +kernel, rfl, by decide +kernel, by decide +kernel⟩
def progD (d : PD) : Bool := match d with | .list ds => if 40 < ds.length then false else (ds.all deedD && fitGo ds []) | _ => false
def spProg (K : PySem.W.Frag) (T : List Addr) : Sp := fun vs H Q _ => ∃ v d, vs = [v] ∧ Dp K H v d ∧ Tabs T H ∧ ∀ H', Keep T H H' → Q (.bl (progD d)) H'
theorem range_all (g : PD → Bool) (ds : List PD) : (List.range ds.length).all (fun i => g (ds[i]?.getD .none)) = ds.all g := by
  rw [Bool.eq_iff_iff, List.all_eq_true, List.all_eq_true]
  constructor
  · intro h d hd
    obtain ⟨i, hi, e⟩ := List.getElem_of_mem hd
    have := h i (List.mem_range.mpr hi)
    rw [List.getElem?_eq_getElem hi, e] at this
    exact this
  · intro h i hi
    have hi := List.mem_range.mp hi
    rw [List.getElem?_eq_getElem hi]
    exact h _ (List.getElem_mem hi)
theorem ok_prog {c PT fD fF fN : Addr} {fdD fdF fdN : FuncData} {t40 t99 : Tok} {T : List Addr} (F : FunC K "is_program" "is_program" sProg f fd c) (TB : GxR.TabB base mg c PT) (hPT : PT ∈ T) (G : Glob mg)
    (FD : Fun K "is_deed" "is_deed" sDeed fD fdD) (bD : Binds K fdD ["value"] []) (gD : mg "is_deed" = some (.ref fD)) (FN : Fun K "is_number" "is_number" sNum fN fdN) (bN : Binds K fdN ["value", "least", "greatest"] []) (gN : mg "is_number" = some (.ref fN))
    (FF : Fun K "_locks_fit" "_locks_fit" sFit fF fdF) (bF : Binds K fdF ["deeds"] []) (gF : mg "_locks_fit" = some (.ref fF)) (gM : mg "MOST_DEEDS" = some (.int 40 t40)) (gU : mg "MOST_UNITS" = some (.int 99 t99)) :
    FnOk P w K mg base CX0 4 f fd ["value"] (spProg K T) := by
  have GD : FnOk P w K mg base CX0 2 fD fdD ["value"] (spDeed K) := ok_deed FD G FN bN gN gU
  have GF : FnOk P w K mg base CX0 1 fF fdF ["deeds"] (spFit K) := ok_fit FF
  refine F.ok scProg (fun vs H Q E h => ?_) (fun A outer s H vs Q E hr h => ?_)
  · obtain ⟨v, d, rfl, _⟩ := h
    rfl
  · obtain ⟨v, d, rfl, hv, ht, q⟩ := h
    refine ⟨_, pss_cons (ps_if (PW.pt (pw_or (pt_not (pt_val (pe_callB call_isi (by rfl) G.isi boot_isinstance (pa_cons (pv 0) (pa_cons (pe_bltn (v := .ty "list") (by rfl) G.list (by decide +kernel) rfl) pa_nil)))))
        (pw_or1 (pt_cmpR op_gt (pe_callB call_len (by rfl) G.len PySem.boot_len (pa_cons (pv 0) pa_nil)) (pe_glob (v := .int 40) (by rfl) gM ⟨_, rfl⟩) (nomark _))))) (pss_one (ps_ret pe_bl)) pss_nil)
      (pss_one (ps_ret (pe_and (GE.pe_allG (k := 2) (own := [("deed", 1)]) hr rfl scProg.nd (by rfl) G.all TB rfl ⟨blkOk_by (N := ["value", "deed"]) (sc := defScope sProg) (by decide +kernel), by rfl, by decide +kernel, by rfl⟩ (pi_list (pv 0))
          (fun _ _ _ _ _ _ => pg_name (i := 1) scProg.nd rfl (Or.inl rfl)) (fun _ _ _ _ _ _ hr2 => pe_call GD hr2 (by rfl) gD FD.kp bD .nil pass0 (pa_cons (pv 1) pa_nil)))
        (pe_one (pe_call GF (hr.mono (by decide)) (by rfl) gF FF.kp bF .nil pass0 (pa_cons (pv 0) pa_nil)))))), ?_⟩
    refine ⟨v, rfl, v, .ty "list", _, _, _, rfl, .ty _, dp_ty hv, kit_list hv, _, rfl, ?_⟩
    cases hv with
    | @lst a xs ds h hD =>
      have hl := dps_len hD
      refine iteF ?_
      refine ⟨_, rfl, ⟨_, _, rfl, .inl ⟨_, h, rfl⟩, ?_⟩⟩
      refine ⟨_, _, rfl, rfl, _, rfl, ite2 (fun e => ?_) fun e => ?_⟩
      · have e : (40 : Int) < xs.length := of_decide_eq_true e
        have e2 : progD (.list ds) = false := if_pos (by omega)
        show Q (.bl false) H
        rw [← e2]; exact q H .refl
      · have e : ¬ (40 : Int) < xs.length := fun z => e (decide_eq_true z)
        have e2 : progD (.list ds) = (ds.all deedD && fitGo ds []) := if_neg (by omega)
        refine ⟨_, rfl, a, rfl, ⟨xs, h⟩, ht PT hPT, fun H2 tb => ⟨ds.length, fun i => deedD (ds[i]?.getD .none), fun _ H3 => Keep T H H3, Keep.tabbed hPT tb, fun i H3 hi k => ⟨⟨xs, xs[i]'(by omega), k.sqL ht h, by simp [hl, hi]⟩, fun x H' y => ?_⟩, fun H3 k => ⟨xs, k.sqL ht h, by omega⟩, fun i H3 _ k => ?_⟩⟩
        · obtain ⟨rfl, y⟩ := y
          have hx := y xs (k.sqL ht h)
          obtain ⟨d, hd, hdp⟩ := dps_at hD hx
          refine ⟨rfl, x, rfl, x, d, rfl, dp_keep k ht hdp, fun H4 sm => ⟨?_, k.trans (.same sm)⟩⟩
          show V.bl (deedD d) = V.bl (deedD (ds[i]?.getD .none))
          rw [hd]; rfl
        · rw [range_all]
          refine ⟨_, rfl, ite2 (fun e3 => ?_) fun e3 => ?_⟩
          · rw [e3, Bool.true_and] at e2
            refine ⟨_, rfl, a, xs, ds, rfl, k.sqL ht h, dps_keep k ht hD, fun d hd => deedD_pair (List.all_eq_true.mp e3 d hd), by omega, fun H4 sm => ?_⟩
            rw [← e2]; exact q H4 (k.trans (.same sm))
          · rw [Bool.eq_false_iff.mpr e3, Bool.false_and] at e2
            rw [← e2]; exact q H3 k
    | _ => exact q H .refl

/-! ### check_program, _units, length -/
abbrev sChk : Stmt := top 11
theorem scChk : FnScope ["value"] ["value"] (defScope sChk) := ⟨rfl, rfl, rfl, by decide +kernel, rfl, by decide +kernel, by decide +kernel⟩
def spChk (K : PySem.W.Frag) (T : List Addr) : Sp := fun vs H Q _ => ∃ v d, vs = [v] ∧ Dp K H v d ∧ Tabs T H ∧ progD d = true ∧ ∀ H', Keep T H H' → Q .non H'
theorem ok_chk {fP : Addr} {fdP : FuncData} {c : Addr} {T : List Addr} (F : Fun K "check_program" "check_program" sChk f fd) (FP : FunC K "is_program" "is_program" sProg fP fdP c) (GP : FnOk P w K mg base CX0 4 fP fdP ["value"] (spProg K T)) (bP : Binds K fdP ["value"] []) (gP : mg "is_program" = some (.ref fP)) :
    FnOk P w K mg base CX0 5 f fd ["value"] (spChk K T) := by
  refine F.ok scChk (fun vs H Q E h => ?_) (fun cdv A outer s H vs Q E hr h => ?_)
  · obtain ⟨v, d, rfl, _⟩ := h
    rfl
  · obtain ⟨v, d, rfl, hv, ht, hp, q⟩ := h
    refine ⟨_, pss_one (ps_if (pt_not (pt_val (pe_call GP hr (by rfl) gP FP.kp bP .nil pass0 (pa_cons (pv 0) pa_nil)))) (pss_one ps_never) pss_nil), ?_⟩
    refine ⟨v, rfl, v, d, rfl, hv, ht, fun H' k => ⟨_, rfl, ?_⟩⟩
    rw [hp]
    exact q H' k
abbrev sUnits : Stmt := top 13
theorem scUnits : FnScope ["deed", "kind", "number"] ["deed"] (defScope sUnits) := ⟨rfl, rfl, rfl, by decide +kernel, rfl, by decide +kernel, by decide +kernel⟩
def unitsD (d : PD) : Int := match d with | .tuple [.str k, .int n] => if k = "work" then n else 1 | _ => 1
def spUnits (K : PySem.W.Frag) : Sp := fun vs H Q _ => ∃ v d, vs = [v] ∧ Dp K H v d ∧ isPair d ∧ Q (.int (unitsD d)) H
theorem ok_units (F : Fun K "_units" "_units" sUnits f fd) : FnOk P w K mg base CX0 1 f fd ["deed"] (spUnits K) := by
  refine F.ok scUnits (fun vs H Q E h => ?_) (fun cdv A outer s H vs Q E hr h => ?_)
  · obtain ⟨v, d, rfl, _⟩ := h
    rfl
  · obtain ⟨v, d, rfl, hv, ⟨k, n, rfl⟩, q⟩ := h
    obtain ⟨t, rfl, ht⟩ := pair_inv hv
    refine ⟨_, pss_cons (ps_asg (pv 0) (pg_tup (by rfl) (pgs_cons (pg_name (i := 1) scUnits.nd rfl (.inl rfl)) (pgs_cons (pg_name (i := 2) scUnits.nd rfl (.inl rfl)) pgs_nil))))
      (pss_one (ps_ret (pe_ifExp (pt_cmpR op_eq (pv 1) pe_str (nomark _)) (pv 2) pe_int))), ?_⟩
    refine ⟨.ref t, rfl, t, _, rfl, ht, rfl, .str k, [.int n], rfl, .int n, [], rfl, rfl, ?_⟩
    refine ⟨.str k, rfl, rfl, _, rfl, ite2 (fun e => ?_) fun e => ?_⟩
    · have e : k = "work" := V.str.inj (of_decide_eq_true e)
      refine ⟨_, rfl, ?_⟩
      have e2 : unitsD (.tuple [.str k, .int n]) = n := if_pos e
      show Q (.int n) H
      rw [← e2]; exact q
    · have e : ¬ k = "work" := fun z => e (decide_eq_true (by rw [z]))
      have e2 : unitsD (.tuple [.str k, .int n]) = 1 := if_neg e
      show Q (.int 1) H
      rw [← e2]; exact q
abbrev sLen : Stmt := top 12
theorem scLen : FnScope ["program", "deed"] ["program"] (defScope sLen) := ⟨rfl, rfl, rfl, by decide +kernel, rfl, by decide +kernel, by decide +kernel⟩
def lenD (ds : List PD) : Int := (ds.map unitsD).sum + 1
theorem preS_sum (g : PD → Int) : ∀ ds : List PD, GE.preS (fun i => g (ds[i]?.getD .none)) ds.length = (ds.map g).sum := by
  intro ds
  have key : ∀ n, n ≤ ds.length → GE.preS (fun i => g (ds[i]?.getD .none)) n = ((ds.take n).map g).sum := by
    intro n
    induction n with
    | zero => intro _; rfl
    | succ n ih =>
      intro h
      have hn : n < ds.length := h
      show GE.preS _ n + g (ds[n]?.getD .none) = _
      rw [ih (Nat.le_of_lt hn), List.take_add_one, List.getElem?_eq_getElem hn, List.map_append, List.sum_append]
      show _ = _ + (g ds[n] + 0)
      rw [Int.add_zero]; rfl
  rw [key ds.length (Nat.le_refl _), List.take_length]
theorem prog_inv {d : PD} (h : progD d = true) : ∃ ds, d = .list ds ∧ ds.length ≤ 40 ∧ (∀ x ∈ ds, deedD x = true) ∧ fitGo ds [] = true := by
  unfold progD at h
  split at h
  · next ds =>
    split at h
    · cases h
    · next hn =>
      rw [Bool.and_eq_true, List.all_eq_true] at h
      exact ⟨ds, rfl, by omega, h.1, h.2⟩
  · cases h
def spLen (K : PySem.W.Frag) (T : List Addr) : Sp := fun vs H Q _ => ∃ v ds, vs = [v] ∧ Dp K H v (.list ds) ∧ Tabs T H ∧ progD (.list ds) = true ∧ ∀ H', Keep T H H' → Q (.int (lenD ds)) H'
theorem ok_len {fC fU c PL : Addr} {fdC fdU : FuncData} {T : List Addr} (F : FunC K "length" "length" sLen f fd c) (TB : GxR.TabB base mg c PL) (hPL : PL ∈ T) (G : Glob mg) (FC : Fun K "check_program" "check_program" sChk fC fdC) (GC : FnOk P w K mg base CX0 5 fC fdC ["value"] (spChk K T)) (bC : Binds K fdC ["value"] []) (gC : mg "check_program" = some (.ref fC))
    (FU : Fun K "_units" "_units" sUnits fU fdU) (bU : Binds K fdU ["deed"] []) (gU : mg "_units" = some (.ref fU)) : FnOk P w K mg base CX0 6 f fd ["program"] (spLen K T) := by
  have GU : FnOk P w K mg base CX0 1 fU fdU ["deed"] (spUnits K) := ok_units FU
  refine F.ok scLen (fun vs H Q E h => ?_) (fun A outer s H vs Q E hr h => ?_)
  · obtain ⟨v, d, rfl, _⟩ := h
    rfl
  · obtain ⟨v, ds, rfl, hv, ht, hp, q⟩ := h
    refine ⟨_, pss_cons (ps_expr (pe_call GC hr (by rfl) gC FC.kp bC .nil pass0 (pa_cons (pv 0) pa_nil)))
      (pss_one (ps_ret (pe_op op_add (GE.pe_sumG (k := 1) (own := [("deed", 1)]) (hr.mono (by decide)) rfl scLen.nd (by rfl) G.sum TB rfl ⟨blkOk_by (N := ["program", "deed"]) (sc := defScope sLen) (by decide +kernel), by rfl, by decide +kernel, by rfl⟩ (pi_list (pv 0))
          (fun _ _ _ _ _ _ => pg_name (i := 1) scLen.nd rfl (Or.inl rfl)) (fun _ _ _ _ _ _ hr2 => pe_call GU hr2 (by rfl) gU FU.kp bU .nil pass0 (pa_cons (pv 1) pa_nil))) pe_int))), ?_⟩
    obtain ⟨ds', e, _, hdd, _⟩ := prog_inv hp
    cases e
    obtain ⟨a, xs, rfl, h, hD⟩ := dp_list hv
    have hl := dps_len hD
    refine ⟨.ref a, rfl, .ref a, .list ds, rfl, hv, ht, hp, fun H1 k1 => ?_⟩
    have t1 := k1.tabs ht
    have sq : ∀ {H3}, Keep T H1 H3 → SqL K H3 a xs := fun {H3} k => (k1.trans k).sqL ht h
    refine ⟨_, rfl, a, rfl, ⟨xs, sq .refl⟩, t1 PL hPL, fun H2 tb D hD2 => ⟨ds.length, fun i => unitsD (ds[i]?.getD .none), fun i H3 => Keep T H1 H3 ∧ H3 D = some (.lst [.int (GE.preS (fun i => unitsD (ds[i]?.getD .none)) i)]),
      fun i H3 => Keep T H1 H3 ∧ H3 D = some (.lst [.int (GE.preS (fun i => unitsD (ds[i]?.getD .none)) i)]), ⟨?_, upd_same⟩, fun i H3 hi k => ⟨⟨xs, xs[i]'(by omega), sq k.1, by simp [hl, hi]⟩, fun x H' y => ?_⟩, fun H3 k => ⟨xs, sq k.1, by omega⟩, fun i H3 _ k => k.2, fun i H3 hi k => ⟨k.2, ?_, upd_same⟩, fun H3 k => ?_⟩⟩
    · exact (Keep.tabbed hPL tb).own t1 ((Keep.tabbed hPL tb).free t1 hD2)
    · obtain ⟨rfl, y⟩ := y
      have hx := y xs (sq k.1)
      obtain ⟨d, hd, hdp⟩ := dps_at hD hx
      refine ⟨rfl, x, rfl, x, d, rfl, dp_keep (k1.trans k.1) ht hdp, deedD_pair (hdd d (List.mem_of_getElem? hd)), ?_, k⟩
      show V.int (unitsD d) = V.int (unitsD (ds[i]?.getD .none))
      rw [hd]; rfl
    · exact k.1.own t1 ((Keep.tabbed hPL tb).free t1 hD2)
    · rw [preS_sum]
      exact ⟨_, _, rfl, rfl, q H3 (k1.trans k.1)⟩

/-! ### locks_used -/
theorem kin_iff {k a b : Str} : kin k a b = true ↔ k = a ∨ k = b := by
  show ((a == k) || ((b == k) || false)) = true ↔ _
  rw [Bool.or_false, Bool.or_eq_true, beq_iff_eq, beq_iff_eq]
  constructor
  · rintro (h | h)
    · exact .inl h.symm
    · exact .inr h.symm
  · rintro (h | h)
    · exact .inl h.symm
    · exact .inr h.symm
theorem deed_num {k : Str} {n : Int} (h : deedD (.tuple [.str k, .int n]) = true) : ((k = "work" ∨ k = "sleep") ∧ 1 ≤ n ∧ n ≤ 99) ∨ ((k = "take" ∨ k = "give") ∧ (n = 0 ∨ n = 1)) := by
  have h : (if kin k "work" "sleep" = true then numD (.int n) 1 99 else (kin k "take" "give" && numD (.int n) 0 1)) = true := h
  have num : ∀ {lo hi}, numD (.int n) lo hi = true → lo ≤ n ∧ n ≤ hi := fun {lo hi} q => by
    have q : (decide (lo ≤ n) && decide (n ≤ hi)) = true := q
    rw [Bool.and_eq_true] at q
    exact ⟨of_decide_eq_true q.1, of_decide_eq_true q.2⟩
  split at h
  · next hk => exact .inl ⟨kin_iff.mp hk, num h⟩
  · rw [Bool.and_eq_true] at h
    have := num h.2
    exact .inr ⟨kin_iff.mp h.1, by omega⟩
theorem asc_unique : ∀ (ns ms : List Int), ns.Pairwise (· < ·) → ms.Pairwise (· < ·) → (∀ k, k ∈ ns ↔ k ∈ ms) → ns = ms
  | [], [], _, _, _ => rfl
  | [], m :: ms, _, _, h => by have := (h m).mpr List.mem_cons_self; cases this
  | n :: ns, [], _, _, h => by have := (h n).mp List.mem_cons_self; cases this
  | n :: ns, m :: ms, hn, hm, h => by
    rw [List.pairwise_cons] at hn hm
    have e : n = m := by
      have h1 := (h n).mp List.mem_cons_self
      have h2 := (h m).mpr List.mem_cons_self
      rcases List.mem_cons.mp h1 with e | h1
      · exact e
      · rcases List.mem_cons.mp h2 with e | h2
        · exact e.symm
        · have a := hm.1 n h1
          have b := hn.1 m h2
          omega
    subst e
    have : ns = ms := asc_unique ns ms hn.2 hm.2 fun k => by
      have hk := h k
      constructor
      · intro hm'
        have a := hn.1 k hm'
        rcases List.mem_cons.mp (hk.mp (List.mem_cons_of_mem _ hm')) with e | e
        · omega
        · exact e
      · intro hm'
        have a := hm.1 k hm'
        rcases List.mem_cons.mp (hk.mpr (List.mem_cons_of_mem _ hm')) with e | e
        · omega
        · exact e
    rw [this]
abbrev sLocks : Stmt := top 14
theorem scLocks : FnScope ["program", "kind", "number"] ["program"] (defScope sLocks) := ⟨rfl, rfl, rfl, by decide +kernel, rfl, by decide +kernel, by decide +kernel⟩
def isTake (j : Int) (d : PD) : Bool := match d with | .tuple [.str k, .int n] => decide (k = "take") && decide (j = n) | _ => false
def locksD (ds : List PD) : List Int := ([0, 1] : List Int).filter fun l => ds.any (isTake l)
def spLocks (K : PySem.W.Frag) (T : List Addr) : Sp := fun vs H Q _ => ∃ v ds, vs = [v] ∧ Dp K H v (.list ds) ∧ Tabs T H ∧ progD (.list ds) = true ∧ ∀ p H', H' p = some (.lst ((locksD ds).map V.int)) → Keep T H H' → Q (.ref p) H'
theorem ok_locks {fC : Addr} {fdC : FuncData} {T : List Addr} (F : Fun K "locks_used" "locks_used" sLocks f fd) (G : Glob mg) (FC : Fun K "check_program" "check_program" sChk fC fdC) (GC : FnOk P w K mg base CX0 5 fC fdC ["value"] (spChk K T)) (bC : Binds K fdC ["value"] []) (gC : mg "check_program" = some (.ref fC)) :
    FnOk P w K mg base CX0 6 f fd ["program"] (spLocks K T) := by
  refine F.ok scLocks (fun vs H Q E h => ?_) (fun cdv A outer s H vs Q E hr h => ?_)
  · obtain ⟨v, d, rfl, _⟩ := h
    rfl
  · obtain ⟨v, ds, rfl, hv, ht, hp, q⟩ := h
    refine ⟨_, pss_cons (ps_expr (pe_call GC hr (by rfl) gC FC.kp bC .nil pass0 (pa_cons (pv 0) pa_nil)))
      (pss_one (ps_ret (pe_callB (cr_sortedSet rfl) (by rfl) G.sorted boot_sorted (pa_cons (SC.pe_setcomp (own := [("kind", 1), ("number", 2)]) (g := gTup K 2 (gCons (gName 1) (gCons (gName 2) gNil))) (tt := tTest (tOp rEq (tVar 1) (tC (.str "take")))) (te := tVar 2) hr.units0 rfl scLocks.nd (pi_list (pv 0)) (blkOk_by (N := ["program", "kind", "number"]) (sc := defScope sLocks) (by decide +kernel))
          (fun _ _ _ _ _ => pg_tup (by rfl) (pgs_cons (pg_name (i := 1) scLocks.nd rfl (Or.inl rfl)) (pgs_cons (pg_name (i := 2) scLocks.nd rfl (Or.inl rfl)) pgs_nil))) (fun _ _ _ _ _ => pts_one (pt_cmpR op_eq (pv 1) pe_str (nomark _))) (fun _ _ _ _ _ => pv 2)) pa_nil)))), ?_⟩
    obtain ⟨ds', e, hlen, hdd, _⟩ := prog_inv hp
    cases e
    obtain ⟨a, xs, rfl, h, hD⟩ := dp_list hv
    have hl := dps_len hD
    refine ⟨.ref a, rfl, .ref a, .list ds, rfl, hv, ht, hp, fun H1 k1 => ?_⟩
    have t1 := k1.tabs ht
    have sq : ∀ {H3}, Keep T H1 H3 → SqL K H3 a xs := fun {H3} k => (k1.trans k).sqL ht h
    refine ⟨_, rfl, a, rfl, ⟨xs, sq .refl⟩, fun D hD1 => ⟨_, ds.length, fun i H3 => Keep T H1 H3 ∧ ∃ S n, H3 D = some (SetO w D S n) ∧ n ≤ i ∧ ∀ j, S j = (ds.take i).any (isTake j), SC.empty_int, ⟨.new hD1, _, _, upd_same, Nat.le_refl _, fun j => rfl⟩, fun i H3 hi ⟨k, S, n, hS, hn, hj⟩ => ⟨⟨xs, xs[i]'(by omega), sq k, by simp [hl, hi]⟩, fun x H' y => ?_⟩, fun H3 ⟨k, S, n, hS, hn, hj⟩ => ⟨⟨xs, sq k, by omega⟩, ?_⟩⟩⟩
    · obtain ⟨rfl, y⟩ := y
      have hx := y xs (sq k)
      obtain ⟨d, hd, hdp⟩ := dps_at hD hx
      obtain ⟨kk, m, rfl⟩ := deedD_pair (hdd d (List.mem_of_getElem? hd))
      obtain ⟨t, rfl, htt⟩ := pair_inv (dp_keep (k1.trans k) ht hdp)
      have et : ∀ j, (ds.take (i + 1)).any (isTake j) = ((ds.take i).any (isTake j) || (decide (kk = "take") && decide (j = m))) := fun j => by
        rw [List.take_add_one, hd, List.any_append]
        show _ = _
        simp [isTake]
      refine ⟨t, _, rfl, htt, rfl, .str kk, [.int m], rfl, .int m, [], rfl, rfl, rfl, .str kk, rfl, rfl, _, rfl, ite2 (fun e => ?_) fun e => ?_⟩
      · refine ⟨_, rfl, _, SC.adds_int hS (by unfold scanBound; omega), k.own t1 hD1, _, _, upd_same, ?_, fun j => ?_⟩
        · split <;> omega
        · have e : kk = "take" := V.str.inj (of_decide_eq_true e)
          rw [et j, hj j, e]
          simp
      · refine ⟨k, S, n, hS, by omega, fun j => ?_⟩
        have e : ¬ kk = "take" := fun z => e (decide_eq_true (by rw [z]))
        rw [et j, hj j, decide_eq_false e, Bool.false_and, Bool.or_false]
    · refine ⟨D, S, n, rfl, hS, by omega, fun ns p h1 h2 h3 hp0 => ?_⟩
      have e : ns = locksD ds := by
        refine asc_unique _ _ h1 ?_ fun j => ?_
        · exact List.Pairwise.filter _ (by decide)
        · rw [h2, hj j, List.take_length]
          unfold locksD
          rw [List.mem_filter]
          constructor
          · intro hh
            refine ⟨?_, hh⟩
            obtain ⟨d, hd, hd2⟩ := List.any_eq_true.mp hh
            obtain ⟨kk, m, rfl⟩ := deedD_pair (hdd d hd)
            have hd2 : (decide (kk = "take") && decide (j = m)) = true := hd2
            rw [Bool.and_eq_true] at hd2
            have e1 := of_decide_eq_true hd2.1
            have e2 := of_decide_eq_true hd2.2
            rcases deed_num (hdd _ hd) with ⟨hk, _⟩ | ⟨_, hm⟩
            · rw [e1] at hk
              exact absurd hk (by decide +kernel)
            · rw [e2]
              rcases hm with hm | hm <;> rw [hm] <;> simp
          · exact fun hh => hh.2
      refine q p _ (by rw [upd_same, e]) (k1.trans (k.own t1 ((k.free t1 hp0))))

/-! ### longest_hold -/
abbrev sHold : Stmt := top 15
theorem scHold : FnScope ["program", "longest", "done", "taken", "deed", "kind", "number"] ["program"] (defScope sHold) := ⟨rfl, rfl, rfl, by decide +kernel, rfl, by decide +kernel, by decide +kernel⟩
def holdGo : List PD → Int → Int → Int → Int → Int
  | .tuple [.str k, .int n] :: r, longest, done, x, y =>
    let d := done + unitsD (.tuple [.str k, .int n])
    let x' := if k = "take" ∧ n = 0 then d else x
    let y' := if k = "take" ∧ n ≠ 0 then d else y
    let u := d - (if n = 0 then x' else y')
    holdGo r (if k = "give" then (if u > longest then u else longest) else longest) d x' y'
  | _, longest, _, _, _ => longest
def spHold (K : PySem.W.Frag) (T : List Addr) : Sp := fun vs H Q _ => ∃ v ds, vs = [v] ∧ Dp K H v (.list ds) ∧ Tabs T H ∧ progD (.list ds) = true ∧ ∀ H', Keep T H H' → Q (.int (holdGo ds 0 0 0 0)) H'
theorem ok_hold {fC fU : Addr} {fdC fdU : FuncData} {T : List Addr} (F : Fun K "longest_hold" "longest_hold" sHold f fd) (G : Glob mg) (FC : Fun K "check_program" "check_program" sChk fC fdC) (GC : FnOk P w K mg base CX0 5 fC fdC ["value"] (spChk K T)) (bC : Binds K fdC ["value"] []) (gC : mg "check_program" = some (.ref fC))
    (FU : Fun K "_units" "_units" sUnits fU fdU) (bU : Binds K fdU ["deed"] []) (gU : mg "_units" = some (.ref fU)) : FnOk P w K mg base CX0 6 f fd ["program"] (spHold K T) := by
  have GU : FnOk P w K mg base CX0 1 fU fdU ["deed"] (spUnits K) := ok_units FU
  refine F.ok scHold (fun vs H Q E h => ?_) (fun cdv A outer s H vs Q E hr h => ?_)
  · obtain ⟨v, d, rfl, _⟩ := h
    rfl
  · obtain ⟨v, ds, rfl, hv, ht, hp, q⟩ := h
    have hr1 : Room 1 _ := hr.mono (by decide)
    refine ⟨_, pss_cons (ps_expr (pe_call GC hr (by rfl) gC FC.kp bC .nil pass0 (pa_cons (pv 0) pa_nil)))
      (pss_cons (ps_set (i := 1) scHold.nd rfl (.inl rfl) pe_int) (pss_cons (ps_set (i := 2) scHold.nd rfl (.inl rfl) pe_int) (pss_cons (ps_set (i := 3) scHold.nd rfl (.inl rfl) (pe_lst (pa_cons pe_int (pa_cons pe_int pa_nil))))
      (pss_cons (ps_for PassesOwn.never rfl (pi_list (pv 0)) (pg_name (i := 4) scHold.nd rfl (.inl rfl))
        (pss_cons (ps_asg (pv 4) (pg_tup (by rfl) (pgs_cons (pg_name (i := 5) scHold.nd rfl (.inl rfl)) (pgs_cons (pg_name (i := 6) scHold.nd rfl (.inl rfl)) pgs_nil))))
        (pss_cons (ps_aug (i := 2) scHold.nd rfl (.inl rfl) (pe_call GU hr1 (by rfl) gU FU.kp bU .nil pass0 (pa_cons (pv 4) pa_nil)) ip_add)
        (pss_cons (ps_if (pt_cmpR op_eq (pv 5) pe_str (nomark _)) (pss_one (ps_asg (pv 2) (pg_sub (pv 3) (pv 6) set_list))) pss_nil)
        (pss_one (ps_if (pt_cmpR op_eq (pv 5) pe_str (nomark _)) (pss_one (ps_set (i := 1) scHold.nd rfl (.inl rfl) (pe_callB (call_max2 rfl) (by rfl) G.max boot_max (pa_cons (pv 1) (pa_cons (pe_op op_sub (pv 2) (pe_ix ix_list (pv 3) (pv 6) (fun _ _ => rfl))) pa_nil))))) pss_nil))))))
      (pss_one (ps_ret (pv 1))))))), ?_⟩
    obtain ⟨ds', e, hlen, hdd, _⟩ := prog_inv hp
    cases e
    obtain ⟨a, xs, rfl, h, hD⟩ := dp_list hv
    have hl := dps_len hD
    refine ⟨.ref a, rfl, .ref a, .list ds, rfl, hv, ht, hp, fun H1 k1 => ?_⟩
    have t1 := k1.tabs ht
    have sq : ∀ {H3}, Keep T H1 H3 → SqL K H3 a xs := fun {H3} k => (k1.trans k).sqL ht h
    refine ⟨by show 2 ≤ sizeLine; decide, fun tk ntk => ?_⟩
    refine ⟨.ref a, rfl, a, rfl, ⟨xs, sq (.new ntk)⟩, for_list (K := K) (a := a) (xs := xs) (fun i σ H3 => ∃ (lo dn x y : Int) (y4 y5 y6 : Option V), σ = [some (.ref a), some (.int lo), some (.int dn), some (.ref tk), y4, y5, y6] ∧ Keep T H1 H3 ∧ H3 tk = some (.lst [.int x, .int y]) ∧ holdGo ds 0 0 0 0 = holdGo (ds.drop i) lo dn x y)
      ⟨0, 0, 0, 0, none, none, none, rfl, .new ntk, upd_same, rfl⟩ (fun i σ H3 _ ⟨_, _, _, _, _, _, _, _, k, _⟩ => sq k) ?_ ?_⟩
    · rintro i x σ H3 hx ⟨lo, dn, x0, x1, y4, y5, y6, rfl, k, etk, eh⟩
      obtain ⟨d, hd, hdp⟩ := dps_at hD hx
      have hi : i < ds.length := (List.getElem?_eq_some_iff.mp hd).1
      have hdeed := hdd d (List.mem_of_getElem? hd)
      obtain ⟨kk, n, rfl⟩ := deedD_pair hdeed
      have hdp2 := dp_keep (k1.trans k) ht hdp
      obtain ⟨t, rfl, htt⟩ := pair_inv hdp2
      have hnum := deed_num hdeed
      have edrop : ds.drop i = .tuple [.str kk, .int n] :: ds.drop (i + 1) := by
        rw [List.drop_eq_getElem_cons hi, (List.getElem?_eq_some_iff.mp hd).2]
      rw [edrop] at eh
      have estep : holdGo (.tuple [.str kk, .int n] :: ds.drop (i + 1)) lo dn x0 x1 = holdGo (ds.drop (i + 1)) (if kk = "give" then (if dn + unitsD (.tuple [.str kk, .int n]) - (if n = 0 then (if kk = "take" ∧ n = 0 then dn + unitsD (.tuple [.str kk, .int n]) else x0) else (if kk = "take" ∧ n ≠ 0 then dn + unitsD (.tuple [.str kk, .int n]) else x1)) > lo
          then dn + unitsD (.tuple [.str kk, .int n]) - (if n = 0 then (if kk = "take" ∧ n = 0 then dn + unitsD (.tuple [.str kk, .int n]) else x0) else (if kk = "take" ∧ n ≠ 0 then dn + unitsD (.tuple [.str kk, .int n]) else x1)) else lo) else lo)
          (dn + unitsD (.tuple [.str kk, .int n])) (if kk = "take" ∧ n = 0 then dn + unitsD (.tuple [.str kk, .int n]) else x0) (if kk = "take" ∧ n ≠ 0 then dn + unitsD (.tuple [.str kk, .int n]) else x1) := rfl
      rw [estep] at eh
      refine ⟨.ref t, rfl, t, _, rfl, htt, rfl, .str kk, [.int n], rfl, .int n, [], rfl, rfl, ?_⟩
      refine ⟨_, rfl, .ref t, rfl, .ref t, _, rfl, hdp2, ⟨kk, n, rfl⟩, _, _, rfl, rfl, ?_⟩
      have tg : ¬ (("take" : Str) = "give") := by decide +kernel
      refine ⟨.str kk, rfl, rfl, _, rfl, ite2 (fun e1 => ?_) fun e1 => ?_⟩
      · have e1 : kk = "take" := V.str.inj (of_decide_eq_true e1)
        have hn : n = 0 ∨ n = 1 := by
          rcases hnum with ⟨h1, _⟩ | ⟨_, h2⟩
          · rw [e1] at h1
            exact absurd h1 (by decide +kernel)
          · exact h2
        have e3 : ¬ kk = "give" := by rw [e1]; exact tg
        have e4 : ¬ decide (V.str kk = V.str "give") = true := fun z => e3 (V.str.inj (of_decide_eq_true z))
        rw [if_neg e3] at eh
        rcases hn with hn | hn
        · subst hn
          rw [if_pos ⟨e1, rfl⟩, if_neg (fun z => z.2 rfl)] at eh
          refine ⟨_, rfl, .ref tk, rfl, .int 0, rfl, tk, _, 0, 0, rfl, rfl, etk, rfl, ?_⟩
          refine ⟨.str kk, rfl, rfl, _, rfl, ite2 (fun z => absurd z e4) fun _ => ?_⟩
          exact ⟨lo, _, _, x1, _, _, _, rfl, k.own t1 ntk, upd_same, eh⟩
        · subst hn
          rw [if_neg (fun z => absurd z.2 (by decide)), if_pos ⟨e1, by decide⟩] at eh
          refine ⟨_, rfl, .ref tk, rfl, .int 1, rfl, tk, _, 1, 1, rfl, rfl, etk, rfl, ?_⟩
          refine ⟨.str kk, rfl, rfl, _, rfl, ite2 (fun z => absurd z e4) fun _ => ?_⟩
          exact ⟨lo, _, x0, _, _, _, _, rfl, k.own t1 ntk, upd_same, eh⟩
      · have e1 : ¬ kk = "take" := fun z => e1 (decide_eq_true (by rw [z]))
        have a1 : ¬ (kk = "take" ∧ n = 0) := fun z => e1 z.1
        have a2 : ¬ (kk = "take" ∧ n ≠ 0) := fun z => e1 z.1
        rw [if_neg a1, if_neg a2] at eh
        refine ⟨.str kk, rfl, rfl, _, rfl, ite2 (fun e3 => ?_) fun e3 => ?_⟩
        · have e3 : kk = "give" := V.str.inj (of_decide_eq_true e3)
          rw [if_pos e3] at eh
          have hn : n = 0 ∨ n = 1 := by
            rcases hnum with ⟨h1, _⟩ | ⟨_, h2⟩
            · rw [e3] at h1
              exact absurd h1 (by decide +kernel)
            · exact h2
          rcases hn with hn | hn
          · subst hn
            rw [if_pos rfl] at eh
            refine ⟨_, rfl, _, rfl, .ref tk, rfl, .int 0, rfl, tk, _, 0, .int x0, rfl, rfl, .of etk, rfl, _, _, rfl, rfl, _, _, rfl, ?_⟩
            exact ⟨_, _, x0, x1, _, _, _, rfl, k, etk, eh⟩
          · subst hn
            rw [if_neg (show ¬ (1 : Int) = 0 by decide)] at eh
            refine ⟨_, rfl, _, rfl, .ref tk, rfl, .int 1, rfl, tk, _, 1, .int x1, rfl, rfl, .of etk, rfl, _, _, rfl, rfl, _, _, rfl, ?_⟩
            exact ⟨_, _, x0, x1, _, _, _, rfl, k, etk, eh⟩
        · have e3 : ¬ kk = "give" := fun z => e3 (decide_eq_true (by rw [z]))
          rw [if_neg e3] at eh
          exact ⟨lo, _, x0, x1, _, _, _, rfl, k, etk, eh⟩
    · rintro σ H3 ⟨lo, dn, x0, x1, y4, y5, y6, rfl, k, etk, eh⟩
      rw [hl, List.drop_length] at eh
      refine ⟨_, rfl, ?_⟩
      have eh : holdGo ds 0 0 0 0 = lo := eh
      show Q (.int lo) H3
      rw [← eh]
      exact q H3 (k1.trans k)

/-! ### _is_one_work, plainest -/
abbrev sOne : Stmt := top 18
theorem scOne : FnScope ["one", "other"] ["one", "other"] (defScope sOne) := ⟨rfl, rfl, rfl, by decide +kernel, rfl, by decide +kernel, by decide +kernel⟩
def oneD (d e : PD) : Bool := match d, e with | .tuple [.str k, .int n], .tuple [.str l, .int m] => decide (k = "work") && decide (l = "work") && decide (n + m ≤ 99) | _, _ => false
def spOne (K : PySem.W.Frag) : Sp := fun vs H Q _ => ∃ t u k n l m, vs = [.ref t, .ref u] ∧ SqT K H t [.str k, .int n] ∧ SqT K H u [.str l, .int m] ∧ Q (.bl (oneD (.tuple [.str k, .int n]) (.tuple [.str l, .int m]))) H
theorem ok_one {t99 : Tok} (F : Fun K "_is_one_work" "_is_one_work" sOne f fd) (gU : mg "MOST_UNITS" = some (.int 99 t99)) : FnOk P w K mg base CX0 1 f fd ["one", "other"] (spOne K) := by
  refine F.ok scOne (fun vs H Q E h => ?_) (fun cdv A outer s H vs Q E hr h => ?_)
  · obtain ⟨t, u, k, n, l, m, rfl, _⟩ := h
    rfl
  · obtain ⟨t, u, k, n, l, m, rfl, ht, hu, q⟩ := h
    refine ⟨_, pss_cons (ps_if (PW.pt (pw_or (pt_cmpR op_ne (pe_ix ix_tup (pv 0) pe_int (fun _ _ => rfl)) pe_str (nomark _)) (pw_or1 (pt_cmpR op_ne (pe_ix ix_tup (pv 1) pe_int (fun _ _ => rfl)) pe_str (nomark _))))) (pss_one (ps_ret pe_bl)) pss_nil)
      (pss_one (ps_ret (pe_cmpR op_le (pe_op op_add (pe_ix ix_tup (pv 0) pe_int (fun _ _ => rfl)) (pe_ix ix_tup (pv 1) pe_int (fun _ _ => rfl))) (pe_glob (v := .int 99) (by rfl) gU ⟨_, rfl⟩) (nomark _)))), ?_⟩
    have eq1 : oneD (.tuple [.str k, .int n]) (.tuple [.str l, .int m]) = (decide (k = "work") && decide (l = "work") && decide (n + m ≤ 99)) := rfl
    rw [eq1] at q
    refine ⟨.ref t, rfl, t, _, 0, .str k, rfl, rfl, ht, rfl, rfl, _, rfl, ite2 (fun e => ?_) fun e => ?_⟩
    · have e : ¬ k = "work" := fun z => by rw [z] at e; simp at e
      rw [decide_eq_false e, Bool.false_and, Bool.false_and] at q
      exact q
    · have e : k = "work" := by
        by_cases z : k = "work"
        · exact z
        · exact absurd (by simp [z]) e
      rw [decide_eq_true e, Bool.true_and] at q
      refine ⟨.ref u, rfl, u, _, 0, .str l, rfl, rfl, hu, rfl, rfl, _, rfl, ite2 (fun e2 => ?_) fun e2 => ?_⟩
      · have e2 : ¬ l = "work" := fun z => by rw [z] at e2; simp at e2
        rw [decide_eq_false e2, Bool.false_and] at q
        exact q
      · have e2 : l = "work" := by
          by_cases z : l = "work"
          · exact z
          · exact absurd (by simp [z]) e2
        rw [decide_eq_true e2, Bool.true_and] at q
        exact ⟨.ref t, rfl, t, _, 1, .int n, rfl, rfl, ht, rfl, .ref u, rfl, u, _, 1, .int m, rfl, rfl, hu, rfl, _, _, rfl, rfl, _, _, rfl, rfl, q⟩
abbrev sPlain : Stmt := top 17
theorem scPlain : FnScope ["program", "plain", "deed"] ["program"] (defScope sPlain) := ⟨rfl, rfl, rfl, by decide +kernel, rfl, by decide +kernel, by decide +kernel⟩
def addD (d e : PD) : PD := match d, e with | .tuple [.str _, .int n], .tuple [.str _, .int m] => .tuple [.str "work", .int (n + m)] | _, _ => d
def plainStep (acc : List PD) (d : PD) : List PD := match acc.getLast? with | some l => if oneD l d = true then acc.dropLast ++ [addD l d] else acc ++ [d] | none => acc ++ [d]
def plainD (ds : List PD) : List PD := ds.foldl plainStep []
theorem plainStep_pair {acc : List PD} {d : PD} (h : ∀ x ∈ acc, isPair x) (hd : isPair d) : ∀ x ∈ plainStep acc d, isPair x := by
  unfold plainStep
  have app : ∀ x ∈ acc ++ [d], isPair x := fun x hx => by
    rcases List.mem_append.mp hx with z | z
    · exact h x z
    · rw [List.mem_singleton.mp z]; exact hd
  split
  · next l hl =>
    split
    · intro x hx
      rcases List.mem_append.mp hx with z | z
      · exact h x (List.dropLast_subset _ z)
      · rw [List.mem_singleton.mp z]
        obtain ⟨k, n, rfl⟩ := h l (List.mem_of_getLast? hl)
        obtain ⟨k2, n2, rfl⟩ := hd
        exact ⟨_, _, rfl⟩
    · exact app
  · exact app
theorem plainStep_len {acc : List PD} {d : PD} : (plainStep acc d).length ≤ acc.length + 1 := by
  unfold plainStep
  split
  · split
    · simp
    · simp
  · simp
def spPlain (K : PySem.W.Frag) (T : List Addr) : Sp := fun vs H Q _ => ∃ v ds, vs = [v] ∧ Dp K H v (.list ds) ∧ Tabs T H ∧ progD (.list ds) = true ∧ ∀ v' H', Dp K H' v' (.list (plainD ds)) → Keep T H H' → Q v' H'

theorem sqT_upd {H : Hp} {t p : Addr} {xs : List V} {ys : List V} {o : HO} (h : SqT K H t xs) (hp : H p = some (.lst ys)) : SqT K (upd H p o) t xs := by
  rcases h with (h | ⟨ob, h⟩) | h
  · exact .inl (.inl (by rw [upd_ne (ne_of h hp (by intro z; cases z))]; exact h))
  · exact .inl (.inr ⟨ob, by rw [upd_ne (ne_of h hp (by intro z; cases z))]; exact h⟩)
  · exact .inr h
theorem pair_dp {H : Hp} {t : Addr} {k : Str} {n : Int} (h : SqT K H t [.str k, .int n]) : Dp K H (.ref t) (.tuple [.str k, .int n]) := .tup h (.cons (.str k) (.cons (.int n) .nil))
theorem pairs_upd {H : Hp} {p : Addr} {zs : List V} {o : HO} (hp : H p = some (.lst zs)) : ∀ {xs : List V} {ds : List PD}, DpAll K H xs ds → (∀ d ∈ ds, isPair d) → DpAll K (upd H p o) xs ds
  | _, _, .nil, _ => .nil
  | _, _, .cons a r, h => by
    obtain ⟨k, n, rfl⟩ := h _ List.mem_cons_self
    obtain ⟨t, rfl, ht⟩ := pair_inv a
    exact .cons (pair_dp (sqT_upd ht hp)) (pairs_upd hp r fun d hd => h d (List.mem_cons_of_mem _ hd))
theorem dps_concat {H : Hp} : ∀ {xs : List V} {x : V} {ds : List PD}, DpAll K H (xs ++ [x]) ds → ∃ es e, ds = es ++ [e] ∧ DpAll K H xs es ∧ Dp K H x e
  | [], x, ds, h => by
    cases h with
    | cons a r =>
      cases r
      exact ⟨[], _, rfl, .nil, a⟩
  | y :: xs, x, ds, h => by
    cases h with
    | cons a r =>
      obtain ⟨es, e, rfl, h1, h2⟩ := dps_concat (xs := xs) r
      exact ⟨_ :: es, e, rfl, .cons a h1, h2⟩
theorem fold_pair : ∀ (ds acc : List PD), (∀ x ∈ acc, isPair x) → (∀ x ∈ ds, isPair x) → ∀ x ∈ ds.foldl plainStep acc, isPair x
  | [], _, h, _ => h
  | d :: ds, acc, h, hd => fold_pair ds _ (plainStep_pair h (hd d List.mem_cons_self)) fun x hx => hd x (List.mem_cons_of_mem _ hx)
theorem fold_len : ∀ (ds acc : List PD), (ds.foldl plainStep acc).length ≤ acc.length + ds.length
  | [], _ => by simp
  | d :: ds, acc => by
    have h1 := fold_len ds (plainStep acc d)
    have h2 := plainStep_len (acc := acc) (d := d)
    show (ds.foldl plainStep (plainStep acc d)).length ≤ _
    simp only [List.length_cons]
    omega
theorem ok_plain {fC fO : Addr} {fdC fdO : FuncData} {t99 : Tok} {T : List Addr} (F : Fun K "plainest" "plainest" sPlain f fd) (G : Glob mg) (FC : Fun K "check_program" "check_program" sChk fC fdC) (GC : FnOk P w K mg base CX0 5 fC fdC ["value"] (spChk K T)) (bC : Binds K fdC ["value"] []) (gC : mg "check_program" = some (.ref fC))
    (FO : Fun K "_is_one_work" "_is_one_work" sOne fO fdO) (bO : Binds K fdO ["one", "other"] []) (gO : mg "_is_one_work" = some (.ref fO)) (gU : mg "MOST_UNITS" = some (.int 99 t99)) : FnOk P w K mg base CX0 6 f fd ["program"] (spPlain K T) := by
  have GO : FnOk P w K mg base CX0 1 fO fdO ["one", "other"] (spOne K) := ok_one FO gU
  refine F.ok scPlain (fun vs H Q E h => ?_) (fun cdv A outer s H vs Q E hr h => ?_)
  · obtain ⟨v, d, rfl, _⟩ := h
    rfl
  · obtain ⟨v, ds, rfl, hv, ht, hp, q⟩ := h
    have hr1 : Room 1 _ := hr.mono (by decide)
    refine ⟨_, pss_cons (ps_expr (pe_call GC hr (by rfl) gC FC.kp bC .nil pass0 (pa_cons (pv 0) pa_nil)))
      (pss_cons (ps_set (i := 1) scPlain.nd rfl (.inl rfl) (pe_lst pa_nil))
      (pss_cons (ps_for PassesOwn.never rfl (pi_list (pv 0)) (pg_name (i := 2) scPlain.nd rfl (.inl rfl))
        (pss_one (ps_if (PW.pt (pw_and (pt_truth (pv 1) (by intro _; rfl)) (pw_and1 (pt_val (pe_call GO hr1 (by rfl) gO FO.kp bO .nil pass0 (pa_cons (pe_ix ix_list (pv 1) (pe_un un_neg pe_int) (fun _ _ => rfl)) (pa_cons (pv 2) pa_nil)))))))
          (pss_one (ps_asg (pe_tup (pa_cons pe_str (pa_cons (pe_op op_add (pe_ix ix_tup (pe_ix ix_list (pv 1) (pe_un un_neg pe_int) (fun _ _ => rfl)) pe_int (fun _ _ => rfl)) (pe_ix ix_tup (pv 2) pe_int (fun _ _ => rfl))) pa_nil))) (pg_sub (pv 1) (pe_un un_neg pe_int) set_list)))
          (pss_one (ps_expr (pe_bm PySem.F.plainAttrs_list PySem.F.slot_list_append PySem.F.type_list_append mt_append (pv 1) (pa_cons (pv 2) pa_nil)))))))
      (pss_one (ps_ret (pv 1))))), ?_⟩
    obtain ⟨ds', e, hlen, hdd, _⟩ := prog_inv hp
    cases e
    obtain ⟨a, xs, rfl, h, hD⟩ := dp_list hv
    have hl := dps_len hD
    have hpair : ∀ x ∈ ds, isPair x := fun x hx => deedD_pair (hdd x hx)
    refine ⟨.ref a, rfl, .ref a, .list ds, rfl, hv, ht, hp, fun H1 k1 => ?_⟩
    have t1 := k1.tabs ht
    have sq : ∀ {H3}, Keep T H1 H3 → SqL K H3 a xs := fun {H3} k => (k1.trans k).sqL ht h
    refine ⟨Nat.zero_le _, fun pl npl => ?_⟩
    refine ⟨.ref a, rfl, a, rfl, ⟨xs, sq (.new npl)⟩, for_list (K := K) (a := a) (xs := xs) (fun i σ H3 => ∃ (ys : List V) (y2 : Option V), σ = [some (.ref a), some (.ref pl), y2] ∧ Keep T H1 H3 ∧ H3 pl = some (.lst ys) ∧ DpAll K H3 ys ((ds.take i).foldl plainStep []))
      ⟨[], none, rfl, .new npl, upd_same, .nil⟩ (fun i σ H3 _ ⟨_, _, _, k, _⟩ => sq k) ?_ ?_⟩
    · rintro i x σ H3 hx ⟨ys, y2, rfl, k, ep, hA⟩
      obtain ⟨d, hd, hdp⟩ := dps_at hD hx
      have hi : i < ds.length := (List.getElem?_eq_some_iff.mp hd).1
      obtain ⟨kk, n, rfl⟩ := hpair d (List.mem_of_getElem? hd)
      obtain ⟨t, rfl, htt⟩ := pair_inv (dp_keep (k1.trans k) ht hdp)
      have etake : (ds.take (i + 1)).foldl plainStep [] = plainStep ((ds.take i).foldl plainStep []) (.tuple [.str kk, .int n]) := by
        rw [List.take_add_one, hd, List.foldl_append]; rfl
      have hap : ∀ x ∈ (ds.take i).foldl plainStep [], isPair x := fold_pair _ _ (fun _ z => nomatch z) fun x hx => hpair x (List.take_subset _ _ hx)
      have hyl : ys.length ≤ 40 := by
        rw [dps_len hA]
        have := fold_len (ds.take i) []
        simp only [List.length_nil, List.length_take] at this
        omega
      generalize hacc : (ds.take i).foldl plainStep [] = acc at hA etake hap
      -- the deed goes to the end
      have fin : plainStep acc (.tuple [.str kk, .int n]) = acc ++ [.tuple [.str kk, .int n]] → tDrop (tBM K "list" rAppend (tVar 1) (tCons (tVar 2) tNil)) { nx := fun σ H3 => ∃ (ys : List V) (y2 : Option V), σ = [some (.ref a), some (.ref pl), y2] ∧ Keep T H1 H3 ∧ H3 pl = some (.lst ys) ∧ DpAll K H3 ys ((ds.take (i + 1)).foldl plainStep []), rt := Q } [some (.ref a), some (.ref pl), some (.ref t)] H3 := by
        intro e
        refine ⟨.ref pl, rfl, .inl ⟨rfl, _, .of ep⟩, .ref t, rfl, pl, _, _, rfl, rfl, ep, small1000 (by omega), ?_⟩
        refine ⟨_, _, rfl, k.own t1 npl, upd_same, ?_⟩
        rw [etake, e]
        exact dps_append (pairs_upd ep hA hap) (.cons (pair_dp (sqT_upd htt ep)) .nil)
      rcases (show ys = [] ∨ ∃ ys' y, ys = ys' ++ [y] from (List.eq_nil_or_concat ys).imp id fun ⟨a, b, e⟩ => ⟨a, b, by rw [e, List.concat_eq_append]⟩) with hys | ⟨ys', y, hys⟩
      · subst hys
        cases hA
        refine ⟨.ref pl, rfl, _, .inl ⟨[], .of ep, rfl⟩, iteF ?_⟩
        exact fin rfl
      · subst hys
        obtain ⟨acc', l, rfl, hA1, hl1⟩ := dps_concat hA
        obtain ⟨lk, ln, rfl⟩ := hap l (List.mem_append_right _ List.mem_cons_self)
        obtain ⟨ly, rfl, hly⟩ := pair_inv hl1
        have hne : (!(ys' ++ [V.ref ly]).isEmpty) = true := by cases ys' <;> rfl
        refine ⟨.ref pl, rfl, _, .inl ⟨_, .of ep, rfl⟩, ?_⟩
        rw [hne]
        refine iteT ?_
        have hlast : (acc' ++ [PyData.tuple [.str lk, .int ln]]).getLast? = some (.tuple [.str lk, .int ln]) := by simp
        refine ⟨.ref pl, rfl, 1, rfl, pl, _, -1, .ref ly, rfl, rfl, .of ep, atI_last _ _, .ref t, rfl, ly, t, lk, ln, kk, n, rfl, hly, htt, ?_⟩
        refine ⟨_, rfl, ite2 (fun e => ?_) fun e => ?_⟩
        · have est : plainStep (acc' ++ [.tuple [.str lk, .int ln]]) (.tuple [.str kk, .int n]) = acc' ++ [.tuple [.str "work", .int (ln + n)]] := by
            unfold plainStep
            rw [hlast]
            show (if oneD _ _ = true then _ else _) = _
            rw [if_pos e, List.dropLast_concat]; rfl
          refine ⟨.ref pl, rfl, 1, rfl, pl, _, -1, .ref ly, rfl, rfl, .of ep, atI_last _ _, ly, _, 1, .int ln, rfl, rfl, hly, rfl, .ref t, rfl, t, _, 1, .int n, rfl, rfl, htt, rfl, _, _, rfl, rfl, by show 2 ≤ sizeLine; decide, fun p np => ?_⟩
          have npl2 : pl ≠ p := ne_of_none ep np
          have ep2 : (upd H3 p (.tup [.str "work", .int (ln + n)])) pl = some (.lst (ys' ++ [.ref ly])) := by rw [upd_ne npl2]; exact ep
          refine ⟨.ref pl, rfl, 1, rfl, pl, _, -1, ys'.length, rfl, rfl, ep2, ?_, ?_⟩
          · unfold ixN
            have hl2 : (ys' ++ [V.ref ly]).length = ys'.length + 1 := by simp
            rw [hl2, if_neg (by decide), if_pos (by omega)]
            congr 1
            omega
          · refine ⟨_, _, rfl, (k.trans (.new np)).own t1 npl, upd_same, ?_⟩
            rw [etake, est, List.set_append_right _ _ (Nat.le_refl _), Nat.sub_self]
            have hap1 : ∀ x ∈ acc', isPair x := fun x hx => hap x (List.mem_append_left _ hx)
            exact dps_append (pairs_upd ep2 (dps_keep (.new np) (k.tabs t1) hA1) hap1) (.cons (pair_dp (sqT_upd (.of upd_same) ep2)) .nil)
        · refine fin ?_
          unfold plainStep
          rw [hlast]
          show (if oneD _ _ = true then _ else _) = _
          rw [if_neg e]
    · rintro σ H3 ⟨ys, y2, rfl, k, ep, hA⟩
      rw [hl, List.take_length] at hA
      exact ⟨_, rfl, q _ H3 (.lst (.of ep) hA) (k1.trans k)⟩

/-! ### nested_pairs -/
abbrev sPairs : Stmt := top 16
theorem scPairs : FnScope ["program", "pairs", "held", "kind", "number", "other"] ["program"] (defScope sPairs) := ⟨rfl, rfl, rfl, by decide +kernel, rfl, by decide +kernel, by decide +kernel⟩
def allP : List PD → List Int → List (List Int)
  | .tuple [.str k, .int n] :: r, held => if k = "take" then held.map (fun o => [o, n]) ++ allP r (held ++ [n]) else if k = "give" then allP r (held.erase n) else allP r held
  | _, _ => []
def pairsD (ds : List PD) : List (List Int) := ([[0, 1], [1, 0]] : List (List Int)).filter fun x => decide (x ∈ allP ds [])
def tupD (k : List Int) : PD := .tuple (k.map .int)
theorem two_sorted : ∀ (R : List (List Int)), R.Nodup → (∀ x ∈ R, x = [0, 1] ∨ x = [1, 0]) → R.Pairwise (fun a b => TS.code 64 a ≤ TS.code 64 b) → R = ([[0, 1], [1, 0]] : List (List Int)).filter fun x => decide (x ∈ R)
  | [], _, _, _ => by simp
  | [a], _, h, _ => by
    rcases h a (by simp) with rfl | rfl <;> decide
  | [a, b], hn, h, hp => by
    have c1 : TS.code 64 [0, 1] = 1 := by rw [code_pair]; rfl
    have c2 : TS.code 64 [1, 0] = 64 := by rw [code_pair]; rfl
    rcases h a (by simp) with rfl | rfl <;> rcases h b (by simp) with rfl | rfl
    · simp at hn
    · decide
    · rw [List.pairwise_cons] at hp
      have := hp.1 [0, 1] (by simp)
      rw [c1, c2] at this
      exact absurd this (by decide)
    · simp at hn
  | a :: b :: c :: r, hn, h, _ => by
    exfalso
    rcases h a (by simp) with rfl | rfl <;> rcases h b (by simp) with rfl | rfl <;> rcases h c (by simp) with rfl | rfl <;> simp at hn
def HeldOk (held : List Int) : Prop := held = [] ∨ held = [0] ∨ held = [1] ∨ held = [0, 1] ∨ held = [1, 0]
theorem held_take {held : List Int} {n : Int} (h : HeldOk held) (hn : n = 0 ∨ n = 1) (hm : ¬ n ∈ held) : HeldOk (held ++ [n]) ∧ held.length ≤ 1 ∧ (∀ o ∈ held, [o, n] = [0, 1] ∨ [o, n] = [1, 0]) := by
  rcases h with rfl | rfl | rfl | rfl | rfl <;> rcases hn with rfl | rfl <;> simp_all [HeldOk]
theorem held_give {held : List Int} {n : Int} (h : HeldOk held) (hm : n ∈ held) : HeldOk (held.erase n) := by
  rcases h with rfl | rfl | rfl | rfl | rfl
  · cases hm
  · simp at hm; subst hm; exact .inl (by decide)
  · simp at hm; subst hm; exact .inl (by decide)
  · simp at hm
    rcases hm with rfl | rfl
    · exact .inr (.inr (.inl (by decide)))
    · exact .inr (.inl (by decide))
  · simp at hm
    rcases hm with rfl | rfl
    · exact .inr (.inl (by decide))
    · exact .inr (.inr (.inl (by decide)))
theorem fit_inv {k : Str} {n : Int} {r : List PD} {held : List Int} (h : fitGo (.tuple [.str k, .int n] :: r) held = true) :
    (k = "take" → n ∉ held ∧ fitGo r (held ++ [n]) = true) ∧ (k = "give" → n ∈ held ∧ fitGo r (held.erase n) = true) ∧ (¬ k = "take" → ¬ k = "give" → fitGo r held = true) := by
  have estep : fitGo (.tuple [.str k, .int n] :: r) held = if k = "sleep" ∧ held ≠ [] then false else if k = "take" then (if n ∈ held then false else fitGo r (held ++ [n])) else if k = "give" then (if n ∈ held then fitGo r (held.erase n) else false) else fitGo r held := rfl
  rw [estep] at h
  split at h
  · cases h
  · refine ⟨fun e => ?_, fun e => ?_, fun e1 e2 => ?_⟩
    · rw [if_pos e] at h
      split at h
      · cases h
      · next hm => exact ⟨hm, h⟩
    · rw [if_neg (show ¬ k = "take" by rw [e]; decide +kernel), if_pos e] at h
      split at h
      · next hm => exact ⟨hm, h⟩
      · cases h
    · rw [if_neg e1, if_neg e2] at h
      exact h
theorem sqT_upd2 {H : Hp} {t p : Addr} {xs : List V} {o u : HO} (h : SqT K H t xs) (hp : H p = some u) (n1 : ∀ xs, u ≠ .tup xs) (n2 : ∀ ob x, u ≠ .frz ob x) : SqT K (upd H p o) t xs := by
  rcases h with (h | ⟨ob, h⟩) | h
  · exact .inl (.inl (by rw [upd_ne (ne_of h hp (n1 _).symm)]; exact h))
  · exact .inl (.inr ⟨ob, by rw [upd_ne (ne_of h hp (n2 _ _).symm)]; exact h⟩)
  · exact .inr h
def spPairs (K : PySem.W.Frag) (T : List Addr) : Sp := fun vs H Q _ => ∃ v ds, vs = [v] ∧ Dp K H v (.list ds) ∧ Tabs T H ∧ progD (.list ds) = true ∧ ∀ v' H', Dp K H' v' (.list ((pairsD ds).map tupD)) → Keep T H H' → Q v' H'
theorem ok_pairs {fC : Addr} {fdC : FuncData} {T : List Addr} (F : Fun K "nested_pairs" "nested_pairs" sPairs f fd) (G : Glob mg) (FC : Fun K "check_program" "check_program" sChk fC fdC) (GC : FnOk P w K mg base CX0 5 fC fdC ["value"] (spChk K T)) (bC : Binds K fdC ["value"] []) (gC : mg "check_program" = some (.ref fC)) :
    FnOk P w K mg base CX0 6 f fd ["program"] (spPairs K T) := by
  refine F.ok scPairs (fun vs H Q E h => ?_) (fun cdv A outer s H vs Q E hr h => ?_)
  · obtain ⟨v, d, rfl, _⟩ := h
    rfl
  · obtain ⟨v, ds, rfl, hv, ht, hp, q⟩ := h
    have hu := hu_of hr
    refine ⟨_, pss_cons (ps_expr (pe_call GC hr (by rfl) gC FC.kp bC .nil pass0 (pa_cons (pv 0) pa_nil)))
      (pss_cons (ps_set (i := 1) scPairs.nd rfl (.inl rfl) (pe_callTy0 SC.cr_set0T (by rfl) G.set (by decide +kernel)))
      (pss_cons (ps_set (i := 2) scPairs.nd rfl (.inl rfl) (pe_lst pa_nil))
      (pss_cons (ps_for PassesOwn.never rfl (pi_list (pv 0)) (pg_tup (by rfl) (pgs_cons (pg_name (i := 3) scPairs.nd rfl (.inl rfl)) (pgs_cons (pg_name (i := 4) scPairs.nd rfl (.inl rfl)) pgs_nil)))
        (pss_cons (ps_if (pt_cmpR op_eq (pv 3) pe_str (nomark _))
          (pss_cons (ps_for PassesOwn.never rfl (pi_list (pv 2)) (pg_name (i := 5) scPairs.nd rfl (.inl rfl)) (pss_one (ps_expr (SC.pe_saddT hu (pv 1) (pa_cons (pe_tup (pa_cons (pv 5) (pa_cons (pv 4) pa_nil))) pa_nil)))))
          (pss_one (ps_expr (pe_bm PySem.F.plainAttrs_list PySem.F.slot_list_append PySem.F.type_list_append mt_append (pv 2) (pa_cons (pv 4) pa_nil))))) pss_nil)
        (pss_one (ps_if (pt_cmpR op_eq (pv 3) pe_str (nomark _)) (pss_one (ps_expr (pe_bm PySem.F.plainAttrs_list PySem.F.slot_list_remove PySem.F.type_list_remove mt_remove (pv 2) (pa_cons (pv 4) pa_nil)))) pss_nil))))
      (pss_one (ps_ret (pe_callB (cr_sortedT rfl) (by rfl) G.sorted boot_sorted (pa_cons (pv 1) pa_nil))))))), ?_⟩
    obtain ⟨ds', e, hlen, hdd, hfit⟩ := prog_inv hp
    cases e
    obtain ⟨a, xs, rfl, h, hD⟩ := dp_list hv
    have hl := dps_len hD
    have hpair : ∀ x ∈ ds, isPair x := fun x hx => deedD_pair (hdd x hx)
    refine ⟨.ref a, rfl, .ref a, .list ds, rfl, hv, ht, hp, fun H1 k1 => ?_⟩
    have t1 := k1.tabs ht
    have sq : ∀ {H3}, Keep T H1 H3 → SqL K H3 a xs := fun {H3} k => (k1.trans k).sqL ht h
    refine ⟨rfl, fun pr npr => ?_⟩
    refine ⟨Nat.zero_le _, fun hh nhh => ?_⟩
    have nhh1 : H1 hh = none := (same_new npr).free nhh
    have nph : pr ≠ hh := fun z => by rw [← z, upd_same] at nhh; cases nhh
    refine ⟨.ref a, rfl, a, rfl, ⟨xs, sq ((Keep.new npr).trans (.new nhh))⟩, for_list (K := K) (a := a) (xs := xs) (fun i σ H3 => ∃ (held : List Int) (L : List (Addr × List Int)) (pre : List (List Int)) (y3 y4 y5 : Option V), σ = [some (.ref a), some (.ref pr), some (.ref hh), y3, y4, y5] ∧ Keep T H1 H3 ∧ H3 hh = some (.lst (held.map V.int)) ∧
        H3 pr = some (SetTO P w pr L) ∧ (∀ p ∈ L, SqT K H3 p.1 (p.2.map V.int)) ∧ L.length ≤ i ∧ HeldOk held ∧ fitGo (ds.drop i) held = true ∧ allP ds [] = pre ++ allP (ds.drop i) held ∧ (∀ k, k ∈ L.map (·.2) ↔ k ∈ pre) ∧ (∀ k ∈ pre, k = [0, 1] ∨ k = [1, 0]))
      ⟨[], [], [], none, none, none, rfl, (Keep.new npr).trans (.new nhh), upd_same, by rw [upd_ne nph]; exact upd_same, fun p hp => (nomatch hp), Nat.le_refl _, .inl rfl, hfit, rfl, fun k => Iff.rfl, fun k hk => nomatch hk⟩ (fun i σ H3 _ ⟨_, _, _, _, _, _, _, k, _⟩ => sq k) ?_ ?_⟩
    · rintro i x σ H3 hx ⟨held, L, pre, y3, y4, y5, rfl, k, eh, epr, hL, hLl, hok, hf, hall, hmem, hpre⟩
      obtain ⟨d, hd, hdp⟩ := dps_at hD hx
      have hi : i < ds.length := (List.getElem?_eq_some_iff.mp hd).1
      have hdeed := hdd d (List.mem_of_getElem? hd)
      obtain ⟨kk, n, rfl⟩ := deedD_pair hdeed
      obtain ⟨t, rfl, htt⟩ := pair_inv (dp_keep (k1.trans k) ht hdp)
      have edrop : ds.drop i = .tuple [.str kk, .int n] :: ds.drop (i + 1) := by
        rw [List.drop_eq_getElem_cons hi, (List.getElem?_eq_some_iff.mp hd).2]
      rw [edrop] at hf hall
      obtain ⟨f1, f2, f3⟩ := fit_inv hf
      have estep : allP (.tuple [.str kk, .int n] :: ds.drop (i + 1)) held = if kk = "take" then held.map (fun o => [o, n]) ++ allP (ds.drop (i + 1)) (held ++ [n]) else if kk = "give" then allP (ds.drop (i + 1)) (held.erase n) else allP (ds.drop (i + 1)) held := rfl
      rw [estep] at hall
      have tg : ¬ (("take" : Str) = "give") := by decide +kernel
      refine ⟨t, _, rfl, htt, rfl, .str kk, [.int n], rfl, .int n, [], rfl, rfl, ?_⟩
      refine ⟨.str kk, rfl, rfl, _, rfl, ite2 (fun e1 => ?_) fun e1 => ?_⟩
      · have e1 : kk = "take" := V.str.inj (of_decide_eq_true e1)
        have e3 : ¬ kk = "give" := by rw [e1]; exact tg
        have e4 : ¬ decide (V.str kk = V.str "give") = true := fun z => e3 (V.str.inj (of_decide_eq_true z))
        obtain ⟨hm, hf2⟩ := f1 e1
        have hn : n = 0 ∨ n = 1 := by
          rcases deed_num hdeed with ⟨h1, _⟩ | ⟨_, h2⟩
          · rw [e1] at h1
            exact absurd h1 (by decide +kernel)
          · exact h2
        obtain ⟨ho2, hl1, hprs⟩ := held_take hok hn hm
        rw [if_pos e1] at hall
        refine ⟨.ref hh, rfl, hh, rfl, ⟨_, .of eh⟩, for_list (K := K) (a := hh) (xs := held.map V.int) (fun j σ H4 => ∃ (L : List (Addr × List Int)) (y5 : Option V), σ = [some (.ref a), some (.ref pr), some (.ref hh), some (.str kk), some (.int n), y5] ∧ Keep T H1 H4 ∧ H4 hh = some (.lst (held.map V.int)) ∧
            H4 pr = some (SetTO P w pr L) ∧ (∀ p ∈ L, SqT K H4 p.1 (p.2.map V.int)) ∧ L.length ≤ i + j ∧ (∀ k, k ∈ L.map (·.2) ↔ k ∈ pre ++ (held.take j).map fun o => [o, n]))
          ⟨L, _, rfl, k, eh, epr, hL, hLl, fun k => by rw [hmem k]; simp⟩ (fun j σ H4 _ ⟨_, _, _, _, e, _⟩ => .of e) ?_ ?_⟩
        · rintro j x σ H4 hx ⟨L, y5, rfl, k, eh, epr, hL, hLl, hmem⟩
          have hj : j < held.length := by
            have := (List.getElem?_eq_some_iff.mp hx).1
            rwa [List.length_map] at this
          have ex : x = .int held[j] := by
            rw [List.getElem?_map, List.getElem?_eq_getElem hj] at hx
            exact (Option.some.inj hx).symm
          subst ex
          refine ⟨.ref pr, rfl, pr, rfl, ⟨L, epr⟩, .int held[j], rfl, .int n, rfl, by show 2 ≤ sizeLine; decide, fun q' nq => ?_⟩
          have npq : pr ≠ q' := ne_of_none epr nq
          have nhq : hh ≠ q' := ne_of_none eh nq
          have epr2 : (upd H4 q' (.tup [.int held[j], .int n])) pr = some (SetTO P w pr L) := by rw [upd_ne npq]; exact epr
          have hL2 : ∀ p ∈ L, SqT K (upd H4 q' (.tup [.int held[j], .int n])) p.1 (p.2.map V.int) := fun p hp => (Keep.new (T := []) nq).sqT (fun _ z => nomatch z) (hL p hp)
          refine ⟨L, q', [held[j], n], rfl, epr2, hL2, .of upd_same, by omega, fun L' c1 c2 => ?_⟩
          have keep2 : Keep T H1 (upd (upd H4 q' (.tup [.int held[j], .int n])) pr (SetTO P w pr L')) := (k.trans (.new nq)).own t1 npr
          have fin : ∀ p ∈ L', p ∈ L ∨ p = (q', [held[j], n]) := fun p hp => by
            by_cases c : [held[j], n] ∈ L.map (·.2)
            · rw [c1 c] at hp; exact .inl hp
            · rcases List.mem_cons.mp ((c2 c).mem_iff.mp hp) with z | z
              · exact .inr z
              · exact .inl z
          refine ⟨L', _, rfl, keep2, by rw [upd_ne nph.symm, upd_ne nhq]; exact eh, upd_same, fun p hp => ?_, ?_, fun kx => ?_⟩
          · refine sqT_upd2 ?_ epr2 (fun xs z => by cases z) fun ob x z => by cases z
            rcases fin p hp with z | z
            · exact hL2 p z
            · rw [z]; exact .of upd_same
          · by_cases c : [held[j], n] ∈ L.map (·.2)
            · rw [c1 c]; omega
            · rw [(c2 c).length_eq, List.length_cons]; omega
          · have et : held.take (j + 1) = held.take j ++ [held[j]] := by rw [List.take_add_one, List.getElem?_eq_getElem hj]; rfl
            rw [et, List.map_append, ← List.append_assoc, List.mem_append, ← hmem kx]
            by_cases c : [held[j], n] ∈ L.map (·.2)
            · rw [c1 c]
              constructor
              · exact .inl
              · rintro (z | z)
                · exact z
                · have z : kx = [held[j], n] := by simpa using z
                  rw [z]; exact c
            · rw [((c2 c).map (·.2)).mem_iff, List.map_cons, List.mem_cons]
              constructor
              · rintro (z | z)
                · exact .inr (by simpa using z)
                · exact .inl z
              · rintro (z | z)
                · exact .inr z
                · exact .inl (by simpa using z)
        · rintro σ H4 ⟨L, y5, rfl, k, eh, epr, hL, hLl, hmem⟩
          rw [List.length_map] at hLl hmem
          rw [List.take_length] at hmem
          refine ⟨.ref hh, rfl, .inl ⟨rfl, _, .of eh⟩, .int n, rfl, hh, _, _, rfl, rfl, eh, small1000 (by rw [List.length_map]; omega), ?_⟩
          refine ⟨.str kk, rfl, rfl, _, rfl, ite2 (fun z => absurd z e4) fun _ => ?_⟩
          refine ⟨held ++ [n], L, pre ++ held.map (fun o => [o, n]), _, _, _, rfl, k.own t1 nhh1, by rw [upd_same, List.map_append]; rfl, by rw [upd_ne nph]; exact epr, fun p hp => sqT_upd (hL p hp) eh, by omega, ho2, hf2, by rw [hall, List.append_assoc], hmem, fun kx hk => ?_⟩
          rcases List.mem_append.mp hk with z | z
          · exact hpre kx z
          · obtain ⟨o, ho, rfl⟩ := List.mem_map.mp z
            exact hprs o ho
      · have e1 : ¬ kk = "take" := fun z => e1 (decide_eq_true (by rw [z]))
        rw [if_neg e1] at hall
        refine ⟨.str kk, rfl, rfl, _, rfl, ite2 (fun e3 => ?_) fun e3 => ?_⟩
        · have e3 : kk = "give" := V.str.inj (of_decide_eq_true e3)
          rw [if_pos e3] at hall
          obtain ⟨hm, hf2⟩ := f2 e3
          obtain ⟨g1, g2, g3⟩ := first_ix hm
          refine ⟨.ref hh, rfl, .inl ⟨rfl, _, .of eh⟩, .int n, rfl, hh, held, n, _, rfl, rfl, eh, g1, g2, ?_⟩
          rw [g3]
          exact ⟨held.erase n, L, pre, _, _, _, rfl, k.own t1 nhh1, upd_same, by rw [upd_ne nph]; exact epr, fun p hp => sqT_upd (hL p hp) eh, by omega, held_give hok hm, hf2, hall, hmem, hpre⟩
        · have e3 : ¬ kk = "give" := fun z => e3 (decide_eq_true (by rw [z]))
          rw [if_neg e3] at hall
          exact ⟨held, L, pre, _, _, _, rfl, k, eh, epr, hL, by omega, hok, f3 e1 e3, hall, hmem, hpre⟩
    · rintro σ H3 ⟨held, L, pre, y3, y4, y5, rfl, k, eh, epr, hL, hLl, hok, hf, hall, hmem, hpre⟩
      rw [hl, List.drop_length] at hall
      have hall : allP ds [] = pre := by rw [hall]; exact List.append_nil _
      refine ⟨.ref pr, rfl, pr, L, 2, 64, rfl, epr, hL, by decide, fun p hp => ?_, fun L' p' perm nd few pw hp0 => ?_⟩
      · rcases hpre p.2 ((hmem p.2).mp (List.mem_map.mpr ⟨p, hp, rfl⟩)) with z | z <;> rw [z] <;> exact ⟨rfl, fun x hx => by simp at hx; omega⟩
      · have e : L'.map (·.2) = pairsD ds := by
          have hm2 : ∀ x, x ∈ L'.map (·.2) ↔ x ∈ allP ds [] := fun x => by rw [(perm.map (·.2)).mem_iff, hmem x, hall]
          rw [two_sorted (L'.map (·.2)) nd (fun x hx => hpre x (by rw [← hall]; exact (hm2 x).mp hx)) (List.pairwise_map.mpr pw)]
          unfold pairsD
          refine List.filter_congr fun x _ => ?_
          rw [decide_eq_decide]
          exact hm2 x
        have kk := k.trans (Keep.new (T := T) (o := .lst (L'.map fun q => V.ref q.1)) hp0)
        refine q _ _ (.lst (.of upd_same) ?_) (k1.trans kk)
        rw [← e, List.map_map]
        have hL2 : ∀ p ∈ L', SqT K (upd H3 p' (.lst (L'.map fun q => V.ref q.1))) p.1 (p.2.map V.int) := fun p hp => (Keep.new (T := []) hp0).sqT (fun _ z => nomatch z) (hL p (perm.mem_iff.mp hp))
        have all : ∀ (M : List (Addr × List Int)), (∀ p ∈ M, SqT K (upd H3 p' (.lst (L'.map fun q => V.ref q.1))) p.1 (p.2.map V.int)) → DpAll K (upd H3 p' (.lst (L'.map fun q => V.ref q.1))) (M.map fun q => V.ref q.1) (M.map (tupD ∘ fun x => x.2)) := fun M => by
          induction M with
          | nil => exact fun _ => .nil
          | cons p M ih => exact fun hM => .cons (.tup (hM p List.mem_cons_self) (dps_ints p.2)) (ih fun x hx => hM x (List.mem_cons_of_mem _ hx))
        exact all L' hL2
end
end K11

namespace K11
open PySem PySem.Spec PyProof.Rows L2 DA
/-! ### draws -/
abbrev sStart : Stmt := top 20
abbrev sDraw : Stmt := top 21
abbrev sPick : Stmt := top 22
/-- the numbers at nu, the counter: what the draws are made of -/
structure Drw (H : Hp) (d nu : Addr) : Prop where
  ex : ∃ (ns : List Int) (c : Int), H d = some (.lst [.ref nu, .int c]) ∧ H nu = some (.lst (ns.map V.int)) ∧ ns ≠ [] ∧ ns.length ≤ 63 ∧ 0 ≤ c
/-- all but the draws' own -/
structure Frm (T : List Addr) (d nu : Addr) (H H' : Hp) : Prop where
  at_ : ∀ b o, H b = some o → b ≠ d → b ≠ nu → b ∉ T → H' b = some o
  tab : ∀ P ∈ T, GxR.TabG H P → GxR.TabG H' P
  drw : Drw H' d nu
theorem scStart : FnScope ["_law_script"] ["_law_script"] (defScope sStart) := ⟨rfl, rfl, rfl, by decide +kernel, rfl, by decide +kernel, by decide +kernel⟩
theorem scDraw : FnScope ["_law_draws", "_law_limit", "_law_numbers", "_law_at", "_law_cell", "_law_mixed"] ["_law_draws", "_law_limit"] (defScope sDraw) := ⟨rfl, rfl, rfl, by decide +kernel, rfl, by decide +kernel, by decide +kernel⟩
theorem scPick : FnScope ["_law_draws", "_law_choices"] ["_law_draws", "_law_choices"] (defScope sPick) := ⟨rfl, rfl, rfl, by decide +kernel, rfl, by decide +kernel, by decide +kernel⟩
theorem ints_lay (ns : List Int) : PyData.canLayAll0 (ns.map PyData.int) = true := by
  induction ns with
  | nil => rfl
  | cons n r ih => simp only [List.map_cons, PyData.canLayAll0, PyData.canLay0, ih, Bool.and_self]
theorem ints_depth (ns : List Int) : PyData.depthAll (ns.map PyData.int) = 0 := by
  induction ns with
  | nil => rfl
  | cons n r ih => simp only [List.map_cons, PyData.depthAll, PyData.depth, ih, Nat.max_self]
theorem ints_shaped (ns : List Int) : SeqAt.shaped (.list (ns.map PyData.int)) = true := by
  show (PyData.canLay0 (.list (ns.map .int)) && decide (PyData.depth (.list (ns.map .int)) ≤ 64)) = true
  simp only [PyData.canLay0, PyData.depth, ints_lay, ints_depth]
  decide
section
variable {P : Program} {w : World} {K : PySem.W.Frag} {mg : Str → Option Value} {base : Heap} {f : Addr} {fd : FuncData}
def spStart (K : PySem.W.Frag) : Sp := fun vs H Q _ => ∃ (a : Addr) (ns : List Int), vs = [.ref a] ∧ SqL K H a (ns.map V.int) ∧ ns.length ≤ 63 ∧ ∀ d nu H', Same H H' → H d = none → H nu = none → Drw H' d nu → Q (.ref d) H'
theorem ok_start (F : Fun K "_law_start" "_law_start" sStart f fd) (G : Glob mg) : FnOk P w K mg base CX0 1 f fd ["_law_script"] (spStart K) := by
  refine F.ok scStart (fun vs H Q E h => ?_) (fun cdv A outer s H vs Q E hr h => ?_)
  · obtain ⟨a, ns, rfl, _⟩ := h
    rfl
  · obtain ⟨a, ns, rfl, hS, hl, q⟩ := h
    refine ⟨_, pss_one (ps_ret (pe_lst (pa_cons (pe_ifExp (pt_cmpR (op_neD hr.units) (pv 0) (pe_lst pa_nil) (nomark _)) (pe_callTy call_list_of (by rfl) G.list (by decide +kernel) (pa_cons (pv 0) pa_nil)) (pe_lst (pa_cons pe_int pa_nil))) (pa_cons pe_int pa_nil)))), ?_⟩
    refine ⟨.ref a, rfl, Nat.zero_le _, fun p np => ?_⟩
    have s1 : Same H (upd H p (.lst [])) := same_new np
    refine ⟨.list (ns.map .int), .list [], .lst (s1.seq hS) (dps_ints ns), .lst (.of upd_same) .nil, ints_shaped ns, rfl, _, rfl, ite2 (fun e => ?_) fun e => ?_⟩
    · have hne : ns ≠ [] := fun z => by rw [z] at e; cases e
      refine ⟨_, rfl, a, ns.map V.int, rfl, .inl (s1.seq hS), fun l nl => ?_⟩
      refine ⟨by show 2 ≤ sizeLine; decide, fun d nd => ?_⟩
      have s2 := same_new (o := .lst (ns.map V.int)) nl
      have s3 := same_new (o := .lst [.ref l, .int 0]) nd
      refine q d l _ ((s1.trans s2).trans s3) ((s1.trans s2).free nd) (s1.free nl) ⟨ns, 0, upd_same, ?_, hne, hl, Int.le_refl _⟩
      exact s3 _ _ upd_same
    · refine ⟨by show 1 ≤ sizeLine; decide, fun l nl => ?_⟩
      refine ⟨by show 2 ≤ sizeLine; decide, fun d nd => ?_⟩
      have s2 := same_new (o := .lst [.int 0]) nl
      have s3 := same_new (o := .lst [.ref l, .int 0]) nd
      exact q d l _ ((s1.trans s2).trans s3) ((s1.trans s2).free nd) (s1.free nl) ⟨[0], 0, upd_same, s3 _ _ upd_same, by simp, by decide, Int.le_refl _⟩
def spDraw (T : List Addr) : Sp := fun vs H Q _ => ∃ (d nu : Addr) (lim : Int), vs = [.ref d, .int lim] ∧ 1 ≤ lim ∧ lim ≤ 1000 ∧ Drw H d nu ∧ ∀ (r : Int) H', 0 ≤ r → r < lim → Frm T d nu H H' → Q (.int r) H'
theorem ok_draw {T : List Addr} (F : Fun K "_law_draw" "_law_draw" sDraw f fd) (G : Glob mg) : FnOk P w K mg base CX0 1 f fd ["_law_draws", "_law_limit"] (spDraw T) := by
  refine F.ok scDraw (fun vs H Q E h => ?_) (fun cdv A outer s H vs Q E hr h => ?_)
  · obtain ⟨d, nu, lim, rfl, _⟩ := h
    rfl
  · obtain ⟨d, nu, lim, rfl, l1, l2, ⟨ns, c, hd, hnu, hne, hl, hc⟩, q⟩ := h
    have ndu : d ≠ nu := fun z => by
      rw [z, hnu] at hd
      cases ns with
      | nil => exact hne rfl
      | cons n r => cases hd
    have hpos : 0 < ns.length := List.length_pos_iff.mpr hne
    refine ⟨_, pss_cons (ps_set (i := 2) scDraw.nd rfl (.inl rfl) (pe_ix ix_list (pv 0) pe_int (fun _ _ => rfl)))
      (pss_cons (ps_asg (pe_op op_add (pe_ix ix_list (pv 0) pe_int (fun _ _ => rfl)) pe_int) (pg_sub (pv 0) pe_int set_list))
      (pss_cons (ps_set (i := 3) scDraw.nd rfl (.inl rfl) (pe_op op_mod (pe_ix ix_list (pv 0) pe_int (fun _ _ => rfl)) (pe_callB call_len_seq (by rfl) G.len PySem.boot_len (pa_cons (pv 2) pa_nil))))
      (pss_cons (ps_set (i := 4) scDraw.nd rfl (.inl rfl) (pe_ix ix_list (pv 2) (pv 3) (fun _ _ => rfl)))
      (pss_cons (ps_if (pt_cmpR op_ge (pv 4) pe_int (nomark _)) (pss_cons (ps_asg (pe_op op_fdiv (pv 4) (pv 1)) (pg_sub (pv 2) (pv 3) set_list)) (pss_one (ps_ret (pe_op op_mod (pv 4) (pv 1))))) pss_nil)
      (pss_cons (ps_set (i := 5) scDraw.nd rfl (.inl rfl) (pe_op op_mod (pe_op op_add (pv 4) (pe_op op_mul pe_int (pe_ix ix_list (pv 0) pe_int (fun _ _ => rfl)))) pe_int))
      (pss_cons (ps_set (i := 5) scDraw.nd rfl (.inl rfl) (pe_op op_mod (pe_op op_pow (pv 5) pe_int) pe_int))
      (pss_one (ps_ret (pe_op op_mod (pe_op op_fdiv (pe_op op_mod (pe_op op_add (pe_op op_mul (pe_op op_fdiv (pv 5) pe_int) pe_int) (pv 5)) pe_int) pe_int) (pv 1)))))))))), ?_⟩
    refine ⟨.ref d, rfl, d, _, 0, .ref nu, rfl, rfl, .of hd, rfl, ?_⟩
    refine ⟨.ref d, rfl, d, _, 1, .int c, rfl, rfl, .of hd, rfl, c, 1, rfl, rfl, .ref d, rfl, d, _, 1, 1, rfl, rfl, hd, rfl, ?_⟩
    have hd1 : (upd H d (.lst [.ref nu, .int (c + 1)])) d = some (.lst [.ref nu, .int (c + 1)]) := upd_same
    have hnu1 : (upd H d (.lst [.ref nu, .int (c + 1)])) nu = some (.lst (ns.map V.int)) := by rw [upd_ne ndu.symm]; exact hnu
    generalize hH1 : upd H d (.lst [.ref nu, .int (c + 1)]) = H1 at hd1 hnu1
    have hlen : ((ns.map V.int).length : Int) = ns.length := by rw [List.length_map]
    have hlp : (0 : Int) < (ns.map V.int).length := by rw [hlen]; omega
    generalize hj : (c + 1) % ((ns.map V.int).length : Int) = j
    have j0 : 0 ≤ j := by rw [← hj]; exact Int.emod_nonneg _ (by omega)
    have j1 : j < ns.length := by rw [← hj, ← hlen]; exact Int.emod_lt_of_pos _ hlp
    have hix : ixN (ns.map V.int).length j = some j.toNat := by
      unfold ixN
      rw [if_pos j0, if_pos (by rw [hlen]; exact j1)]
    have hjn : j.toNat < ns.length := by omega
    have hat : atI (ns.map V.int) j = some (.int (ns[j.toNat]'hjn)) := by
      unfold atI
      rw [hix]
      show (ns.map V.int)[j.toNat]? = _
      rw [List.getElem?_map, List.getElem?_eq_getElem hjn]
      rfl
    generalize hcell : ns[j.toNat]'hjn = cell at hat
    have frame1 : ∀ H2, (∀ b, b ≠ nu → H2 b = H1 b) → (∃ ms : List Int, H2 nu = some (.lst (ms.map V.int)) ∧ ms ≠ [] ∧ ms.length ≤ 63) → Frm T d nu H H2 := fun H2 e2 ⟨ms, e3, e4, e5⟩ => by
      refine ⟨fun b o e n1 n2 _ => ?_, fun P hP ⟨ps, e, ok⟩ => ⟨ps, ?_, ok⟩, ⟨ms, c + 1, ?_, e3, e4, e5, by omega⟩⟩
      · rw [e2 b n2, ← hH1, upd_ne n1]; exact e
      · have n1 : P ≠ d := fun z => by rw [z, hd] at e; cases e
        have n2 : P ≠ nu := fun z => by rw [z, hnu] at e; cases e
        rw [e2 P n2, ← hH1, upd_ne n1]; exact e
      · rw [e2 d ndu]; exact hd1
    have eH : upd H d (HO.lst ([V.ref nu, V.int c].set 1 ((fun i j => V.int (i + j)) c 1))) = H1 := hH1
    rw [eH]
    refine ⟨.ref d, rfl, d, _, 1, .int (c + 1), rfl, rfl, .of hd1, rfl, .ref nu, rfl, nu, _, rfl, .inl (.of hnu1), _, _, rfl, rfl, hlp, ?_⟩
    refine ⟨.ref nu, rfl, .int j, by show some (some (V.int ((c + 1) % ((ns.map V.int).length : Int)))) = _; rw [hj], nu, _, j, .int cell, rfl, rfl, .of hnu1, hat, ?_⟩
    refine ⟨.int cell, rfl, _, _, rfl, rfl, _, rfl, ite2 (fun e => ?_) fun e => ?_⟩
    · refine ⟨.int cell, rfl, .int lim, rfl, _, _, rfl, rfl, ⟨by omega, by omega⟩, .ref nu, rfl, .int j, by show some (some (V.int ((c + 1) % ((ns.map V.int).length : Int)))) = _; rw [hj], nu, _, j, j.toNat, rfl, rfl, hnu1, hix, ?_⟩
      refine ⟨.int cell, rfl, .int lim, rfl, _, _, rfl, rfl, by show (0 : Int) < lim; omega, ?_⟩
      refine q (cell % lim) _ (Int.emod_nonneg _ (by omega)) (Int.emod_lt_of_pos _ (by omega)) (frame1 _ (fun b hb => upd_ne hb) ⟨ns.set j.toNat (cell / lim), ?_, ?_, by rw [List.length_set]; exact hl⟩)
      · rw [upd_same, List.map_set]
      · intro z
        have := congrArg List.length z
        rw [List.length_set] at this
        simp at this
        exact hne this
    · refine ⟨.int cell, rfl, .ref d, rfl, d, _, 1, .int (c + 1), rfl, rfl, .of hd1, rfl, 104729, c + 1, rfl, rfl, .inl ⟨by decide, by decide⟩, _, _, rfl, rfl, _, _, rfl, rfl, by show (0 : Int) < 4294967291; decide, ?_⟩
      generalize hm : (cell + 104729 * (c + 1)) % 4294967291 = m
      have m0 : 0 ≤ m := by rw [← hm]; exact Int.emod_nonneg _ (by decide)
      have m1 : m < 4294967291 := by rw [← hm]; exact Int.emod_lt_of_pos _ (by decide)
      refine ⟨.int m, by show some (some (V.int ((cell + 104729 * (c + 1)) % 4294967291))) = _; rw [hm], m, 5, rfl, rfl, ⟨by decide, by decide, by omega⟩, _, _, rfl, rfl, by show (0 : Int) < 4294967279; decide, ?_⟩
      generalize hm2 : m ^ (5 : Int).toNat % 4294967279 = m2
      have n0 : 0 ≤ m2 := by rw [← hm2]; exact Int.emod_nonneg _ (by decide)
      have n1 : m2 < 4294967279 := by rw [← hm2]; exact Int.emod_lt_of_pos _ (by decide)
      refine ⟨.int m2, by show some (some (V.int (m ^ (5 : Int).toNat % 4294967279))) = _; rw [hm2], _, _, rfl, rfl, ⟨by decide, by decide⟩, _, _, rfl, rfl, .inr ⟨by decide, by decide⟩, .int m2, by show some (some (V.int (m ^ (5 : Int).toNat % 4294967279))) = _; rw [hm2], _, _, rfl, rfl, _, _, rfl, rfl, by show (0 : Int) < 4294967231; decide, _, _, rfl, rfl, ⟨by decide, by decide⟩, .int lim, rfl, _, _, rfl, rfl, by show (0 : Int) < lim; omega, ?_⟩
      exact q _ _ (Int.emod_nonneg _ (by omega)) (Int.emod_lt_of_pos _ (by omega)) (frame1 H1 (fun _ _ => rfl) ⟨ns, hnu1, hne, hl⟩)
def spPick (K : PySem.W.Frag) (T : List Addr) : Sp := fun vs H Q _ => ∃ (d nu a : Addr) (xs : List V), vs = [.ref d, .ref a] ∧ H a = some (.lst xs) ∧ a ≠ d ∧ a ≠ nu ∧ a ∉ T ∧ 1 ≤ xs.length ∧ xs.length ≤ 1000 ∧ Drw H d nu ∧ ∀ (i : Nat) (v : V) H', xs[i]? = some v → Frm T d nu H H' → Q v H'
theorem ok_pick {T : List Addr} {fD : Addr} {fdD : FuncData} (F : Fun K "_law_pick" "_law_pick" sPick f fd) (G : Glob mg) (FD : Fun K "_law_draw" "_law_draw" sDraw fD fdD) (bD : Binds K fdD ["_law_draws", "_law_limit"] []) (gD : mg "_law_draw" = some (.ref fD)) :
    FnOk P w K mg base CX0 2 f fd ["_law_draws", "_law_choices"] (spPick K T) := by
  have GD : FnOk P w K mg base CX0 1 fD fdD ["_law_draws", "_law_limit"] (spDraw T) := ok_draw FD G
  refine F.ok scPick (fun vs H Q E h => ?_) (fun cdv A outer s H vs Q E hr h => ?_)
  · obtain ⟨d, nu, a, xs, rfl, _⟩ := h
    rfl
  · obtain ⟨d, nu, a, xs, rfl, ha, n1, n2, n3, l1, l2, hdr, q⟩ := h
    refine ⟨_, pss_one (ps_ret (pe_ix ix_list (pv 1) (pe_call GD hr (by rfl) gD FD.kp bD .nil pass0 (pa_cons (pv 0) (pa_cons (pe_callB call_len_seq (by rfl) G.len PySem.boot_len (pa_cons (pv 1) pa_nil)) pa_nil))) (fun _ _ => rfl))), ?_⟩
    refine ⟨.ref a, rfl, .ref d, rfl, .ref a, rfl, a, xs, rfl, .inl (.of ha), d, nu, _, rfl, by omega, by omega, hdr, fun r H' r0 r1 fr => ?_⟩
    have ha' := fr.at_ a _ ha n1 n2 n3
    have hrn : r.toNat < xs.length := by omega
    refine ⟨a, xs, r, xs[r.toNat], rfl, rfl, .of ha', ?_, q r.toNat _ H' (List.getElem?_eq_getElem hrn) fr⟩
    unfold atI ixN
    rw [if_pos r0, if_pos r1]
    exact List.getElem?_eq_getElem hrn
end
end K11

namespace K11
open PySem PySem.Spec PyProof.Rows L2 DA
/-! ### frames of draws -/
section
variable {K : PySem.W.Frag} {T : List Addr} {d nu : Addr} {H H1 H2 : Hp}
theorem Frm.refl (h : Drw H d nu) : Frm T d nu H H := ⟨fun _ _ e _ _ _ => e, fun _ _ e => e, h⟩
theorem Frm.trans (a : Frm T d nu H H1) (b : Frm T d nu H1 H2) : Frm T d nu H H2 := ⟨fun c o e n1 n2 n3 => b.at_ c o (a.at_ c o e n1 n2 n3) n1 n2 n3, fun P hP t => b.tab P hP (a.tab P hP t), b.drw⟩
theorem Frm.tabs (a : Frm T d nu H H1) (t : Tabs T H) : Tabs T H1 := fun P hP => a.tab P hP (t P hP)
theorem Drw.keep (h : Drw H d nu) (t : Tabs T H) (k : Keep T H H1) : Drw H1 d nu := by
  obtain ⟨ns, c, h1, h2, h3⟩ := h.ex
  exact ⟨⟨ns, c, k.lst t h1, k.lst t h2, h3⟩⟩
theorem Frm.keep (h : Drw H d nu) (t : Tabs T H) (k : Keep T H H1) : Frm T d nu H H1 := ⟨fun b o e _ _ n => k.at_ b o e n, k.tab, h.keep t k⟩
theorem Drw.ne (h : Drw H d nu) {p : Addr} (hp : H p = none) : p ≠ d ∧ p ≠ nu := by
  obtain ⟨ns, c, h1, h2, h3⟩ := h.ex
  exact ⟨fun z => (by rw [z, h1] at hp; cases hp), fun z => (by rw [z, h2] at hp; cases hp)⟩
theorem Drw.ne' (h : Drw H d nu) : d ≠ nu := fun z => by
  obtain ⟨ns, c, h1, h2, h3, _⟩ := h.ex
  rw [z, h2] at h1
  cases ns with
  | nil => exact h3 rfl
  | cons n r => cases h1
/-- a new object, or one that is none of the first heap's, is written -/
theorem Frm.own (k : Frm T d nu H H1) (h : Drw H d nu) (t : Tabs T H) {p : Addr} {o : HO} (hp : H p = none) : Frm T d nu H (upd H1 p o) := by
  obtain ⟨n1, n2⟩ := h.ne hp
  have nT : p ∉ T := fun m => by
    obtain ⟨ps, e, _⟩ := t p m
    rw [hp] at e; cases e
  refine ⟨fun b x e m1 m2 m3 => ?_, fun P hP tb => ?_, ?_⟩
  · rw [upd_ne (ne_of_none e hp)]
    exact k.at_ b x e m1 m2 m3
  · obtain ⟨ps, e, ok⟩ := k.tab P hP tb
    refine ⟨ps, ?_, ok⟩
    rw [upd_ne (fun z => nT (by rw [← z]; exact hP))]
    exact e
  · obtain ⟨ns, c, h1, h2, h3⟩ := k.drw.ex
    exact ⟨⟨ns, c, by rw [upd_ne n1.symm]; exact h1, by rw [upd_ne n2.symm]; exact h2, h3⟩⟩
theorem Frm.free (k : Frm T d nu H H1) (h : Drw H d nu) (t : Tabs T H) {p : Addr} (hp : H1 p = none) : H p = none := by
  cases e : H p with
  | none => rfl
  | some o =>
    obtain ⟨n1, n2⟩ := k.drw.ne hp
    by_cases m : p ∈ T
    · obtain ⟨ps, e', _⟩ := k.tabs t p m
      rw [hp] at e'; cases e'
    · have := k.at_ p o e n1 n2 m
      rw [hp] at this; cases this
theorem Frm.lst (k : Frm T d nu H H1) (t : Tabs T H) {a : Addr} {xs : List V} (h : H a = some (.lst xs)) (n1 : a ≠ d) (n2 : a ≠ nu) : H1 a = some (.lst xs) := k.at_ _ _ h n1 n2 (nT_of t h fun ps z => by cases z)
theorem Frm.sqT (k : Frm T d nu H H1) (h : Drw H d nu) (t : Tabs T H) {a : Addr} {xs : List V} (hs : SqT K H a xs) : SqT K H1 a xs := by
  obtain ⟨ns, c, h1, h2, h3⟩ := h.ex
  rcases hs with (hs | ⟨o, hs⟩) | hs
  · exact .inl (.inl (k.at_ _ _ hs (ne_of hs h1 (by intro z; cases z)) (ne_of hs h2 (by intro z; cases z)) (nT_of t hs fun ps z => by cases z)))
  · exact .inl (.inr ⟨o, k.at_ _ _ hs (ne_of hs h1 (by intro z; cases z)) (ne_of hs h2 (by intro z; cases z)) (nT_of t hs fun ps z => by cases z)⟩)
  · exact .inr hs
theorem Frm.pairs (k : Frm T d nu H H1) (h : Drw H d nu) (t : Tabs T H) : ∀ {xs : List V} {ds : List PD}, DpAll K H xs ds → (∀ x ∈ ds, isPair x) → DpAll K H1 xs ds
  | _, _, .nil, _ => .nil
  | _, _, .cons a r, hp => by
    obtain ⟨kk, n, rfl⟩ := hp _ List.mem_cons_self
    obtain ⟨p, rfl, hq⟩ := pair_inv a
    exact .cons (pair_dp (k.sqT h t hq)) (k.pairs h t r fun x hx => hp x (List.mem_cons_of_mem _ hx))
end
/-! ### _law_program -/
abbrev sLProg : Stmt := top 24
abbrev nLProg : List Str := ["_law_draws", "_law_locks", "_law_most", "_law_found", "_law_held", "_law_turn", "_law_kind", "_law_free", "_law_lock"]
theorem scLProg : FnScope nLProg ["_law_draws", "_law_locks", "_law_most"] (defScope sLProg) := ⟨rfl, rfl, rfl, by decide +kernel, rfl, by decide +kernel, by decide +kernel⟩
section
variable {P : Program} {w : World} {K : PySem.W.Frag} {mg : Str → Option Value} {base : Heap} {f : Addr} {fd : FuncData}
structure GoodP (ds : List PD) (m : Nat) : Prop where
  deed : ∀ x ∈ ds, deedD x = true
  fit : fitGo ds [] = true
  len : ds.length ≤ m
  work : ∀ x ∈ ds, unitsD x ≤ 3
structure Bld (fs : List PD) (held : List Int) (i : Nat) : Prop where
  deed : ∀ x ∈ fs, deedD x = true
  fit : ∀ r, fitGo (fs ++ r) [] = fitGo r held
  len : fs.length ≤ i
  work : ∀ x ∈ fs, unitsD x ≤ 3
  held : HeldOk held
theorem Bld.up {fs : List PD} {held : List Int} {i : Nat} (b : Bld fs held i) : Bld fs held (i + 1) := ⟨b.deed, b.fit, Nat.le_succ_of_le b.len, b.work, b.held⟩
theorem Bld.pair {fs : List PD} {held : List Int} {i : Nat} (b : Bld fs held i) : ∀ x ∈ fs, isPair x := fun x hx => deedD_pair (b.deed x hx)
theorem fit_step (k : Str) (n : Int) (r : List PD) (held : List Int) : fitGo (.tuple [.str k, .int n] :: r) held = if k = "sleep" ∧ held ≠ [] then false else if k = "take" then (if n ∈ held then false else fitGo r (held ++ [n])) else if k = "give" then (if n ∈ held then fitGo r (held.erase n) else false) else fitGo r held := rfl
theorem Bld.step {fs : List PD} {held held' : List Int} {i : Nat} {k : Str} {n : Int} (b : Bld fs held i) (hd : deedD (.tuple [.str k, .int n]) = true) (hu : unitsD (.tuple [.str k, .int n]) ≤ 3) (hh : HeldOk held') (hf : ∀ r, fitGo (.tuple [.str k, .int n] :: r) held = fitGo r held') :
    Bld (fs ++ [.tuple [.str k, .int n]]) held' (i + 1) := by
  refine ⟨fun x hx => ?_, fun r => ?_, ?_, fun x hx => ?_, hh⟩
  · rcases List.mem_append.mp hx with z | z
    · exact b.deed x z
    · rw [List.mem_singleton.mp z]; exact hd
  · rw [List.append_assoc, b.fit]; exact hf r
  · rw [List.length_append]; exact Nat.succ_le_succ b.len
  · rcases List.mem_append.mp hx with z | z
    · exact b.work x z
    · rw [List.mem_singleton.mp z]; exact hu
theorem sw : ¬ (("sleep" : Str) = "work") := by decide +kernel
theorem ws : ¬ (("work" : Str) = "sleep") := by decide +kernel
theorem wt : ¬ (("work" : Str) = "take") := by decide +kernel
theorem wg : ¬ (("work" : Str) = "give") := by decide +kernel
theorem st' : ¬ (("sleep" : Str) = "take") := by decide +kernel
theorem sg : ¬ (("sleep" : Str) = "give") := by decide +kernel
theorem tw : ¬ (("take" : Str) = "work") := by decide +kernel
theorem ts' : ¬ (("take" : Str) = "sleep") := by decide +kernel
theorem tg' : ¬ (("take" : Str) = "give") := by decide +kernel
theorem gw : ¬ (("give" : Str) = "work") := by decide +kernel
theorem gs : ¬ (("give" : Str) = "sleep") := by decide +kernel
theorem gt : ¬ (("give" : Str) = "take") := by decide +kernel
theorem deed_work {k : Str} {n : Int} (hk : k = "work" ∨ k = "sleep") (h1 : 1 ≤ n) (h2 : n ≤ 99) : deedD (.tuple [.str k, .int n]) = true := by
  show (if kin k "work" "sleep" = true then numD (.int n) 1 99 else _) = true
  rw [if_pos (kin_iff.mpr hk)]
  simp [numD, h1, h2]
theorem deed_lock {k : Str} {n : Int} (hk : k = "take" ∨ k = "give") (hn : n = 0 ∨ n = 1) : deedD (.tuple [.str k, .int n]) = true := by
  show (if kin k "work" "sleep" = true then _ else (kin k "take" "give" && numD (.int n) 0 1)) = true
  have h0 : ¬ kin k "work" "sleep" = true := fun z => by
    rcases kin_iff.mp z with z | z <;> rcases hk with e | e <;> rw [e] at z
    · exact tw z
    · exact gw z
    · exact ts' z
    · exact gs z
  rw [if_neg h0, kin_iff.mpr hk]
  rcases hn with rfl | rfl <;> rfl
theorem Bld.work' {fs : List PD} {held : List Int} {i : Nat} {k : Str} {n : Int} (b : Bld fs held i) (hk : k = "work" ∨ (k = "sleep" ∧ held = [])) (h1 : 1 ≤ n) (h2 : n ≤ 3) : Bld (fs ++ [.tuple [.str k, .int n]]) held (i + 1) := by
  refine b.step (deed_work (hk.imp id fun z => z.1) h1 (by omega)) ?_ b.held fun r => ?_
  · show (if k = "work" then n else 1) ≤ 3
    split <;> omega
  · rw [fit_step]
    rcases hk with rfl | ⟨rfl, rfl⟩
    · rw [if_neg (fun z => ws z.1), if_neg wt, if_neg wg]
    · rw [if_neg (fun z => z.2 rfl), if_neg st', if_neg sg]
theorem Bld.take' {fs : List PD} {held : List Int} {i : Nat} {n : Int} (b : Bld fs held i) (hn : n = 0 ∨ n = 1) (hm : n ∉ held) : Bld (fs ++ [.tuple [.str "take", .int n]]) (held ++ [n]) (i + 1) := by
  refine b.step (deed_lock (.inl rfl) hn) ?_ (held_take b.held hn hm).1 fun r => ?_
  · show (if ("take" : Str) = "work" then n else 1) ≤ 3
    rw [if_neg tw]; decide
  · rw [fit_step, if_neg (fun z => ts' z.1), if_pos rfl, if_neg hm]
theorem held_mem {held : List Int} {n : Int} (h : HeldOk held) (hm : n ∈ held) : n = 0 ∨ n = 1 := by
  rcases h with rfl | rfl | rfl | rfl | rfl <;> simp at hm <;> omega
theorem Bld.give' {fs : List PD} {held : List Int} {i : Nat} {n : Int} (b : Bld fs held i) (hm : n ∈ held) : Bld (fs ++ [.tuple [.str "give", .int n]]) (held.erase n) (i + 1) := by
  refine b.step (deed_lock (.inr rfl) (held_mem b.held hm)) ?_ (held_give b.held hm) fun r => ?_
  · show (if ("give" : Str) = "work" then n else 1) ≤ 3
    rw [if_neg gw]; decide
  · rw [fit_step, if_neg (fun z => gs z.1), if_neg gt, if_pos rfl, if_pos hm]
abbrev giveD (n : Int) : PD := .tuple [.str "give", .int n]
theorem Bld.end_ {fs : List PD} {held : List Int} {i : Nat} (b : Bld fs held i) : GoodP (fs ++ held.map giveD) (i + 2) := by
  have hl : held.length ≤ 2 := by rcases b.held with z | z | z | z | z <;> rw [z] <;> decide
  refine ⟨fun x hx => ?_, ?_, ?_, fun x hx => ?_⟩
  · rcases List.mem_append.mp hx with z | z
    · exact b.deed x z
    · obtain ⟨n, hn, rfl⟩ := List.mem_map.mp z
      exact deed_lock (.inr rfl) (held_mem b.held hn)
  · rw [b.fit]
    have st : ∀ (n : Int) (r : List PD) (h : List Int), n ∈ h → fitGo (giveD n :: r) h = fitGo r (h.erase n) := fun n r h hm => by
      show fitGo (.tuple [.str "give", .int n] :: r) h = _
      rw [fit_step, if_neg (fun z => gs z.1), if_neg gt, if_pos rfl, if_pos hm]
    rcases b.held with z | z | z | z | z <;> rw [z]
    · rfl
    · show fitGo [giveD 0] [0] = true
      rw [st 0 [] _ (by simp)]; rfl
    · show fitGo [giveD 1] [1] = true
      rw [st 1 [] _ (by simp)]; rfl
    · show fitGo [giveD 0, giveD 1] [0, 1] = true
      rw [st 0 _ _ (by simp), st 1 [] _ (by decide)]; rfl
    · show fitGo [giveD 1, giveD 0] [1, 0] = true
      rw [st 1 _ _ (by simp), st 0 [] _ (by decide)]; rfl
  · rw [List.length_append, List.length_map]
    have := b.len
    omega
  · rcases List.mem_append.mp hx with z | z
    · exact b.work x z
    · obtain ⟨n, hn, rfl⟩ := List.mem_map.mp z
      show (if ("give" : Str) = "work" then n else 1) ≤ 3
      rw [if_neg gw]; decide
def spLProg (K : PySem.W.Frag) (T : List Addr) : Sp := fun vs H Q _ => ∃ (d nu : Addr) (m : Nat), vs = [.ref d, .int 2, .int m] ∧ m ≤ 30 ∧ Tabs T H ∧ Drw H d nu ∧
  ∀ p xs ds H', H p = none → H' p = some (.lst xs) → DpAll K H' xs ds → GoodP ds (m + 2) → Frm T d nu H H' → Q (.ref p) H'
theorem ok_lprog {T : List Addr} {fD fP : Addr} {fdD fdP : FuncData} (F : Fun K "_law_program" "_law_program" sLProg f fd) (G : Glob mg) (FD : Fun K "_law_draw" "_law_draw" sDraw fD fdD) (bD : Binds K fdD ["_law_draws", "_law_limit"] []) (gD : mg "_law_draw" = some (.ref fD))
    (FP : Fun K "_law_pick" "_law_pick" sPick fP fdP) (bP : Binds K fdP ["_law_draws", "_law_choices"] []) (gP : mg "_law_pick" = some (.ref fP)) : FnOk P w K mg base CX0 3 f fd ["_law_draws", "_law_locks", "_law_most"] (spLProg K T) := by
  have GD : FnOk P w K mg base CX0 1 fD fdD ["_law_draws", "_law_limit"] (spDraw T) := ok_draw FD G
  have GP : FnOk P w K mg base CX0 2 fP fdP ["_law_draws", "_law_choices"] (spPick K T) := ok_pick FP G FD bD gD
  refine F.ok scLProg (fun vs H Q E h => ?_) (fun cdv A outer s H vs Q E hr h => ?_)
  · obtain ⟨d, nu, m, rfl, _⟩ := h
    rfl
  · obtain ⟨d, nu, m, rfl, hm, ht, hdr, q⟩ := h
    have hr1 : Room 1 _ := hr.mono (by decide)
    refine ⟨_, (pss_cons (ps_asg (pe_tup (pa_cons (pe_lst pa_nil) (pa_cons (pe_lst pa_nil) pa_nil))) (pg_tup (by rfl) (pgs_cons (pg_name (i := 3) scLProg.nd rfl (.inl rfl)) (pgs_cons (pg_name (i := 4) scLProg.nd rfl (.inr rfl)) pgs_nil)))) (pss_cons (ps_for PassesOwn.never rfl (pi_range1 (by rfl) G.range (pa_cons (pe_call GD hr1 (by rfl) gD FD.kp bD .nil pass0 (pa_cons (pv 0) (pa_cons (pe_op op_add (pv 2) pe_int) pa_nil))) pa_nil)) (pg_name (i := 5) scLProg.nd rfl (.inl rfl)) (pss_cons (ps_set (i := 6) scLProg.nd rfl (.inl rfl) (pe_call GP hr (by rfl) gP FP.kp bP .nil pass0 (pa_cons (pv 0) (pa_cons (pe_lst (pa_cons pe_str (pa_cons pe_str (pa_cons pe_str (pa_cons pe_str (pa_cons pe_str (pa_cons pe_str pa_nil))))))) pa_nil)))) (pss_cons (ps_setLc (i := 7) (own := [("_law_lock", 8)]) (g := gName 8) (tt := tTest (tOp (rIn K true) (tVar 8) (tVar 4))) (te := tVar 8) rfl scLProg.nd rfl rfl (sw_true rfl rfl rfl (by decide +kernel)) (pi_range1 (by rfl) G.range (pa_cons (pv 1) pa_nil)) (blkOk_by (N := nLProg) (sc := defScope sLProg) (by decide +kernel)) (fun _ _ _ _ _ => (pg_name (i := 8) scLProg.nd rfl (.inl rfl))) (fun _ _ _ _ _ => pts_one (pt_cmpR op_notIn_seq (pv 8) (pv 4) (by rfl))) (fun _ _ _ _ _ => (pv 8))) (pss_one (ps_if (PW.pt (pw_or (pt_cmpR op_eq (pv 6) pe_str (nomark _)) (pw_or1 (PW.pt (pw_and (pt_cmpR op_eq (pv 6) pe_str (nomark _)) (pw_and1 (pt_cmpR (op_eqD hr.units) (pv 4) (pe_lst pa_nil) (nomark _)))))))) (pss_one (ps_expr (pe_bm PySem.F.plainAttrs_list PySem.F.slot_list_append PySem.F.type_list_append mt_append (pv 3) (pa_cons (pe_tup (pa_cons (pv 6) (pa_cons (pe_op op_add pe_int (pe_call GD hr1 (by rfl) gD FD.kp bD .nil pass0 (pa_cons (pv 0) (pa_cons pe_int pa_nil)))) pa_nil))) pa_nil)))) (pss_one (ps_if (PW.pt (pw_and (pt_cmpR op_eq (pv 6) pe_str (nomark _)) (pw_and1 (pt_cmpR (op_neD hr.units) (pv 7) (pe_lst pa_nil) (nomark _))))) (pss_cons (ps_expr (pe_bm PySem.F.plainAttrs_list PySem.F.slot_list_append PySem.F.type_list_append mt_append (pv 4) (pa_cons (pe_call GP hr (by rfl) gP FP.kp bP .nil pass0 (pa_cons (pv 0) (pa_cons (pv 7) pa_nil))) pa_nil))) (pss_one (ps_expr (pe_bm PySem.F.plainAttrs_list PySem.F.slot_list_append PySem.F.type_list_append mt_append (pv 3) (pa_cons (pe_tup (pa_cons pe_str (pa_cons (pe_ix ix_list (pv 4) (pe_un un_neg pe_int) (fun _ _ => rfl)) pa_nil))) pa_nil))))) (pss_one (ps_if (PW.pt (pw_and (pt_cmpR op_eq (pv 6) pe_str (nomark _)) (pw_and1 (pt_cmpR (op_neD hr.units) (pv 4) (pe_lst pa_nil) (nomark _))))) (pss_cons (ps_set (i := 8) scLProg.nd rfl (.inl rfl) (pe_call GP hr (by rfl) gP FP.kp bP .nil pass0 (pa_cons (pv 0) (pa_cons (pv 4) pa_nil)))) (pss_cons (ps_expr (pe_bm PySem.F.plainAttrs_list PySem.F.slot_list_remove PySem.F.type_list_remove mt_remove (pv 4) (pa_cons (pv 8) pa_nil))) (pss_one (ps_expr (pe_bm PySem.F.plainAttrs_list PySem.F.slot_list_append PySem.F.type_list_append mt_append (pv 3) (pa_cons (pe_tup (pa_cons pe_str (pa_cons (pv 8) pa_nil))) pa_nil)))))) pss_nil))))))))) (pss_one (ps_ret (pe_op op_cat (pv 3) (pe_lc (own := [("_law_lock", 8)]) (g := gName 8) (tt := tYes) (te := tTup (tCons (tC (.str "give")) (tCons (tVar 8) tNil))) rfl scLProg.nd (pi_list (pv 4)) (blkOk_by (N := nLProg) (sc := defScope sLProg) (by decide +kernel)) (fun _ _ _ _ _ => (pg_name (i := 8) scLProg.nd rfl (.inl rfl))) (fun _ _ _ _ _ => pts_nil) (fun _ _ _ _ _ => (pe_tup (pa_cons pe_str (pa_cons (pv 8) pa_nil)))))))))), ?_⟩
    -- found, held = ([], [])
    refine ⟨Nat.zero_le _, fun fo nfo => ⟨Nat.zero_le _, fun he nhe => ⟨by show 2 ≤ sizeLine; decide, fun p0 np0 => ?_⟩⟩⟩
    refine ⟨p0, _, rfl, .of upd_same, rfl, .ref fo, [.ref he], rfl, .ref he, [], rfl, rfl, ?_⟩
    have nhe0 : H he = none := (same_new nfo).free nhe
    have nfh : fo ≠ he := fun z => by rw [← z, upd_same] at nhe; cases nhe
    have npf : fo ≠ p0 := ne_of_none (show (upd (upd H fo (.lst [])) he (.lst [])) fo = some (.lst []) by rw [upd_ne nfh]; exact upd_same) np0
    have nph : he ≠ p0 := ne_of_none (show (upd (upd H fo (.lst [])) he (.lst [])) he = some (.lst []) from upd_same) np0
    obtain ⟨fd1, fn1⟩ := hdr.ne nfo
    obtain ⟨hd1, hn1⟩ := hdr.ne nhe0
    have F0 : Frm T d nu H (upd (upd (upd H fo (.lst [])) he (.lst [])) p0 (.tup [.ref fo, .ref he])) := by
      have k3 := ((same_new (o := .lst []) nfo).trans (same_new (o := .lst []) nhe)).trans (same_new (o := .tup [.ref fo, .ref he]) np0)
      exact Frm.keep hdr ht (.same k3)
    generalize hH0 : upd (upd (upd H fo (.lst [])) he (.lst [])) p0 (.tup [.ref fo, .ref he]) = H0 at F0
    have e0f : H0 fo = some (.lst []) := by rw [← hH0, upd_ne npf, upd_ne nfh]; exact upd_same
    have e0h : H0 he = some (.lst []) := by rw [← hH0, upd_ne nph]; exact upd_same
    refine ⟨.ref d, rfl, .int m, rfl, m, 1, rfl, rfl, d, nu, (m : Int) + 1, rfl, by omega, by omega, F0.drw, fun r H1 r0 r1 fr1 => ?_⟩
    -- the state between two turns
    have adv : ∀ {Ha Hb : Hp} {ys : List V} {fs : List PD} {held : List Int}, Frm T d nu H Ha → Ha fo = some (.lst ys) → DpAll K Ha ys fs → (∀ x ∈ fs, isPair x) → Ha he = some (.lst (held.map V.int)) → Frm T d nu Ha Hb →
        Frm T d nu H Hb ∧ Hb fo = some (.lst ys) ∧ DpAll K Hb ys fs ∧ Hb he = some (.lst (held.map V.int)) := fun {Ha Hb ys fs held} a b c e g k => by
      have ta := a.tabs ht
      exact ⟨a.trans k, k.lst ta b fd1 fn1, k.pairs a.drw ta c e, k.lst ta g hd1 hn1⟩
    obtain ⟨G1, e1f, _, e1h⟩ := adv (held := []) F0 e0f .nil (fun _ z => nomatch z) e0h fr1
    refine ⟨r, rfl, by omega, by omega, for_range (lo := 0) (n := r.toNat) (fun i σ H3 => ∃ (fs : List PD) (ys : List V) (held : List Int) (y5 y6 y7 y8 : Option V), σ = [some (.ref d), some (.int 2), some (.int m), some (.ref fo), some (.ref he), y5, y6, y7, y8] ∧ Frm T d nu H H3 ∧ H3 fo = some (.lst ys) ∧ DpAll K H3 ys fs ∧ H3 he = some (.lst (held.map V.int)) ∧ Bld fs held i)
      ⟨[], [], [], none, none, none, none, rfl, G1, e1f, .nil, e1h, ⟨(fun _ z => nomatch z), fun r => rfl, Nat.le_refl _, (fun _ z => nomatch z), .inl rfl⟩⟩ ?_ ?_⟩
    · rintro i σ H3 hi ⟨fs, ys, held, y5, y6, y7, y8, rfl, A3, e3f, D3, e3h, B⟩
      have t3 := A3.tabs ht
      have hir : i < m + 1 := by omega
      have hyl : ys.length ≤ 40 := by
        have := B.len
        rw [dps_len D3]
        omega
      -- kind = pick(..)
      refine ⟨.ref d, rfl, by show 6 ≤ sizeLine; decide, fun pc npc => ?_⟩
      have F4 := Frm.keep A3.drw t3 (Keep.new (T := T) (o := .lst [.str "work", .str "work", .str "sleep", .str "take", .str "give", .str "take"]) npc)
      obtain ⟨A4, e4f, D4, e4h⟩ := adv A3 e3f D3 B.pair e3h F4
      have t4 := A4.tabs ht
      obtain ⟨nc1, nc2⟩ := A3.drw.ne npc
      refine ⟨d, nu, pc, _, rfl, upd_same, nc1, nc2, nT_of t4 upd_same (fun ps z => by cases z), by decide, by decide, A4.drw, fun j v H5 hv fr5 => ?_⟩
      obtain ⟨A5, e5f, D5, e5h⟩ := adv A4 e4f D4 B.pair e4h fr5
      have t5 := A5.tabs ht
      obtain ⟨k, rfl, hk⟩ : ∃ k : Str, v = .str k ∧ (k = "work" ∨ k = "sleep" ∨ k = "take" ∨ k = "give") := by
        have hm := List.mem_of_getElem? hv
        simp only [List.mem_cons, List.not_mem_nil, or_false] at hm
        rcases hm with e | e | e | e | e | e <;> rw [e]
        · exact ⟨_, rfl, .inl rfl⟩
        · exact ⟨_, rfl, .inl rfl⟩
        · exact ⟨_, rfl, .inr (.inl rfl)⟩
        · exact ⟨_, rfl, .inr (.inr (.inl rfl))⟩
        · exact ⟨_, rfl, .inr (.inr (.inr rfl))⟩
        · exact ⟨_, rfl, .inr (.inr (.inl rfl))⟩
      -- free = [..]
      refine ⟨.int 2, rfl, 2, rfl, by decide, by decide, fun D nD => lc_range (lo := 0) (n := 2) (fun j H6 => Same H5 H6 ∧ H6 D = some (.lst (((([0, 1] : List Int).take j).filter fun l => decide (l ∉ held)).map V.int))) ⟨same_new nD, upd_same⟩ ?_ ?_⟩
      · rintro j H6 hj ⟨s6, e6⟩
        refine ⟨rfl, .int (0 + j), rfl, .ref he, rfl, he, _, rfl, .inl (.of (s6 _ _ e5h)), rfl, flat_ints _, _, rfl, ?_⟩
        have e7 : (if (true : Bool) = true then !inV (.int (0 + (j : Int))) (held.map V.int) else inV (.int (0 + (j : Int))) (held.map V.int)) = decide ((j : Int) ∉ held) := by
          rw [if_pos rfl, inV_ints, Int.zero_add]
          simp
        rw [e7]
        have tk : ([0, 1] : List Int).take (j + 1) = ([0, 1] : List Int).take j ++ [(j : Int)] := by
          match j, hj with
          | 0, _ => rfl
          | 1, _ => rfl
        have nD5 : ∀ b o, H5 b = some o → b ≠ D := fun b o e => ne_of_none e nD
        by_cases hm : (j : Int) ∉ held
        · rw [decide_eq_true hm]
          refine ⟨_, rfl, _, e6, ?_, ?_, ?_⟩
          · refine small1000 ?_
            rw [List.length_map]
            refine Nat.le_trans (List.length_filter_le _ _) (Nat.le_trans (List.length_take_le' ..) (by decide))
          · exact fun b o e => by rw [upd_ne (nD5 b o e)]; exact s6 b o e
          · rw [upd_same, tk, List.filter_append, List.map_append]
            have : ([(j : Int)].filter fun l => decide (l ∉ held)) = [(j : Int)] := by simp [hm]
            rw [this]
            show _ = some (HO.lst (_ ++ [V.int (j : Int)]))
            rw [Int.zero_add]
        · rw [decide_eq_false hm]
          refine ⟨s6, ?_⟩
          rw [tk, List.filter_append]
          have : ([(j : Int)].filter fun l => decide (l ∉ held)) = [] := by simp at hm; simp [hm]
          rw [this, List.append_nil]
          exact e6
      · rintro H6 ⟨s6, e6⟩
        have e6 : H6 D = some (.lst ((([0, 1] : List Int).filter fun l => decide (l ∉ held)).map V.int)) := e6
        have F6 := Frm.keep A5.drw t5 (Keep.same (T := T) s6)
        obtain ⟨A6, e6f, D6, e6h⟩ := adv A5 e5f D5 B.pair e5h F6
        have t6 := A6.tabs ht
        obtain ⟨nD1, nD2⟩ := A5.drw.ne nD
        -- what a new deed at the end gives
        have put : ∀ {Hx : Hp} {ys : List V} {fs : List PD} {held : List Int} {kk : Str} {n : Int} {p : Addr}, Frm T d nu H Hx → Hx fo = some (.lst ys) → DpAll K Hx ys fs → (∀ x ∈ fs, isPair x) → Hx he = some (.lst (held.map V.int)) → SqT K Hx p [.str kk, .int n] →
            Frm T d nu H (upd Hx fo (.lst (ys ++ [.ref p]))) ∧ (upd Hx fo (.lst (ys ++ [.ref p]))) fo = some (.lst (ys ++ [.ref p])) ∧ DpAll K (upd Hx fo (.lst (ys ++ [.ref p]))) (ys ++ [.ref p]) (fs ++ [.tuple [.str kk, .int n]]) ∧ (upd Hx fo (.lst (ys ++ [.ref p]))) he = some (.lst (held.map V.int)) :=
          fun {Hx ys fs held kk n p} a b c e g q => ⟨a.own hdr ht nfo, upd_same, dps_append (pairs_upd b c e) (.cons (pair_dp (sqT_upd q b)) .nil), by rw [upd_ne nfh.symm]; exact g⟩
        have heldL : held.length ≤ 2 := by rcases B.held with z | z | z | z | z <;> rw [z] <;> decide
        -- found.append((kind, 1 + draw(3)))
        have work : (k = "work" ∨ (k = "sleep" ∧ held = [])) → ∀ {Hx : Hp}, Frm T d nu H6 Hx → tDrop (tBM K "list" rAppend (tVar 3) (tCons (tTup (tCons (tVar 6) (tCons (tOp (rI0 fun i j => .int (i + j)) (tC (.int 1)) (tCall (spDraw T) [] E0 (tCons (tVar 0) (tCons (tC (.int 3)) tNil)))) tNil))) tNil))
            { nx := fun σ H3 => ∃ (fs : List PD) (ys : List V) (held : List Int) (y5 y6 y7 y8 : Option V), σ = [some (.ref d), some (.int 2), some (.int m), some (.ref fo), some (.ref he), y5, y6, y7, y8] ∧ Frm T d nu H H3 ∧ H3 fo = some (.lst ys) ∧ DpAll K H3 ys fs ∧ H3 he = some (.lst (held.map V.int)) ∧ Bld fs held (i + 1), rt := Q }
            [some (.ref d), some (.int 2), some (.int m), some (.ref fo), some (.ref he), some (.int (0 + i)), some (.str k), some (.ref D), y8] Hx := by
          intro hw Hx fx
          obtain ⟨Ax, exf, Dx, exh⟩ := adv A6 e6f D6 B.pair e6h fx
          refine ⟨.ref fo, rfl, .inl ⟨rfl, _, .of exf⟩, .str k, rfl, .ref d, rfl, d, nu, 3, rfl, by decide, by decide, Ax.drw, fun r' Hy q0 q1 fry => ?_⟩
          obtain ⟨Ay, eyf, Dy, eyh⟩ := adv Ax exf Dx B.pair exh fry
          refine ⟨1, r', rfl, rfl, by show 2 ≤ sizeLine; decide, fun p np => ?_⟩
          obtain ⟨Az, ezf, Dz, ezh⟩ := adv Ay eyf Dy B.pair eyh (Frm.keep Ay.drw (Ay.tabs ht) (Keep.new (T := T) (o := .tup [.str k, .int (1 + r')]) np))
          refine ⟨fo, ys, _, rfl, rfl, ezf, small1000 (by omega), ?_⟩
          obtain ⟨z1, z2, z3, z4⟩ := put Az ezf Dz B.pair ezh (.of upd_same)
          exact ⟨_, _, held, _, _, _, _, rfl, z1, z2, z3, z4, B.work' hw (by omega) (by omega)⟩
        have eqvE : ∀ ns : List Int, PyData.eqv (.list (ns.map .int)) (.list []) = ns.isEmpty := fun ns => by cases ns <;> rfl
        have skip : Bld fs held i → ∀ {Hx : Hp}, Frm T d nu H6 Hx → ∃ (fs : List PD) (ys : List V) (held : List Int) (y5' y6' y7' y8' : Option V), [some (.ref d), some (.int 2), some (.int m), some (.ref fo), some (.ref he), some (.int (0 + i)), some (.str k), some (.ref D), y8] = [some (.ref d), some (.int 2), some (.int m), some (.ref fo), some (.ref he), y5', y6', y7', y8'] ∧
            Frm T d nu H Hx ∧ Hx fo = some (.lst ys) ∧ DpAll K Hx ys fs ∧ Hx he = some (.lst (held.map V.int)) ∧ Bld fs held (i + 1) := fun b Hx fx => by
          obtain ⟨Ax, exf, Dx, exh⟩ := adv A6 e6f D6 B.pair e6h fx
          exact ⟨fs, ys, held, _, _, _, _, rfl, Ax, exf, Dx, exh, b.up⟩
        -- elif take, elif give
        have rest : ¬ k = "work" → ¬ (k = "sleep" ∧ held = []) → ∀ {Hx : Hp}, Frm T d nu H6 Hx → (Hx D = some (.lst ((([0, 1] : List Int).filter fun l => decide (l ∉ held)).map V.int))) →
            tIfS (tAnd (tTest (tOp rEq (tVar 6) (tC (.str "take")))) (tTest (tOp (rNeD K) (tVar 7) (tLst tNil))))
              (tSeq (tDrop (tBM K "list" rAppend (tVar 4) (tCons (tCall (spPick K T) [] E0 (tCons (tVar 0) (tCons (tVar 7) tNil))) tNil)))
                (tDrop (tBM K "list" rAppend (tVar 3) (tCons (tTup (tCons (tC (.str "take")) (tCons (tOp (rIxL K) (tVar 4) (tUn (rU fun i => .int (-i)) (tC (.int 1)))) tNil))) tNil))))
              (tIfS (tAnd (tTest (tOp rEq (tVar 6) (tC (.str "give")))) (tTest (tOp (rNeD K) (tVar 4) (tLst tNil))))
                (tSeq (tAsg (tCall (spPick K T) [] E0 (tCons (tVar 0) (tCons (tVar 4) tNil))) (gName 8)) (tSeq (tDrop (tBM K "list" rRemI (tVar 4) (tCons (tVar 8) tNil))) (tDrop (tBM K "list" rAppend (tVar 3) (tCons (tTup (tCons (tC (.str "give")) (tCons (tVar 8) tNil))) tNil)))))
                tNext)
            { nx := fun σ H3 => ∃ (fs : List PD) (ys : List V) (held : List Int) (y5 y6 y7 y8 : Option V), σ = [some (.ref d), some (.int 2), some (.int m), some (.ref fo), some (.ref he), y5, y6, y7, y8] ∧ Frm T d nu H H3 ∧ H3 fo = some (.lst ys) ∧ DpAll K H3 ys fs ∧ H3 he = some (.lst (held.map V.int)) ∧ Bld fs held (i + 1), rt := Q }
            [some (.ref d), some (.int 2), some (.int m), some (.ref fo), some (.ref he), some (.int (0 + i)), some (.str k), some (.ref D), y8] Hx := by
          intro h1 h2 Hx fx exD
          obtain ⟨Ax, exf, Dx, exh⟩ := adv A6 e6f D6 B.pair e6h fx
          have tx := Ax.tabs ht
          -- a give, if there's one to give
          have rest2 : ¬ k = "take" ∨ ((([0, 1] : List Int).filter fun l => decide (l ∉ held)) = []) → ∀ {Hy : Hp}, Frm T d nu H6 Hy → 
              tIfS (tAnd (tTest (tOp rEq (tVar 6) (tC (.str "give")))) (tTest (tOp (rNeD K) (tVar 4) (tLst tNil))))
                (tSeq (tAsg (tCall (spPick K T) [] E0 (tCons (tVar 0) (tCons (tVar 4) tNil))) (gName 8)) (tSeq (tDrop (tBM K "list" rRemI (tVar 4) (tCons (tVar 8) tNil))) (tDrop (tBM K "list" rAppend (tVar 3) (tCons (tTup (tCons (tC (.str "give")) (tCons (tVar 8) tNil))) tNil)))))
                tNext
              { nx := fun σ H3 => ∃ (fs : List PD) (ys : List V) (held : List Int) (y5 y6 y7 y8 : Option V), σ = [some (.ref d), some (.int 2), some (.int m), some (.ref fo), some (.ref he), y5, y6, y7, y8] ∧ Frm T d nu H H3 ∧ H3 fo = some (.lst ys) ∧ DpAll K H3 ys fs ∧ H3 he = some (.lst (held.map V.int)) ∧ Bld fs held (i + 1), rt := Q }
              [some (.ref d), some (.int 2), some (.int m), some (.ref fo), some (.ref he), some (.int (0 + i)), some (.str k), some (.ref D), y8] Hy := by
            intro _ Hy fy
            obtain ⟨Ay, eyf, Dy, eyh⟩ := adv A6 e6f D6 B.pair e6h fy
            have ty := Ay.tabs ht
            refine ⟨.str k, rfl, rfl, _, rfl, ite2 (fun e => ?_) fun e => skip B fy⟩
            have e : k = "give" := V.str.inj (of_decide_eq_true e)
            refine ⟨.ref he, rfl, Nat.zero_le _, fun pe npe => ?_⟩
            have fz := fy.trans (Frm.keep Ay.drw ty (Keep.new (T := T) (o := .lst []) npe))
            obtain ⟨Az, ezf, Dz, ezh⟩ := adv A6 e6f D6 B.pair e6h fz
            refine ⟨.list (held.map .int), .list [], .lst (.of ezh) (dps_ints held), .lst (.of upd_same) .nil, ints_shaped held, rfl, _, rfl, ite2 (fun e3 => ?_) fun e3 => skip B fz⟩
            have hne : held ≠ [] := fun z => by rw [z] at e3; cases e3
            have tz := Az.tabs ht
            refine ⟨.ref d, rfl, .ref he, rfl, d, nu, he, held.map V.int, rfl, ezh, hd1, hn1, nT_of tz ezh (fun ps z => by cases z), ?_, ?_, Az.drw, fun j v Hu hv fu => ?_⟩
            · rw [List.length_map]; exact List.length_pos_iff.mpr hne
            · rw [List.length_map]; omega
            · obtain ⟨l, rfl, hl⟩ : ∃ l : Int, v = .int l ∧ l ∈ held := by
                rw [List.getElem?_map] at hv
                cases hj : held[j]? with
                | none => rw [hj] at hv; cases hv
                | some l =>
                  rw [hj] at hv
                  exact ⟨l, (Option.some.inj hv).symm, List.mem_of_getElem? hj⟩
              obtain ⟨Au, euf, Du, euh⟩ := adv Az ezf Dz B.pair ezh fu
              obtain ⟨g1, g2, g3⟩ := first_ix hl
              refine ⟨.ref he, rfl, .inl ⟨rfl, _, .of euh⟩, .int l, rfl, he, held, l, _, rfl, rfl, euh, g1, g2, ?_⟩
              rw [g3]
              have Av := Au.own hdr ht nhe0 (o := .lst ((held.erase l).map V.int))
              have evf : (upd Hu he (.lst ((held.erase l).map V.int))) fo = some (.lst ys) := by rw [upd_ne nfh]; exact euf
              have evh : (upd Hu he (.lst ((held.erase l).map V.int))) he = some (.lst ((held.erase l).map V.int)) := upd_same
              have Dv := pairs_upd euh (o := .lst ((held.erase l).map V.int)) Du B.pair
              refine ⟨.ref fo, rfl, .inl ⟨rfl, _, .of evf⟩, .int l, rfl, by show 2 ≤ sizeLine; decide, fun p np => ?_⟩
              obtain ⟨Aw, ewf, Dw, ewh⟩ := adv Av evf Dv B.pair evh (Frm.keep Av.drw (Av.tabs ht) (Keep.new (T := T) (o := .tup [.str "give", .int l]) np))
              refine ⟨fo, ys, _, rfl, rfl, ewf, small1000 (by omega), ?_⟩
              obtain ⟨z1, z2, z3, z4⟩ := put Aw ewf Dw B.pair ewh (.of upd_same)
              exact ⟨_, _, held.erase l, _, _, _, _, rfl, z1, z2, z3, z4, B.give' hl⟩
          refine ⟨.str k, rfl, rfl, _, rfl, ite2 (fun e => ?_) fun e => rest2 (.inl fun z => e (decide_eq_true (by rw [z]))) fx⟩
          have e : k = "take" := V.str.inj (of_decide_eq_true e)
          refine ⟨.ref D, rfl, Nat.zero_le _, fun pe npe => ?_⟩
          have fz := fx.trans (Frm.keep Ax.drw tx (Keep.new (T := T) (o := .lst []) npe))
          obtain ⟨Az, ezf, Dz, ezh⟩ := adv A6 e6f D6 B.pair e6h fz
          have ezD := (Frm.keep Ax.drw tx (Keep.new (T := T) (o := .lst []) npe)).lst tx exD (fun z => nD1 z) (fun z => nD2 z)
          refine ⟨.list ((([0, 1] : List Int).filter fun l => decide (l ∉ held)).map .int), .list [], .lst (.of ezD) (dps_ints _), .lst (.of upd_same) .nil, ints_shaped _, rfl, _, rfl, ite2 (fun e3 => ?_) fun e3 => ?_⟩
          · have hne : (([0, 1] : List Int).filter fun l => decide (l ∉ held)) ≠ [] := fun z => by rw [z] at e3; cases e3
            have tz := Az.tabs ht
            refine ⟨.ref he, rfl, .inl ⟨rfl, _, .of ezh⟩, .ref d, rfl, .ref D, rfl, d, nu, D, _, rfl, ezD, nD1, nD2, nT_of tz ezD (fun ps z => by cases z), ?_, ?_, Az.drw, fun j v Hu hv fu => ?_⟩
            · rw [List.length_map]; exact List.length_pos_iff.mpr hne
            · rw [List.length_map]; exact Nat.le_trans (List.length_filter_le _ _) (by decide)
            · obtain ⟨l, rfl, hl, hm⟩ : ∃ l : Int, v = .int l ∧ (l = 0 ∨ l = 1) ∧ l ∉ held := by
                rw [List.getElem?_map] at hv
                cases hj : (([0, 1] : List Int).filter fun l => decide (l ∉ held))[j]? with
                | none => rw [hj] at hv; cases hv
                | some l =>
                  rw [hj] at hv
                  have := List.mem_of_getElem? hj
                  rw [List.mem_filter] at this
                  exact ⟨l, (Option.some.inj hv).symm, by simpa using this.1, of_decide_eq_true this.2⟩
              obtain ⟨Au, euf, Du, euh⟩ := adv Az ezf Dz B.pair ezh fu
              refine ⟨he, _, _, rfl, rfl, euh, small1000 (by rw [List.length_map]; omega), ?_⟩
              have Av := Au.own hdr ht nhe0 (o := .lst (held.map V.int ++ [.int l]))
              have evf : (upd Hu he (.lst (held.map V.int ++ [.int l]))) fo = some (.lst ys) := by rw [upd_ne nfh]; exact euf
              have evh : (upd Hu he (.lst (held.map V.int ++ [.int l]))) he = some (.lst ((held ++ [l]).map V.int)) := by rw [upd_same, List.map_append]; rfl
              have Dv := pairs_upd euh (o := .lst (held.map V.int ++ [.int l])) Du B.pair
              have eat : atI ((held ++ [l]).map V.int) (-1) = some (.int l) := by
                rcases B.held with z | z | z | z | z <;> rw [z] <;> rfl
              refine ⟨.ref fo, rfl, .inl ⟨rfl, _, .of evf⟩, .ref he, rfl, 1, rfl, he, _, -1, .int l, rfl, rfl, .inl (.of evh), eat, by show 2 ≤ sizeLine; decide, fun p np => ?_⟩
              obtain ⟨Aw, ewf, Dw, ewh⟩ := adv Av evf Dv B.pair evh (Frm.keep Av.drw (Av.tabs ht) (Keep.new (T := T) (o := .tup [.str "take", .int l]) np))
              refine ⟨fo, ys, _, rfl, rfl, ewf, small1000 (by omega), ?_⟩
              obtain ⟨z1, z2, z3, z4⟩ := put Aw ewf Dw B.pair ewh (.of upd_same)
              exact ⟨_, _, held ++ [l], _, _, _, _, rfl, z1, z2, z3, z4, B.take' hl hm⟩
          · refine rest2 (.inr ?_) fz
            cases hz : (([0, 1] : List Int).filter fun l => decide (l ∉ held)) with
            | nil => rfl
            | cons a r => rw [hz] at e3; exact absurd rfl e3
        refine ⟨.str k, rfl, rfl, _, rfl, ite2 (fun e => ?_) fun e => ?_⟩
        · have e : k = "work" := V.str.inj (of_decide_eq_true e)
          exact work (.inl e) (Frm.refl A6.drw)
        · have n1 : ¬ k = "work" := fun z => e (decide_eq_true (by rw [z]))
          refine ⟨.str k, rfl, rfl, _, rfl, ite2 (fun e => ?_) fun e => ?_⟩
          · have e : k = "sleep" := V.str.inj (of_decide_eq_true e)
            refine ⟨.ref he, rfl, Nat.zero_le _, fun pe npe => ?_⟩
            have fz := Frm.keep A6.drw t6 (Keep.new (T := T) (o := .lst []) npe)
            obtain ⟨Az, ezf, Dz, ezh⟩ := adv A6 e6f D6 B.pair e6h fz
            refine ⟨.list (held.map .int), .list [], .lst (.of ezh) (dps_ints held), .lst (.of upd_same) .nil, ints_shaped held, rfl, _, rfl, ite2 (fun e3 => ?_) fun e3 => ?_⟩
            · have hz : held = [] := by
                cases held with
                | nil => rfl
                | cons a r => cases e3
              exact work (.inr ⟨e, hz⟩) fz
            · have hz : held ≠ [] := fun z => e3 (by rw [z]; rfl)
              exact rest n1 (fun z => hz z.2) fz (fz.lst t6 e6 nD1 nD2)
          · exact rest n1 (fun z => e (decide_eq_true (by rw [z.1]))) (Frm.refl A6.drw) e6
    · rintro σ H3 ⟨fs, ys, held, y5, y6, y7, y8, rfl, A3, e3f, D3, e3h, B⟩
      have t3 := A3.tabs ht
      have heldL : held.length ≤ 2 := by rcases B.held with z | z | z | z | z <;> rw [z] <;> decide
      refine ⟨.ref fo, rfl, .ref he, rfl, he, rfl, ⟨_, .inl (.of e3h)⟩, fun D nD => ?_⟩
      obtain ⟨nD1, nD2⟩ := A3.drw.ne nD
      have nhD : he ≠ D := ne_of_none e3h nD
      refine lc_list (a := he) (xs := held.map V.int) (fun j H4 => ∃ zs : List V, Keep T H3 H4 ∧ H4 D = some (.lst zs) ∧ DpAll K H4 zs ((held.take j).map giveD)) ⟨[], Keep.new nD, upd_same, .nil⟩ (fun j H4 _ ⟨zs, k4, _⟩ => .inl (.of (k4.lst t3 e3h))) ?_ ?_
      · rintro j x H4 hx ⟨zs, k4, e4, D4⟩
        have hj : j < held.length := by
          have := (List.getElem?_eq_some_iff.mp hx).1
          rwa [List.length_map] at this
        have ex : x = .int held[j] := by
          rw [List.getElem?_map, List.getElem?_eq_getElem hj] at hx
          exact (Option.some.inj hx).symm
        subst ex
        have hzl : zs.length ≤ 2 := by
          rw [dps_len D4, List.length_map]
          exact Nat.le_trans (List.length_take_le' ..) heldL
        refine ⟨rfl, .int held[j], rfl, by show 2 ≤ sizeLine; decide, fun p np => ?_⟩
        have npD : D ≠ p := ne_of_none e4 np
        refine ⟨zs, by rw [upd_ne npD]; exact e4, small1000 (by omega), zs ++ [.ref p], (k4.trans (.new np)).own t3 nD, upd_same, ?_⟩
        have et : held.take (j + 1) = held.take j ++ [held[j]] := by rw [List.take_add_one, List.getElem?_eq_getElem hj]; rfl
        rw [et, List.map_append]
        have pr : ∀ x ∈ (held.take j).map giveD, isPair x := fun x hx => by
          obtain ⟨n, _, rfl⟩ := List.mem_map.mp hx
          exact ⟨_, _, rfl⟩
        have D5 : DpAll K (upd H4 p (.tup [.str "give", .int held[j]])) zs ((held.take j).map giveD) := dps_keep (T := T) (.new np) (k4.tabs t3) D4
        exact dps_append (pairs_upd (show (upd H4 p (.tup [.str "give", .int held[j]])) D = some (.lst zs) by rw [upd_ne npD]; exact e4) D5 pr) (.cons (pair_dp (sqT_upd (.of upd_same) (by rw [upd_ne npD]; exact e4))) .nil)
      · rintro H4 ⟨zs, k4, e4, D4⟩
        rw [List.length_map, List.take_length] at D4
        have F4 := Frm.keep A3.drw t3 k4
        obtain ⟨A4, e4f, D4f, e4h⟩ := adv A3 e3f D3 B.pair e3h F4
        refine ⟨fo, D, ys, zs, rfl, rfl, e4f, e4, ?_, fun p np => ?_⟩
        · rw [dps_len D4f, dps_len D4, List.length_map]
          have := B.len
          refine Nat.le_of_lt (small1000 ?_)
          omega
        · have F5 := Frm.keep A4.drw (A4.tabs ht) (Keep.new (T := T) (o := .lst (ys ++ zs)) np)
          have A5 := A4.trans F5
          have pr : ∀ x ∈ fs ++ held.map giveD, isPair x := fun x hx => deedD_pair (B.end_.deed x hx)
          have GP2 := B.end_
          have hp : H p = none := A4.free hdr ht np
          refine q p (ys ++ zs) (fs ++ held.map giveD) _ hp upd_same (F5.pairs A4.drw (A4.tabs ht) (dps_append D4f D4) pr) ⟨GP2.deed, GP2.fit, ?_, GP2.work⟩ A5
          have := B.len
          rw [List.length_append, List.length_map]
          omega
end
end K11

namespace K11
open PySem PySem.Spec PyProof.Rows L2 DA
/-! ### what the law's answers come to -/
abbrev endD : PD := .tuple [.str "end", .int 0]
abbrev work0 : PD := .tuple [.str "work", .int 0]
def unitL (d : PD) : List PD := match d with | .tuple [.str k, .int n] => if k = "work" then List.replicate n.toNat work0 else [.tuple [.str k, .int n]] | _ => []
def unitsL (ds : List PD) : List PD := ds.flatMap unitL
def deedsL (ds : List PD) : List PD := unitsL ds ++ [endD]
theorem unitL_work {n : Int} : unitL (.tuple [.str "work", .int n]) = List.replicate n.toNat work0 := by
  show (if ("work" : Str) = "work" then List.replicate n.toNat work0 else [.tuple [.str "work", .int n]]) = _
  exact if_pos rfl
theorem unitL_other {k : Str} {n : Int} (h : ¬ k = "work") : unitL (.tuple [.str k, .int n]) = [.tuple [.str k, .int n]] := by
  show (if k = "work" then _ else _) = _
  rw [if_neg h]
theorem units_pos {d : PD} (h : deedD d = true) : 1 ≤ unitsD d := by
  obtain ⟨k, n, rfl⟩ := deedD_pair h
  show 1 ≤ (if k = "work" then n else 1)
  split
  · next e =>
    rcases deed_num h with ⟨_, h2⟩ | ⟨h1, _⟩
    · omega
    · rcases h1 with z | z <;> rw [e] at z
      · exact absurd z wt
      · exact absurd z wg
  · decide
theorem unitL_len {d : PD} (h : deedD d = true) : ((unitL d).length : Int) = unitsD d := by
  have hp := units_pos h
  obtain ⟨k, n, rfl⟩ := deedD_pair h
  have e : unitsD (.tuple [.str k, .int n]) = if k = "work" then n else 1 := rfl
  rw [e] at hp ⊢
  by_cases hk : k = "work"
  · subst hk
    rw [if_pos rfl] at hp ⊢
    rw [unitL_work, List.length_replicate]
    omega
  · rw [if_neg hk, unitL_other hk]; rfl
theorem unitsL_len : ∀ {ds : List PD}, (∀ x ∈ ds, deedD x = true) → ((unitsL ds).length : Int) = (ds.map unitsD).sum
  | [], _ => rfl
  | d :: ds, h => by
    have ih := unitsL_len fun x hx => h x (List.mem_cons_of_mem d hx)
    have h1 := unitL_len (h d List.mem_cons_self)
    show (((unitL d ++ unitsL ds).length : Nat) : Int) = _
    rw [List.length_append, List.map_cons, List.sum_cons]
    omega
theorem deedsL_len {ds : List PD} (h : ∀ x ∈ ds, deedD x = true) : ((deedsL ds).length : Int) = lenD ds := by
  have := unitsL_len h
  show (((unitsL ds ++ [endD]).length : Nat) : Int) = (ds.map unitsD).sum + 1
  rw [List.length_append, List.length_singleton]
  omega
theorem fit_work (n : Int) (r : List PD) (held : List Int) : fitGo (.tuple [.str "work", .int n] :: r) held = fitGo r held := by
  rw [fit_step, if_neg (fun z => ws z.1), if_neg wt, if_neg wg]
theorem fit_works : ∀ (m : Nat) (r : List PD) (held : List Int), fitGo (List.replicate m work0 ++ r) held = fitGo r held
  | 0, _, _ => rfl
  | m + 1, r, held => by
    rw [List.replicate_succ, List.cons_append, fit_work, fit_works m]
theorem fit_head {x y : List PD} {d : PD} (hd : isPair d) (h : ∀ g, fitGo x g = fitGo y g) (g : List Int) : fitGo (d :: x) g = fitGo (d :: y) g := by
  obtain ⟨k, n, rfl⟩ := hd
  rw [fit_step, fit_step, h, h, h]
theorem fit_pre : ∀ (p : List PD) {x y : List PD}, (∀ d ∈ p, isPair d) → (∀ g, fitGo x g = fitGo y g) → ∀ g, fitGo (p ++ x) g = fitGo (p ++ y) g
  | [], _, _, _, h, g => h g
  | d :: p, _, _, hp, h, g => fit_head (hp d List.mem_cons_self) (fun g => fit_pre p (fun x hx => hp x (List.mem_cons_of_mem _ hx)) h g) g
theorem fit_units : ∀ {ds : List PD} (r : List PD), (∀ x ∈ ds, isPair x) → ∀ g, fitGo (unitsL ds ++ r) g = fitGo (ds ++ r) g
  | [], _, _, _ => rfl
  | d :: ds, r, h, g => by
    have ih := fit_units r fun x hx => h x (List.mem_cons_of_mem d hx)
    obtain ⟨k, n, rfl⟩ := h d List.mem_cons_self
    show fitGo (unitL (.tuple [.str k, .int n]) ++ unitsL ds ++ r) g = fitGo (.tuple [.str k, .int n] :: (ds ++ r)) g
    rw [List.append_assoc]
    by_cases hk : k = "work"
    · subst hk
      rw [unitL_work, fit_works, fit_work]
      exact ih g
    · rw [unitL_other hk]
      exact fit_head ⟨_, _, rfl⟩ ih g
theorem fit_end (r : List PD) (g : List Int) : fitGo (endD :: r) g = fitGo r g := by
  rw [fit_step, if_neg (fun z => absurd z.1 (by decide +kernel)), if_neg (by decide +kernel), if_neg (by decide +kernel)]
theorem fit_deeds {ds : List PD} (h : ∀ x ∈ ds, isPair x) (g : List Int) : fitGo (deedsL ds) g = fitGo ds g := by
  have e := fit_units [endD] h g
  rw [show deedsL ds = unitsL ds ++ [endD] from rfl, e, fit_pre ds (x := [endD]) (y := []) h (fun g => fit_end [] g) g, List.append_nil]
theorem allP_step (k : Str) (n : Int) (r : List PD) (held : List Int) : allP (.tuple [.str k, .int n] :: r) held = if k = "take" then held.map (fun o => [o, n]) ++ allP r (held ++ [n]) else if k = "give" then allP r (held.erase n) else allP r held := rfl
theorem allP_works : ∀ (m : Nat) (r : List PD) (held : List Int), allP (List.replicate m work0 ++ r) held = allP r held
  | 0, _, _ => rfl
  | m + 1, r, held => by
    rw [List.replicate_succ, List.cons_append, allP_step, if_neg wt, if_neg wg, allP_works m]
theorem allP_units : ∀ {ds : List PD}, (∀ x ∈ ds, isPair x) → ∀ g, allP (deedsL ds) g = allP ds g
  | [], _, g => by
    show allP [endD] g = _
    rw [allP_step, if_neg (by decide +kernel), if_neg (by decide +kernel)]
  | d :: ds, h, g => by
    have ih := allP_units fun x hx => h x (List.mem_cons_of_mem d hx)
    obtain ⟨k, n, rfl⟩ := h d List.mem_cons_self
    have e : deedsL (.tuple [.str k, .int n] :: ds) = unitL (.tuple [.str k, .int n]) ++ deedsL ds := List.append_assoc ..
    rw [e]
    by_cases hk : k = "work"
    · subst hk
      rw [unitL_work, allP_works, allP_step, if_neg wt, if_neg wg, ih]
    · rw [unitL_other hk, List.singleton_append, allP_step, allP_step, ih, ih, ih]
def holdU : List PD → Int → Int → Int → Int → Int
  | .tuple [.str k, .int n] :: r, longest, done, x, y =>
    let d := done + 1
    let x' := if k = "take" ∧ n = 0 then d else x
    let y' := if k = "take" ∧ n ≠ 0 then d else y
    let u := d - (if n = 0 then x' else y')
    holdU r (if k = "give" then (if u > longest then u else longest) else longest) d x' y'
  | _, longest, _, _, _ => longest
theorem holdU_plain {k : Str} {n : Int} {r : List PD} {a u x y : Int} (h1 : ¬ k = "take") (h2 : ¬ k = "give") : holdU (.tuple [.str k, .int n] :: r) a u x y = holdU r a (u + 1) x y := by
  show holdU r (if k = "give" then _ else a) (u + 1) (if k = "take" ∧ n = 0 then _ else x) (if k = "take" ∧ n ≠ 0 then _ else y) = _
  rw [if_neg h2, if_neg (fun z => h1 z.1), if_neg (fun z => h1 z.1)]
theorem holdU_works : ∀ (m : Nat) (r : List PD) (a u x y : Int), holdU (List.replicate m work0 ++ r) a u x y = holdU r a (u + m) x y
  | 0, r, a, u, x, y => by
    show holdU r a u x y = holdU r a (u + 0) x y
    rw [Int.add_zero]
  | m + 1, r, a, u, x, y => by
    rw [List.replicate_succ, List.cons_append, holdU_plain wt wg, holdU_works m]
    have e : u + 1 + (m : Int) = u + ((m + 1 : Nat) : Int) := by omega
    rw [e]
theorem holdU_units : ∀ {ds : List PD}, (∀ x ∈ ds, deedD x = true) → ∀ a u x y, holdU (deedsL ds) a u x y = holdGo ds a u x y
  | [], _, a, u, x, y => by
    show holdU [endD] a u x y = a
    rw [holdU_plain (by decide +kernel) (by decide +kernel)]; rfl
  | d :: ds, h, a, u, x, y => by
    have ih := holdU_units fun x hx => h x (List.mem_cons_of_mem d hx)
    have hd := h d List.mem_cons_self
    have hu := units_pos hd
    obtain ⟨k, n, rfl⟩ := deedD_pair hd
    have e : deedsL (.tuple [.str k, .int n] :: ds) = unitL (.tuple [.str k, .int n]) ++ deedsL ds := List.append_assoc ..
    have eu : unitsD (.tuple [.str k, .int n]) = if k = "work" then n else 1 := rfl
    rw [e]
    by_cases hk : k = "work"
    · subst hk
      rw [eu, if_pos rfl] at hu
      rw [unitL_work, holdU_works, ih]
      show _ = holdGo ds (if ("work" : Str) = "give" then _ else a) (u + unitsD (.tuple [.str "work", .int n])) (if ("work" : Str) = "take" ∧ n = 0 then _ else x) (if ("work" : Str) = "take" ∧ n ≠ 0 then _ else y)
      rw [if_neg wg, if_neg (fun z => wt z.1), if_neg (fun z => wt z.1), eu, if_pos rfl]
      have e2 : u + (n.toNat : Int) = u + n := by omega
      rw [e2]
    · rw [unitL_other hk, List.singleton_append]
      show holdU (deedsL ds) _ (u + 1) _ _ = holdGo ds _ (u + unitsD (.tuple [.str k, .int n])) _ _
      rw [eu, if_neg hk, ih]
/-! the plainest -/
def isW (d : PD) : Bool := match d with | .tuple [.str k, _] => decide (k = "work") | _ => false
def NoAdj (l : List PD) : Prop := ∀ i a b, l[i]? = some a → l[i + 1]? = some b → (isW a && isW b) = false
theorem deed_work_inv {n : Int} (h : deedD (.tuple [.str "work", .int n]) = true) : 1 ≤ n ∧ n ≤ 99 := by
  rcases deed_num h with ⟨_, h2⟩ | ⟨h1, _⟩
  · exact h2
  · rcases h1 with z | z
    · exact absurd z wt
    · exact absurd z wg
theorem sum_mem : ∀ {ds : List PD}, (∀ x ∈ ds, deedD x = true) → 0 ≤ (ds.map unitsD).sum
  | [], _ => by decide
  | d :: ds, h => by
    have := sum_mem fun x hx => h x (List.mem_cons_of_mem d hx)
    have h1 := units_pos (h d List.mem_cons_self)
    rw [List.map_cons, List.sum_cons]
    omega
theorem unitsL_app (a b : List PD) : unitsL (a ++ b) = unitsL a ++ unitsL b := List.flatMap_append
theorem unitsL_one (d : PD) : unitsL [d] = unitL d := by show unitL d ++ [] = _; rw [List.append_nil]
theorem plain_step {acc : List PD} {d : PD} (ha : ∀ x ∈ acc, deedD x = true) (hd : deedD d = true) (hs : (acc.map unitsD).sum + unitsD d ≤ 99) (hn : NoAdj acc) :
    (∀ x ∈ plainStep acc d, deedD x = true) ∧ unitsL (plainStep acc d) = unitsL acc ++ unitL d ∧ (∀ r h, fitGo (plainStep acc d ++ r) h = fitGo (acc ++ d :: r) h) ∧ NoAdj (plainStep acc d) := by
  have keep : (∀ l, acc.getLast? = some l → (isW l && isW d) = false) → (∀ x ∈ acc ++ [d], deedD x = true) ∧ unitsL (acc ++ [d]) = unitsL acc ++ unitL d ∧ (∀ r h, fitGo (acc ++ [d] ++ r) h = fitGo (acc ++ d :: r) h) ∧ NoAdj (acc ++ [d]) := fun hl => by
    refine ⟨fun x hx => ?_, by rw [unitsL_app, unitsL_one], fun r h => by rw [List.append_assoc]; rfl, fun i a b h1 h2 => ?_⟩
    · rcases List.mem_append.mp hx with z | z
      · exact ha x z
      · rw [List.mem_singleton.mp z]; exact hd
    · have hi : i + 1 < (acc ++ [d]).length := (List.getElem?_eq_some_iff.mp h2).1
      rw [List.length_append, List.length_singleton] at hi
      by_cases hi2 : i + 1 < acc.length
      · rw [List.getElem?_append_left (by omega)] at h1
        rw [List.getElem?_append_left hi2] at h2
        exact hn i a b h1 h2
      · have e : i + 1 = acc.length := by omega
        rw [List.getElem?_append_left (by omega)] at h1
        rw [e, List.getElem?_append_right (Nat.le_refl _), Nat.sub_self] at h2
        cases h2
        refine hl a ?_
        rw [List.getLast?_eq_getElem?, show acc.length - 1 = i by omega]
        exact h1
  unfold plainStep
  split
  · next l hl =>
    have hla : l ∈ acc := List.mem_of_getLast? hl
    have hlD := ha l hla
    obtain ⟨acc', rfl⟩ : ∃ acc', acc = acc' ++ [l] := by
      rcases List.eq_nil_or_concat acc with z | ⟨p, x, z⟩
      · rw [z] at hl; cases hl
      · rw [List.concat_eq_append] at z
        rw [z, List.getLast?_concat] at hl
        cases hl
        exact ⟨p, z⟩
    obtain ⟨k, n, rfl⟩ := deedD_pair hlD
    obtain ⟨k2, m, rfl⟩ := deedD_pair hd
    have e1 : oneD (.tuple [.str k, .int n]) (.tuple [.str k2, .int m]) = (decide (k = "work") && decide (k2 = "work") && decide (n + m ≤ 99)) := rfl
    have ha' : ∀ x ∈ acc', deedD x = true := fun x hx => ha x (List.mem_append_left _ hx)
    have hsum := sum_mem ha'
    have es : ((acc' ++ [PyData.tuple [.str k, .int n]]).map unitsD).sum = (acc'.map unitsD).sum + unitsD (.tuple [.str k, .int n]) := by
      rw [List.map_append, List.sum_append]
      simp
    split
    · next ho =>
      rw [e1, Bool.and_eq_true, Bool.and_eq_true] at ho
      have k1 := of_decide_eq_true ho.1.1
      have k2' := of_decide_eq_true ho.1.2
      have h99 := of_decide_eq_true ho.2
      subst k1
      subst k2'
      obtain ⟨n1, n2⟩ := deed_work_inv hlD
      obtain ⟨m1, m2⟩ := deed_work_inv hd
      rw [List.dropLast_concat]
      have ead : addD (.tuple [.str "work", .int n]) (.tuple [.str "work", .int m]) = .tuple [.str "work", .int (n + m)] := rfl
      rw [ead]
      refine ⟨fun x hx => ?_, ?_, fun r h => ?_, fun i a b h1 h2 => ?_⟩
      · rcases List.mem_append.mp hx with z | z
        · exact ha' x z
        · rw [List.mem_singleton.mp z]; exact deed_work (.inl rfl) (by omega) h99
      · rw [unitsL_app, unitsL_app, unitsL_one, unitsL_one, unitL_work, unitL_work, unitL_work, List.append_assoc, List.replicate_append_replicate]
        have : (n + m).toNat = n.toNat + m.toNat := by omega
        rw [this]
      · rw [List.append_assoc, List.append_assoc]
        refine fit_pre acc' (fun x hx => deedD_pair (ha' x hx)) (fun g => ?_) h
        show fitGo (.tuple [.str "work", .int (n + m)] :: r) g = fitGo (.tuple [.str "work", .int n] :: .tuple [.str "work", .int m] :: r) g
        rw [fit_work, fit_work, fit_work]
      · have hi : i + 1 < (acc' ++ [PyData.tuple [.str "work", .int (n + m)]]).length := (List.getElem?_eq_some_iff.mp h2).1
        rw [List.length_append, List.length_singleton] at hi
        have ei : (acc' ++ [PyData.tuple [.str "work", .int n]])[i]? = some a := by
          rw [List.getElem?_append_left (by omega)] at h1 ⊢
          exact h1
        by_cases hi2 : i + 1 < acc'.length
        · refine hn i a b ei ?_
          rw [List.getElem?_append_left hi2] at h2 ⊢
          exact h2
        · have e : i + 1 = acc'.length := by omega
          rw [e, List.getElem?_append_right (Nat.le_refl _), Nat.sub_self] at h2
          cases h2
          have := hn i a (.tuple [.str "work", .int n]) ei (by rw [e, List.getElem?_append_right (Nat.le_refl _), Nat.sub_self]; rfl)
          exact this
    · next ho =>
      refine keep fun l' hl' => ?_
      rw [List.getLast?_concat] at hl'
      cases hl'
      by_cases k1 : k = "work"
      · by_cases k2' : k2 = "work"
        · subst k1
          subst k2'
          exfalso
          apply ho
          rw [e1]
          have u1 : unitsD (.tuple [.str "work", .int n]) = n := by
            show (if ("work" : Str) = "work" then n else 1) = n
            exact if_pos rfl
          have u2 : unitsD (.tuple [.str "work", .int m]) = m := by
            show (if ("work" : Str) = "work" then m else 1) = m
            exact if_pos rfl
          rw [es, u1, u2] at hs
          simp
          omega
        · show (_ && decide (k2 = "work")) = false
          rw [decide_eq_false k2', Bool.and_false]
      · show (decide (k = "work") && _) = false
        rw [decide_eq_false k1, Bool.false_and]
  · next hl =>
    exact keep fun l h => by rw [hl] at h; cases h
theorem plain_fold : ∀ (ds acc : List PD), (∀ x ∈ acc, deedD x = true) → (∀ x ∈ ds, deedD x = true) → (acc.map unitsD).sum + (ds.map unitsD).sum ≤ 99 → NoAdj acc →
    (∀ x ∈ ds.foldl plainStep acc, deedD x = true) ∧ unitsL (ds.foldl plainStep acc) = unitsL acc ++ unitsL ds ∧ (∀ r h, fitGo (ds.foldl plainStep acc ++ r) h = fitGo (acc ++ (ds ++ r)) h) ∧ NoAdj (ds.foldl plainStep acc)
  | [], acc, ha, _, _, hn => ⟨ha, (List.append_nil _).symm, fun r h => rfl, hn⟩
  | d :: ds, acc, ha, hd, hs, hn => by
    have hd0 := hd d List.mem_cons_self
    have hds : ∀ x ∈ ds, deedD x = true := fun x hx => hd x (List.mem_cons_of_mem _ hx)
    have hsum := sum_mem hds
    rw [List.map_cons, List.sum_cons] at hs
    obtain ⟨a1, a2, a3, a4⟩ := plain_step ha hd0 (by omega) hn
    have e1 := unitsL_len a1
    have e2 := unitsL_len ha
    have e3 := unitL_len hd0
    have es : ((plainStep acc d).map unitsD).sum = (acc.map unitsD).sum + unitsD d := by
      rw [← e1, a2, List.length_append]
      omega
    obtain ⟨b1, b2, b3, b4⟩ := plain_fold ds (plainStep acc d) a1 hds (by rw [es]; omega) a4
    refine ⟨b1, ?_, fun r h => ?_, b4⟩
    · show unitsL (ds.foldl plainStep (plainStep acc d)) = _
      rw [b2, a2, List.append_assoc]; rfl
    · show fitGo (ds.foldl plainStep (plainStep acc d) ++ r) h = _
      rw [b3, a3]; rfl
theorem sum_le : ∀ {ds : List PD}, (∀ x ∈ ds, unitsD x ≤ 3) → (ds.map unitsD).sum ≤ 3 * ds.length
  | [], _ => by decide
  | d :: ds, h => by
    have := sum_le fun x hx => h x (List.mem_cons_of_mem d hx)
    have h1 := h d List.mem_cons_self
    rw [List.map_cons, List.sum_cons, List.length_cons]
    omega
theorem plain_good {ds : List PD} {m : Nat} (g : GoodP ds m) (hm : m ≤ 30) : progD (.list (plainD ds)) = true ∧ (∀ x ∈ plainD ds, deedD x = true) ∧ unitsL (plainD ds) = unitsL ds ∧ NoAdj (plainD ds) ∧ (plainD ds).length ≤ ds.length := by
  have hs := sum_le g.work
  have hl := g.len
  obtain ⟨b1, b2, b3, b4⟩ := plain_fold ds [] (fun _ z => nomatch z) g.deed (by show (0 : Int) + _ ≤ 99; omega) (fun i a b h => by simp at h)
  have ll := fold_len ds []
  rw [List.length_nil, Nat.zero_add] at ll
  refine ⟨?_, b1, b2, b4, ll⟩
  show (if 40 < (plainD ds).length then false else ((plainD ds).all deedD && fitGo (plainD ds) [])) = true
  have ll : (plainD ds).length ≤ ds.length := ll
  rw [if_neg (by omega), Bool.and_eq_true]
  refine ⟨List.all_eq_true.mpr b1, ?_⟩
  have e := b3 [] []
  rw [List.append_nil, List.append_nil] at e
  show fitGo (ds.foldl plainStep []) [] = true
  rw [e]
  exact g.fit
theorem good_prog {ds : List PD} {m : Nat} (g : GoodP ds m) (hm : m ≤ 40) : progD (.list ds) = true := by
  have hl := g.len
  show (if 40 < ds.length then false else (ds.all deedD && fitGo ds [])) = true
  rw [if_neg (by omega), Bool.and_eq_true]
  exact ⟨List.all_eq_true.mpr g.deed, g.fit⟩
end K11

namespace K11
open PySem PySem.Spec PyProof.Rows L2 DA
/-! ### _law_true, _law_deeds -/
abbrev sLTrue : Stmt := top 23
abbrev nLTrue : List Str := ["_law_value", "_law_expected"]
theorem scLTrue : FnScope nLTrue ["_law_value", "_law_expected"] (defScope sLTrue) := ⟨rfl, rfl, rfl, by decide +kernel, rfl, by decide +kernel, by decide +kernel⟩
abbrev sLDeeds : Stmt := top 25
abbrev nLDeeds : List Str := ["_law_program_here", "_law_found", "_law_kind", "_law_number"]
theorem scLDeeds : FnScope nLDeeds ["_law_program_here"] (defScope sLDeeds) := ⟨rfl, rfl, rfl, by decide +kernel, rfl, by decide +kernel, by decide +kernel⟩
section
variable {P : Program} {w : World} {K : PySem.W.Frag} {mg : Str → Option Value} {base : Heap} {f : Addr} {fd : FuncData}
def spLTrue : Sp := fun vs H Q _ => ∃ a b : Bool, vs = [.bl a, .bl b] ∧ Q (.bl (decide (a = b))) H
theorem ok_ltrue (F : Fun K "_law_true" "_law_true" sLTrue f fd) (G : Glob mg) : FnOk P w K mg base CX0 1 f fd ["_law_value", "_law_expected"] spLTrue := by
  refine F.ok scLTrue (fun vs H Q E h => ?_) (fun cdv A outer s H vs Q E hr h => ?_)
  · obtain ⟨a, b, rfl, _⟩ := h
    rfl
  · obtain ⟨a, b, rfl, q⟩ := h
    refine ⟨_, (pss_one (ps_ret (pe_and (pe_callB call_isi (by rfl) G.isi boot_isinstance (pa_cons (pv 0) (pa_cons (pe_bltn (v := .ty "bool") (by rfl) G.bool (by decide +kernel) rfl) pa_nil))) (pe_one (pe_cmpR op_eq (pv 0) (pv 1) (nomark _)))))), ?_⟩
    refine ⟨.bl a, rfl, _, .ty "bool", _, _, _, rfl, .ty _, dp_ty (.bl a), kit_bool (H := H) (.bl a), _, rfl, iteT ?_⟩
    refine ⟨_, rfl, _, rfl, rfl, ?_⟩
    have e : decide (V.bl a = V.bl b) = decide (a = b) := by cases a <;> cases b <;> rfl
    show Q (.bl (decide (V.bl a = V.bl b))) H
    rw [e]
    exact q
def spLDeeds (K : PySem.W.Frag) : Sp := fun vs H Q _ => ∃ v ds, vs = [v] ∧ Dp K H v (.list ds) ∧ (∀ x ∈ ds, deedD x = true) ∧ (ds.map unitsD).sum ≤ 900 ∧ ∀ v' H', Dp K H' v' (.list (deedsL ds)) → Same H H' → Q v' H'
theorem flat_rep (m : Nat) (v : V) : (List.replicate m [v]).flatten = List.replicate m v := by
  induction m with
  | zero => rfl
  | succ m ih => rw [List.replicate_succ, List.flatten_cons, ih]; rfl
theorem dps_rep {H : Hp} {v : V} {d : PD} (h : Dp K H v d) : ∀ m : Nat, DpAll K H (List.replicate m v) (List.replicate m d)
  | 0 => .nil
  | m + 1 => .cons h (dps_rep h m)
theorem dps_same {H H1 : Hp} {vs : List V} {ds : List PD} (s : Same H H1) (h : DpAll K H vs ds) : DpAll K H1 vs ds := dps_keep (T := []) (.same s) (fun _ h => nomatch h) h
theorem units_take {ds : List PD} (h : ∀ x ∈ ds, deedD x = true) (i : Nat) : (unitsL (ds.take i)).length ≤ (unitsL ds).length := by
  have e : unitsL ds = unitsL (ds.take i) ++ unitsL (ds.drop i) := by rw [← unitsL_app, List.take_append_drop]
  rw [e, List.length_append]
  omega
theorem ok_ldeeds (F : Fun K "_law_deeds" "_law_deeds" sLDeeds f fd) (G : Glob mg) : FnOk P w K mg base CX0 1 f fd ["_law_program_here"] (spLDeeds K) := by
  refine F.ok scLDeeds (fun vs H Q E h => ?_) (fun cdv A outer s H vs Q E hr h => ?_)
  · obtain ⟨v, ds, rfl, _⟩ := h
    rfl
  · obtain ⟨v, ds, rfl, hv, hd, hs, q⟩ := h
    refine ⟨_, (pss_cons (ps_set (i := 1) scLDeeds.nd rfl (.inl rfl) (pe_lst pa_nil)) (pss_cons (ps_for PassesOwn.never rfl (pi_list (pv 0)) (pg_tup (by rfl) (pgs_cons (pg_name (i := 2) scLDeeds.nd rfl (.inl rfl)) (pgs_cons (pg_name (i := 3) scLDeeds.nd rfl (.inl rfl)) pgs_nil))) (pss_one (ps_set (i := 1) scLDeeds.nd rfl (.inl rfl) (pe_op op_cat (pv 1) (pe_ifExp (pt_cmpR op_eq (pv 2) pe_str (nomark _)) (pe_op op_rep (pe_lst (pa_cons (pe_tup (pa_cons pe_str (pa_cons pe_int pa_nil))) pa_nil)) (pv 3)) (pe_lst (pa_cons (pe_tup (pa_cons (pv 2) (pa_cons (pv 3) pa_nil))) pa_nil))))))) (pss_one (ps_ret (pe_op op_cat (pv 1) (pe_lst (pa_cons (pe_tup (pa_cons pe_str (pa_cons pe_int pa_nil))) pa_nil))))))), ?_⟩
    obtain ⟨a, xs, rfl, h, hD⟩ := dp_list hv
    have hl := dps_len hD
    have hlen := unitsL_len hd
    refine ⟨Nat.zero_le _, fun fo nfo => ?_⟩
    have sq : ∀ {H3}, Same H H3 → SqL K H3 a xs := fun {H3} s => s.seq h
    refine ⟨.ref a, rfl, a, rfl, ⟨xs, sq (same_new nfo)⟩, for_list (K := K) (a := a) (xs := xs) (fun i σ H3 => ∃ (p : Addr) (ys : List V) (y2 y3 : Option V), σ = [some (.ref a), some (.ref p), y2, y3] ∧ Same H H3 ∧ H3 p = some (.lst ys) ∧ DpAll K H3 ys (unitsL (ds.take i)))
      ⟨fo, [], none, none, rfl, same_new nfo, upd_same, .nil⟩ (fun i σ H3 _ ⟨_, _, _, _, _, k, _⟩ => sq k) ?_ ?_⟩
    · rintro i x σ H3 hx ⟨p, ys, y2, y3, rfl, s3, ep, hA⟩
      obtain ⟨d, hd1, hdp⟩ := dps_at hD hx
      have hi : i < ds.length := (List.getElem?_eq_some_iff.mp hd1).1
      have hdeed := hd d (List.mem_of_getElem? hd1)
      have hu1 := unitL_len hdeed
      have hup := units_pos hdeed
      obtain ⟨kk, n, rfl⟩ := deedD_pair hdeed
      obtain ⟨t, rfl, htt⟩ := pair_inv (dp_same s3 hdp)
      have etake : unitsL (ds.take (i + 1)) = unitsL (ds.take i) ++ unitL (.tuple [.str kk, .int n]) := by
        rw [List.take_add_one, hd1, unitsL_app]
        show _ ++ unitsL [_] = _
        rw [unitsL_one]
      have hb : ys.length + (unitL (.tuple [.str kk, .int n])).length ≤ 900 := by
        have h1 := units_take hd (i + 1)
        rw [etake, List.length_append] at h1
        rw [dps_len hA]
        omega
      have put : ∀ {Hx : Hp} {z : Addr} {zs : List V}, Same H3 Hx → Hx z = some (.lst zs) → DpAll K Hx zs (unitL (.tuple [.str kk, .int n])) → rCat (.ref p) (.ref z) Hx fun v H4 => ∃ (p : Addr) (ys : List V) (y2 y3 : Option V), [some (.ref a), some v, some (.str kk), some (.int n)] = [some (.ref a), some (.ref p), y2, y3] ∧ Same H H4 ∧ H4 p = some (.lst ys) ∧ DpAll K H4 ys (unitsL (ds.take (i + 1))) := fun {Hx z zs} sx ez hz => by
        refine ⟨p, z, ys, zs, rfl, rfl, sx _ _ ep, ez, ?_, fun r nr => ?_⟩
        · rw [dps_len hz]
          exact Nat.le_of_lt (small1000 (by omega))
        · refine ⟨r, _, _, _, rfl, (s3.trans sx).trans (same_new nr), upd_same, ?_⟩
          rw [etake]
          exact dps_append (dps_same (sx.trans (same_new nr)) hA) (dps_same (same_new nr) hz)
      refine ⟨t, _, rfl, htt, rfl, .str kk, [.int n], rfl, .int n, [], rfl, rfl, ?_⟩
      refine ⟨.ref p, rfl, .str kk, rfl, rfl, _, rfl, ite2 (fun e => ?_) fun e => ?_⟩
      · have e : kk = "work" := V.str.inj (of_decide_eq_true e)
        subst e
        rw [unitL_work] at put hb
        rw [List.length_replicate] at hb
        refine ⟨by show 2 ≤ sizeLine; decide, fun pt npt => ⟨by show 1 ≤ sizeLine; decide, fun pl npl => ?_⟩⟩
        refine ⟨.int n, rfl, pl, n, [.ref pt], rfl, rfl, upd_same, ?_, ?_, ?_, fun z nz => ?_⟩
        · obtain ⟨n1, n2⟩ := deed_work_inv hdeed
          omega
        · obtain ⟨n1, n2⟩ := deed_work_inv hdeed
          omega
        · rw [List.length_singleton, Nat.one_mul]
          exact Nat.le_of_lt (small1000 (by omega))
        · have s4 : Same H3 (upd (upd H3 pt (.tup [.str "work", .int 0])) pl (.lst [.ref pt])) := (same_new npt).trans (same_new npl)
          have ept : (upd (upd H3 pt (.tup [.str "work", .int 0])) pl (.lst [.ref pt])) pt = some (.tup [.str "work", .int 0]) := same_new npl _ _ upd_same
          refine put (s4.trans (same_new nz)) upd_same ?_
          rw [flat_rep]
          exact dps_rep (pair_dp (.of (same_new nz _ _ ept))) _
      · have e : ¬ kk = "work" := fun z => e (decide_eq_true (by rw [z]))
        rw [unitL_other e] at put hb
        refine ⟨.str kk, rfl, .int n, rfl, by show 2 ≤ sizeLine; decide, fun pt npt => ⟨by show 1 ≤ sizeLine; decide, fun pl npl => ?_⟩⟩
        exact put ((same_new npt).trans (same_new npl)) upd_same (.cons (pair_dp (.of (same_new npl _ _ upd_same))) .nil)
    · rintro σ H3 ⟨p, ys, y2, y3, rfl, s3, ep, hA⟩
      rw [hl, List.take_length] at hA
      have hyl : ys.length ≤ 900 := by
        rw [dps_len hA]
        omega
      refine ⟨.ref p, rfl, by show 2 ≤ sizeLine; decide, fun pt npt => ⟨by show 1 ≤ sizeLine; decide, fun pl npl => ?_⟩⟩
      have s4 : Same H3 (upd (upd H3 pt (.tup [.str "end", .int 0])) pl (.lst [.ref pt])) := (same_new npt).trans (same_new npl)
      refine ⟨p, pl, ys, [.ref pt], rfl, rfl, s4 _ _ ep, upd_same, Nat.le_of_lt (small1000 (by show ys.length + 1 ≤ 1000; omega)), fun r nr => ?_⟩
      refine q _ _ (.lst (.of upd_same) (dps_append (dps_same (s4.trans (same_new nr)) hA) ?_)) ((s3.trans s4).trans (same_new nr))
      exact .cons (pair_dp (.of (same_new nr _ _ (same_new npl _ _ upd_same)))) .nil
end
end K11

namespace K11
open PySem PySem.Spec PyProof.Rows L2 DA
/-! ### _law_other_list -/
abbrev sLOther : Stmt := top 26
abbrev nLOther : List Str := ["_law_draws", "_law_program_here", "_law_changed_list", "_law_at", "_law_good", "_law_now", "_law_kind", "_law_number", "_law_one"]
theorem scLOther : FnScope nLOther ["_law_draws", "_law_program_here"] (defScope sLOther) := ⟨rfl, rfl, rfl, by decide +kernel, rfl, by decide +kernel, by decide +kernel⟩
section
variable {P : Program} {w : World} {K : PySem.W.Frag} {mg : Str → Option Value} {base : Heap} {f : Addr} {fd : FuncData}
theorem eqv_nil (ns : List Int) : PyData.eqv (.list (ns.map .int)) (.list []) = ns.isEmpty := by cases ns <;> rfl
def spLOther (K : PySem.W.Frag) (T : List Addr) : Sp := fun vs H Q _ => ∃ (d nu : Addr) (v : V) (ds : List PD), vs = [.ref d, v] ∧ Dp K H v (.list ds) ∧ (∀ x ∈ ds, deedD x = true) ∧ ds.length ≤ 19 ∧ Tabs T H ∧ Drw H d nu ∧ ∀ H', Q (.bl true) H'
theorem ok_lother {T : List Addr} {fD fP fI fT cI : Addr} {fdD fdP fdI fdT : FuncData} (F : Fun K "_law_other_list" "_law_other_list" sLOther f fd) (G : Glob mg) (FD : Fun K "_law_draw" "_law_draw" sDraw fD fdD) (bD : Binds K fdD ["_law_draws", "_law_limit"] []) (gD : mg "_law_draw" = some (.ref fD))
    (FP : Fun K "_law_pick" "_law_pick" sPick fP fdP) (bP : Binds K fdP ["_law_draws", "_law_choices"] []) (gP : mg "_law_pick" = some (.ref fP))
    (FI : FunC K "is_program" "is_program" sProg fI fdI cI) (GI : FnOk P w K mg base CX0 4 fI fdI ["value"] (spProg K T)) (bI : Binds K fdI ["value"] []) (gI : mg "is_program" = some (.ref fI))
    (FT : Fun K "_law_true" "_law_true" sLTrue fT fdT) (bT : Binds K fdT ["_law_value", "_law_expected"] []) (gT : mg "_law_true" = some (.ref fT)) :
    FnOk P w K mg base CX0 5 f fd ["_law_draws", "_law_program_here"] (spLOther K T) := by
  have GD : FnOk P w K mg base CX0 1 fD fdD ["_law_draws", "_law_limit"] (spDraw T) := ok_draw FD G
  have GP : FnOk P w K mg base CX0 2 fP fdP ["_law_draws", "_law_choices"] (spPick K T) := ok_pick FP G FD bD gD
  have GT : FnOk P w K mg base CX0 1 fT fdT ["_law_value", "_law_expected"] spLTrue := ok_ltrue FT G
  refine F.ok scLOther (fun vs H Q E h => ?_) (fun cdv A outer s H vs Q E hr h => ?_)
  · obtain ⟨d, nu, v, ds, rfl, _⟩ := h
    rfl
  · obtain ⟨d, nu, v, ds, rfl, hv, hd, hl19, ht, hdr, q⟩ := h
    have hr1 : Room 1 _ := hr.mono (by decide)
    have hr2 : Room 2 _ := hr.mono (by decide)
    have hr4 : Room 4 _ := hr.mono (by decide)
    refine ⟨_, (pss_cons (ps_set (i := 2) scLOther.nd rfl (.inl rfl) (pe_callTy call_list_of (by rfl) G.list (by decide +kernel) (pa_cons (pv 1) pa_nil))) (pss_cons (ps_set (i := 3) scLOther.nd rfl (.inl rfl) (pe_call GD hr1 (by rfl) gD FD.kp bD .nil pass0 (pa_cons (pv 0) (pa_cons (pe_op op_add (pe_callB call_len_seq (by rfl) G.len PySem.boot_len (pa_cons (pv 2) pa_nil)) pe_int) pa_nil)))) (pss_cons (ps_set (i := 2) scLOther.nd rfl (.inl rfl) (pe_op op_cat (pe_op op_cat (pe_slice sl_list (pv 2) po_none (po_some (pv 3))) (pe_lst (pa_cons (pe_call GP hr2 (by rfl) gP FP.kp bP .nil pass0 (pa_cons (pv 0) (pa_cons (pe_lst (pa_cons (pe_tup (pa_cons pe_str (pa_cons pe_int pa_nil))) (pa_cons (pe_tup (pa_cons pe_str (pa_cons pe_int pa_nil))) (pa_cons (pe_tup (pa_cons pe_str (pa_cons pe_int pa_nil))) (pa_cons (pe_tup (pa_cons pe_str (pa_cons pe_int pa_nil))) pa_nil))))) pa_nil))) pa_nil))) (pe_slice sl_list (pv 2) (po_some (pv 3)) po_none))) (pss_cons (ps_par (i := 4) (j := 5) rfl scLOther.nd rfl rfl (by decide) rfl rfl (pa_cons pe_bl (pa_cons (pe_lst pa_nil) pa_nil)) (by rfl)) (pss_cons (ps_for PassesOwn.never rfl (pi_list (pv 2)) (pg_tup (by rfl) (pgs_cons (pg_name (i := 6) scLOther.nd rfl (.inl rfl)) (pgs_cons (pg_name (i := 7) scLOther.nd rfl (.inr rfl)) pgs_nil))) (pss_cons (ps_if (pt_cmpR op_eq (pv 6) pe_str (nomark _)) (pss_cons (ps_set (i := 4) scLOther.nd rfl (.inl rfl) (pe_and (pv 4) (pe_one (pe_cmpR op_notIn_seq (pv 7) (pv 5) (by rfl))))) (pss_one (ps_set (i := 5) scLOther.nd rfl (.inl rfl) (pe_op op_cat (pv 5) (pe_lst (pa_cons (pv 7) pa_nil)))))) pss_nil) (pss_cons (ps_if (pt_cmpR op_eq (pv 6) pe_str (nomark _)) (pss_cons (ps_set (i := 4) scLOther.nd rfl (.inl rfl) (pe_and (pv 4) (pe_one (pe_cmpR op_in_seq (pv 7) (pv 5) (by rfl))))) (pss_one (ps_setLc (i := 5) (own := [("_law_one", 8)]) (g := gName 8) (tt := tTest (tOp rNe (tVar 8) (tVar 7))) (te := tVar 8) rfl scLOther.nd rfl rfl (sw_true rfl rfl rfl (by decide +kernel)) (pi_list (pv 5)) (blkOk_by (N := nLOther) (sc := defScope sLOther) (by decide +kernel)) (fun _ _ _ _ _ => (pg_name (i := 8) scLOther.nd rfl (.inl rfl))) (fun _ _ _ _ _ => pts_one (pt_cmpR op_ne (pv 8) (pv 7) (nomark _))) (fun _ _ _ _ _ => (pv 8))))) pss_nil) (pss_one (ps_if (pt_cmpR op_eq (pv 6) pe_str (nomark _)) (pss_one (ps_set (i := 4) scLOther.nd rfl (.inl rfl) (pe_and (pv 4) (pe_one (pe_cmpR (op_eqD hr.units) (pv 5) (pe_lst pa_nil) (nomark _)))))) pss_nil))))) (pss_one (ps_ret (pe_call GT hr1 (by rfl) gT FT.kp bT .nil pass0 (pa_cons (pe_call GI hr4 (by rfl) gI FI.fun.kp bI .nil pass0 (pa_cons (pv 2) pa_nil)) (pa_cons (pe_and (pv 4) (pe_and (pe_cmpR (op_eqD hr.units) (pv 5) (pe_lst pa_nil) (nomark _)) (pe_one (pe_cmpR op_le (pe_callB call_len_seq (by rfl) G.len PySem.boot_len (pa_cons (pv 2) pa_nil)) pe_int (nomark _))))) pa_nil)))))))))), ?_⟩
    obtain ⟨a, xs, rfl, h, hD⟩ := dp_list hv
    have hl := dps_len hD
    have hpair : ∀ x ∈ ds, isPair x := fun x hx => deedD_pair (hd x hx)
    have xl : xs.length ≤ 19 := by rw [hl]; exact hl19
    refine ⟨.ref a, rfl, a, xs, rfl, .inl h, fun c nc => ?_⟩
    obtain ⟨nc1, nc2⟩ := hdr.ne nc
    have F1 := Frm.keep hdr ht (Keep.new (T := T) (o := .lst xs) nc)
    have D1 := dps_same (same_new (o := .lst xs) nc) hD
    have e1c : (upd H c (.lst xs)) c = some (.lst xs) := upd_same
    generalize hH1 : upd H c (.lst xs) = H1 at F1 D1 e1c
    have t1 := F1.tabs ht
    refine ⟨.ref d, rfl, .ref c, rfl, c, xs, rfl, .inl (.of e1c), _, 1, rfl, rfl, d, nu, (xs.length : Int) + 1, rfl, by omega, by omega, F1.drw, fun r H2 r0 r1 fr2 => ?_⟩
    have F2 := F1.trans fr2
    have t2 := F2.tabs ht
    have e2c := fr2.lst t1 e1c nc1 nc2
    have D2 := fr2.pairs F1.drw t1 D1 hpair
    -- the parts
    refine ⟨.ref c, rfl, .int r, rfl, r, rfl, c, xs, rfl, .inl (.of e2c), fun s1 ns1 => ?_⟩
    refine ⟨.ref d, rfl, by show 2 ≤ sizeLine; decide, fun p1 np1 => ⟨by show 2 ≤ sizeLine; decide, fun p2 np2 => ⟨by show 2 ≤ sizeLine; decide, fun p3 np3 => ⟨by show 2 ≤ sizeLine; decide, fun p4 np4 => ⟨by show 4 ≤ sizeLine; decide, fun pl npl => ?_⟩⟩⟩⟩⟩
    have S1 := same_new (o := .lst (cutV xs none (some r))) ns1
    have S2 := S1.trans (same_new (o := .tup [.str "take", .int 0]) np1)
    have S3 := S2.trans (same_new (o := .tup [.str "give", .int 1]) np2)
    have S4 := S3.trans (same_new (o := .tup [.str "sleep", .int 1]) np3)
    have S5 := S4.trans (same_new (o := .tup [.str "work", .int 2]) np4)
    have S6 := S5.trans (same_new (o := .lst [.ref p1, .ref p2, .ref p3, .ref p4]) npl)
    have g1 : SqT K _ p1 [.str "take", .int 0] := .of (same_new (o := .lst [.ref p1, .ref p2, .ref p3, .ref p4]) npl _ _ (same_new (o := .tup [.str "work", .int 2]) np4 _ _ (same_new (o := .tup [.str "sleep", .int 1]) np3 _ _ (same_new (o := .tup [.str "give", .int 1]) np2 _ _ upd_same))))
    have g2 : SqT K _ p2 [.str "give", .int 1] := .of (same_new (o := .lst [.ref p1, .ref p2, .ref p3, .ref p4]) npl _ _ (same_new (o := .tup [.str "work", .int 2]) np4 _ _ (same_new (o := .tup [.str "sleep", .int 1]) np3 _ _ upd_same)))
    have g3 : SqT K _ p3 [.str "sleep", .int 1] := .of (same_new (o := .lst [.ref p1, .ref p2, .ref p3, .ref p4]) npl _ _ (same_new (o := .tup [.str "work", .int 2]) np4 _ _ upd_same))
    have g4 : SqT K _ p4 [.str "work", .int 2] := .of (same_new (o := .lst [.ref p1, .ref p2, .ref p3, .ref p4]) npl _ _ upd_same)
    have e3s := (same_new (o := .lst [.ref p1, .ref p2, .ref p3, .ref p4]) npl) _ _ ((same_new (o := .tup [.str "work", .int 2]) np4) _ _ ((same_new (o := .tup [.str "sleep", .int 1]) np3) _ _ ((same_new (o := .tup [.str "give", .int 1]) np2) _ _ ((same_new (o := .tup [.str "take", .int 0]) np1) _ _ (show (upd H2 s1 (.lst (cutV xs none (some r)))) s1 = _ from upd_same)))))
    have npl2 : H2 pl = none := S5.free npl
    generalize hH3 : upd (upd (upd (upd (upd (upd H2 s1 (.lst (cutV xs none (some r)))) p1 (.tup [.str "take", .int 0])) p2 (.tup [.str "give", .int 1])) p3 (.tup [.str "sleep", .int 1])) p4 (.tup [.str "work", .int 2])) pl (.lst [.ref p1, .ref p2, .ref p3, .ref p4]) = H3 at S6 g1 g2 g3 g4 e3s
    have e3l : H3 pl = some (.lst [.ref p1, .ref p2, .ref p3, .ref p4]) := by rw [← hH3]; exact upd_same
    have F3' := Frm.keep F2.drw t2 (Keep.same (T := T) S6)
    have F3 := F2.trans F3'
    have t3 := F3.tabs ht
    have e3c := S6 _ _ e2c
    obtain ⟨ns11, ns12⟩ := F2.drw.ne ns1
    obtain ⟨npl11, npl12⟩ := F2.drw.ne npl2
    refine ⟨d, nu, pl, _, rfl, e3l, npl11, npl12, nT_of t3 e3l (fun ps z => by cases z), by show 1 ≤ 4; decide, by show 4 ≤ 1000; decide, F3.drw, fun j v H4 hv fr4 => ?_⟩
    have DD : DpAll K H3 [.ref p1, .ref p2, .ref p3, .ref p4] [.tuple [.str "take", .int 0], .tuple [.str "give", .int 1], .tuple [.str "sleep", .int 1], .tuple [.str "work", .int 2]] := .cons (pair_dp g1) (.cons (pair_dp g2) (.cons (pair_dp g3) (.cons (pair_dp g4) .nil)))
    have dall : ∀ x ∈ ([.tuple [.str "take", .int 0], .tuple [.str "give", .int 1], .tuple [.str "sleep", .int 1], .tuple [.str "work", .int 2]] : List PD), deedD x = true := fun x hx => by
      simp only [List.mem_cons, List.not_mem_nil, or_false] at hx
      rcases hx with z | z | z | z <;> rw [z]
      · exact deed_lock (.inl rfl) (.inl rfl)
      · exact deed_lock (.inr rfl) (.inr rfl)
      · exact deed_work (.inr rfl) (by decide) (by decide)
      · exact deed_work (.inl rfl) (by decide) (by decide)
    obtain ⟨dx, hdx, hdpx⟩ := dps_at (fr4.pairs F3.drw t3 DD fun x hx => deedD_pair (dall x hx)) hv
    have hdx := dall dx (List.mem_of_getElem? hdx)
    have F4 := F3.trans fr4
    have t4 := F4.tabs ht
    have e4c := fr4.lst t3 e3c nc1 nc2
    have e4s := fr4.lst t3 e3s ns11 ns12
    have D4 := fr4.pairs F3.drw t3 (dps_same S6 D2) hpair
    refine ⟨by show 1 ≤ sizeLine; decide, fun q1 nq1 => ?_⟩
    have c1 := cutV_length xs none (some r)
    have c2 := cutV_length xs (some r) none
    refine ⟨s1, q1, _, _, rfl, rfl, same_new nq1 _ _ e4s, upd_same, Nat.le_of_lt (small1000 (by show (cutV xs none (some r)).length + 1 ≤ 1000; omega)), fun s2 ns2 => ?_⟩
    have e5s2 : (upd (upd H4 q1 (.lst [v])) s2 (.lst (cutV xs none (some r) ++ [v]))) s2 = some (.lst (cutV xs none (some r) ++ [v])) := upd_same
    have S7 := (same_new (o := .lst [v]) nq1).trans (same_new (o := .lst (cutV xs none (some r) ++ [v])) ns2)
    refine ⟨.ref c, rfl, .int r, rfl, r, rfl, c, xs, rfl, .inl (.of (S7 _ _ e4c)), fun s3 ns3 => ?_⟩
    have S8 := S7.trans (same_new (o := .lst (cutV xs (some r) none)) ns3)
    refine ⟨s2, s3, _, _, rfl, rfl, same_new ns3 _ _ e5s2, upd_same, Nat.le_of_lt (small1000 (by rw [List.length_append]; show (cutV xs none (some r)).length + 1 + _ ≤ 1000; omega)), fun cc ncc => ?_⟩
    have S9 := S8.trans (same_new (o := .lst (cutV xs none (some r) ++ [v] ++ cutV xs (some r) none)) ncc)
    refine ⟨Nat.zero_le _, fun no nno => ⟨.bl true, .ref no, rfl, ?_⟩⟩
    have S10 := S9.trans (same_new (o := .lst []) nno)
    have e5c := same_new (o := .lst []) nno cc _ upd_same
    -- the list that is asked about
    obtain ⟨cds, ys, D5, hyl, cdd, hcl, e5c⟩ : ∃ (cds : List PD) (ys : List V), DpAll K (upd (upd (upd (upd (upd H4 q1 (.lst [v])) s2 (.lst (cutV xs none (some r) ++ [v]))) s3 (.lst (cutV xs (some r) none))) cc (.lst (cutV xs none (some r) ++ [v] ++ cutV xs (some r) none))) no (.lst [])) ys cds ∧ ys.length ≤ 40 ∧ (∀ x ∈ cds, deedD x = true) ∧ cds.length ≤ 40 ∧
        (upd (upd (upd (upd (upd H4 q1 (.lst [v])) s2 (.lst (cutV xs none (some r) ++ [v]))) s3 (.lst (cutV xs (some r) none))) cc (.lst (cutV xs none (some r) ++ [v] ++ cutV xs (some r) none))) no (.lst [])) cc = some (.lst ys) := by
      refine ⟨((ds.drop (HT.sIx xs.length 0 none)).take (HT.sIx xs.length xs.length (some r) - HT.sIx xs.length 0 none)) ++ [dx] ++ ((ds.drop (HT.sIx xs.length 0 (some r))).take (HT.sIx xs.length xs.length none - HT.sIx xs.length 0 (some r))), cutV xs none (some r) ++ [v] ++ cutV xs (some r) none, dps_same S10 (dps_append (dps_append (dps_take _ (dps_drop _ D4)) (.cons hdpx .nil)) (dps_take _ (dps_drop _ D4))), ?_, ?_, ?_, e5c⟩
      · rw [List.length_append, List.length_append]
        show (cutV xs none (some r)).length + 1 + _ ≤ 40
        omega
      · intro x hx
        rw [List.mem_append, List.mem_append] at hx
        rcases hx with (z | z) | z
        · exact hd x (List.mem_of_mem_drop (List.mem_of_mem_take z))
        · rw [List.mem_singleton.mp z]; exact hdx
        · exact hd x (List.mem_of_mem_drop (List.mem_of_mem_take z))
      · have l1 : ((ds.drop (HT.sIx xs.length 0 none)).take (HT.sIx xs.length xs.length (some r) - HT.sIx xs.length 0 none)).length ≤ ds.length := by rw [List.length_take, List.length_drop]; omega
        have l2 : ((ds.drop (HT.sIx xs.length 0 (some r))).take (HT.sIx xs.length xs.length none - HT.sIx xs.length 0 (some r))).length ≤ ds.length := by rw [List.length_take, List.length_drop]; omega
        rw [List.length_append, List.length_append]
        show _ + 1 + _ ≤ 40
        omega
    have t5 : Tabs T (upd (upd (upd (upd (upd H4 q1 (.lst [v])) s2 (.lst (cutV xs none (some r) ++ [v]))) s3 (.lst (cutV xs (some r) none))) cc (.lst (cutV xs none (some r) ++ [v] ++ cutV xs (some r) none))) no (.lst [])) := (Keep.same S10).tabs t4
    have e5n : (upd (upd (upd (upd (upd H4 q1 (.lst [v])) s2 (.lst (cutV xs none (some r) ++ [v]))) s3 (.lst (cutV xs (some r) none))) cc (.lst (cutV xs none (some r) ++ [v] ++ cutV xs (some r) none))) no (.lst [])) no = some (.lst []) := upd_same
    generalize upd (upd (upd (upd (upd H4 q1 (.lst [v])) s2 (.lst (cutV xs none (some r) ++ [v]))) s3 (.lst (cutV xs (some r) none))) cc (.lst (cutV xs none (some r) ++ [v] ++ cutV xs (some r) none))) no (.lst []) = H5 at D5 e5c t5 e5n ⊢
    have hl5 := dps_len D5
    refine ⟨.ref cc, rfl, cc, rfl, ⟨ys, .of e5c⟩, for_list (K := K) (a := cc) (xs := ys) (fun i σ H3 => ∃ (g : Bool) (nw : Addr) (now : List Int) (y6 y7 y8 : Option V), σ = [some (.ref d), some (.ref a), some (.ref cc), some (.int r), some (.bl g), some (.ref nw), y6, y7, y8] ∧ Same H5 H3 ∧ H3 nw = some (.lst (now.map V.int)) ∧ now.length ≤ i ∧ (g = true → now.Nodup ∧ fitGo cds [] = fitGo (cds.drop i) now) ∧ (g = false → fitGo cds [] = false))
      ⟨true, no, [], none, none, none, rfl, Same.refl _, e5n, Nat.zero_le _, fun _ => ⟨List.nodup_nil, rfl⟩, fun z => by cases z⟩ (fun i σ H3 _ ⟨_, _, _, _, _, _, _, s3, _⟩ => .of (s3 _ _ e5c)) ?_ ?_⟩
    · rintro i x σ H3 hx ⟨g, nw, now, y6, y7, y8, rfl, s3, e3, hnl, hg, hgf⟩
      obtain ⟨dd, hdd, hdp⟩ := dps_at D5 hx
      have hi : i < cds.length := (List.getElem?_eq_some_iff.mp hdd).1
      obtain ⟨kk, n, rfl⟩ := deedD_pair (cdd dd (List.mem_of_getElem? hdd))
      obtain ⟨t, rfl, htt⟩ := pair_inv (dps_same s3 (.cons hdp .nil) |> fun z => by cases z with | cons a r => exact a)
      have edrop : cds.drop i = .tuple [.str kk, .int n] :: cds.drop (i + 1) := by
        rw [List.drop_eq_getElem_cons hi, (List.getElem?_eq_some_iff.mp hdd).2]
      rw [edrop, fit_step] at hg
      have lenN : (now.map V.int).length + 1 ≤ sizeLine := Nat.le_of_lt (small1000 (by rw [List.length_map]; omega))
      have fin : ∀ (g' : Bool) (nw' : Addr) (now' : List Int) {Hx : Hp} {y8' : Option V}, Same H3 Hx → Hx nw' = some (.lst (now'.map V.int)) → now'.length ≤ i + 1 → (g' = true → now'.Nodup ∧ fitGo cds [] = fitGo (cds.drop (i + 1)) now') → (g' = false → fitGo cds [] = false) →
          ∃ (g : Bool) (nw : Addr) (now : List Int) (y6 y7 y8 : Option V), [some (.ref d), some (.ref a), some (.ref cc), some (.int r), some (.bl g'), some (.ref nw'), some (.str kk), some (.int n), y8'] = [some (.ref d), some (.ref a), some (.ref cc), some (.int r), some (.bl g), some (.ref nw), y6, y7, y8] ∧ Same H5 Hx ∧ Hx nw = some (.lst (now.map V.int)) ∧ now.length ≤ i + 1 ∧ (g = true → now.Nodup ∧ fitGo cds [] = fitGo (cds.drop (i + 1)) now) ∧ (g = false → fitGo cds [] = false) :=
        fun g' nw' now' {Hx y8'} sx ex hx1 hx2 hx3 => ⟨g', nw', now', _, _, _, rfl, s3.trans sx, ex, hx1, hx2, hx3⟩
      have inE : ∀ neg : Bool, (if neg = true then !inV (.int n) (now.map V.int) else inV (.int n) (now.map V.int)) = if neg = true then !decide (n ∈ now) else decide (n ∈ now) := fun neg => by rw [inV_ints]
      have lcS : ∀ {D : Addr} {gg : Bool}, H3 D = none → ∀ (j : Nat) (x : V) (H6 : Hp), (now.map V.int)[j]? = some x → (Same H3 H6 ∧ H6 D = some (.lst (((now.take j).filter fun l => decide (l ≠ n)).map V.int))) →
          gName 8 x (wipe [some (.ref d), some (.ref a), some (.ref cc), some (.int r), some (.bl gg), some (.ref nw), some (.str "give"), some (.int n), y8] [8]) H6 fun σ2 H2 => wipe σ2 [8] = wipe [some (.ref d), some (.ref a), some (.ref cc), some (.int r), some (.bl gg), some (.ref nw), some (.str "give"), some (.int n), y8] [8] ∧ (tTest (tOp rNe (tVar 8) (tVar 7))) σ2 H2 fun b H3' =>
            if b = true then tVar 8 σ2 H3' fun y H4 => ∃ acc, H4 D = some (.lst acc) ∧ acc.length < sizeLine ∧ (Same H3 (upd H4 D (.lst (acc ++ [y]))) ∧ (upd H4 D (.lst (acc ++ [y]))) D = some (.lst (((now.take (j + 1)).filter fun l => decide (l ≠ n)).map V.int))) else (Same H3 H3' ∧ H3' D = some (.lst (((now.take (j + 1)).filter fun l => decide (l ≠ n)).map V.int))) := by
        rintro D gg nD j x H6 hx ⟨s6, e6⟩
        have hj : j < now.length := by
          have := (List.getElem?_eq_some_iff.mp hx).1
          rwa [List.length_map] at this
        have ex : x = .int now[j] := by
          rw [List.getElem?_map, List.getElem?_eq_getElem hj] at hx
          exact (Option.some.inj hx).symm
        subst ex
        have et : now.take (j + 1) = now.take j ++ [now[j]] := by rw [List.take_add_one, List.getElem?_eq_getElem hj]; rfl
        refine ⟨rfl, .int now[j], rfl, .int n, rfl, rfl, _, rfl, ite2 (fun e => ?_) fun e => ?_⟩
        · have hne : now[j] ≠ n := fun z => by rw [z] at e; simp at e
          refine ⟨_, rfl, _, e6, ?_, ?_, ?_⟩
          · refine small1000 ?_
            rw [List.length_map]
            refine Nat.le_trans (List.length_filter_le _ _) (Nat.le_trans (List.length_take_le' ..) (by omega))
          · exact fun b o e => by rw [upd_ne (ne_of_none e nD)]; exact s6 b o e
          · rw [upd_same, et, List.filter_append, List.map_append]
            have : ([now[j]].filter fun l => decide (l ≠ n)) = [now[j]] := by simp [hne]
            rw [this]; rfl
        · have hne : now[j] = n := by
            by_cases z : now[j] = n
            · exact z
            · exact absurd (by simp [z]) e
          refine ⟨s6, ?_⟩
          rw [et, List.filter_append]
          have : ([now[j]].filter fun l => decide (l ≠ n)) = [] := by simp [hne]
          rw [this, List.append_nil]
          exact e6
      refine ⟨t, _, rfl, htt, rfl, .str kk, [.int n], rfl, .int n, [], rfl, rfl, ?_⟩
      by_cases k1 : kk = "take"
      · subst k1
        rw [if_neg (fun z => ts' z.1), if_pos rfl] at hg
        refine ⟨.str "take", rfl, rfl, _, rfl, ite2 (fun _ => ?_) fun z => absurd (by decide +kernel) z⟩
        rcases (show (g = true ∧ n ∉ now) ∨ (g = true ∧ n ∈ now) ∨ g = false by cases g <;> by_cases n ∈ now <;> simp_all) with ⟨rfl, hm⟩ | ⟨rfl, hm⟩ | rfl
        · refine ⟨.bl true, rfl, true, rfl, iteT ⟨.int n, rfl, .ref nw, rfl, nw, _, rfl, .inl (.of e3), rfl, flat_ints _, ?_⟩⟩
          rw [inE, if_pos rfl, decide_eq_false hm]
          obtain ⟨hg1, hg2⟩ := hg rfl
          rw [if_neg hm] at hg2
          refine ⟨.ref nw, rfl, .int n, rfl, by show 1 ≤ sizeLine; decide, fun q1 nq1 => ⟨nw, q1, _, _, rfl, rfl, same_new nq1 _ _ e3, upd_same, lenN, fun q2 nq2 => ?_⟩⟩
          refine ⟨.str "take", rfl, rfl, _, rfl, ite2 (fun z => absurd z (by decide +kernel)) fun _ => ?_⟩
          refine ⟨.str "take", rfl, rfl, _, rfl, ite2 (fun z => absurd z (by decide +kernel)) fun _ => ?_⟩
          exact fin true q2 (now ++ [n]) ((same_new nq1).trans (same_new nq2)) (by rw [upd_same, List.map_append]; rfl) (by rw [List.length_append]; exact Nat.succ_le_succ hnl) (fun _ => ⟨by rw [List.nodup_append]; exact ⟨hg1, by simp, fun a ha b hb => by rw [List.mem_singleton.mp hb]; exact fun z => hm (z ▸ ha)⟩, hg2⟩) (fun z => by cases z)
        · refine ⟨.bl true, rfl, true, rfl, iteT ⟨.int n, rfl, .ref nw, rfl, nw, _, rfl, .inl (.of e3), rfl, flat_ints _, ?_⟩⟩
          rw [inE, if_pos rfl, decide_eq_true hm]
          obtain ⟨hg1, hg2⟩ := hg rfl
          rw [if_pos hm] at hg2
          refine ⟨.ref nw, rfl, .int n, rfl, by show 1 ≤ sizeLine; decide, fun q1 nq1 => ⟨nw, q1, _, _, rfl, rfl, same_new nq1 _ _ e3, upd_same, lenN, fun q2 nq2 => ?_⟩⟩
          refine ⟨.str "take", rfl, rfl, _, rfl, ite2 (fun z => absurd z (by decide +kernel)) fun _ => ?_⟩
          refine ⟨.str "take", rfl, rfl, _, rfl, ite2 (fun z => absurd z (by decide +kernel)) fun _ => ?_⟩
          exact fin false q2 (now ++ [n]) ((same_new nq1).trans (same_new nq2)) (by rw [upd_same, List.map_append]; rfl) (by rw [List.length_append]; exact Nat.succ_le_succ hnl) (fun z => by cases z) (fun _ => hg2)
        · refine ⟨.bl false, rfl, false, rfl, iteF ?_⟩
          refine ⟨.ref nw, rfl, .int n, rfl, by show 1 ≤ sizeLine; decide, fun q1 nq1 => ⟨nw, q1, _, _, rfl, rfl, same_new nq1 _ _ e3, upd_same, lenN, fun q2 nq2 => ?_⟩⟩
          refine ⟨.str "take", rfl, rfl, _, rfl, ite2 (fun z => absurd z (by decide +kernel)) fun _ => ?_⟩
          refine ⟨.str "take", rfl, rfl, _, rfl, ite2 (fun z => absurd z (by decide +kernel)) fun _ => ?_⟩
          exact fin false q2 (now ++ [n]) ((same_new nq1).trans (same_new nq2)) (by rw [upd_same, List.map_append]; rfl) (by rw [List.length_append]; exact Nat.succ_le_succ hnl) (fun z => by cases z) hgf
      · refine ⟨.str kk, rfl, rfl, _, rfl, ite2 (fun z => absurd (V.str.inj (of_decide_eq_true z)) k1) fun _ => ?_⟩
        by_cases k2 : kk = "give"
        · subst k2
          rw [if_neg (fun z => gs z.1), if_neg gt, if_pos rfl] at hg
          refine ⟨.str "give", rfl, rfl, _, rfl, ite2 (fun _ => ?_) fun z => absurd (by decide +kernel) z⟩
          rcases (show (g = true ∧ n ∈ now) ∨ (g = true ∧ n ∉ now) ∨ g = false by cases g <;> by_cases n ∈ now <;> simp_all) with ⟨rfl, hm⟩ | ⟨rfl, hm⟩ | rfl
          · refine ⟨.bl true, rfl, true, rfl, iteT ⟨.int n, rfl, .ref nw, rfl, nw, _, rfl, .inl (.of e3), rfl, flat_ints _, ?_⟩⟩
            rw [inE, if_neg (by decide), decide_eq_true hm]
            obtain ⟨hg1, hg2⟩ := hg rfl
            rw [if_pos hm] at hg2
            refine ⟨.ref nw, rfl, nw, rfl, ⟨_, .inl (.of e3)⟩, fun D nD => lc_list (a := nw) (xs := now.map V.int) (fun j H6 => Same H3 H6 ∧ H6 D = some (.lst (((now.take j).filter fun l => decide (l ≠ n)).map V.int))) ⟨same_new nD, upd_same⟩ (fun j H6 _ ⟨s6, _⟩ => .inl (.of (s6 _ _ e3))) (lcS nD) ?_⟩
            rintro H6 ⟨s6, e6⟩
            rw [List.length_map, List.take_length] at e6
            refine ⟨.str "give", rfl, rfl, _, rfl, ite2 (fun z => absurd z (by decide +kernel)) fun _ => ?_⟩
            exact fin true D (now.filter fun l => decide (l ≠ n)) s6 e6 (Nat.le_trans (List.length_filter_le _ _) (Nat.le_succ_of_le hnl)) (fun _ => ⟨hg1.filter _, by rw [hg2, hg1.erase_eq_filter]; simp only [bne, ne_eq, decide_not]; rfl⟩) (fun z => by cases z)
          · refine ⟨.bl true, rfl, true, rfl, iteT ⟨.int n, rfl, .ref nw, rfl, nw, _, rfl, .inl (.of e3), rfl, flat_ints _, ?_⟩⟩
            rw [inE, if_neg (by decide), decide_eq_false hm]
            obtain ⟨hg1, hg2⟩ := hg rfl
            rw [if_neg hm] at hg2
            refine ⟨.ref nw, rfl, nw, rfl, ⟨_, .inl (.of e3)⟩, fun D nD => lc_list (a := nw) (xs := now.map V.int) (fun j H6 => Same H3 H6 ∧ H6 D = some (.lst (((now.take j).filter fun l => decide (l ≠ n)).map V.int))) ⟨same_new nD, upd_same⟩ (fun j H6 _ ⟨s6, _⟩ => .inl (.of (s6 _ _ e3))) (lcS nD) ?_⟩
            rintro H6 ⟨s6, e6⟩
            rw [List.length_map, List.take_length] at e6
            refine ⟨.str "give", rfl, rfl, _, rfl, ite2 (fun z => absurd z (by decide +kernel)) fun _ => ?_⟩
            exact fin false D (now.filter fun l => decide (l ≠ n)) s6 e6 (Nat.le_trans (List.length_filter_le _ _) (Nat.le_succ_of_le hnl)) (fun z => by cases z) (fun _ => hg2)
          · refine ⟨.bl false, rfl, false, rfl, iteF ?_⟩
            refine ⟨.ref nw, rfl, nw, rfl, ⟨_, .inl (.of e3)⟩, fun D nD => lc_list (a := nw) (xs := now.map V.int) (fun j H6 => Same H3 H6 ∧ H6 D = some (.lst (((now.take j).filter fun l => decide (l ≠ n)).map V.int))) ⟨same_new nD, upd_same⟩ (fun j H6 _ ⟨s6, _⟩ => .inl (.of (s6 _ _ e3))) (lcS nD) ?_⟩
            rintro H6 ⟨s6, e6⟩
            rw [List.length_map, List.take_length] at e6
            refine ⟨.str "give", rfl, rfl, _, rfl, ite2 (fun z => absurd z (by decide +kernel)) fun _ => ?_⟩
            exact fin false D (now.filter fun l => decide (l ≠ n)) s6 e6 (Nat.le_trans (List.length_filter_le _ _) (Nat.le_succ_of_le hnl)) (fun z => by cases z) hgf
        · refine ⟨.str kk, rfl, rfl, _, rfl, ite2 (fun z => absurd (V.str.inj (of_decide_eq_true z)) k2) fun _ => ?_⟩
          rw [if_neg k1, if_neg k2] at hg
          by_cases k3 : kk = "sleep"
          · subst k3
            refine ⟨.str "sleep", rfl, rfl, _, rfl, ite2 (fun _ => ?_) fun z => absurd (by decide +kernel) z⟩
            cases g with
            | false =>
              refine ⟨.bl false, rfl, false, rfl, iteF ?_⟩
              exact fin false nw now (Same.refl _) e3 (Nat.le_succ_of_le hnl) (fun z => by cases z) hgf
            | true =>
              obtain ⟨hg1, hg2⟩ := hg rfl
              refine ⟨.bl true, rfl, true, rfl, iteT ⟨.ref nw, rfl, Nat.zero_le _, fun pe npe => ⟨.list (now.map .int), .list [], .lst (.of (same_new npe _ _ e3)) (dps_ints now), .lst (.of upd_same) .nil, ints_shaped now, rfl, ?_⟩⟩⟩
              have e8 := eqv_nil now
              rw [e8]
              cases now with
              | nil =>
                rw [if_neg (fun z => z.2 rfl)] at hg2
                exact fin true nw [] (same_new npe) (same_new npe _ _ e3) (Nat.zero_le _) (fun _ => ⟨hg1, hg2⟩) (fun z => by cases z)
              | cons m ms =>
                rw [if_pos ⟨rfl, by simp⟩] at hg2
                exact fin false nw (m :: ms) (same_new npe) (same_new npe _ _ e3) (Nat.le_succ_of_le hnl) (fun z => by cases z) (fun _ => hg2)
          · refine ⟨.str kk, rfl, rfl, _, rfl, ite2 (fun z => absurd (V.str.inj (of_decide_eq_true z)) k3) fun _ => ?_⟩
            rw [if_neg (fun z => k3 z.1)] at hg
            exact fin g nw now (Same.refl _) e3 (Nat.le_succ_of_le hnl) hg hgf
    · rintro σ H3 ⟨g, nw, now, y6, y7, y8, rfl, s3, e3, hnl, hg, hgf⟩
      rw [hl5, List.drop_length] at hg
      have hprog : progD (.list cds) = fitGo cds [] := by
        show (if 40 < cds.length then false else (cds.all deedD && fitGo cds [])) = _
        rw [if_neg (by omega), List.all_eq_true.mpr cdd, Bool.true_and]
      have t6 := (Keep.same s3).tabs t5
      refine ⟨.ref cc, rfl, .ref cc, .list cds, rfl, .lst (.of (s3 _ _ e5c)) (dps_same s3 D5), t6, fun H6 k6 => ?_⟩
      have e6 := k6.lst t6 e3
      have e6c := k6.lst t6 (s3 _ _ e5c)
      have done : ∀ (b : Bool) (Hx : Hp), b = fitGo cds [] → ∃ a b' : Bool, [V.bl (progD (.list cds)), V.bl b] = [V.bl a, V.bl b'] ∧ Q (.bl (decide (a = b'))) Hx := fun b Hx e => ⟨_, _, rfl, by rw [hprog, ← e, decide_eq_true rfl]; exact q Hx⟩
      cases g with
      | false =>
        refine ⟨.bl false, rfl, false, rfl, iteF ?_⟩
        exact done false _ (hgf rfl).symm
      | true =>
        obtain ⟨hg1, hg2⟩ := hg rfl
        refine ⟨.bl true, rfl, true, rfl, iteT ⟨.ref nw, rfl, Nat.zero_le _, fun pe npe => ⟨.list (now.map .int), .list [], .lst (.of (same_new npe _ _ e6)) (dps_ints now), .lst (.of upd_same) .nil, ints_shaped now, rfl, _, rfl, ?_⟩⟩⟩
        rw [eqv_nil now]
        cases now with
        | nil =>
          refine iteT ⟨.ref cc, rfl, cc, ys, rfl, .inl (.of (same_new npe _ _ e6c)), _, 40, rfl, rfl, ?_⟩
          refine done _ _ ?_
          rw [hg2]
          show decide ((ys.length : Int) ≤ 40) = true
          exact decide_eq_true (by omega)
        | cons m ms =>
          refine iteF ?_
          exact done false _ (by rw [hg2]; rfl)
end
end K11

namespace K11
open PySem PySem.Spec PyProof.Rows L2 DA
theorem room65 {k : Nat} {A : Around} (r : Room k A) : A.units + 65 < cLine := by have := r.un; omega
/-- a pair of a word and a number -/
def Word (d : PD) : Prop := ∃ k n, d = .tuple [.str k, .int n] ∧ PyData.strOk k = true ∧ ((k = "take" ∨ k = "give") → n = 0 ∨ n = 1)
theorem Word.pair {d : PD} (h : Word d) : isPair d := by
  obtain ⟨k, n, e, _⟩ := h
  exact ⟨k, n, e⟩
theorem ok_words : PyData.strOk "work" = true ∧ PyData.strOk "sleep" = true ∧ PyData.strOk "take" = true ∧ PyData.strOk "give" = true ∧ PyData.strOk "end" = true := by decide +kernel
theorem deed_word {d : PD} (h : deedD d = true) : Word d := by
  obtain ⟨k, n, rfl⟩ := deedD_pair h
  obtain ⟨o1, o2, o3, o4, _⟩ := ok_words
  rcases deed_num h with ⟨h1, h2⟩ | ⟨h1, h2⟩
  · refine ⟨k, n, rfl, ?_, fun z => ?_⟩
    · rcases h1 with e | e <;> rw [e] <;> assumption
    · rcases h1 with e | e <;> rcases z with z | z <;> rw [e] at z
      · exact absurd z wt
      · exact absurd z wg
      · exact absurd z st'
      · exact absurd z sg
  · refine ⟨k, n, rfl, ?_, fun _ => h2⟩
    rcases h1 with e | e <;> rw [e] <;> assumption
theorem deeds_word {ds : List PD} (h : ∀ x ∈ ds, deedD x = true) : ∀ x ∈ deedsL ds, Word x := by
  intro x hx
  obtain ⟨o1, o2, o3, o4, o5⟩ := ok_words
  rcases List.mem_append.mp hx with z | z
  · obtain ⟨d, hd, hz⟩ := List.mem_flatMap.mp z
    have hw := deed_word (h d hd)
    obtain ⟨k, n, rfl, hk, hn⟩ := hw
    by_cases e : k = "work"
    · rw [e, unitL_work] at hz
      rw [(List.mem_replicate.mp hz).2]
      exact ⟨_, _, rfl, o1, fun z => by rcases z with z | z; exact absurd z wt; exact absurd z wg⟩
    · rw [unitL_other e] at hz
      rw [List.mem_singleton.mp hz]
      exact ⟨k, n, rfl, hk, hn⟩
  · rw [List.mem_singleton.mp z]
    exact ⟨_, _, rfl, o5, fun z => .inl rfl⟩
theorem words_lay : ∀ {ds : List PD}, (∀ x ∈ ds, Word x) → PyData.canLayAll0 ds = true ∧ PyData.depthAll ds ≤ 1
  | [], _ => ⟨rfl, Nat.zero_le _⟩
  | d :: ds, h => by
    obtain ⟨h1, h2⟩ := words_lay fun x hx => h x (List.mem_cons_of_mem d hx)
    obtain ⟨k, n, rfl, hk, _⟩ := h d List.mem_cons_self
    constructor
    · simp only [PyData.canLayAll0, PyData.canLay0, h1, hk, Bool.and_self]
    · simp only [PyData.depthAll, PyData.depth]
      omega
theorem words_shaped {ds : List PD} (h : ∀ x ∈ ds, Word x) : SeqAt.shaped (.list ds) = true := by
  obtain ⟨h1, h2⟩ := words_lay h
  show (PyData.canLay0 (.list ds) && decide (PyData.depth (.list ds) ≤ 64)) = true
  simp only [PyData.canLay0, PyData.depth, h1, Bool.true_and]
  exact decide_eq_true (by omega)
theorem word_shaped {d : PD} (h : Word d) : SeqAt.shaped d = true := by
  obtain ⟨k, n, rfl, hk, _⟩ := h
  show (PyData.canLay0 (.tuple [.str k, .int n]) && decide (PyData.depth (.tuple [.str k, .int n]) ≤ 64)) = true
  simp only [PyData.canLay0, PyData.canLayAll0, hk, PyData.depth, PyData.depthAll, Bool.and_self, Bool.true_and]
  exact decide_eq_true (by omega)
theorem take_shaped (j : Int) : SeqAt.shaped (.tuple [.str "take", .int j]) = true := by
  show (PyData.canLay0 (.tuple [.str "take", .int j]) && decide (PyData.depth (.tuple [.str "take", .int j]) ≤ 64)) = true
  simp only [PyData.canLay0, PyData.canLayAll0, ok_words.2.2.1, PyData.depth, PyData.depthAll, Bool.and_self, Bool.true_and]
  exact decide_eq_true (by omega)
theorem tups_lay : ∀ (ks : List (List Int)), PyData.canLayAll0 (ks.map tupD) = true ∧ PyData.depthAll (ks.map tupD) ≤ 1
  | [] => ⟨rfl, Nat.zero_le _⟩
  | k :: ks => by
    obtain ⟨h1, h2⟩ := tups_lay ks
    constructor
    · simp only [List.map_cons, PyData.canLayAll0, h1, Bool.and_true]
      show PyData.canLay0 (.tuple (k.map .int)) = true
      simp only [PyData.canLay0]
      exact ints_lay k
    · simp only [List.map_cons, PyData.depthAll]
      have : PyData.depth (tupD k) = PyData.depthAll (k.map PyData.int) + 1 := by
        show PyData.depth (.tuple (k.map .int)) = _
        simp only [PyData.depth]
      rw [this, ints_depth]
      omega
theorem tups_shaped (ks : List (List Int)) : SeqAt.shaped (.list (ks.map tupD)) = true := by
  obtain ⟨h1, h2⟩ := tups_lay ks
  show (PyData.canLay0 (.list (ks.map tupD)) && decide (PyData.depth (.list (ks.map tupD)) ≤ 64)) = true
  simp only [PyData.canLay0, PyData.depth, h1, Bool.true_and]
  exact decide_eq_true (by omega)
theorem ne_self {d : PD} (h : SeqAt.shaped d = true) : ¬ (!PyData.eqv d d) = true := by
  rw [SeqAt.eqv_refl d (SeqAt.canLay_of_shaped h)]
  exact fun z => by cases z
theorem eqv_take {d : PD} (h : isPair d) (j : Int) : PyData.eqv d (.tuple [.str "take", .int j]) = isTake j d := by
  obtain ⟨k, n, rfl⟩ := h
  simp only [PyData.eqv, PyData.eqvAll, Bool.and_true, isTake]
  by_cases h1 : k = "take"
  · by_cases h2 : j = n
    · subst h1; subst h2; simp
    · have h3 : ¬ n = j := fun z => h2 z.symm
      simp [h1, h2, h3]
  · simp [h1]
theorem any_take {ds : List PD} (h : ∀ x ∈ ds, isPair x) (j : Int) : (ds.any fun z => PyData.eqv z (.tuple [.str "take", .int j])) = ds.any (isTake j) := by
  induction ds with
  | nil => rfl
  | cons d ds ih =>
    rw [List.any_cons, List.any_cons, eqv_take (h d List.mem_cons_self), ih fun x hx => h x (List.mem_cons_of_mem _ hx)]
/-! the dict of the takes -/
abbrev hmV (hm : List (Int × Int)) : List (Key × V) := hm.map fun q => (Sum.inl q.1, V.int q.2)
theorem hm_put {hm : List (Int × Int)} {n v : Int} (h : n ∉ hm.map Prod.fst) : putK (hmV hm) (Sum.inl n) (.int v) = hmV (hm ++ [(n, v)]) := by
  unfold putK
  have e : ((hmV hm).any fun kv => decide (kv.1 = Sum.inl n)) = false := by
    rw [List.any_eq_false]
    intro q hq z
    obtain ⟨r, hr, rfl⟩ := List.mem_map.mp hq
    have z : (Sum.inl r.1 : Key) = Sum.inl n := of_decide_eq_true z
    exact h (List.mem_map.mpr ⟨r, hr, Sum.inl.inj z⟩)
  rw [e, if_neg (by decide)]
  show _ = List.map _ (hm ++ [(n, v)])
  rw [List.map_append]
  rfl
theorem hm_val : ∀ {hm : List (Int × Int)} {n : Int}, n ∈ hm.map Prod.fst → ∃ t, valV (hmV hm) (Sum.inl n : Key) = some (.int t) ∧ (n, t) ∈ hm
  | [], n, h => by cases h
  | q :: hm, n, h => by
    by_cases e : q.1 = n
    · subst e
      exact ⟨q.2, valV_pos rfl, List.mem_cons_self⟩
    · have h : n ∈ hm.map Prod.fst := by
        rcases List.mem_cons.mp h with z | z
        · exact absurd z.symm e
        · exact z
      obtain ⟨t, h1, h2⟩ := hm_val h
      refine ⟨t, ?_, List.mem_cons_of_mem _ h2⟩
      show valV ((Sum.inl q.1, V.int q.2) :: hmV hm) _ = _
      rw [valV_neg (fun z => e (Sum.inl.inj z)), h1]
theorem hm_drop (hm : List (Int × Int)) (n : Int) : dropK (hmV hm) (Sum.inl n : Key) = hmV (hm.filter fun q => decide (q.1 ≠ n)) := by
  unfold dropK
  show List.filter _ (List.map _ hm) = List.map _ (List.filter _ hm)
  rw [List.filter_map]
  congr 1
  refine List.filter_congr fun q _ => ?_
  show decide ((Sum.inl q.1 : Key) ≠ Sum.inl n) = decide (q.1 ≠ n)
  rw [decide_eq_decide]
  exact not_congr ⟨Sum.inl.inj, fun z => by rw [z]⟩
theorem held_nodup {held : List Int} (h : HeldOk held) : held.Nodup := by
  rcases h with rfl | rfl | rfl | rfl | rfl <;> decide
theorem hm_keys {hm : List (Int × Int)} (h : HeldOk (hm.map Prod.fst)) (n : Int) : (hm.filter fun q => decide (q.1 ≠ n)).map Prod.fst = (hm.map Prod.fst).erase n := by
  rw [(held_nodup h).erase_eq_filter, List.filter_map]
  congr 1
  refine List.filter_congr fun q _ => ?_
  show decide (q.1 ≠ n) = (q.1 != n)
  simp [bne]
  by_cases e : q.1 = n <;> simp [e]
theorem perm_short {ys ks : List Int} (p : ys.Perm ks) (h : ks.length ≤ 1) : ys = ks := by
  match ks, h with
  | [], _ => exact List.perm_nil.mp p
  | [k], _ => exact List.perm_singleton.mp p
theorem atI_nat {xs : List V} {i : Nat} (h : i < xs.length) : atI xs (0 + (i : Int)) = some (xs[i]'h) := by
  unfold atI ixN
  rw [Int.zero_add, if_pos (by omega), if_pos (by omega)]
  show xs[(i : Int).toNat]? = _
  rw [Int.toNat_natCast]
  exact List.getElem?_eq_getElem h
theorem holdU_take {n : Int} {r : List PD} {a u x y : Int} : holdU (.tuple [.str "take", .int n] :: r) a u x y = holdU r a (u + 1) (if n = 0 then u + 1 else x) (if n ≠ 0 then u + 1 else y) := by
  show holdU r (if ("take" : Str) = "give" then _ else a) (u + 1) (if ("take" : Str) = "take" ∧ n = 0 then u + 1 else x) (if ("take" : Str) = "take" ∧ n ≠ 0 then u + 1 else y) = _
  rw [if_neg tg']
  simp only [true_and]
theorem holdU_give {n : Int} {r : List PD} {a u x y : Int} : holdU (.tuple [.str "give", .int n] :: r) a u x y = holdU r (if u + 1 - (if n = 0 then x else y) > a then u + 1 - (if n = 0 then x else y) else a) (u + 1) x y := by
  show holdU r (if ("give" : Str) = "give" then (if u + 1 - (if n = 0 then (if ("give" : Str) = "take" ∧ n = 0 then u + 1 else x) else (if ("give" : Str) = "take" ∧ n ≠ 0 then u + 1 else y)) > a then u + 1 - (if n = 0 then (if ("give" : Str) = "take" ∧ n = 0 then u + 1 else x) else (if ("give" : Str) = "take" ∧ n ≠ 0 then u + 1 else y)) else a) else a) (u + 1) (if ("give" : Str) = "take" ∧ n = 0 then u + 1 else x) (if ("give" : Str) = "take" ∧ n ≠ 0 then u + 1 else y) = _
  rw [if_pos rfl, if_neg (fun z : ("give" : Str) = "take" ∧ n = 0 => gt z.1), if_neg (fun z : ("give" : Str) = "take" ∧ n ≠ 0 => gt z.1)]
/-- the state of the law's walk over the units, at the i-th -/
abbrev LInv (K : PySem.W.Frag) (T : List Addr) (H3 : Hp) (U : List PD) (a d p u hd : Addr) (i : Nat) (σ : L2.St) (H : Hp) : Prop := ∃ (b : Int) (pr : Addr) (ks : List (Addr × List Int)) (hm : List (Int × Int)) (x y : Int) (y7 y8 y9 : Option V),
  σ = [some (.ref a), some (.ref d), some (.ref p), some (.ref u), some (.int b), some (.ref pr), some (.ref hd), y7, y8, y9, none, none, none, none] ∧ Keep T H3 H ∧ H hd = some (.dK (hmV hm)) ∧ H pr = some (.lst (ks.map fun q => V.ref q.1)) ∧ (∀ q ∈ ks, SqT K H q.1 (q.2.map V.int)) ∧ ks.length ≤ i ∧
  HeldOk (hm.map Prod.fst) ∧ fitGo (U.drop i) (hm.map Prod.fst) = true ∧ allP U [] = ks.map (·.2) ++ allP (U.drop i) (hm.map Prod.fst) ∧ holdU U 0 0 0 0 = holdU (U.drop i) b i x y ∧
  (∀ q ∈ hm, (q.1 = 0 → x = q.2 + 1) ∧ (q.1 = 1 → y = q.2 + 1)) ∧ (∀ q ∈ ks, q.2 = [0, 1] ∨ q.2 = [1, 0])
/-! the examples -/
abbrev wk (n : Int) : PD := .tuple [.str "work", .int n]
abbrev sl1 : PD := .tuple [.str "sleep", .int 1]
theorem ex1 : progD (.list [wk 60, wk 60]) = true ∧ SeqAt.shaped (.list (plainD [wk 60, wk 60])) = true ∧ SeqAt.shaped (.list [wk 60, wk 60]) = true ∧ ¬ (!PyData.eqv (.list (plainD [wk 60, wk 60])) (.list [wk 60, wk 60])) = true := by decide +kernel
theorem ex2 : progD (.list [wk 98, wk 1]) = true ∧ SeqAt.shaped (.list (plainD [wk 98, wk 1])) = true ∧ SeqAt.shaped (.list [wk 99]) = true ∧ ¬ (!PyData.eqv (.list (plainD [wk 98, wk 1])) (.list [wk 99])) = true := by decide +kernel
theorem ex3 : progD (.list [sl1, wk 1, wk 2]) = true ∧ SeqAt.shaped (.list (plainD [sl1, wk 1, wk 2])) = true ∧ SeqAt.shaped (.list [sl1, wk 3]) = true ∧ ¬ (!PyData.eqv (.list (plainD [sl1, wk 1, wk 2])) (.list [sl1, wk 3])) = true := by decide +kernel
theorem ex4 : progD (.list [wk 98, wk 2]) = true ∧ SeqAt.shaped (.list (plainD [wk 98, wk 2])) = true ∧ SeqAt.shaped (.list [wk 98, wk 2]) = true ∧ ¬ (!PyData.eqv (.list (plainD [wk 98, wk 2])) (.list [wk 98, wk 2])) = true := by decide +kernel
section
variable {K : PySem.W.Frag} {T : List Addr} {H : Hp} {p1 p2 p3 pl : Addr} {k1 k2 k3 : Str} {n1 n2 n3 : Int}
theorem lit1 (h1 : H p1 = none) (hl : (upd H p1 (.tup [.str k1, .int n1])) pl = none) :
    Dp K (upd (upd H p1 (.tup [.str k1, .int n1])) pl (.lst [.ref p1])) (.ref pl) (.list [.tuple [.str k1, .int n1]]) ∧ Keep T H (upd (upd H p1 (.tup [.str k1, .int n1])) pl (.lst [.ref p1])) :=
  ⟨.lst (.of upd_same) (.cons (pair_dp (.of (same_new hl _ _ upd_same))) .nil), (Keep.new h1).trans (.new hl)⟩
theorem lit2 (h1 : H p1 = none) (h2 : (upd H p1 (.tup [.str k1, .int n1])) p2 = none) (hl : (upd (upd H p1 (.tup [.str k1, .int n1])) p2 (.tup [.str k2, .int n2])) pl = none) :
    Dp K (upd (upd (upd H p1 (.tup [.str k1, .int n1])) p2 (.tup [.str k2, .int n2])) pl (.lst [.ref p1, .ref p2])) (.ref pl) (.list [.tuple [.str k1, .int n1], .tuple [.str k2, .int n2]]) ∧
      Keep T H (upd (upd (upd H p1 (.tup [.str k1, .int n1])) p2 (.tup [.str k2, .int n2])) pl (.lst [.ref p1, .ref p2])) :=
  ⟨.lst (.of upd_same) (.cons (pair_dp (.of (same_new hl _ _ (same_new h2 _ _ upd_same)))) (.cons (pair_dp (.of (same_new hl _ _ upd_same))) .nil)), ((Keep.new h1).trans (.new h2)).trans (.new hl)⟩
theorem lit3 (h1 : H p1 = none) (h2 : (upd H p1 (.tup [.str k1, .int n1])) p2 = none) (h3 : (upd (upd H p1 (.tup [.str k1, .int n1])) p2 (.tup [.str k2, .int n2])) p3 = none)
    (hl : (upd (upd (upd H p1 (.tup [.str k1, .int n1])) p2 (.tup [.str k2, .int n2])) p3 (.tup [.str k3, .int n3])) pl = none) :
    Dp K (upd (upd (upd (upd H p1 (.tup [.str k1, .int n1])) p2 (.tup [.str k2, .int n2])) p3 (.tup [.str k3, .int n3])) pl (.lst [.ref p1, .ref p2, .ref p3])) (.ref pl) (.list [.tuple [.str k1, .int n1], .tuple [.str k2, .int n2], .tuple [.str k3, .int n3]]) ∧
      Keep T H (upd (upd (upd (upd H p1 (.tup [.str k1, .int n1])) p2 (.tup [.str k2, .int n2])) p3 (.tup [.str k3, .int n3])) pl (.lst [.ref p1, .ref p2, .ref p3])) :=
  ⟨.lst (.of upd_same) (.cons (pair_dp (.of (same_new hl _ _ (same_new h3 _ _ (same_new h2 _ _ upd_same))))) (.cons (pair_dp (.of (same_new hl _ _ (same_new h3 _ _ upd_same)))) (.cons (pair_dp (.of (same_new hl _ _ upd_same))) .nil))), (((Keep.new h1).trans (.new h2)).trans (.new h3)).trans (.new hl)⟩
end
theorem take2 : ∀ {j : Nat}, j < 2 → ([0, 1] : List Int).take (j + 1) = ([0, 1] : List Int).take j ++ [(0 + j : Int)]
  | 0, _ => rfl
  | 1, _ => rfl
  | j + 2, h => absurd h (by omega)
end K11

namespace K11
open PySem PySem.Spec PyProof.Rows L2 DA
/-! ### law -/
abbrev sLaw : Stmt := top 27
abbrev nLaw : List Str := ["_law_script", "_law_draws", "_law_program_here", "_law_units", "_law_best", "_law_pairs", "_law_held", "_law_unit", "_law_kind", "_law_number", "_law_told", "_law_one", "_law_lock", "_law_k"]
theorem scLaw : FnScope nLaw ["_law_script"] (defScope sLaw) := ⟨rfl, rfl, rfl, by decide +kernel, rfl, by decide +kernel, by decide +kernel⟩
/-- a def of the module, as it is called -/
structure Cal (P : Program) (w : World) (K : PySem.W.Frag) (mg : Str → Option Value) (base : Heap) (x : Str) (k : Nat) (ps : List Str) (sp : Sp) (f : Addr) (fd : FuncData) : Prop where
  g : mg x = some (.ref f)
  kp : PySem.W.keepIn K (.ref f) = true
  b : Binds K fd ps []
  ok : FnOk P w K mg base CX0 k f fd ps sp
section
variable {P : Program} {w : World} {K : PySem.W.Frag} {mg : Str → Option Value} {base : Heap} {f : Addr} {fd : FuncData}
def spLaw (K : PySem.W.Frag) (T : List Addr) : Sp := fun vs H Q _ => ∃ (a : Addr) (ns : List Int), vs = [.ref a] ∧ SqL K H a (ns.map V.int) ∧ ns.length ≤ 63 ∧ Tabs T H ∧ ∀ H', Q (.bl true) H'
theorem ok_law {T : List Addr} {fS fLP fLD fI fL fDd fLk fH fPr fPl fO : Addr} {dS dLP dLD dI dL dDd dLk dH dPr dPl dO : FuncData} (F : Fun K "law" "law" sLaw f fd) (G : Glob mg)
    (cS : Cal P w K mg base "_law_start" 1 ["_law_script"] (spStart K) fS dS) (cLP : Cal P w K mg base "_law_program" 3 ["_law_draws", "_law_locks", "_law_most"] (spLProg K T) fLP dLP)
    (cLD : Cal P w K mg base "_law_deeds" 1 ["_law_program_here"] (spLDeeds K) fLD dLD) (cI : Cal P w K mg base "is_program" 4 ["value"] (spProg K T) fI dI)
    (cL : Cal P w K mg base "length" 6 ["program"] (spLen K T) fL dL) (cDd : Cal P w K mg base "is_deed" 2 ["value"] (spDeed K) fDd dDd)
    (cLk : Cal P w K mg base "locks_used" 6 ["program"] (spLocks K T) fLk dLk) (cH : Cal P w K mg base "longest_hold" 6 ["program"] (spHold K T) fH dH)
    (cPr : Cal P w K mg base "nested_pairs" 6 ["program"] (spPairs K T) fPr dPr) (cPl : Cal P w K mg base "plainest" 6 ["program"] (spPlain K T) fPl dPl)
    (cO : Cal P w K mg base "_law_other_list" 5 ["_law_draws", "_law_program_here"] (spLOther K T) fO dO) :
    FnOk P w K mg base CX0 7 f fd ["_law_script"] (spLaw K T) := by
  refine F.ok scLaw (fun vs H Q E h => ?_) (fun cdv A outer s H vs Q E hr h => ?_)
  · obtain ⟨a, ns, rfl, _⟩ := h
    rfl
  · obtain ⟨a, ns, rfl, hS, hl63, ht, q⟩ := h
    obtain ⟨gS, kpS, bS, GS⟩ := cS
    obtain ⟨gLP, kpLP, bLP, GLP⟩ := cLP
    obtain ⟨gLD, kpLD, bLD, GLD⟩ := cLD
    obtain ⟨gI, kpI, bI, GI⟩ := cI
    obtain ⟨gL, kpL, bL, GL⟩ := cL
    obtain ⟨gDd, kpDd, bDd, GDd⟩ := cDd
    obtain ⟨gLk, kpLk, bLk, GLk⟩ := cLk
    obtain ⟨gH, kpH, bH, GH⟩ := cH
    obtain ⟨gPr, kpPr, bPr, GPr⟩ := cPr
    obtain ⟨gPl, kpPl, bPl, GPl⟩ := cPl
    obtain ⟨gO, kpO, bO, GO⟩ := cO
    have hu := hu_of hr
    have hr1 : Room 1 _ := hr.mono (by decide)
    have hr2 : Room 2 _ := hr.mono (by decide)
    have hr3 : Room 3 _ := hr.mono (by decide)
    have hr4 : Room 4 _ := hr.mono (by decide)
    have hr5 : Room 5 _ := hr.mono (by decide)
    have hr6 : Room 6 _ := hr.mono (by decide)
    refine ⟨_, (pss_cons (ps_set (i := 1) scLaw.nd rfl (.inl rfl) (pe_call GS hr1 (by rfl) gS kpS bS .nil pass0 (pa_cons (pv 0) pa_nil))) (pss_cons (ps_set (i := 2) scLaw.nd rfl (.inr rfl) (pe_call GLP hr3 (by rfl) gLP kpLP bLP .nil pass0 (pa_cons (pv 1) (pa_cons pe_int (pa_cons pe_int pa_nil))))) (pss_cons (ps_set (i := 3) scLaw.nd rfl (.inl rfl) (pe_call GLD hr1 (by rfl) gLD kpLD bLD .nil pass0 (pa_cons (pv 2) pa_nil))) (pss_cons (ps_if (PW.pt (pw_or (pt_cmpR op_notBl (pe_call GI hr4 (by rfl) gI kpI bI .nil pass0 (pa_cons (pv 2) pa_nil)) pe_bl (nomark _)) (pw_or1 (pt_cmpR op_ne (pe_call GL hr6 (by rfl) gL kpL bL .nil pass0 (pa_cons (pv 2) pa_nil)) (pe_callB call_len_seq (by rfl) G.len PySem.boot_len (pa_cons (pv 3) pa_nil)) (nomark _))))) (pss_one (ps_ret pe_bl)) pss_nil) (pss_cons (ps_if (pt_cmpR (op_neD hr.units) (pe_lc (own := [("_law_one", 11)]) (g := gName 11) (tt := tTest (tOp rNotB (tCall (spDeed K) [] E0 (tCons (tVar 11) tNil)) (tC (.bl true)))) (te := tVar 11) rfl scLaw.nd (pi_list (pv 2)) (blkOk_by (N := nLaw) (sc := defScope sLaw) (by decide +kernel)) (fun _ _ _ _ _ => (pg_name (i := 11) scLaw.nd rfl (.inl rfl))) (fun _ _ _ _ _ => pts_one (pt_cmpR op_notBl (pe_call GDd hr2 (by rfl) gDd kpDd bDd .nil pass0 (pa_cons (pv 11) pa_nil)) pe_bl (nomark _))) (fun _ _ _ _ _ => (pv 11))) (pe_lst pa_nil) (nomark _)) (pss_one (ps_ret pe_bl)) pss_nil) (pss_cons (ps_if (pt_cmpR (op_neD hr.units) (pe_call GLk hr6 (by rfl) gLk kpLk bLk .nil pass0 (pa_cons (pv 2) pa_nil)) (pe_lc (own := [("_law_lock", 12)]) (g := gName 12) (tt := tTest (tOp (rInD K) (tTup (tCons (tC (.str "take")) (tCons (tVar 12) tNil))) (tVar 2))) (te := tVar 12) rfl scLaw.nd (pi_range1 (by rfl) G.range (pa_cons pe_int pa_nil)) (blkOk_by (N := nLaw) (sc := defScope sLaw) (by decide +kernel)) (fun _ _ _ _ _ => (pg_name (i := 12) scLaw.nd rfl (.inl rfl))) (fun _ _ _ _ _ => pts_one (pt_cmpR (op_inD (room65 hr)) (pe_tup (pa_cons pe_str (pa_cons (pv 12) pa_nil))) (pv 2) (by rfl))) (fun _ _ _ _ _ => (pv 12))) (nomark _)) (pss_one (ps_ret pe_bl)) pss_nil) (pss_cons (ps_par3 (i := 4) (j := 5) (l := 6) rfl scLaw.nd rfl rfl rfl (by decide) (by decide) (by decide) rfl rfl rfl (pa_cons pe_int (pa_cons (pe_lst pa_nil) (pa_cons pe_dnewK pa_nil))) (by rfl)) (pss_cons (ps_for PassesOwn.never rfl (pi_range1 (by rfl) G.range (pa_cons (pe_callB call_len_seq (by rfl) G.len PySem.boot_len (pa_cons (pv 3) pa_nil)) pa_nil)) (pg_name (i := 7) scLaw.nd rfl (.inl rfl)) (pss_cons (ps_asg (pe_ix ix_list (pv 3) (pv 7) (fun _ _ => rfl)) (pg_tup (by rfl) (pgs_cons (pg_name (i := 8) scLaw.nd rfl (.inl rfl)) (pgs_cons (pg_name (i := 9) scLaw.nd rfl (.inr rfl)) pgs_nil)))) (pss_cons (ps_if (pt_cmpR op_eq (pv 8) pe_str (nomark _)) (pss_cons (ps_set (i := 5) scLaw.nd rfl (.inl rfl) (pe_op op_cat (pv 5) (pe_lc (own := [("_law_lock", 12)]) (g := gName 12) (tt := tYes) (te := tTup (tCons (tVar 12) (tCons (tVar 9) tNil))) rfl scLaw.nd (pi_list (pe_callB (call_sortedDI rfl) (by rfl) G.sorted boot_sorted (pa_cons (pv 6) pa_nil))) (blkOk_by (N := nLaw) (sc := defScope sLaw) (by decide +kernel)) (fun _ _ _ _ _ => (pg_name (i := 12) scLaw.nd rfl (.inl rfl))) (fun _ _ _ _ _ => pts_nil) (fun _ _ _ _ _ => (pe_tup (pa_cons (pv 12) (pa_cons (pv 9) pa_nil))))))) (pss_one (ps_dput hu (pv 6) (pv 9) (pv 7) (by rfl)))) pss_nil) (pss_one (ps_if (pt_cmpR op_eq (pv 8) pe_str (nomark _)) (pss_one (ps_set (i := 4) scLaw.nd rfl (.inl rfl) (pe_callB (call_max2 rfl) (by rfl) G.max boot_max (pa_cons (pv 4) (pa_cons (pe_op op_sub (pv 7) (pe_dpop1 (pv 6) (pv 9) ⟨by rfl, by rfl, by rfl, by rfl⟩)) pa_nil))))) pss_nil))))) (pss_cons (ps_if (PW.pt (pw_or (pt_cmpR op_ne (pe_call GH hr6 (by rfl) gH kpH bH .nil pass0 (pa_cons (pv 2) pa_nil)) (pv 4) (nomark _)) (pw_or1 (pt_cmpR (op_neD hr.units) (pe_call GPr hr6 (by rfl) gPr kpPr bPr .nil pass0 (pa_cons (pv 2) pa_nil)) (pe_callB (cr_sortedT rfl) (by rfl) G.sorted boot_sorted (pa_cons (pe_callTy (cr_setOfT rfl hr.units) (by rfl) G.set (by decide +kernel) (pa_cons (pv 5) pa_nil)) pa_nil)) (by rfl))))) (pss_one (ps_ret pe_bl)) pss_nil) (pss_cons (ps_set (i := 10) scLaw.nd rfl (.inr rfl) (pe_call GPl hr6 (by rfl) gPl kpPl bPl .nil pass0 (pa_cons (pv 2) pa_nil))) (pss_cons (ps_if (PW.pt (pw_or (pt_cmpR op_notBl (pe_call GI hr4 (by rfl) gI kpI bI .nil pass0 (pa_cons (pv 10) pa_nil)) pe_bl (nomark _)) (pw_or (pt_cmpR op_ne (pe_call GL hr6 (by rfl) gL kpL bL .nil pass0 (pa_cons (pv 10) pa_nil)) (pe_callB call_len_seq (by rfl) G.len PySem.boot_len (pa_cons (pv 3) pa_nil)) (nomark _)) (pw_or1 (pt_cmpR (op_neD hr.units) (pe_call GLD hr1 (by rfl) gLD kpLD bLD .nil pass0 (pa_cons (pv 10) pa_nil)) (pv 3) (nomark _)))))) (pss_one (ps_ret pe_bl)) pss_nil) (pss_cons (ps_if (pt_cmpR (op_neD hr.units) (pe_lc (own := [("_law_k", 13)]) (g := gName 13) (tt := tAnd (tTest (tOp rEq (tOp (rIxT K) (tOp (rIxL K) (tVar 10) (tVar 13)) (tC (.int 0))) (tC (.str "work")))) (tTest (tOp rEq (tOp (rIxT K) (tOp (rIxL K) (tVar 10) (tOp (rI0 fun i j => .int (i + j)) (tVar 13) (tC (.int 1)))) (tC (.int 0))) (tC (.str "work"))))) (te := tVar 13) rfl scLaw.nd (pi_range1 (by rfl) G.range (pa_cons (pe_op op_sub (pe_callB call_len_seq (by rfl) G.len PySem.boot_len (pa_cons (pv 10) pa_nil)) pe_int) pa_nil)) (blkOk_by (N := nLaw) (sc := defScope sLaw) (by decide +kernel)) (fun _ _ _ _ _ => (pg_name (i := 13) scLaw.nd rfl (.inl rfl))) (fun _ _ _ _ _ => pts_one (PW.pt (pw_and (pt_cmpR op_eq (pe_ix ix_tup (pe_ix ix_list (pv 10) (pv 13) (fun _ _ => rfl)) pe_int (fun _ _ => rfl)) pe_str (nomark _)) (pw_and1 (pt_cmpR op_eq (pe_ix ix_tup (pe_ix ix_list (pv 10) (pe_op op_add (pv 13) pe_int) (fun _ _ => rfl)) pe_int (fun _ _ => rfl)) pe_str (nomark _)))))) (fun _ _ _ _ _ => (pv 13))) (pe_lst pa_nil) (nomark _)) (pss_one (ps_ret pe_bl)) pss_nil) (pss_cons (ps_if (PW.pt (pw_or (pt_cmpR (op_neD hr.units) (pe_call GPl hr6 (by rfl) gPl kpPl bPl .nil pass0 (pa_cons (pe_lst (pa_cons (pe_tup (pa_cons pe_str (pa_cons pe_int pa_nil))) (pa_cons (pe_tup (pa_cons pe_str (pa_cons pe_int pa_nil))) pa_nil))) pa_nil)) (pe_lst (pa_cons (pe_tup (pa_cons pe_str (pa_cons pe_int pa_nil))) (pa_cons (pe_tup (pa_cons pe_str (pa_cons pe_int pa_nil))) pa_nil))) (nomark _)) (pw_or1 (pt_cmpR (op_neD hr.units) (pe_call GPl hr6 (by rfl) gPl kpPl bPl .nil pass0 (pa_cons (pe_lst (pa_cons (pe_tup (pa_cons pe_str (pa_cons pe_int pa_nil))) (pa_cons (pe_tup (pa_cons pe_str (pa_cons pe_int pa_nil))) pa_nil))) pa_nil)) (pe_lst (pa_cons (pe_tup (pa_cons pe_str (pa_cons pe_int pa_nil))) pa_nil)) (nomark _))))) (pss_one (ps_ret pe_bl)) pss_nil) (pss_cons (ps_if (PW.pt (pw_or (pt_cmpR (op_neD hr.units) (pe_call GPl hr6 (by rfl) gPl kpPl bPl .nil pass0 (pa_cons (pe_lst (pa_cons (pe_tup (pa_cons pe_str (pa_cons pe_int pa_nil))) (pa_cons (pe_tup (pa_cons pe_str (pa_cons pe_int pa_nil))) (pa_cons (pe_tup (pa_cons pe_str (pa_cons pe_int pa_nil))) pa_nil)))) pa_nil)) (pe_lst (pa_cons (pe_tup (pa_cons pe_str (pa_cons pe_int pa_nil))) (pa_cons (pe_tup (pa_cons pe_str (pa_cons pe_int pa_nil))) pa_nil))) (nomark _)) (pw_or1 (pt_cmpR (op_neD hr.units) (pe_call GPl hr6 (by rfl) gPl kpPl bPl .nil pass0 (pa_cons (pe_lst (pa_cons (pe_tup (pa_cons pe_str (pa_cons pe_int pa_nil))) (pa_cons (pe_tup (pa_cons pe_str (pa_cons pe_int pa_nil))) pa_nil))) pa_nil)) (pe_lst (pa_cons (pe_tup (pa_cons pe_str (pa_cons pe_int pa_nil))) (pa_cons (pe_tup (pa_cons pe_str (pa_cons pe_int pa_nil))) pa_nil))) (nomark _))))) (pss_one (ps_ret pe_bl)) pss_nil) (pss_one (ps_ret (pe_call GO hr5 (by rfl) gO kpO bO .nil pass0 (pa_cons (pv 1) (pa_cons (pv 2) pa_nil))))))))))))))))))), ?_⟩
    -- start, program, units
    refine ⟨.ref a, rfl, a, ns, rfl, hS, hl63, fun d nu H1 s1 nd nnu dr1 => ?_⟩
    have t1 := (Keep.same (T := T) s1).tabs ht
    refine ⟨.ref d, rfl, d, nu, 12, rfl, by decide, t1, dr1, fun p xs ds H2 np e2 D2 g2 f2 => ?_⟩
    have hl14 : ds.length ≤ 14 := g2.len
    have hsum := sum_le g2.work
    refine ⟨.ref p, rfl, .ref p, ds, rfl, .lst (.of e2) D2, g2.deed, by omega, fun vu H3 dU s3 => ?_⟩
    have t2 := f2.tabs t1
    have k3 : Keep T H2 H3 := .same s3
    have t3 := k3.tabs t2
    have dr3 := f2.drw.keep t2 k3
    have P3 : Dp K H3 (.ref p) (.list ds) := dp_keep k3 t2 (.lst (.of e2) D2)
    have sp3 : SqL K H3 p xs := .of (s3 _ _ e2)
    have D3 : DpAll K H3 xs ds := dps_keep k3 t2 D2
    have hxl := dps_len D3
    obtain ⟨u, us, rfl, sU, DU⟩ := dp_list dU
    have hul := dps_len DU
    have hUl := deedsL_len g2.deed
    have hp : progD (.list ds) = true := good_prog g2 (by decide)
    have hpair : ∀ x ∈ ds, isPair x := fun x hx => deedD_pair (g2.deed x hx)
    have hwD : ∀ x ∈ ds, Word x := fun x hx => deed_word (g2.deed x hx)
    have hwU := deeds_word g2.deed
    have hlen43 : us.length ≤ 43 := by
      have : lenD ds = (ds.map unitsD).sum + 1 := rfl
      omega
    clear dr1 nd nnu
    -- is_program(..) is not True or length(..) != len(..)
    refine ⟨.ref p, rfl, .ref p, .list ds, rfl, P3, t3, fun H4 k4 => ⟨_, _, rfl, rfl, _, rfl, ite2 (fun e => absurd e (by rw [hp]; decide)) fun _ => ?_⟩⟩
    have t4 := k4.tabs t3
    refine ⟨.ref p, rfl, .ref p, ds, rfl, dp_keep k4 t3 P3, t4, hp, fun H5 k5 => ?_⟩
    have k5 := k4.trans k5
    have t5 := k5.tabs t3
    refine ⟨.ref u, rfl, u, us, rfl, .inl (k5.sqL t3 sU), rfl, _, rfl, ite2 (fun e => absurd e (by rw [show V.int (lenD ds) = V.int (us.length : Int) by rw [hul, hUl]]; simp)) fun _ => ?_⟩
    -- the deeds, each
    refine ⟨.ref p, rfl, p, rfl, ⟨_, k5.sqL t3 sp3⟩, fun D nD => lc_list (a := p) (xs := xs) (fun j H6 => Keep T H3 H6 ∧ H6 D = some (.lst [])) ⟨k5.trans (.new nD), upd_same⟩ (fun j H6 _ ⟨k6, _⟩ => k6.sqL t3 sp3) ?_ ?_⟩
    · rintro j x H6 hx ⟨k6, e6⟩
      obtain ⟨dd, hdd, hdp⟩ := dps_at D3 hx
      refine ⟨rfl, x, rfl, x, dd, rfl, dp_keep k6 t3 hdp, fun H7 s7 => ⟨_, _, rfl, rfl, _, rfl, ite2 (fun e => absurd e (by rw [g2.deed dd (List.mem_of_getElem? hdd)]; decide)) fun _ => ?_⟩⟩
      exact ⟨k6.trans (.same s7), s7 _ _ e6⟩
    rintro H6 ⟨k6, e6⟩
    have t6 := k6.tabs t3
    refine ⟨Nat.zero_le _, fun pe npe => ⟨.list [], .list [], .lst (.of (same_new npe _ _ e6)) .nil, .lst (.of upd_same) .nil, rfl, rfl, _, rfl, ite2 (fun e => absurd e (by decide)) fun _ => ?_⟩⟩
    have k7 := k6.trans (Keep.new (T := T) (o := .lst []) npe)
    generalize upd H6 pe (.lst []) = H7 at k7 ⊢
    clear e6 npe
    have t7 := k7.tabs t3
    -- the locks
    refine ⟨.ref p, rfl, .ref p, ds, rfl, dp_keep k7 t3 P3, t7, hp, fun lk H8 elk k8 => ?_⟩
    have k8 := k7.trans k8
    have t8 := k8.tabs t3
    refine ⟨2, rfl, by decide, by decide, fun D nD => lc_range (lo := 0) (n := 2) (fun j H9 => Keep T H3 H9 ∧ H9 lk = some (.lst ((locksD ds).map V.int)) ∧ H9 D = some (.lst (((([0, 1] : List Int).take j).filter fun l => ds.any (isTake l)).map V.int))) ⟨k8.trans (.new nD), same_new nD _ _ elk, upd_same⟩ ?_ ?_⟩
    · rintro j H9 hj ⟨k9, el9, e9⟩
      have nD3 : H3 D = none := k8.free t3 nD
      refine ⟨rfl, .int (0 + j), rfl, by show 2 ≤ sizeLine; decide, fun pt npt => ?_⟩
      have k10 := k9.trans (Keep.new (T := T) (o := .tup [.str "take", .int (0 + j)]) npt)
      have el10 := same_new (o := .tup [.str "take", .int (0 + j)]) npt _ _ el9
      have e10 := same_new (o := .tup [.str "take", .int (0 + j)]) npt _ _ e9
      have eT : SqT K (upd H9 pt (.tup [.str "take", .int (0 + j)])) pt [.str "take", .int (0 + j)] := .of upd_same
      generalize upd H9 pt (.tup [.str "take", .int (0 + j)]) = H10 at k10 el10 e10 eT ⊢
      refine ⟨.ref p, rfl, .tuple [.str "take", .int (0 + j)], ds, pair_dp eT, dp_keep k10 t3 P3, take_shaped _, words_shaped hwD, _, rfl, ?_⟩
      rw [any_take hpair]
      have tk : ([0, 1] : List Int).take (j + 1) = ([0, 1] : List Int).take j ++ [(0 + j : Int)] := take2 hj
      have nlk : lk ≠ D := ne_of_none elk nD
      refine ite2 (fun e => ?_) fun e => ?_
      · refine ⟨_, rfl, _, e10, ?_, k10.own t3 nD3, by rw [upd_ne nlk]; exact el10, ?_⟩
        · refine small1000 ?_
          rw [List.length_map]
          refine Nat.le_trans (List.length_filter_le _ _) (Nat.le_trans (List.length_take_le' ..) (by decide))
        · rw [upd_same, tk, List.filter_append, List.map_append]
          have : ([(0 + j : Int)].filter fun l => ds.any (isTake l)) = [(0 + j : Int)] := by
            rw [List.filter_cons, if_pos e]; rfl
          rw [this]; rfl
      · refine ⟨k10, el10, ?_⟩
        rw [tk, List.filter_append]
        have : ([(0 + j : Int)].filter fun l => ds.any (isTake l)) = [] := by
          rw [List.filter_cons, if_neg e]; rfl
        rw [this, List.append_nil]
        exact e10
    rintro H9 ⟨k9, el9, e9⟩
    have e9 : H9 D = some (.lst ((locksD ds).map V.int)) := e9
    refine ⟨.list ((locksD ds).map .int), .list ((locksD ds).map .int), .lst (.of el9) (dps_ints _), .lst (.of e9) (dps_ints _), ints_shaped _, ints_shaped _, _, rfl, ite2 (fun e => absurd e (ne_self (ints_shaped _))) fun _ => ?_⟩
    clear el9 e9 nD elk
    have t9 := k9.tabs t3
    -- best, pairs, held
    refine ⟨Nat.zero_le _, fun pr0 npr hd nhd => ⟨.int 0, .ref pr0, .ref hd, rfl, ?_⟩⟩
    have k10 := (k9.trans (Keep.new (T := T) (o := .lst []) npr)).trans (Keep.new (T := T) (o := .dK []) nhd)
    have nhd3 : H3 hd = none := (k9.trans (Keep.new (T := T) (o := .lst []) npr)).free t3 nhd
    have epr0 := same_new (o := .dK []) nhd pr0 _ (show (upd H9 pr0 (.lst [])) pr0 = some (.lst []) from upd_same)
    have ehd0 : (upd (upd H9 pr0 (.lst [])) hd (.dK [])) hd = some (.dK []) := upd_same
    generalize upd (upd H9 pr0 (.lst [])) hd (.dK []) = H10 at k10 epr0 ehd0 ⊢
    have hfU : fitGo (deedsL ds) [] = true := by rw [fit_deeds hpair]; exact g2.fit
    refine ⟨.ref u, rfl, u, us, rfl, .inl (k10.sqL t3 sU), _, rfl, by omega, by omega, for_range (lo := 0) (n := ((us.length : Int)).toNat) (LInv K T H3 (deedsL ds) a d p u hd)
      ⟨0, pr0, [], [], 0, 0, none, none, none, rfl, k10, ehd0, epr0, (fun _ z => nomatch z), Nat.le_refl _, .inl rfl, hfU, rfl, rfl, (fun _ z => nomatch z), (fun _ z => nomatch z)⟩ ?_ ?_⟩
    · rintro i σ H11 hi ⟨b, pr, ks, hm, x, y, y7, y8, y9, rfl, k, eh, ep, hks, hkl, hok, hf, hall, hh, hxy, hk2⟩
      have hiu : i < us.length := by omega
      have hiU : i < (deedsL ds).length := by omega
      obtain ⟨dd, hdd, hdp⟩ := dps_at DU (List.getElem?_eq_getElem hiu)
      obtain ⟨kk, n, rfl, _, hn⟩ := hwU dd (List.mem_of_getElem? hdd)
      obtain ⟨t, et, htt⟩ := pair_inv (dp_keep k t3 hdp)
      have edrop : (deedsL ds).drop i = .tuple [.str kk, .int n] :: (deedsL ds).drop (i + 1) := by
        rw [List.drop_eq_getElem_cons hiU, (List.getElem?_eq_some_iff.mp hdd).2]
      rw [edrop] at hf hall hh
      have hat : atI us (0 + i) = some (.ref t) := by rw [atI_nat hiu, et]
      refine ⟨.ref u, rfl, .int (0 + i), rfl, u, us, 0 + i, .ref t, rfl, rfl, k.sqL t3 sU, hat, t, _, rfl, htt, rfl, .str kk, [.int n], rfl, .int n, [], rfl, rfl, ?_⟩
      obtain ⟨f1, f2', f3⟩ := fit_inv hf
      rw [allP_step] at hall
      by_cases k1 : kk = "take"
      · subst k1
        rw [if_pos rfl] at hall
        rw [holdU_take] at hh
        obtain ⟨hm1, hf1⟩ := f1 rfl
        have hn01 := hn (.inl rfl)
        obtain ⟨ho2, hl1, hprs⟩ := held_take hok hn01 hm1
        have hml : hm.length ≤ 1 := by rw [List.length_map] at hl1; exact hl1
        refine ⟨.str "take", rfl, rfl, _, rfl, ite2 (fun _ => ?_) fun z => absurd (by decide +kernel) z⟩
        have ekeys : (hmV hm).map (·.1) = (hm.map Prod.fst).map Sum.inl := by
          rw [List.map_map, List.map_map]; rfl
        refine ⟨.ref pr, rfl, .ref hd, rfl, hd, hmV hm, hm.map Prod.fst, rfl, .of eh, ekeys, by omega, fun ys q perm pw nq => ?_⟩
        rw [perm_short perm hl1]
        have k12 := k.trans (Keep.new (T := T) (o := .lst ((hm.map Prod.fst).map V.int)) nq)
        have eh12 := same_new (o := .lst ((hm.map Prod.fst).map V.int)) nq _ _ eh
        have ep12 := same_new (o := .lst ((hm.map Prod.fst).map V.int)) nq _ _ ep
        have eq12 : (upd H11 q (.lst ((hm.map Prod.fst).map V.int))) q = some (.lst ((hm.map Prod.fst).map V.int)) := upd_same
        have hks12 : ∀ z ∈ ks, SqT K (upd H11 q (.lst ((hm.map Prod.fst).map V.int))) z.1 (z.2.map V.int) := fun z hz => (Keep.new (T := []) nq).sqT (fun _ z => nomatch z) (hks z hz)
        generalize upd H11 q (.lst ((hm.map Prod.fst).map V.int)) = H12 at k12 eh12 ep12 eq12 hks12 ⊢
        refine ⟨q, rfl, ⟨_, .of eq12⟩, fun D nD => lc_list (a := q) (xs := (hm.map Prod.fst).map V.int) (fun j H13 => ∃ ks2 : List (Addr × List Int), Same H12 H13 ∧ H13 D = some (.lst (ks2.map fun z => V.ref z.1)) ∧ (∀ z ∈ ks2, SqT K H13 z.1 (z.2.map V.int)) ∧ ks2.map (·.2) = ((hm.map Prod.fst).take j).map fun o => [o, n])
          ⟨[], same_new nD, upd_same, (fun _ z => nomatch z), rfl⟩ (fun j H13 _ ⟨_, s13, _⟩ => .of (s13 _ _ eq12)) ?_ ?_⟩
        · rintro j v H13 hx ⟨ks2, s13, e13, hq13, hl13⟩
          have hj : j < (hm.map Prod.fst).length := by
            have := (List.getElem?_eq_some_iff.mp hx).1
            rwa [List.length_map] at this
          have ex : v = .int (hm.map Prod.fst)[j] := by
            rw [List.getElem?_map, List.getElem?_eq_getElem hj] at hx
            exact (Option.some.inj hx).symm
          subst ex
          refine ⟨rfl, .int (hm.map Prod.fst)[j], rfl, .int n, rfl, by show 2 ≤ sizeLine; decide, fun pt npt => ?_⟩
          have e14 := same_new (o := .tup [.int (hm.map Prod.fst)[j], .int n]) npt _ _ e13
          have hl2 : ks2.length = j := by
            have := congrArg List.length hl13
            rw [List.length_map, List.length_map, List.length_take] at this
            omega
          refine ⟨_, e14, small1000 (by rw [List.length_map]; omega), ks2 ++ [(pt, [(hm.map Prod.fst)[j], n])], ?_, ?_, ?_, ?_⟩
          · exact fun b o e => by rw [upd_ne (ne_of_none e nD)]; exact same_new npt _ _ (s13 b o e)
          · rw [upd_same, List.map_append]; rfl
          · intro z hz
            refine sqT_upd ?_ e14
            rcases List.mem_append.mp hz with w | w
            · exact (Keep.new (T := []) npt).sqT (fun _ z => nomatch z) (hq13 z w)
            · rw [List.mem_singleton.mp w]; exact .of upd_same
          · rw [List.map_append, hl13, List.take_add_one, List.getElem?_eq_getElem hj, List.map_append]
            rfl
        rintro H13 ⟨ks2, s13, e13, hq13, hl13⟩
        rw [List.length_map, List.take_length] at hl13
        have hl2 : ks2.length ≤ 1 := by
          have := congrArg List.length hl13
          rw [List.length_map, List.length_map] at this
          omega
        have k13 := k12.trans (Keep.same (T := T) s13)
        refine ⟨pr, D, _, _, rfl, rfl, s13 _ _ ep12, e13, Nat.le_of_lt (small1000 (by rw [List.length_map, List.length_map]; omega)), fun pr2 npr2 => ?_⟩
        have eh14 := same_new (o := .lst ((ks.map fun q => V.ref q.1) ++ (ks2.map fun z => V.ref z.1))) npr2 _ _ (s13 _ _ eh12)
        have k14 := k13.trans (Keep.new (T := T) (o := .lst ((ks.map fun q => V.ref q.1) ++ (ks2.map fun z => V.ref z.1))) npr2)
        have ep14 : (upd H13 pr2 (.lst ((ks.map fun q => V.ref q.1) ++ (ks2.map fun z => V.ref z.1)))) pr2 = some (.lst ((ks ++ ks2).map fun q => V.ref q.1)) := by rw [upd_same, List.map_append]
        have hks14 : ∀ z ∈ ks ++ ks2, SqT K (upd H13 pr2 (.lst ((ks.map fun q => V.ref q.1) ++ (ks2.map fun z => V.ref z.1)))) z.1 (z.2.map V.int) := fun z hz => by
          refine (Keep.new (T := []) npr2).sqT (fun _ z => nomatch z) ?_
          rcases List.mem_append.mp hz with w | w
          · exact (Keep.same (T := []) s13).sqT (fun _ z => nomatch z) (hks12 z w)
          · exact hq13 z w
        generalize upd H13 pr2 (.lst ((ks.map fun q => V.ref q.1) ++ (ks2.map fun z => V.ref z.1))) = H14 at k14 eh14 ep14 hks14 ⊢
        have npd : pr2 ≠ hd := ne_of ep14 eh14 (by intro z; cases z)
        refine ⟨.int (0 + i), rfl, .ref hd, rfl, .int n, rfl, hd, _, rfl, DPut.k (k := .inl n) eh14 (small1000 (by rw [List.length_map]; omega)), ?_⟩
        refine ⟨.str "take", rfl, rfl, _, rfl, ite2 (fun z => absurd z (by decide +kernel)) fun _ => ?_⟩
        have ekm : (hm ++ [(n, (0 + i : Int))]).map Prod.fst = hm.map Prod.fst ++ [n] := by rw [List.map_append]; rfl
        refine ⟨b, pr2, ks ++ ks2, hm ++ [(n, (0 + i : Int))], _, _, _, _, _, rfl, k14.own t3 nhd3, by rw [upd_same, hm_put hm1], by rw [upd_ne npd]; exact ep14, fun z hz => sqT_upd2 (hks14 z hz) eh14 (fun xs z => by cases z) (fun ob x z => by cases z), by rw [List.length_append]; omega, by rw [ekm]; exact ho2, by rw [ekm]; exact hf1, ?_, hh, fun z hz => ?_, fun z hz => ?_⟩
        · rw [ekm, hall, List.map_append, hl13, List.append_assoc]
        · rcases List.mem_append.mp hz with w | w
          · have hne : z.1 ≠ n := fun e => hm1 (List.mem_map.mpr ⟨z, w, e⟩)
            obtain ⟨h0, h1⟩ := hxy z w
            refine ⟨fun e => ?_, fun e => ?_⟩
            · rw [if_neg (by omega)]; exact h0 e
            · rw [if_neg (by omega)]; exact h1 e
          · rw [List.mem_singleton.mp w]
            refine ⟨fun e => ?_, fun e => ?_⟩
            · have e : n = 0 := e
              rw [if_pos e]
              show (i : Int) + 1 = 0 + i + 1
              omega
            · have e : n = 1 := e
              rw [if_pos (by omega)]
              show (i : Int) + 1 = 0 + i + 1
              omega
        · rcases List.mem_append.mp hz with w | w
          · exact hk2 z w
          · have : z.2 ∈ ks2.map (·.2) := List.mem_map.mpr ⟨z, w, rfl⟩
            rw [hl13] at this
            obtain ⟨o, ho, e⟩ := List.mem_map.mp this
            rw [← e]
            exact hprs o ho
      · refine ⟨.str kk, rfl, rfl, _, rfl, ite2 (fun z => absurd (V.str.inj (of_decide_eq_true z)) k1) fun _ => ?_⟩
        rw [if_neg k1] at hall
        by_cases k2 : kk = "give"
        · subst k2
          rw [if_pos rfl] at hall
          rw [holdU_give] at hh
          obtain ⟨hm1, hf1⟩ := f2' rfl
          have hn01 := hn (.inr rfl)
          obtain ⟨t0, hv, hmem⟩ := hm_val hm1
          refine ⟨.str "give", rfl, rfl, _, rfl, ite2 (fun _ => ?_) fun z => absurd (by decide +kernel) z⟩
          refine ⟨.int b, rfl, .int (0 + i), rfl, .ref hd, rfl, hd, rfl, .inl ⟨_, .of eh⟩, .int n, rfl, hmV hm, .inl n, .int t0, eh, rfl, hv, _, _, rfl, rfl, _, _, rfl, ?_⟩
          have e0 : (0 : Int) + i - t0 = i + 1 - (if n = 0 then x else y) := by
            obtain ⟨h0, h1⟩ := hxy _ hmem
            rcases hn01 with z | z
            · have := h0 z
              rw [if_pos z]; omega
            · have := h1 z
              rw [if_neg (by omega)]; omega
          have npd : pr ≠ hd := ne_of ep eh (by intro z; cases z)
          refine ⟨_, pr, ks, hm.filter fun q => decide (q.1 ≠ n), x, y, _, _, _, rfl, k.own t3 nhd3, by rw [upd_same, hm_drop], by rw [upd_ne npd]; exact ep, fun q hq => sqT_upd2 (hks q hq) eh (fun xs z => by cases z) (fun ob x z => by cases z), Nat.le_succ_of_le hkl, by rw [hm_keys hok]; exact held_give hok hm1, by rw [hm_keys hok]; exact hf1, by rw [hm_keys hok]; exact hall, ?_, fun q hq => hxy q ((List.mem_filter.mp hq).1), hk2⟩
          rw [hh, e0]
          rfl
        · refine ⟨.str kk, rfl, rfl, _, rfl, ite2 (fun z => absurd (V.str.inj (of_decide_eq_true z)) k2) fun _ => ?_⟩
          rw [if_neg k2] at hall
          rw [holdU_plain k1 k2] at hh
          exact ⟨b, pr, ks, hm, x, y, _, _, _, rfl, k, eh, ep, hks, Nat.le_succ_of_le hkl, hok, f3 k1 k2, hall, hh, hxy, hk2⟩
    rintro σ H11 ⟨b, pr, ks, hm, x, y, y7, y8, y9, rfl, k11, eh, ep, hks, hkl, hok, hf, hall, hh, hxy, hk2⟩
    have hn43 : (us.length : Int).toNat = (deedsL ds).length := by omega
    rw [hn43, List.drop_length] at hall hh
    have hall : allP ds [] = ks.map (·.2) := by rw [← allP_units hpair, hall]; exact List.append_nil _
    have hh : holdGo ds 0 0 0 0 = b := by rw [← holdU_units g2.deed, hh]; rfl
    have hkl : ks.length ≤ 43 := by omega
    have t11 := k11.tabs t3
    -- the longest hold, the pairs
    refine ⟨.ref p, rfl, .ref p, ds, rfl, dp_keep k11 t3 P3, t11, hp, fun H12 k12 => ?_⟩
    refine ⟨.int b, rfl, rfl, _, rfl, ite2 (fun e => absurd e (by rw [hh]; simp)) fun _ => ?_⟩
    have t12 := k12.tabs t11
    refine ⟨.ref p, rfl, .ref p, ds, rfl, dp_keep (k11.trans k12) t3 P3, t12, hp, fun v' H13 dv k13 => ?_⟩
    have k13 := k12.trans k13
    have ep13 := k13.lst t11 ep
    have hks13 : ∀ z ∈ ks, SqT K H13 z.1 (z.2.map V.int) := fun z hz => k13.sqT t11 (hks z hz)
    refine ⟨.ref pr, rfl, pr, ks, rfl, .of ep13, hks13, by omega, fun sa L nsa L1 L2 => ?_⟩
    have hL : ∀ z ∈ L, SqT K (upd H13 sa (SetTO P w sa L)) z.1 (z.2.map V.int) := fun z hz => (Keep.new (T := []) nsa).sqT (fun _ z => nomatch z) (hks13 z (L1 z hz))
    refine ⟨sa, L, 2, 64, rfl, upd_same, hL, by decide, fun z hz => ?_, fun L' p' perm ndL few pw hp0 => ?_⟩
    · rcases hk2 z (L1 z hz) with e | e <;> rw [e] <;> exact ⟨rfl, fun x hx => by simp at hx; omega⟩
    have eL : L'.map (·.2) = pairsD ds := by
      have hm2 : ∀ x, x ∈ L'.map (·.2) ↔ x ∈ allP ds [] := fun x => by
        rw [(perm.map (·.2)).mem_iff, hall]
        constructor
        · intro z
          obtain ⟨q0, hq0, e⟩ := List.mem_map.mp z
          exact List.mem_map.mpr ⟨q0, L1 q0 hq0, e⟩
        · intro z
          obtain ⟨q0, hq0, e⟩ := List.mem_map.mp z
          rw [← e]
          exact L2 q0 hq0
      rw [two_sorted (L'.map (·.2)) ndL (fun x hx => by
        obtain ⟨q0, hq0, e⟩ := List.mem_map.mp hx
        rw [← e]
        exact hk2 q0 (L1 q0 (perm.mem_iff.mp hq0))) (List.pairwise_map.mpr pw)]
      unfold pairsD
      refine List.filter_congr fun x _ => ?_
      rw [decide_eq_decide]
      exact hm2 x
    have k14 := (k13.trans (Keep.new (T := T) (o := SetTO P w sa L) nsa)).trans (Keep.new (T := T) (o := .lst (L'.map fun q => V.ref q.1)) hp0)
    have dv14 := dp_keep ((Keep.new (T := T) (o := SetTO P w sa L) nsa).trans (Keep.new (T := T) (o := .lst (L'.map fun q => V.ref q.1)) hp0)) (k13.tabs t11) dv
    have dL14 : Dp K (upd (upd H13 sa (SetTO P w sa L)) p' (.lst (L'.map fun q => V.ref q.1))) (.ref p') (.list ((pairsD ds).map tupD)) := by
      refine .lst (.of upd_same) ?_
      rw [← eL, List.map_map]
      have hL2 : ∀ z ∈ L', SqT K (upd (upd H13 sa (SetTO P w sa L)) p' (.lst (L'.map fun q => V.ref q.1))) z.1 (z.2.map V.int) := fun z hz => (Keep.new (T := []) hp0).sqT (fun _ z => nomatch z) (hL z (perm.mem_iff.mp hz))
      have all : ∀ (M : List (Addr × List Int)), (∀ z ∈ M, SqT K (upd (upd H13 sa (SetTO P w sa L)) p' (.lst (L'.map fun q => V.ref q.1))) z.1 (z.2.map V.int)) → DpAll K (upd (upd H13 sa (SetTO P w sa L)) p' (.lst (L'.map fun q => V.ref q.1))) (M.map fun q => V.ref q.1) (M.map (tupD ∘ fun x => x.2)) := fun M => by
        induction M with
        | nil => exact fun _ => .nil
        | cons p M ih => exact fun hM => .cons (.tup (hM p List.mem_cons_self) (dps_ints p.2)) (ih fun x hx => hM x (List.mem_cons_of_mem _ hx))
      exact all L' hL2
    refine ⟨_, _, dv14, dL14, tups_shaped _, tups_shaped _, _, rfl, ite2 (fun e => absurd e (ne_self (tups_shaped _))) fun _ => ?_⟩
    have k14 := k11.trans k14
    have t14 := k14.tabs t3
    -- the plainest
    obtain ⟨pg1, pg2, pg3, pg4, pg5⟩ := plain_good g2 (by decide)
    refine ⟨.ref p, rfl, .ref p, ds, rfl, dp_keep k14 t3 P3, t14, hp, fun vt H15 dt k15 => ?_⟩
    obtain ⟨tl, ts, rfl, sT, DT⟩ := dp_list dt
    have htl := dps_len DT
    have t15 := k15.tabs t14
    have k15 := k14.trans k15
    refine ⟨.ref tl, rfl, .ref tl, .list (plainD ds), rfl, dt, t15, fun H16 k16 => ⟨_, _, rfl, rfl, _, rfl, ite2 (fun e => absurd e (by rw [pg1]; decide)) fun _ => ?_⟩⟩
    have t16 := k16.tabs t15
    refine ⟨.ref tl, rfl, .ref tl, plainD ds, rfl, dp_keep k16 t15 dt, t16, pg1, fun H17 k17 => ?_⟩
    have k17 := k16.trans k17
    have t17 := k17.tabs t15
    have eDL : deedsL (plainD ds) = deedsL ds := by show unitsL (plainD ds) ++ [endD] = unitsL ds ++ [endD]; rw [pg3]
    have hUl2 := deedsL_len pg2
    rw [eDL] at hUl2
    refine ⟨.ref u, rfl, u, us, rfl, .inl ((k15.trans k17).sqL t3 sU), rfl, _, rfl, ite2 (fun e => absurd e (by rw [show V.int (lenD (plainD ds)) = V.int (us.length : Int) by rw [hul, hUl2]]; simp)) fun _ => ?_⟩
    have hsum2 : ((plainD ds).map unitsD).sum ≤ 900 := by
      have h1 := unitsL_len pg2
      rw [pg3] at h1
      have h2 := unitsL_len g2.deed
      omega
    refine ⟨.ref tl, rfl, .ref tl, plainD ds, rfl, dp_keep k17 t15 dt, pg2, hsum2, fun v18 H18 d18 s18 => ?_⟩
    rw [eDL] at d18
    have k18 := k17.trans (Keep.same (T := T) s18)
    refine ⟨.ref u, rfl, _, _, d18, .lst ((k15.trans k18).sqL t3 sU) (dps_keep (k15.trans k18) t3 DU), words_shaped hwU, words_shaped hwU, _, rfl, ite2 (fun e => absurd e (ne_self (words_shaped hwU))) fun _ => ?_⟩
    -- no two works beside each other
    have t18 := k18.tabs t15
    refine ⟨.ref tl, rfl, tl, ts, rfl, .inl (k18.sqL t15 sT), _, 1, rfl, rfl, _, rfl, by omega, by omega, fun D nD => lc_range (lo := 0) (n := ((ts.length : Int) - 1).toNat) (fun j H19 => Keep T H15 H19 ∧ H19 D = some (.lst [])) ⟨k18.trans (.new nD), upd_same⟩ ?_ ?_⟩
    · rintro j H19 hj ⟨k19, e19⟩
      have hj1 : j < ts.length := by omega
      have hj2 : j + 1 < ts.length := by omega
      obtain ⟨da, hda, hpa⟩ := dps_at DT (List.getElem?_eq_getElem hj1)
      obtain ⟨db, hdb, hpb⟩ := dps_at DT (List.getElem?_eq_getElem hj2)
      have hadj := pg4 j da db hda hdb
      obtain ⟨ka, na, rfl⟩ := deedD_pair (pg2 da (List.mem_of_getElem? hda))
      obtain ⟨kb, nb, rfl⟩ := deedD_pair (pg2 db (List.mem_of_getElem? hdb))
      obtain ⟨ta, eta, sta⟩ := pair_inv (dp_keep k19 t15 hpa)
      obtain ⟨tb, etb, stb⟩ := pair_inv (dp_keep k19 t15 hpb)
      have at1 : atI ts (0 + j) = some (.ref ta) := by rw [atI_nat hj1, eta]
      have at2 : atI ts (0 + j + 1) = some (.ref tb) := by
        rw [show (0 + (j : Int) + 1) = 0 + ((j + 1 : Nat) : Int) by omega, atI_nat hj2, etb]
      have sq := k19.sqL t15 sT
      refine ⟨rfl, .ref tl, rfl, .int (0 + j), rfl, tl, ts, 0 + j, .ref ta, rfl, rfl, sq, at1, ta, _, 0, .str ka, rfl, rfl, sta, rfl, rfl, _, rfl, ite2 (fun e1 => ?_) fun e1 => ⟨k19, e19⟩⟩
      have e1 : ka = "work" := V.str.inj (of_decide_eq_true e1)
      refine ⟨.ref tl, rfl, .int (0 + j), rfl, _, 1, rfl, rfl, tl, ts, 0 + j + 1, .ref tb, rfl, rfl, sq, at2, tb, _, 0, .str kb, rfl, rfl, stb, rfl, rfl, _, rfl, ite2 (fun e2 => ?_) fun e2 => ⟨k19, e19⟩⟩
      have e2 : kb = "work" := V.str.inj (of_decide_eq_true e2)
      subst e1
      subst e2
      have ew : ∀ n : Int, isW (.tuple [.str "work", .int n]) = true := fun n => by
        show decide (("work" : Str) = "work") = true
        exact decide_eq_true rfl
      rw [ew, ew] at hadj
      cases hadj
    rintro H19 ⟨k19, e19⟩
    have t19 := k19.tabs t15
    refine ⟨Nat.zero_le _, fun pe npe => ⟨.list [], .list [], .lst (.of (same_new npe _ _ e19)) .nil, .lst (.of upd_same) .nil, rfl, rfl, _, rfl, ite2 (fun e => absurd e (by decide)) fun _ => ?_⟩⟩
    have k20 := k15.trans (k19.trans (Keep.new (T := T) (o := .lst []) npe))
    generalize upd H19 pe (.lst []) = H20 at k20 ⊢
    clear e19 npe nD
    have t20 := k20.tabs t3
    refine ⟨by show 2 ≤ sizeLine; decide, fun p1 m1 => ⟨by show 2 ≤ sizeLine; decide, fun p2 m2 => ⟨by show 2 ≤ sizeLine; decide, fun pl ml => ?_⟩⟩⟩
    obtain ⟨da1, ka1⟩ := lit2 m1 m2 ml (K := K) (T := T)
    have kb1 := k20.trans ka1
    refine ⟨.ref pl, [wk 60, wk 60], rfl, da1, kb1.tabs t3, ex1.1, fun v1 J1 dv1 kc1 => ?_⟩
    have kd1 := kb1.trans kc1
    have td1 := kd1.tabs t3
    clear da1 m1 ml m2
    refine ⟨by show 2 ≤ sizeLine; decide, fun p1 m1 => ⟨by show 2 ≤ sizeLine; decide, fun p2 m2 => ⟨by show 2 ≤ sizeLine; decide, fun pl ml => ?_⟩⟩⟩
    obtain ⟨de1, ke1⟩ := lit2 m1 m2 ml (K := K) (T := T)
    have kf1 := kd1.trans ke1
    refine ⟨_, _, dp_keep ke1 td1 dv1, de1, ex1.2.1, ex1.2.2.1, _, rfl, ite2 (fun e => absurd e ex1.2.2.2) fun _ => ?_⟩
    refine ⟨by show 2 ≤ sizeLine; decide, fun p1 m1 => ⟨by show 2 ≤ sizeLine; decide, fun p2 m2 => ⟨by show 2 ≤ sizeLine; decide, fun pl ml => ?_⟩⟩⟩
    obtain ⟨da2, ka2⟩ := lit2 m1 m2 ml (K := K) (T := T)
    have kb2 := kf1.trans ka2
    refine ⟨.ref pl, [wk 98, wk 1], rfl, da2, kb2.tabs t3, ex2.1, fun v2 J2 dv2 kc2 => ?_⟩
    have kd2 := kb2.trans kc2
    have td2 := kd2.tabs t3
    clear da2 m1 ml m2
    refine ⟨by show 2 ≤ sizeLine; decide, fun p1 m1 => ⟨by show 1 ≤ sizeLine; decide, fun pl ml => ?_⟩⟩
    obtain ⟨de2, ke2⟩ := lit1 m1 ml (K := K) (T := T)
    have kf2 := kd2.trans ke2
    refine ⟨_, _, dp_keep ke2 td2 dv2, de2, ex2.2.1, ex2.2.2.1, _, rfl, ite2 (fun e => absurd e ex2.2.2.2) fun _ => ?_⟩
    refine ⟨by show 2 ≤ sizeLine; decide, fun p1 m1 => ⟨by show 2 ≤ sizeLine; decide, fun p2 m2 => ⟨by show 2 ≤ sizeLine; decide, fun p3 m3 => ⟨by show 3 ≤ sizeLine; decide, fun pl ml => ?_⟩⟩⟩⟩
    obtain ⟨da3, ka3⟩ := lit3 m1 m2 m3 ml (K := K) (T := T)
    have kb3 := kf2.trans ka3
    refine ⟨.ref pl, [sl1, wk 1, wk 2], rfl, da3, kb3.tabs t3, ex3.1, fun v3 J3 dv3 kc3 => ?_⟩
    have kd3 := kb3.trans kc3
    have td3 := kd3.tabs t3
    clear da3 m1 ml m2 m3
    refine ⟨by show 2 ≤ sizeLine; decide, fun p1 m1 => ⟨by show 2 ≤ sizeLine; decide, fun p2 m2 => ⟨by show 2 ≤ sizeLine; decide, fun pl ml => ?_⟩⟩⟩
    obtain ⟨de3, ke3⟩ := lit2 m1 m2 ml (K := K) (T := T)
    have kf3 := kd3.trans ke3
    refine ⟨_, _, dp_keep ke3 td3 dv3, de3, ex3.2.1, ex3.2.2.1, _, rfl, ite2 (fun e => absurd e ex3.2.2.2) fun _ => ?_⟩
    refine ⟨by show 2 ≤ sizeLine; decide, fun p1 m1 => ⟨by show 2 ≤ sizeLine; decide, fun p2 m2 => ⟨by show 2 ≤ sizeLine; decide, fun pl ml => ?_⟩⟩⟩
    obtain ⟨da4, ka4⟩ := lit2 m1 m2 ml (K := K) (T := T)
    have kb4 := kf3.trans ka4
    refine ⟨.ref pl, [wk 98, wk 2], rfl, da4, kb4.tabs t3, ex4.1, fun v4 J4 dv4 kc4 => ?_⟩
    have kd4 := kb4.trans kc4
    have td4 := kd4.tabs t3
    clear da4 m1 ml m2
    refine ⟨by show 2 ≤ sizeLine; decide, fun p1 m1 => ⟨by show 2 ≤ sizeLine; decide, fun p2 m2 => ⟨by show 2 ≤ sizeLine; decide, fun pl ml => ?_⟩⟩⟩
    obtain ⟨de4, ke4⟩ := lit2 m1 m2 ml (K := K) (T := T)
    have kf4 := kd4.trans ke4
    refine ⟨_, _, dp_keep ke4 td4 dv4, de4, ex4.2.1, ex4.2.2.1, _, rfl, ite2 (fun e => absurd e ex4.2.2.2) fun _ => ?_⟩
    exact ⟨.ref d, rfl, .ref p, rfl, d, nu, .ref p, ds, rfl, dp_keep kf4 t3 P3, g2.deed, by omega, kf4.tabs t3, dr3.keep t3 kf4, fun H' => q H'⟩

end
end K11

namespace K11
open PySem PySem.Spec PyProof.Rows L2 DA
/-! ### the head: facts by names, the run -/
def hD (x : Str) (i : Nat) : He.DefD := ⟨(x, none), x, x, defArgs (top i), defBody (top i), defScope (top i), [], []⟩
def fn8 : List He.DefD := [hD "is_number" 4, hD "is_deed" 8, hD "is_program" 9, hD "_locks_fit" 10, hD "check_program" 11, hD "length" 12, hD "_units" 13, hD "locks_used" 14, hD "longest_hold" 15, hD "nested_pairs" 16, hD "plainest" 17, hD "_is_one_work" 18, hD "_law_start" 20, hD "_law_draw" 21, hD "_law_pick" 22, hD "_law_true" 23, hD "_law_program" 24, hD "_law_deeds" 25, hD "_law_other_list" 26, hD "law" 27]
def fa8 : List He.Fa := [.glo "is_number", .glo "is_deed", .glo "is_program", .glo "_locks_fit", .glo "check_program", .glo "length", .glo "_units", .glo "locks_used", .glo "longest_hold", .glo "nested_pairs", .glo "plainest", .glo "_is_one_work", .glo "_law_start", .glo "_law_draw", .glo "_law_pick", .glo "_law_true", .glo "_law_program", .glo "_law_deeds", .glo "_law_other_list", .glo "law", .free "isinstance", .free "int", .free "bool", .free "tuple", .free "list", .free "str", .free "len", .free "all", .free "sum", .free "set", .free "sorted", .free "max", .free "range", .int "MOST_DEEDS" 40, .int "MOST_UNITS" 99]
def tf8 : List He.Defn := [("is_program", none), ("length", none)]
def loose8 : List Str := ["is_number", "TurnError", "BadProgram", "MOST_DEEDS", "MOST_UNITS", "is_deed", "is_program", "_locks_fit", "check_program", "length", "_units", "locks_used", "longest_hold", "nested_pairs", "plainest", "_is_one_work", "_law_start", "_law_draw", "_law_pick", "_law_true", "_law_program", "_law_deeds", "_law_other_list"]
abbrev R8 : PySem.W.OpenRow := PySem.W.OpenLaw.row PySem.Challenge.rw_processturns_k11_whole_programs
abbrev hk8 : PySem.W.Hook := He.hookX 4 fa8 fn8 [] tf8 fun _ => true
def ob8 (s : PySem.W.SharedT) : He.AlX := He.obsX 4 fa8 fn8 [] tf8 (fun _ => true) (HandSHeadRun.getT s)
theorem ob8_eq (s : PySem.W.SharedT) : ob8 s = hk8.obs s.abs := He.obsX_eq (HandSHeadRun.getT_eq s)
theorem run8 (w : World) : HandSHeadRun.RunEq R8 (PySem.W.view R8.prog [27]) hk8 ob8 3000 loose8 w := by
  intro os
  kernel_rfl
theorem funD_fun {K : PySem.W.Frag} {x : Str} {st : Stmt} {f : Addr} {fd : FuncData} (F : FunD K x x (defArgs st) (defBody st) (defScope st) [] [] f fd) : Fun K x x st f fd := by
  obtain ⟨oc, od, dV, kV, doc, pm, an, cdv, ct, osl, h1, h2, h3, h4, h5⟩ := F.ex
  rcases h4 with ⟨_, rfl⟩ | ⟨e, _⟩
  · exact ⟨⟨oc, od, kV, doc, pm, an, cdv, ct, osl, h1, h2, h3⟩, F.kp⟩
  · exact absurd rfl e
theorem funD_funC {K : PySem.W.Frag} {x : Str} {st : Stmt} {fd : FuncData} (F : FunD K x x (defArgs st) (defBody st) (defScope st) [] [] (He.fAd K (x, none)) fd) : FunC K x x st (He.fAd K (x, none)) fd (He.codeOf K (x, none)) := by
  obtain ⟨oc, od, dV, kV, doc, pm, an, cdv, ct, osl, h1, h2, h3, h4, h5⟩ := F.ex
  rcases h4 with ⟨_, rfl⟩ | ⟨e, _⟩
  · obtain ⟨c, rfl⟩ := He.codeIn_ref h3
    have ec : He.codeOf K (x, none) = c := He.codeOf_eq h2 (by rw [h1])
    rw [ec]
    exact ⟨⟨oc, od, kV, doc, pm, an, ct, osl, h1, h2, h3⟩, F.kp⟩
  · exact absurd rfl e
theorem triples_nil : TriplesOk (#[] : Array Value).toList := by first | trivial | exact True.intro | (unfold TriplesOk; trivial) | constructor
theorem law_at {w : World} {K : PySem.W.Frag} {h : Heap} {mg : Str → Option Value} {fl : Addr} (X : K.In h) (Gm : h.Ns mainGlobals mg) (hfa : mg ("law" : Str) = some (.ref fl)) (c : He.SaysX fa8 fn8 [] tf8 (fun _ => true) w h K) :
    LamX.LawAtS PySem.Challenge.rw_processturns_k11_whole_programs w K CX0 7 63 "_law_script" mg fl h := by
  have cd : He.SaysD fa8 fn8 K := c.t.d
  obtain ⟨d0, D0⟩ := cd.def_ 0 (d := hD "is_number" 4) rfl
  have D0 : FunD K "is_number" "is_number" (defArgs (top 4)) (defBody (top 4)) (defScope (top 4)) [] [] (He.fAd K ("is_number", none)) d0 := D0
  have g0 : mg "is_number" = some (.ref (He.fAd K ("is_number", none))) := He.glo_ok X Gm (cd.fact 0 (f := .glo "is_number") rfl)
  have F0 := funD_fun (st := top 4) D0
  have b0 : Binds K d0 ["value", "least", "greatest"] [] := D0.bindsN fun _ _ _ _ _ _ us hl => match us, hl with | [_, _, _], _ => rfl
  obtain ⟨d1, D1⟩ := cd.def_ 1 (d := hD "is_deed" 8) rfl
  have D1 : FunD K "is_deed" "is_deed" (defArgs (top 8)) (defBody (top 8)) (defScope (top 8)) [] [] (He.fAd K ("is_deed", none)) d1 := D1
  have g1 : mg "is_deed" = some (.ref (He.fAd K ("is_deed", none))) := He.glo_ok X Gm (cd.fact 1 (f := .glo "is_deed") rfl)
  have F1 := funD_fun (st := top 8) D1
  have b1 : Binds K d1 ["value"] [] := D1.bindsN fun _ _ _ _ _ _ us hl => match us, hl with | [_], _ => rfl
  obtain ⟨d2, D2⟩ := cd.def_ 2 (d := hD "is_program" 9) rfl
  have D2 : FunD K "is_program" "is_program" (defArgs (top 9)) (defBody (top 9)) (defScope (top 9)) [] [] (He.fAd K ("is_program", none)) d2 := D2
  have g2 : mg "is_program" = some (.ref (He.fAd K ("is_program", none))) := He.glo_ok X Gm (cd.fact 2 (f := .glo "is_program") rfl)
  have F2 := funD_funC (st := top 9) D2
  have b2 : Binds K d2 ["value"] [] := D2.bindsN fun _ _ _ _ _ _ us hl => match us, hl with | [_], _ => rfl
  obtain ⟨d3, D3⟩ := cd.def_ 3 (d := hD "_locks_fit" 10) rfl
  have D3 : FunD K "_locks_fit" "_locks_fit" (defArgs (top 10)) (defBody (top 10)) (defScope (top 10)) [] [] (He.fAd K ("_locks_fit", none)) d3 := D3
  have g3 : mg "_locks_fit" = some (.ref (He.fAd K ("_locks_fit", none))) := He.glo_ok X Gm (cd.fact 3 (f := .glo "_locks_fit") rfl)
  have F3 := funD_fun (st := top 10) D3
  have b3 : Binds K d3 ["deeds"] [] := D3.bindsN fun _ _ _ _ _ _ us hl => match us, hl with | [_], _ => rfl
  obtain ⟨d4, D4⟩ := cd.def_ 4 (d := hD "check_program" 11) rfl
  have D4 : FunD K "check_program" "check_program" (defArgs (top 11)) (defBody (top 11)) (defScope (top 11)) [] [] (He.fAd K ("check_program", none)) d4 := D4
  have g4 : mg "check_program" = some (.ref (He.fAd K ("check_program", none))) := He.glo_ok X Gm (cd.fact 4 (f := .glo "check_program") rfl)
  have F4 := funD_fun (st := top 11) D4
  have b4 : Binds K d4 ["value"] [] := D4.bindsN fun _ _ _ _ _ _ us hl => match us, hl with | [_], _ => rfl
  obtain ⟨d5, D5⟩ := cd.def_ 5 (d := hD "length" 12) rfl
  have D5 : FunD K "length" "length" (defArgs (top 12)) (defBody (top 12)) (defScope (top 12)) [] [] (He.fAd K ("length", none)) d5 := D5
  have g5 : mg "length" = some (.ref (He.fAd K ("length", none))) := He.glo_ok X Gm (cd.fact 5 (f := .glo "length") rfl)
  have F5 := funD_funC (st := top 12) D5
  have b5 : Binds K d5 ["program"] [] := D5.bindsN fun _ _ _ _ _ _ us hl => match us, hl with | [_], _ => rfl
  obtain ⟨d6, D6⟩ := cd.def_ 6 (d := hD "_units" 13) rfl
  have D6 : FunD K "_units" "_units" (defArgs (top 13)) (defBody (top 13)) (defScope (top 13)) [] [] (He.fAd K ("_units", none)) d6 := D6
  have g6 : mg "_units" = some (.ref (He.fAd K ("_units", none))) := He.glo_ok X Gm (cd.fact 6 (f := .glo "_units") rfl)
  have F6 := funD_fun (st := top 13) D6
  have b6 : Binds K d6 ["deed"] [] := D6.bindsN fun _ _ _ _ _ _ us hl => match us, hl with | [_], _ => rfl
  obtain ⟨d7, D7⟩ := cd.def_ 7 (d := hD "locks_used" 14) rfl
  have D7 : FunD K "locks_used" "locks_used" (defArgs (top 14)) (defBody (top 14)) (defScope (top 14)) [] [] (He.fAd K ("locks_used", none)) d7 := D7
  have g7 : mg "locks_used" = some (.ref (He.fAd K ("locks_used", none))) := He.glo_ok X Gm (cd.fact 7 (f := .glo "locks_used") rfl)
  have F7 := funD_fun (st := top 14) D7
  have b7 : Binds K d7 ["program"] [] := D7.bindsN fun _ _ _ _ _ _ us hl => match us, hl with | [_], _ => rfl
  obtain ⟨d8, D8⟩ := cd.def_ 8 (d := hD "longest_hold" 15) rfl
  have D8 : FunD K "longest_hold" "longest_hold" (defArgs (top 15)) (defBody (top 15)) (defScope (top 15)) [] [] (He.fAd K ("longest_hold", none)) d8 := D8
  have g8 : mg "longest_hold" = some (.ref (He.fAd K ("longest_hold", none))) := He.glo_ok X Gm (cd.fact 8 (f := .glo "longest_hold") rfl)
  have F8 := funD_fun (st := top 15) D8
  have b8 : Binds K d8 ["program"] [] := D8.bindsN fun _ _ _ _ _ _ us hl => match us, hl with | [_], _ => rfl
  obtain ⟨d9, D9⟩ := cd.def_ 9 (d := hD "nested_pairs" 16) rfl
  have D9 : FunD K "nested_pairs" "nested_pairs" (defArgs (top 16)) (defBody (top 16)) (defScope (top 16)) [] [] (He.fAd K ("nested_pairs", none)) d9 := D9
  have g9 : mg "nested_pairs" = some (.ref (He.fAd K ("nested_pairs", none))) := He.glo_ok X Gm (cd.fact 9 (f := .glo "nested_pairs") rfl)
  have F9 := funD_fun (st := top 16) D9
  have b9 : Binds K d9 ["program"] [] := D9.bindsN fun _ _ _ _ _ _ us hl => match us, hl with | [_], _ => rfl
  obtain ⟨d10, D10⟩ := cd.def_ 10 (d := hD "plainest" 17) rfl
  have D10 : FunD K "plainest" "plainest" (defArgs (top 17)) (defBody (top 17)) (defScope (top 17)) [] [] (He.fAd K ("plainest", none)) d10 := D10
  have g10 : mg "plainest" = some (.ref (He.fAd K ("plainest", none))) := He.glo_ok X Gm (cd.fact 10 (f := .glo "plainest") rfl)
  have F10 := funD_fun (st := top 17) D10
  have b10 : Binds K d10 ["program"] [] := D10.bindsN fun _ _ _ _ _ _ us hl => match us, hl with | [_], _ => rfl
  obtain ⟨d11, D11⟩ := cd.def_ 11 (d := hD "_is_one_work" 18) rfl
  have D11 : FunD K "_is_one_work" "_is_one_work" (defArgs (top 18)) (defBody (top 18)) (defScope (top 18)) [] [] (He.fAd K ("_is_one_work", none)) d11 := D11
  have g11 : mg "_is_one_work" = some (.ref (He.fAd K ("_is_one_work", none))) := He.glo_ok X Gm (cd.fact 11 (f := .glo "_is_one_work") rfl)
  have F11 := funD_fun (st := top 18) D11
  have b11 : Binds K d11 ["one", "other"] [] := D11.bindsN fun _ _ _ _ _ _ us hl => match us, hl with | [_, _], _ => rfl
  obtain ⟨d12, D12⟩ := cd.def_ 12 (d := hD "_law_start" 20) rfl
  have D12 : FunD K "_law_start" "_law_start" (defArgs (top 20)) (defBody (top 20)) (defScope (top 20)) [] [] (He.fAd K ("_law_start", none)) d12 := D12
  have g12 : mg "_law_start" = some (.ref (He.fAd K ("_law_start", none))) := He.glo_ok X Gm (cd.fact 12 (f := .glo "_law_start") rfl)
  have F12 := funD_fun (st := top 20) D12
  have b12 : Binds K d12 ["_law_script"] [] := D12.bindsN fun _ _ _ _ _ _ us hl => match us, hl with | [_], _ => rfl
  obtain ⟨d13, D13⟩ := cd.def_ 13 (d := hD "_law_draw" 21) rfl
  have D13 : FunD K "_law_draw" "_law_draw" (defArgs (top 21)) (defBody (top 21)) (defScope (top 21)) [] [] (He.fAd K ("_law_draw", none)) d13 := D13
  have g13 : mg "_law_draw" = some (.ref (He.fAd K ("_law_draw", none))) := He.glo_ok X Gm (cd.fact 13 (f := .glo "_law_draw") rfl)
  have F13 := funD_fun (st := top 21) D13
  have b13 : Binds K d13 ["_law_draws", "_law_limit"] [] := D13.bindsN fun _ _ _ _ _ _ us hl => match us, hl with | [_, _], _ => rfl
  obtain ⟨d14, D14⟩ := cd.def_ 14 (d := hD "_law_pick" 22) rfl
  have D14 : FunD K "_law_pick" "_law_pick" (defArgs (top 22)) (defBody (top 22)) (defScope (top 22)) [] [] (He.fAd K ("_law_pick", none)) d14 := D14
  have g14 : mg "_law_pick" = some (.ref (He.fAd K ("_law_pick", none))) := He.glo_ok X Gm (cd.fact 14 (f := .glo "_law_pick") rfl)
  have F14 := funD_fun (st := top 22) D14
  have b14 : Binds K d14 ["_law_draws", "_law_choices"] [] := D14.bindsN fun _ _ _ _ _ _ us hl => match us, hl with | [_, _], _ => rfl
  obtain ⟨d15, D15⟩ := cd.def_ 15 (d := hD "_law_true" 23) rfl
  have D15 : FunD K "_law_true" "_law_true" (defArgs (top 23)) (defBody (top 23)) (defScope (top 23)) [] [] (He.fAd K ("_law_true", none)) d15 := D15
  have g15 : mg "_law_true" = some (.ref (He.fAd K ("_law_true", none))) := He.glo_ok X Gm (cd.fact 15 (f := .glo "_law_true") rfl)
  have F15 := funD_fun (st := top 23) D15
  have b15 : Binds K d15 ["_law_value", "_law_expected"] [] := D15.bindsN fun _ _ _ _ _ _ us hl => match us, hl with | [_, _], _ => rfl
  obtain ⟨d16, D16⟩ := cd.def_ 16 (d := hD "_law_program" 24) rfl
  have D16 : FunD K "_law_program" "_law_program" (defArgs (top 24)) (defBody (top 24)) (defScope (top 24)) [] [] (He.fAd K ("_law_program", none)) d16 := D16
  have g16 : mg "_law_program" = some (.ref (He.fAd K ("_law_program", none))) := He.glo_ok X Gm (cd.fact 16 (f := .glo "_law_program") rfl)
  have F16 := funD_fun (st := top 24) D16
  have b16 : Binds K d16 ["_law_draws", "_law_locks", "_law_most"] [] := D16.bindsN fun _ _ _ _ _ _ us hl => match us, hl with | [_, _, _], _ => rfl
  obtain ⟨d17, D17⟩ := cd.def_ 17 (d := hD "_law_deeds" 25) rfl
  have D17 : FunD K "_law_deeds" "_law_deeds" (defArgs (top 25)) (defBody (top 25)) (defScope (top 25)) [] [] (He.fAd K ("_law_deeds", none)) d17 := D17
  have g17 : mg "_law_deeds" = some (.ref (He.fAd K ("_law_deeds", none))) := He.glo_ok X Gm (cd.fact 17 (f := .glo "_law_deeds") rfl)
  have F17 := funD_fun (st := top 25) D17
  have b17 : Binds K d17 ["_law_program_here"] [] := D17.bindsN fun _ _ _ _ _ _ us hl => match us, hl with | [_], _ => rfl
  obtain ⟨d18, D18⟩ := cd.def_ 18 (d := hD "_law_other_list" 26) rfl
  have D18 : FunD K "_law_other_list" "_law_other_list" (defArgs (top 26)) (defBody (top 26)) (defScope (top 26)) [] [] (He.fAd K ("_law_other_list", none)) d18 := D18
  have g18 : mg "_law_other_list" = some (.ref (He.fAd K ("_law_other_list", none))) := He.glo_ok X Gm (cd.fact 18 (f := .glo "_law_other_list") rfl)
  have F18 := funD_fun (st := top 26) D18
  have b18 : Binds K d18 ["_law_draws", "_law_program_here"] [] := D18.bindsN fun _ _ _ _ _ _ us hl => match us, hl with | [_, _], _ => rfl
  obtain ⟨d19, D19⟩ := cd.def_ 19 (d := hD "law" 27) rfl
  have D19 : FunD K "law" "law" (defArgs (top 27)) (defBody (top 27)) (defScope (top 27)) [] [] (He.fAd K ("law", none)) d19 := D19
  have g19 : mg "law" = some (.ref (He.fAd K ("law", none))) := He.glo_ok X Gm (cd.fact 19 (f := .glo "law") rfl)
  have F19 := funD_fun (st := top 27) D19
  have b19 : Binds K d19 ["_law_script"] [] := D19.bindsN fun _ _ _ _ _ _ us hl => match us, hl with | [_], _ => rfl
  have G : Glob mg := ⟨He.free_ok X Gm (cd.fact 20 (f := .free "isinstance") rfl), He.free_ok X Gm (cd.fact 21 (f := .free "int") rfl), He.free_ok X Gm (cd.fact 22 (f := .free "bool") rfl), He.free_ok X Gm (cd.fact 23 (f := .free "tuple") rfl), He.free_ok X Gm (cd.fact 24 (f := .free "list") rfl), He.free_ok X Gm (cd.fact 25 (f := .free "str") rfl), He.free_ok X Gm (cd.fact 26 (f := .free "len") rfl), He.free_ok X Gm (cd.fact 27 (f := .free "all") rfl), He.free_ok X Gm (cd.fact 28 (f := .free "sum") rfl), He.free_ok X Gm (cd.fact 29 (f := .free "set") rfl), He.free_ok X Gm (cd.fact 30 (f := .free "sorted") rfl), He.free_ok X Gm (cd.fact 31 (f := .free "max") rfl), He.free_ok X Gm (cd.fact 32 (f := .free "range") rfl)⟩
  obtain ⟨t40, g40⟩ := He.int_ok X Gm (cd.fact 33 (f := .int "MOST_DEEDS" 40) rfl)
  obtain ⟨t99, g99⟩ := He.int_ok X Gm (cd.fact 34 (f := .int "MOST_UNITS" 99) rfl)
  have el := hfa.symm.trans g19
  cases el
  have m0 : (("is_program", none) : He.Defn) ∈ tf8 := List.mem_cons_self
  have m1 : (("length", none) : He.Defn) ∈ tf8 := List.mem_cons_of_mem _ List.mem_cons_self
  have all2 : ∀ {A : Addr × Addr → Prop}, A (He.cT K ("is_program", none)) → A (He.cT K ("length", none)) → ∀ p ∈ [He.cT K ("is_program", none), He.cT K ("length", none)], A p := fun h1 h2 p hp => by
    rcases List.mem_cons.mp hp with e | e
    · rw [e]; exact h1
    · rw [List.mem_singleton.mp e]; exact h2
  refine ⟨d19, [He.cT K ("is_program", none), He.cT K ("length", none)], spLaw K [He.tabOf K (He.codeOf K ("is_program", none)), He.tabOf K (He.codeOf K ("length", none))], all2 (c.empty _ m0) (c.empty _ m1), all2 (c.out _ m0) (c.out _ m1), all2 (PySem.W.codeHd_of_K X (c.hd _ m0)) (PySem.W.codeHd_of_K X (c.hd _ m1)), fun s u => FunD.bindsA (ps := ["_law_script"]) D19 (fun _ _ _ _ _ _ us hl => match us, hl with | [_], _ => rfl) s [u] rfl, fun H a ns hl _ hT hS => ⟨a, ns, rfl, hS, hl, fun P hP => ?_, fun _ => rfl⟩, fun base hK hN hTB => ?_⟩
  · rcases List.mem_cons.mp hP with e | e
    · rw [e]
      exact ⟨#[], hT _ List.mem_cons_self, triples_nil⟩
    · rw [List.mem_singleton.mp e]
      exact ⟨#[], hT _ (List.mem_cons_of_mem _ List.mem_cons_self), triples_nil⟩
  · have tb0 := hTB _ List.mem_cons_self
    have tb1 := hTB _ (List.mem_cons_of_mem _ List.mem_cons_self)
    have TB0 : GxR.TabB base mg (He.codeOf K ("is_program", none)) (He.tabOf K (He.codeOf K ("is_program", none))) := ⟨tb0.code, tb0.bm, tb0.gP⟩
    have TB1 : GxR.TabB base mg (He.codeOf K ("length", none)) (He.tabOf K (He.codeOf K ("length", none))) := ⟨tb1.code, tb1.bm, tb1.gP⟩
    generalize hT : [He.tabOf K (He.codeOf K ("is_program", none)), He.tabOf K (He.codeOf K ("length", none))] = T
    have hP0 : He.tabOf K (He.codeOf K ("is_program", none)) ∈ T := by rw [← hT]; exact List.mem_cons_self
    have hP1 : He.tabOf K (He.codeOf K ("length", none)) ∈ T := by rw [← hT]; exact List.mem_cons_of_mem _ List.mem_cons_self
    have GI := ok_prog (P := PySem.Challenge.pw_processturns_k11_whole_programs) (w := w) (T := T) F2 TB0 hP0 G F1 b1 g1 F0 b0 g0 F3 b3 g3 g40 g99
    have GC := ok_chk F4 F2 GI b2 g2
    have GL := ok_len F5 TB1 hP1 G F4 GC b4 g4 F6 b6 g6
    have GLk := ok_locks F7 G F4 GC b4 g4
    have GH := ok_hold F8 G F4 GC b4 g4 F6 b6 g6
    have GPr := ok_pairs F9 G F4 GC b4 g4
    have GPl := ok_plain F10 G F4 GC b4 g4 F11 b11 g11 g99
    have GDd := ok_deed (P := PySem.Challenge.pw_processturns_k11_whole_programs) (w := w) (base := base) F1 G F0 b0 g0 g99
    have GS := ok_start (P := PySem.Challenge.pw_processturns_k11_whole_programs) (w := w) (base := base) F12 G
    have GLP := ok_lprog (P := PySem.Challenge.pw_processturns_k11_whole_programs) (w := w) (base := base) (T := T) F16 G F13 b13 g13 F14 b14 g14
    have GLD := ok_ldeeds (P := PySem.Challenge.pw_processturns_k11_whole_programs) (w := w) (base := base) F17 G
    have GO := ok_lother F18 G F13 b13 g13 F14 b14 g14 F2 GI b2 g2 F15 b15 g15
    exact ok_law F19 G ⟨g12, F12.kp, b12, GS⟩ ⟨g16, F16.kp, b16, GLP⟩ ⟨g17, F17.kp, b17, GLD⟩ ⟨g2, F2.kp, b2, GI⟩ ⟨g5, F5.kp, b5, GL⟩ ⟨g1, F1.kp, b1, GDd⟩ ⟨g7, F7.kp, b7, GLk⟩ ⟨g8, F8.kp, b8, GH⟩ ⟨g9, F9.kp, b9, GPr⟩ ⟨g10, F10.kp, b10, GPl⟩ ⟨g18, F18.kp, b18, GO⟩
end K11
open PySem PySem.W PySem.Calls PyProof.Rows
theorem PySem.Challenge.cw_processturns_k11_whole_programs_holds : PySem.Challenge.rw_processturns_k11_whole_programs.Holds := by
  w_on; o_law
  refine HandSHeadRun.head_any (r := K11.R8) (q := view K11.R8.prog [27]) (H := K11.hk8) (ob := K11.ob8) (M := 3000) (loose := K11.loose8) (d := HandSHeadRun.topDef K11.R8.prog 27) (kwd := []) K11.ob8_eq
    (by kernel_rfl) (fun s => by kernel_rfl) K11.run8 (by kernel_rfl) (by kernel_rfl) (by kernel_rfl) (by rfl) (by first | assumption | decide +kernel) (by decide +kernel) ⟨rfl, rfl, rfl, rfl, rfl, by decide +kernel⟩ ?hw ?hc
  case hw => w_witness2
  case hc =>
    refine LamX.walk_ofTsE (l := PySem.Challenge.rw_processturns_k11_whole_programs) (n := 63) (k := 7) (x := "_law_script") (CX := fun _ => L2.CX0) rfl (by decide) (by kernel_rfl) ⟨rfl, by decide, by decide⟩ ?F (fun _ _ _ _ _ z => z)
    intro w mg fa h Y G hmg0
    obtain ⟨K, KX, c⟩ := Y
    have hmg : mg ("law" : PySem.Str) = some (.ref fa) := by
      have e : (HandSHeadRun.topDef K11.R8.prog 27).name = ("law" : PySem.Str) := by kernel_rfl
      rw [← e]
      exact hmg0
    exact ⟨K, KX, K11.law_at KX G hmg c⟩
