import PyProof.Rows.All
import Wide.All
import OpenK.AllK
import Wide.FinOn
import KE.KNest
import HandS.Base
import HandS.Call
import HandS.List
import HandS.Comp
import HandS.AnyAll
import HandS.GenList
import HandS.Words
import HandS.Walk
import HandS.Zip
import HandS.IsInst
import HandS.Style
import HandS.TupLe
import HandS.TupAny
import HandS.TupMul
import HandS.Wide
import HandS.Gcd
import HandS.Conv
import HandS.Exc
import HandS.ExcOwn
import HandS.Flow
import HandS.HeadWalk
import HandS.HeadHook4
import HandS.Head2
import HandS.Lambda
import KE.GoesMore
import PyProof.EnumMake
import HandS.WideBits
import HandS.Zip0
import HandS.More
import HandS.Dict
import HandS.WrittenGet
import HandS.ExcInit
import HandS.Defaults
import KE.KExcSuper
import KE.KSuper
import HandS.ExcCtx
import HandS.Codes
import HandS.ExcField
import HandS.FStr
import HandS.Text
import HandS.RaiseMore
import HandS.HotCalls
import HandS.ExcIs
import KE.KExcIs
import KE.KEqDict
import PyProof.NeKinds
import PyProof.FactsAll.dict
import HandS.Iter
import PySem.Challenge.RW_safehelms_k38_machines_refused
import HandS.Head3
set_option Elab.async false
set_option linter.all false
set_option maxRecDepth 100000
set_option maxHeartbeats 2000000
/-! all(test for target in iter), the test any expression of the layer -/
namespace Gx
open PySem PySem.Spec PyProof.Rows L2 GenW GxR

/-- the frame of a generator expression of X's def -/
abbrev genv (X : Cx) (scope : Scope) (cl : List (Str × Addr)) (C : Addr) (code : Value) : Env := genEnv scope cl C code builtinsNs X.env
/-- its context -/
abbrev gcx (X : Cx) (s : Shared) (H : Hp) (G : Env) (fp : List Addr) (pn : List (Addr × Obj)) : Cx :=
  { X with A := X.A.in1.in1.deeper G, s_0 := s, H_0 := H, env := G, outer := X.stack, stack := G :: X.stack, ex := fp, fn := fun _ => false, pn := pn, xe := fun _ _ => False }

section
variable {X : Cx} {pins : List (Addr × Obj)} {σ : L2.St} {H : Hp} {s : Shared}

theorem inv_woken {pl : List (Addr × Obj)} {s2 : Shared} (I : Inv X pl σ H s) (eh : s2.heap = s.heap) (eo : s2.os = s.os) (eb : AllBare s2.gens) : Inv X pl σ H s2 := by
  obtain ⟨hh, g, d, t, o⟩ := s2
  have eh' : hh = s.heap := eh
  have eo' : o = s.os := eo
  subst eh' eo'
  exact ⟨I.ok, I.os, eb, I.base, I.loc, I.cell, I.free, I.freeC, I.pin, I.hok, I.len⟩

theorem gen_start {scope : Scope} {own : List (Str × Nat)} {fp : List Addr} {code : Value} {it : Value} {s' : Shared} (I : Inv X pins σ H s) (ok : BlkOk X.N X.env.scope scope own) (hcell : ∀ y ∈ scope.names, y.2 ≠ .cell)
    (hN : X.N.Nodup) (hh : X.A.handled = none) (hfp : ∀ b ∈ fp, FpOk X pins H b ∧ b < s.heap.objs.size)
    (hns : s'.heap.Ns s.heap.objs.size (fun y => if y = ".0" then some it else none)) (kp : ∀ b o, s.heap.get? b = some o → s'.heap.get? b = some o) (ho : s'.os = s.os) (hb : AllBare s'.gens) :
    Inv (gcx X s H (genv X scope (cloFrom X.env.cells scope.names []) s.heap.objs.size code) fp []) [] (wipe σ (own.map (·.2))) H s' := by
  have hfree : ∀ y ∈ scope.names, y.2 = .free → ∃ c, X.env.cells.lookup y.1 = some c := fun y hy e =>
    (ok.free y hy e).elim (fun k => I.ok.has _ (.inl k)) fun k => I.ok.has _ (.inr k)
  have cm : ∀ {y c}, (y, c) ∈ cloFrom X.env.cells scope.names [] → X.env.cells.lookup y = some c := fun {y c} hm => by
    rcases cloFrom_mem hm with hm | ⟨h1, rfl⟩
    · cases hm
    · obtain ⟨c, hc⟩ := hfree _ h1 rfl
      rw [hc] <;> rfl
  have cml : ∀ {y c}, (cloFrom X.env.cells scope.names []).lookup y = some c → X.env.cells.lookup y = some c := fun e => cm (PySem.mem_of_lookup e)
  have look : ∀ {y}, scope.names.lookup y = some .free → ∃ c, (cloFrom X.env.cells scope.names []).lookup y = some c ∧ X.env.cells.lookup y = some c := fun {y} hl => by
    obtain ⟨c', e'⟩ := mem_lookup (cloFrom_has (cells := X.env.cells) (acc := []) (PySem.mem_of_lookup hl))
    exact ⟨c', e', cml e'⟩
  have okB : (gcx X s H (genv X scope (cloFrom X.env.cells scope.names []) s.heap.objs.size code) fp []).Ok := by
    refine ⟨I.ok.mod, ok.kind, I.ok.glob, rfl, Nat.le_refl _, fun y z c e1 e2 => I.ok.inj y z c (cml e1) (cml e2), fun y hy => ?_, fun y c z e => ?_, fun _ => hh, Around.frames_deeper I.ok.frames, .inr ⟨rfl, rfl⟩,
      fun b hb => ⟨Nat.ne_of_lt (hfp b hb).2, fun y c e => (hfp b hb).1.2.2.2.2.1 y c (cml e)⟩, I.bs, Nat.le_trans I.ok.bsz I.sz, fun b o e hb => ?_, fun b hb z => ?_, I.stack, I.stkFree⟩
    · rcases hy with hy | hy
      · exact absurd rfl (hcell _ (PySem.mem_of_lookup (show scope.names.lookup y = some .cell from hy)))
      · obtain ⟨c, h1, _⟩ := look hy
        exact ⟨c, h1⟩
    · exact absurd (show false = true from z) Bool.false_ne_true
    · rcases (hfp b hb).1.2.2.2.1 with z | z
      · exact I.ok.noex b o e z
      · exact absurd (Nat.lt_of_lt_of_le (Heap.lt_size e) (Nat.le_trans I.ok.bsz z)) (Nat.lt_irrefl _)
    · rcases List.mem_cons.mp (I.stkSub b z) with z | z
      · exact (hfp b hb).1.2.1 z
      · exact (hfp b hb).1.2.2.1 z
  refine ⟨okB, ho, hb, Un.kept kp, ⟨_, hns, fun i y av e1 e2 e3 => ?_⟩, fun y c e => ?_, I.hok.fresh (Nat.le_refl _), fun y c e => I.freeC y c (cml e), fun p hp => ?_, I.hok.kept kp, by rw [wipe_length]; exact I.len⟩
  · obtain ⟨e2, hne⟩ := wipe_some e2
    have no : ∀ k, scope.names.lookup y = some k → (k = .local ∨ k = .cell) → False := fun k e hk => by
      rcases ok.own _ (PySem.mem_of_lookup e) hk with e' | e'
      · obtain ⟨p, hp, hpy⟩ := List.mem_map.mp e'
        have e4 := ok.ix p hp
        rw [show p.1 = y from hpy] at e4
        exact hne (List.mem_map.mpr ⟨p, hp, nodup_ix hN e4 e1⟩)
      · exact e' (List.mem_of_getElem? e1)
    have hfr : scope.names.lookup y = some .free := by
      rcases e3 with e3 | e3 | e3
      · exact (no _ e3 (.inl rfl)).elim
      · exact (no _ e3 (.inr rfl)).elim
      · exact e3
    obtain ⟨m, hn, hl⟩ := I.loc
    have hvis : Vis X.env.scope y := (ok.free _ (PySem.mem_of_lookup hfr) rfl).elim (fun k => .inr (.inl k)) fun k => .inr (.inr k)
    obtain ⟨w, r, q⟩ := hl i y av e1 e2 hvis
    obtain ⟨c, h1, h2⟩ := look hfr
    refine ⟨w, r, .inr ⟨.inr hfr, c, h1, ?_⟩⟩
    rcases q with ⟨k, _⟩ | ⟨_, c', e', z⟩
    · have k : X.env.scope.names.lookup y = some .local := k
      rcases ok.free _ (PySem.mem_of_lookup hfr) rfl with k' | k' <;> rw [show X.env.scope.names.lookup y = _ from k'] at k <;> cases k
    · rw [h2] at e'
      cases e'
      exact z.keeps kp
  · obtain ⟨w, z⟩ := I.cell y c (cml e)
    exact ⟨w, z.keeps kp⟩
  · exact absurd (show p ∈ ([] : List (Addr × Obj)) ++ [] from hp) (by simp)

/-- pins more in its context -/
theorem gen_pinned {s1 : Shared} {H' : Hp} {G : Env} {fp : List Addr} {pn : List (Addr × Obj)} {σ' : L2.St} (I : Inv (gcx X s H G fp []) [] σ' H' s1)
    (h : ∀ p ∈ pn, s1.heap.get? p.1 = some p.2 ∧ H' p.1 = none ∧ p.1 ≠ G.locals ∧ p.1 ∉ frs X.stack ∧ ∀ v, p.2.data ≠ .cell v) : Inv (gcx X s H G fp pn) [] σ' H' s1 :=
  ⟨⟨I.ok.mod, I.ok.kind, I.ok.glob, I.ok.blt, I.ok.above, I.ok.inj, I.ok.has, I.ok.cab, I.ok.hd, I.ok.frames, I.ok.stk, I.ok.exf, I.ok.bs, I.ok.bsz, I.ok.noex, I.ok.exfs, I.ok.funs, I.ok.frf⟩, I.os, I.bare, I.base, I.loc, I.cell, I.free, I.freeC,
    fun p hp => h p (by simpa using hp), I.hok, I.len⟩

theorem over_comp {A : Around} {elt : Expr} {gs : List Comprehension} {scope : Scope} {pos : Pos} {it acc : Value} {env : Env} : A.over (.compLoop (.GeneratorExp elt gs scope pos) 0 it acc env) [] = A.deeper env := rfl
theorem over_comp0 {A : Around} {elt : Expr} {gs : List Comprehension} {scope : Scope} {pos : Pos} {it acc : Value} {env : Env} : A.over (.compStart (.GeneratorExp elt gs scope pos) 0 it acc env) [] = A.deeper env := rfl
end
end Gx
set_option Elab.async false
set_option linter.all false
set_option maxRecDepth 100000
set_option maxHeartbeats 2000000
namespace Gx
open PySem PySem.Spec PyProof.Rows L2 GenW GxR

/-- how a run of it ends: Qe, all were true -/
abbrev gEnd (X' : Cx) (σw : L2.St) (Qe : Hp → Prop) : GenEnd := fun _ _ r s1 => ((r = .ok (.ret .none) ∨ r = .ok .next) ∧ (∃ H', Inv X' [] σw H' s1 ∧ Qe H')) ∨ ∃ e, r = .error e ∧ False
/-- a test's answer is handed out; Qx: it was false -/
abbrev gYld (X' : Cx) (Qx : Hp → Prop) : Protocol := fun _ _ v s1 kap => ∃ (k : Bool) (pl : List (Addr × Obj)) (σ2 : L2.St) (H' : Hp), v = .bool k ∧ Inv X' pl σ2 H' s1 ∧ (k = false → Qx H') ∧
  (k = true → ∀ s2 : Shared, s2.heap = s1.heap → s2.os = s1.os → AllBare s2.gens → kap (.send .none) s2)

section
variable {X : Cx} {σ : L2.St} {H : Hp} {s : Shared}
theorem gen_loop {G : Env} {fp : List Addr} {pn : List (Addr × Obj)} {elt tg iter : Expr} {scope : Scope} {pos : Pos} {g : TG} {te : TE} {it : Addr} {J : It} {tn : Nat → Heap → Prop} {vs : List Nat} {Qe Qx : Hp → Prop} {W : Nat → Nat → Hp → Prop}
    (hc : X.calm = true) (hco : G.scope.isCoroutine = false) (pg : PG (gcx X s H G fp pn) tg g) (pe : PE (gcx X s H G fp pn) elt te) (T : Turn X.prog X.w X.K tg J fp it tn)
    (turn : ∀ i m H', W i m H' → (J.stop i H' ∧ Qe H') ∨ (J.go i H' ∧ ∃ Nx : Hp → Prop, (∀ H2, Nx H2 → ∃ m', m' < m ∧ W (i + 1) m' H2) ∧ ∀ x H2, J.yld i H' x H2 → g x (wipe σ vs) H2 fun σ2 H3 => wipe σ2 vs = wipe σ vs ∧
      te σ2 H3 fun y H4 => ∃ k : Bool, y = .bl k ∧ if k = true then Nx H4 else Qx H4))
    (hpn : ∀ b ∈ fp, ∀ p ∈ pn, p.1 ≠ b) : ∀ (n m i : Nat) (H' : Hp) (s₀ s1 : Shared), m < n → Inv (gcx X s H G fp pn) [] (wipe σ vs) H' s1 → tn i s1.heap → (∀ b ∈ fp, H' b = none) → W i m H' →
      Seg (model X.prog X.w) X.A.in1.in1 (gEnd (gcx X s H G fp pn) (wipe σ vs) Qe) (gYld (gcx X s H G fp pn) Qx) n s₀ (.compLoop (.GeneratorExp elt [⟨tg, iter, [], 0⟩] scope pos) 0 (.ref it) .none G)
        ((model X.prog X.w).den (.compLoop (.GeneratorExp elt [⟨tg, iter, [], 0⟩] scope pos) 0 (.ref it) .none G)) [] s1 := by
  have stat : ∀ {σ' : L2.St} {H' : Hp} {s' : Shared}, Inv (gcx X s H G fp pn) [] σ' H' s' → (∀ b ∈ fp, H' b = none) → ∀ b ∈ fp, FpOk (gcx X s H G fp pn) [] H' b := fun {σ' H' s'} I' hn b hb =>
    ⟨hn b hb, (I'.ok.exf b hb).1, I'.ok.exfs b hb, .inl hb, fun x c e => (I'.ok.exf b hb).2 x c e, fun p hp => hpn b hb p (by simpa using hp)⟩
  intro n
  induction n with
  | zero => intro m i H' s₀ s1 hm; exact absurd hm (Nat.not_lt_zero m)
  | succ n ih =>
    intro m i H' s₀ s1 hm I st hfn w
    show Seg _ _ _ _ _ s₀ _ ((compTurn (.GeneratorExp elt [⟨tg, iter, [], 0⟩] scope pos) 0 (.ref it) .none G).onRaise (leaving G)) [] s1
    rw [compTurn_gen, Sem.onRaise_eq_wrap]
    refine seg_bind_wrap (wpAny_standAt ?_)
    rcases turn i m H' w with ⟨stop, qe⟩ | ⟨go, Nx, hNx, step⟩
    · have td := T.done (gcx X s H G fp pn) rfl rfl rfl hc i [] s1 _ H' (fun _ _ => False) I (stat I hfn) st stop
      refine seg_bind_wrap ?_
      rw [over_comp]
      refine wpAny_mono td (fun r s2 hr => ?_) fun _ _ z => z.elim
      obtain ⟨hr, I2⟩ := hr
      subst hr
      exact seg_end (.ok .next) (.inl ⟨.inr rfl, H', I2, qe⟩)
    · have ti := T.item (gcx X s H G fp pn) rfl rfl rfl hc i [] s1 _ H' (fun _ _ => False) I (stat I hfn) st go
      refine seg_bind_wrap ?_
      rw [over_comp]
      refine wpAny_mono ti (fun r s2 hr => ?_) fun _ _ z => z.elim
      obtain ⟨u, hr, h2⟩ := hr
      subst hr
      refine seg_bind_wrap ?_
      rw [over_comp]
      refine wpAny_mono h2 (fun _ s3 h3 => ?_) fun _ _ z => z.elim
      obtain ⟨x, H3, I3, r3, y3, st3, n3⟩ := h3
      have I3' := I3.pinned (stat I3 n3) (T.obj _ _ st3)
      refine seg_bind_wrap ?_
      rw [over_comp]
      refine wpAny_mono (pg.run _ s3 _ H3 x u _ I3' r3 (step x H3 y3)) (fun _ s4 h4 => ?_) fun _ _ z => z.elim
      obtain ⟨σ4, H4, I4, hw4, q4⟩ := h4
      refine seg_bind_wrap ?_
      refine wpAny_tests_nil ?_
      simp only [if_true]
      have hy : ∀ v, yieldOut G v = yieldValue v := fun v => by simp only [yieldOut, hco, Bool.false_eq_true, if_false]
      simp only [hy]
      rw [Sem.bind_eq_wrap', Sem.bind_eq_wrap', Sem.wrap_wrap, Sem.wrap_wrap]
      refine seg_wrap ?_
      rw [over_comp]
      refine wpAny_mono (pe.run _ s4 σ4 H4 _ I4 q4) (fun yv s5 h5 => ?_) fun _ _ z => z.elim
      obtain ⟨y, H5, I5, r5, k, ek, q5⟩ := h5
      subst ek
      obtain rfl : yv = Value.bool k := r5
      refine seg_at (seg_yield rfl rfl rfl ⟨k, _, σ4, H5, rfl, I5, fun hk => ?_, fun hk s6 e1 e2 e3 => ?_⟩)
      · rw [hk] at q5
        exact q5
      · rw [if_pos hk] at q5
        obtain ⟨m', hm', w'⟩ := hNx H5 q5
        have I6 := inv_woken I5 e1 e2 e3
        have pin6 : ∀ b ∈ fp, ∀ o, s3.heap.get? b = some o → s6.heap.get? b = some o ∧ H5 b = none := fun b hb o e =>
          let z := I6.pin (b, o) (List.mem_append_right _ (List.mem_append_right _ (mem_pinsAt hb e)))
          ⟨z.1, z.2.1⟩
        refine seg_again rfl (ih m' (i + 1) H5 s6 s6 (by omega) ((I6.unpinned (pins := [])).weak (by rw [← hw4, wipe_length]) fun j v e => ?_) (T.keep _ _ _ st3 fun b hb o e => (pin6 b hb o e).1) (fun b hb => ?_) w')
        · rw [← hw4] at e
          exact (wipe_some e).1
        · obtain ⟨o, e, _⟩ := T.obj _ _ st3 b hb
          exact (pin6 b hb o e).2

theorem gen_begin {G : Env} {fp : List Addr} {pn : List (Addr × Obj)} {elt tg iter : Expr} {scope : Scope} {pos : Pos} {it : Addr} {J : It} {tn : Nat → Heap → Prop} {R : GenEnd} {Y : Protocol} {n : Nat} {s₀ s1 : Shared} (T : Turn X.prog X.w X.K tg J fp it tn) (st : tn 0 s1.heap)
    (loop : Seg (model X.prog X.w) X.A.in1.in1 R Y n s₀ (.compLoop (.GeneratorExp elt [⟨tg, iter, [], 0⟩] scope pos) 0 (.ref it) .none G) ((model X.prog X.w).den (.compLoop (.GeneratorExp elt [⟨tg, iter, [], 0⟩] scope pos) 0 (.ref it) .none G)) [] s1) :
    Seg (model X.prog X.w) X.A.in1.in1 R Y n s₀ (.compStart (.GeneratorExp elt [⟨tg, iter, [], 0⟩] scope pos) 0 (.ref it) .none G) ((model X.prog X.w).den (.compStart (.GeneratorExp elt [⟨tg, iter, [], 0⟩] scope pos) 0 (.ref it) .none G)) [] s1 := by
  show Seg _ _ _ _ _ s₀ _ ((compStart (.GeneratorExp elt [⟨tg, iter, [], 0⟩] scope pos) 0 (.ref it) .none G).onRaise (leaving G)) [] s1
  unfold compStart
  rw [Sem.onRaise_eq_wrap]
  show Seg _ _ _ _ _ s₀ _ ((ask >>= _).wrap _ _ _ _) [] s1
  refine seg_bind_wrap (wpAny_askSetting ?_)
  split
  · exact seg_again rfl loop
  · first
      | exact seg_bind_wrap (wpAny_rule (seg_bind_wrap (wpAny_standAt (seg_bind_wrap (T.self _ 0 s1 _ _ st (seg_again rfl loop))))))
      | (refine seg_bind_wrap (wpAny_rule ?_)
         show Seg _ _ _ _ _ s₀ _ ((standAt iter.pos >>= _).wrap _ _ _ _) [] s1
         exact seg_bind_wrap (wpAny_standAt (seg_bind_wrap (T.self _ 0 s1 _ _ st (seg_again rfl loop)))))
end
end Gx
set_option Elab.async false
set_option linter.all false
set_option maxRecDepth 100000
set_option maxHeartbeats 2000000
namespace Gx
open PySem PySem.Spec PyProof.Rows L2 GenW GxR

section
variable {X' : Cx} {A : Around} {σw : L2.St} {Qe Qx : Hp → Prop} {a : Addr} {g : Nat}
/-- where a drawn value's generator stands -/
def Sus (X' : Cx) (A : Around) (σw : L2.St) (Qe Qx : Hp → Prop) (a : Addr) (g n : Nat) (s : Shared) : Prop :=
  s.heap.IsGen a g ∧ s.heap.NoLimit ∧ ∃ gs, s.gens[g]? = some gs ∧ gs.Goes (model X'.prog X'.w) A.in1.in1 (gEnd X' σw Qe) (gYld X' Qx) n (.send .none) (s.setGen g .running)

theorem step_next {n : Nat} {s : Shared} {Q : Option Value → Shared → Prop} {E : Value → Shared → Prop} (hh : A.handled = none) (hd : A.depth < recursionLimit)
    (hg : ∀ pl σ2 H2 s2, Inv X' pl σ2 H2 s2 → s2.heap.IsGen a g ∧ s2.heap.NoLimit) (hS : Sus X' A σw Qe Qx a g n s)
    (hy : ∀ s1 pl σ2 H2, Inv X' pl σ2 H2 s1 → Qx H2 → Q (some (.bool false)) s1) (hk : ∀ m s1 pl σ2 H2, n = m + 1 → Inv X' pl σ2 H2 s1 → Sus X' A σw Qe Qx a g m s1 → Q (some (.bool true)) s1)
    (hz : ∀ s1 H2, Inv X' [] σw H2 s1 → Qe H2 → Q none s1) : wpAny (model X'.prog X'.w) A.in1 (pyNext (.ref a)) Q E s := by
  obtain ⟨h1, h2, gs, hgs, hgo⟩ := hS
  have hgl : g < s.gens.size := (Array.getElem?_eq_some_iff.mp hgs).1
  refine wpAny_gsz (n := g + 1) hgl (next_genG (A := A.in1) hh h2 hd h1 hgs hgo (fun v s₁ gs' hb hv => ?_) (fun s₁ hp h' hkp => ?_) fun e s₁ he => he.elim)
  · intro hsz
    obtain ⟨k, pl, σ2, H', rfl, I, qx, kap⟩ := hv
    have I2 : Inv X' pl σ2 H' (s₁.setGen g gs') := inv_woken I rfl rfl (allBare_setGen I.bare hb)
    cases k with
    | false => exact hy _ pl σ2 H' I2 (qx rfl)
    | true =>
      have q := kap rfl
      cases n with
      | zero => exact (q s₁ rfl rfl I.bare).elim
      | succ m =>
        have hsz1 : g < s₁.gens.size := by
          have z : (s₁.setGen g gs').gens.size = s₁.gens.size := setGen_size _ _ _
          have hsz' : g + 1 ≤ (s₁.setGen g gs').gens.size := hsz
          omega
        obtain ⟨j1, j2⟩ := hg _ _ _ _ I2
        exact hk m _ pl σ2 H' rfl I2 ⟨j1, j2, gs', setGen_at hsz1, q _ rfl rfl (allBare_setGen (allBare_setGen I.bare hb) rfl)⟩
  · intro _
    obtain ⟨H', I, qe⟩ := hp
    have I2 : Inv X' [] σw H' (s₁.setGen g .finished) := inv_woken I rfl rfl (allBare_setGen I.bare rfl)
    exact hz _ H' (I2.kept (t' := s₁.toks) hkp) qe

theorem all_drain {R : Result → Shared → Prop} (hh : A.handled = none) (hd : A.depth < recursionLimit)
    (hg : ∀ pl σ2 H2 s2, Inv X' pl σ2 H2 s2 → s2.heap.IsGen a g ∧ s2.heap.NoLimit)
    (hy : ∀ s1 pl σ2 H2, Inv X' pl σ2 H2 s1 → Qx H2 → R (.ok (.ret (.bool false))) s1) (hz : ∀ s1 H2, Inv X' [] σw H2 s1 → Qe H2 → R (.ok (.ret (.bool true))) s1) :
    ∀ (n : Nat) (s : Shared), Sus X' A σw Qe Qx a g n s → codeAny (model X'.prog X'.w) A (.builtin "all.loop" ⟨[.ref a], []⟩) R s := by
  intro n
  induction n with
  | zero =>
    intro s hS
    refine codeAny_builtin F.entry_all_loop ?_
    rw [Around.under_plainId F.plain_all_loop _]
    show wpAny _ A.in1 (pyNext (.ref a) >>= _) _ _ s
    refine wpAny_bind (step_next hh hd hg hS (fun s1 pl σ2 H2 I q => ?_) (fun m s1 pl σ2 H2 e => nomatch e) fun s1 H2 I q => ?_)
    · refine wpAny_bind (wpAny_holding (wpAny_truthy_bool ?_))
      refine wpAny_bind (wpAny_letGo ?_)
      simp only [Bool.false_eq_true, if_false]
      exact wpAny_bind (wpAny_rule (wpAny_pure (hy _ _ _ _ I q)))
    · exact wpAny_bind (wpAny_rule (wpAny_pure (hz _ _ I q)))
  | succ n ih =>
    intro s hS
    refine codeAny_builtin F.entry_all_loop ?_
    rw [Around.under_plainId F.plain_all_loop _]
    show wpAny _ A.in1 (pyNext (.ref a) >>= _) _ _ s
    refine wpAny_bind (step_next hh hd hg hS (fun s1 pl σ2 H2 I q => ?_) (fun m s1 pl σ2 H2 e I hS1 => ?_) fun s1 H2 I q => ?_)
    · refine wpAny_bind (wpAny_holding (wpAny_truthy_bool ?_))
      refine wpAny_bind (wpAny_letGo ?_)
      simp only [Bool.false_eq_true, if_false]
      exact wpAny_bind (wpAny_rule (wpAny_pure (hy _ _ _ _ I q)))
    · obtain rfl : n = m := by omega
      refine wpAny_bind (wpAny_holding (wpAny_truthy_bool ?_))
      refine wpAny_bind (wpAny_letGo ?_)
      simp only [if_true]
      exact wpAny_pure ⟨plainId_quiet F.plain_all_loop _, ih _ hS1⟩
    · exact wpAny_bind (wpAny_rule (wpAny_pure (hz _ _ I q)))

theorem call_allG {Q' : Value → Shared → Prop} {E : Value → Shared → Prop} {n : Nat} {s : Shared} (hh : A.handled = none) (hd : A.depth < recursionLimit)
    (hg : ∀ pl σ2 H2 s2, Inv X' pl σ2 H2 s2 → s2.heap.IsGen a g ∧ s2.heap.NoLimit) (hS : Sus X' A σw Qe Qx a g n s)
    (hy : ∀ s1 pl σ2 H2, Inv X' pl σ2 H2 s1 → Qx H2 → Q' (.bool false) s1) (hz : ∀ s1 H2, Inv X' [] σw H2 s1 → Qe H2 → Q' (.bool true) s1) :
    wpAny (model X'.prog X'.w) A (call (.builtin "all") [.ref a]) Q' E s := by
  refine call_function_tree F.kind_all F.plain_all F.entry_all (F.args_all1 _) ?_
  unfold Builtin.«all»
  refine wpAny_bind (m := oneArg "all" _) (wpAny_pure ?_)
  refine wpAny_bind (wpAny_pyIter_gen hS.1 ?_)
  refine wpAny_pure ⟨plainId_quiet F.plain_all_loop _, all_drain hh hd hg (fun s1 pl σ2 H2 I q => ?_) (fun s1 H2 I q => ?_) n s hS⟩
  · exact hy _ _ _ _ I q
  · exact hz _ _ I q
end
end Gx
set_option Elab.async false
set_option linter.all false
set_option maxRecDepth 100000
set_option maxHeartbeats 2000000
namespace Gx
open PySem PySem.Spec PyProof.Rows L2 GenW GxR

/-- all(elt for tg in iter): behind the first look at iter the def's table may have grown; W by the turn and a measure -/
def tAllG (P : Addr) (wi : TI) (g : TG) (te : TE) (vs : List Nat) : TE := fun σ H Q => wi σ H fun J H1 => TabG H1 P ∧ ∀ H2, Tabbed P H1 H2 → ∃ W : Nat → Nat → Hp → Prop, (∃ m, W 0 m H2) ∧ ∀ i m H', W i m H' →
  (J.stop i H' ∧ Q (.bl true) H') ∨ (J.go i H' ∧ ∃ Nx : Hp → Prop, (∀ H3, Nx H3 → ∃ m', m' < m ∧ W (i + 1) m' H3) ∧ ∀ x H3, J.yld i H' x H3 → g x (wipe σ vs) H3 fun σ2 H4 => wipe σ2 vs = wipe σ vs ∧
    te σ2 H4 fun y H5 => ∃ k : Bool, y = .bl k ∧ if k = true then Nx H5 else Q (.bl false) H5)

section
variable {X : Cx} {pins : List (Addr × Obj)} {σ : L2.St} {H : Hp} {s : Shared}
/-- the code object of the expression: taken from the def's table, or made and laid there -/
theorem gen_code {c P : Addr} {gpos : Pos} {qn : Str} {scope : Scope} {Q : Value → Shared → Prop} (TB : TabB X.base X.mg c P) (hcode : X.env.code = .ref c) (I : Inv X pins σ H s) (ht : TabG H P)
    (hQ : ∀ code H2 s2, Tabbed P H H2 → Inv X pins σ H2 s2 → (∀ b o, b ≠ P → s.heap.get? b = some o → s2.heap.get? b = some o) → Q code s2) :
    wpAny (model X.prog X.w) X.A (genexprCode X.env gpos qn scope) Q X.xe s := by
  obtain ⟨ps, hP, htr⟩ := ht
  have hPs : s.heap.get? P = some { cls := .none, data := .fields ps } := I.hok P _ hP
  have cd : PySem.W.CodeHd s.heap c P := TB.code.keeps fun b u e => I.bk b u e
  cases hf : codeAmong gpos ps.toList with
  | some cv => exact wpAny_genexprCode_hit hcode (cd.code hPs htr) hf (hQ cv H s ⟨⟨ps, hP, htr⟩, fun _ _ => rfl⟩ I fun _ _ _ e => e)
  | none =>
    refine wpAny_genexprCodeX hcode (cd.code hPs htr) (cd.tab hPs) hf fun c' h' tk hx _ _ hco' _ htab' _ => ?_
    obtain ⟨_, _, _, _, _, _, _, _, _, _, _, _, _, _, _, _, _, _, _, htr2, _⟩ := hco'
    refine hQ _ (upd H P (.tbl (ps ++ #[rawInt gpos.line, rawInt gpos.col, .ref c']))) _ ⟨⟨_, upd_same, htr2⟩, fun b hb => upd_ne hb⟩ ?_ fun b o hb e => hx b o hb e
    exact inv_tab (g' := s.gens) (d' := s.drawn) (t' := tk) I hP (fun b o hb e => hx b o hb e) htab'.2 I.bare

theorem pe_allG {c P : Addr} {elt tg iter : Expr} {p pos gpos : Pos} {scope : Scope} {own : List (Str × Nat)} {wi : TI} {g : TG} {te : TE} {k : Nat}
    (hr : Room (k + 4) X.A) (hc : X.calm = true) (hN : X.N.Nodup) (hgl : Gl X "all") (hm : X.mg "all" = none) (TB : TabB X.base X.mg c P) (hcode : X.env.code = .ref c)
    (hi : PI X tg iter wi) (ok : BlkOk X.N X.env.scope scope own) (hco : scope.isCoroutine = false) (hcell : ∀ y ∈ scope.names, y.2 ≠ .cell) (hdot : scope.names.lookup (".0" : Str) = some NameKind.local)
    (hg : ∀ (s : Shared) (H : Hp) (C : Addr) (cl : List (Str × Addr)) (code : Value) (fp : List Addr) (pn : List (Addr × Obj)), PG (gcx X s H (genv X scope cl C code) fp pn) tg g)
    (he : ∀ (s : Shared) (H : Hp) (C : Addr) (cl : List (Str × Addr)) (code : Value) (fp : List Addr) (pn : List (Addr × Obj)), Room k (gcx X s H (genv X scope cl C code) fp pn).A → PE (gcx X s H (genv X scope cl C code) fp pn) elt te)
    (hs : ∀ v, genFold iter X.env v = pure v := by intro _; rfl)
    (hst : starEach [.GeneratorExp elt [⟨tg, iter, [], 0⟩] scope gpos] X.env = (false, eval (.GeneratorExp elt [⟨tg, iter, [], 0⟩] scope gpos) X.env) :: starEach [] X.env := by rfl) :
    PE X (.Call (.Name "all" p) [.GeneratorExp elt [⟨tg, iter, [], 0⟩] scope gpos] [] pos) (tAllG P wi g te (own.map (·.2))) := by
  refine ⟨fun pins s σ H Q I h => ?_⟩
  have hb : bootBuiltins "all" = some (.builtin "all") := by decide +kernel
  have hfree : ∀ y ∈ scope.names, y.2 = .free → ∃ c, X.env.cells.lookup y.1 = some c := fun y hy e =>
    (ok.free y hy e).elim (fun k => I.ok.has _ (.inl k)) fun k => I.ok.has _ (.inr k)
  refine wpAny_Call_Name_kw (ld_blt I hgl hm hb ?_)
  refine PyProof.Rows.callWith_builtin1 ?_ hst (by rfl)
  rw [hst]
  show wpAny _ _ (spliced ((false, eval (.GeneratorExp elt [⟨tg, iter, [], 0⟩] scope gpos) X.env) :: backTo pos (starEach [] X.env))) _ _ s
  refine Calls.spliced_cons ?_
  refine wpAny_GeneratorExp_make hco (closure_ok hfree) hcell hdot ok.kind (by have := hr.dp; omega) ?_ hs
  refine thn (hi.run pins s σ H _ I h) fun xv s1 hx => thn hx fun itv s2 h2 => ?_
  obtain ⟨it, fp, tn, J, H2, e, I2, T, st2, f2, hT, q⟩ := h2
  subst e
  refine ⟨I2.nolimit, gen_code TB hcode I2 hT fun code H3 s3 hT3 I3 k3 => ?_⟩
  obtain ⟨W, ⟨m0, w0⟩, turn⟩ := q H3 hT3
  obtain ⟨bm, ob, b1, b2, b3, b4, b5, b6, b7, b8⟩ := TB.bm
  refine wpAny_builtinsFor (m := X.mg) (by rw [I3.ok.glob]; exact I3.mod.glob.keeps I3.bk) b1 b2 (I3.bk _ _ b5) b6 b7 b8 ?_
  intro h4 hns hsb
  refine Calls.spliced_nil ?_
  -- where the iterator's objects stand
  obtain ⟨ps, hPt, _⟩ := id hT
  have fpP : ∀ b ∈ fp, b ≠ P := fun b hb z => by
    have z1 := (f2 b hb).1
    rw [z, hPt] at z1
    cases z1
  have st3 : tn 0 s3.heap := T.keep _ _ _ st2 fun b hb o e => k3 b o (fpP b hb) e
  have f3 : ∀ b ∈ fp, FpOk X pins H3 b ∧ b < s3.heap.objs.size := fun b hb => by
    obtain ⟨o, e, _⟩ := T.obj _ _ st3 b hb
    exact ⟨⟨by rw [hT3.2 b (fpP b hb)]; exact (f2 b hb).1, (f2 b hb).2⟩, Heap.lt_size e⟩
  have sz4 : h4.objs.size = s3.heap.objs.size + 1 := by rw [hsb.1, Heap.size_push]
  have k4 : ∀ b o, s3.heap.get? b = some o → h4.get? b = some o := fun b o e => hsb.extBut b o (Nat.ne_of_lt (Heap.lt_size e)) (Heap.get?_push_of_some _ e)
  generalize hgo : ({ cls := .type "generator", data := .fields #[.int s3.gens.size 0, .str "<genexpr>" (s3.toks + 1), .str (X.env.qual ++ "<genexpr>") (s3.toks + 1 + 1)] } : Obj) = go
  have goc : go.cls = .type "generator" := by rw [← hgo] <;> rfl
  have god : go.data = .fields #[.int s3.gens.size 0, .str "<genexpr>" (s3.toks + 1), .str (X.env.qual ++ "<genexpr>") (s3.toks + 1 + 1)] := by rw [← hgo] <;> rfl
  have gos : go.slots = #[] := by rw [← hgo] <;> rfl
  have gop : (h4.push go).get? h4.objs.size = some go := by
    rw [← hgo]
    exact Heap.get?_push_size _ rfl
  have k5 : ∀ b o, s3.heap.get? b = some o → (h4.push go).get? b = some o := fun b o e => Heap.get?_push_of_some _ (k4 b o e)
  -- its context, from its first step on
  have I5 := gen_start (code := code) (s' := { s3 with gens := s3.gens.push (.fresh (.compStart (.GeneratorExp elt [⟨tg, iter, [], 0⟩] scope gpos) 0 (.ref it) .none (genEnv scope (cloFrom X.env.cells scope.names []) s3.heap.objs.size code builtinsNs X.env))), toks := s3.toks + 1 + 1 + 1, heap := h4.push go }) I3 ok hcell hN hr.hd f3 (hns.push _) k5 rfl (I3.bare.push rfl)
  have hga : ∀ v, go.data ≠ .cell v := fun v z => by rw [god] at z; cases z
  have I6 := gen_pinned (pn := [(h4.objs.size, go)]) I5 fun p hp => by
    rw [List.mem_singleton.mp hp]
    refine ⟨gop, I3.hok.fresh (by rw [sz4]; exact Nat.le_succ _), by show h4.objs.size ≠ s3.heap.objs.size; rw [sz4]; exact Nat.succ_ne_self _, fun z => ?_, hga⟩
    rcases List.mem_cons.mp (I3.stkSub _ z) with z | z
    · have z1 := I3.lt
      rw [← z, sz4] at z1
      exact absurd (Nat.lt_of_succ_lt z1) (Nat.lt_irrefl _)
    · exact I3.nofs (by rw [sz4]; exact Nat.le_succ _) z
  have hgen : ∀ pl σ2 H' s', Inv (gcx X s3 H3 (genv X scope (cloFrom X.env.cells scope.names []) s3.heap.objs.size code) fp [(h4.objs.size, go)]) pl σ2 H' s' → s'.heap.IsGen h4.objs.size s3.gens.size ∧ s'.heap.NoLimit := fun pl σ2 H' s' I' =>
    ⟨⟨go, _, _, (I'.pin (h4.objs.size, go) (List.mem_append_left _ (List.mem_singleton.mpr rfl))).1, goc, god, gos⟩, I'.nolimit⟩
  have room : Room k (gcx X s3 H3 (genv X scope (cloFrom X.env.cells scope.names []) s3.heap.objs.size code) fp [(h4.objs.size, go)]).A := (((hr.mono (by omega : k + 3 ≤ k + 4)).in1.in1).deeper _)
  have st5 : tn 0 (h4.push go) := T.keep _ _ _ st3 fun b hb o e => k5 b o e
  -- back in the def
  have back : ∀ {pl : List (Addr × Obj)} {σ2 : L2.St} {H' : Hp} {s' : Shared}, Inv (gcx X s3 H3 (genv X scope (cloFrom X.env.cells scope.names []) s3.heap.objs.size code) fp [(h4.objs.size, go)]) pl σ2 H' s' → Inv X pins σ H' s' := fun {pl σ2 H' s'} I' =>
    I3.call' (ch := fp) I'.os I'.base I'.hok I'.bare fun b hb => ⟨(f3 b hb).1.2.2.2.1, (f3 b hb).1.2.1, (f3 b hb).1.2.2.2.2.1, (f3 b hb).1.2.2.2.2.2⟩
  refine call_allG (X' := gcx X s3 H3 (genv X scope (cloFrom X.env.cells scope.names []) s3.heap.objs.size code) fp [(h4.objs.size, go)]) (g := s3.gens.size) (n := m0 + 1) (σw := wipe σ (own.map (·.2))) (Qe := fun H' => Q (.bl true) H') (Qx := fun H' => Q (.bl false) H') hr.hd (by have := hr.dp; omega) hgen ?_ ?_ ?_
  · obtain ⟨j1, j2⟩ := hgen _ _ _ _ I6
    refine ⟨j1, j2, _, Array.getElem?_push_size .., rfl, ?_⟩
    refine gen_begin (pn := []) T (by exact st5) (gen_loop hc hco (hg _ _ _ _ _ _ _) (he _ _ _ _ _ _ _ room) T turn (fun b hb p hp z => ?_) (m0 + 1) m0 0 H3 _ _ (Nat.lt_succ_self _) (inv_woken I6 rfl rfl (allBare_setGen I6.bare rfl)) (by exact st5) (fun b hb => (f3 b hb).1.1) w0)
    rw [List.mem_singleton.mp hp] at z
    have z1 := (f3 b hb).2
    rw [← z, sz4] at z1
    exact absurd (Nat.lt_of_succ_lt z1) (Nat.lt_irrefl _)
  · intro s' pl σ2 H' I' q'
    exact ⟨.bl false, H', back I', rfl, q'⟩
  · intro s' H' I' q'
    exact ⟨.bl true, H', back I', rfl, q'⟩
end
end Gx
set_option Elab.async false
set_option linter.all false
set_option maxRecDepth 100000
set_option maxHeartbeats 2000000
/-! # The layer Dn: what a def does, as a function of plain data.
A value is data (a tree that is never written to) or a place r n in the store, a list that may be written to.
con: a list of the written part, or the script. -/
namespace Dn
open PySem PySem.Spec PyProof.Rows L2 GxR

inductive D where
  | non | bl (b : Bool) | int (i : Int) | str (x : Str) | tup (ds : List D) | lst (ds : List D) | con (ds : List D) | dic | obj (c : Str) (fs : List (Str × D))
inductive Val where
  | d (x : D) | r (n : Nat)
inductive Cell where
  | lst (ds : List D) | dead
abbrev Sto := List Cell
abbrev Env := List (Option Val)
/-- an error in flight: its class, its fields -/
structure Exn where
  c : Str
  fs : List (Str × D)
inductive Out (α : Type) where
  | ok (a : α) (S : Sto) | exc (x : Exn) (S : Sto) | bad
def Out.bind {α β : Type} (r : Out α) (k : α → Sto → Out β) : Out β := match r with
  | .ok a S => k a S
  | .exc x S => .exc x S
  | .bad => .bad
@[simp] theorem Out.bind_ok {α β : Type} (a : α) (S : Sto) (k : α → Sto → Out β) : (Out.ok a S).bind k = k a S := (rfl)
@[simp] theorem Out.bind_exc {α β : Type} (x : Exn) (S : Sto) (k : α → Sto → Out β) : (Out.exc x S : Out α).bind k = .exc x S := (rfl)
@[simp] theorem Out.bind_bad {α β : Type} (k : α → Sto → Out β) : (Out.bad : Out α).bind k = .bad := (rfl)

/-- what is fixed: the written part, the tables of the defs that have generator expressions, the classes' places -/
structure Wd where
  K : PySem.W.Frag
  tabs : List Addr
  lams : List (Addr × Str) := []
  hot : Option (Addr × Str × Addr) := none
  ca : Str → Addr

abbrev Mu := List (Option Addr)
def outM (μ : Mu) (a : Addr) : Prop := ∀ n : Nat, μ[n]? ≠ some (some a)

/-- a tracked list apart from the store -/
def FrL (H : Hp) (μ : Mu) (a : Addr) (vs : List V) : Prop := outM μ a ∧ H a = some (.lst vs)
/-- a list that nobody can write to -/
def CoL (W : Wd) (H : Hp) (μ : Mu) (a : Addr) (vs : List V) : Prop := FrL H μ a vs ∨ (∃ o, H a = some (.frz o (.lst vs))) ∨
  ∃ (o : Obj) (its : Array Value) (n : Nat), W.K.lookup a = some o ∧ o.cls = .type "list" ∧ o.dict = none ∧ o.data = .seq its n ∧ its.size ≤ sizeLine ∧ Vals vs its.toList
theorem FrL.sq {W : Wd} {H : Hp} {μ : Mu} {a : Addr} {vs : List V} (h : FrL H μ a vs) : SqL W.K H a vs := .inl (.inl h.2)
theorem CoL.sq {W : Wd} {H : Hp} {μ : Mu} {a : Addr} {vs : List V} (h : CoL W H μ a vs) : SqL W.K H a vs := h.elim FrL.sq fun h => h.elim (fun z => .inl (.inr z)) .inr
theorem CoL.of {W : Wd} {H : Hp} {μ : Mu} {a : Addr} {vs : List V} (h : SqL W.K H a vs) (n : outM μ a) : CoL W H μ a vs := h.elim (fun z => z.elim (fun z => .inl ⟨n, z⟩) fun z => .inr (.inl z)) fun z => .inr (.inr z)
mutual
def RelD (W : Wd) (H : Hp) (μ : Mu) : D → V → Prop
  | .non, v => v = .non
  | .bl b, v => v = .bl b
  | .int i, v => v = .int i
  | .str x, v => v = .str x
  | .tup ds, v => ∃ a vs, v = .ref a ∧ SqT W.K H a vs ∧ RelDs W H μ ds vs
  | .lst ds, v => ∃ a vs, v = .ref a ∧ FrL H μ a vs ∧ RelDs W H μ ds vs
  | .con ds, v => ∃ a vs, v = .ref a ∧ CoL W H μ a vs ∧ RelDs W H μ ds vs
  | .dic, v => ∃ a, v = .ref a ∧ outM μ a ∧ H a = some (.dK [])
  | .obj c fs, v => ∃ a dx gs, v = .ref a ∧ outM μ dx ∧ H dx = some (.xd gs) ∧ W.hot = some (a, c, dx) ∧ RelFs W H μ fs gs
def RelDs (W : Wd) (H : Hp) (μ : Mu) : List D → List V → Prop
  | [], vs => vs = []
  | d :: ds, vs => ∃ v r, vs = v :: r ∧ RelD W H μ d v ∧ RelDs W H μ ds r
def RelFs (W : Wd) (H : Hp) (μ : Mu) : List (Str × D) → List (Str × V) → Prop
  | [], gs => gs = []
  | (f, d) :: fs, gs => ∃ v r, gs = (f, v) :: r ∧ RelD W H μ d v ∧ RelFs W H μ fs r
end
def RelV' (W : Wd) (H : Hp) (μ : Mu) : Val → V → Prop
  | .d x, v => RelD W H μ x v
  | .r n, v => match μ[n]? with
    | some (some a) => v = .ref a
    | some none => True
    | none => False
def CellOk (W : Wd) (H : Hp) (μ : Mu) : Cell → Option Addr → Prop
  | .lst ds, o => ∃ a vs, o = some a ∧ H a = some (.lst vs) ∧ RelDs W H μ ds vs
  | .dead, _ => True
structure RelS (W : Wd) (H : Hp) (μ : Mu) (S : Sto) : Prop where
  len : S.length = μ.length
  nd : ∀ (n m : Nat) (a : Addr), μ[n]? = some (some a) → μ[m]? = some (some a) → n = m
  cell : ∀ (n : Nat) c o, S[n]? = some c → μ[n]? = some o → CellOk W H μ c o
  is : ∀ (n : Nat) a, μ[n]? = some (some a) → ∃ vs, H a = some (.lst vs)
  tab : ∀ P ∈ W.tabs, TabG H P
  lam : ∀ p ∈ W.lams, LamX.TabS H p.1 p.2
  dis : ∀ p ∈ W.lams, p.1 ∉ W.tabs
def RelE (W : Wd) (H : Hp) (μ : Mu) (env : Env) (σ : L2.St) : Prop :=
  env.length = σ.length ∧ ∀ (i : Nat) x, env[i]? = some (some x) → ∃ v, σ[i]? = some (some v) ∧ RelV' W H μ x v
/-- what goes on keeps: places in the store stay or die; what is no place of the store stays as it is, but tables -/
structure Le (H : Hp) (μ : Mu) (H' : Hp) (μ' : Mu) : Prop where
  len : μ.length ≤ μ'.length
  at_ : ∀ (n : Nat) o, μ[n]? = some o → μ'[n]? = some o ∨ μ'[n]? = some none
  keep : ∀ b o, H b = some o → outM μ b → (∀ ps, o ≠ .tbl ps) → H' b = some o ∧ outM μ' b

section
variable {W : Wd} {H H' H2 : Hp} {μ μ' μ2 : Mu}
theorem Le.refl : Le H μ H μ := ⟨Nat.le_refl _, fun _ _ e => .inl e, fun _ _ e n _ => ⟨e, n⟩⟩
theorem Le.trans (a : Le H μ H' μ') (b : Le H' μ' H2 μ2) : Le H μ H2 μ2 := by
  refine ⟨Nat.le_trans a.len b.len, fun n o e => ?_, fun c o e n t => ?_⟩
  · rcases a.at_ n o e with q | q
    · exact b.at_ n o q
    · exact .inr ((b.at_ n none q).elim id id)
  · obtain ⟨e1, n1⟩ := a.keep c o e n t
    exact b.keep c o e1 n1 t
theorem Le.sqT {a : Addr} {vs : List V} (l : Le H μ H' μ') (is : ∀ (n : Nat) a, μ[n]? = some (some a) → ∃ vs, H a = some (.lst vs)) (h : SqT W.K H a vs) : SqT W.K H' a vs := by
  rcases h with (h | ⟨o, h⟩) | h
  · refine .inl (.inl (l.keep a _ h (fun n e => ?_) fun ps z => by cases z).1)
    obtain ⟨ws, q⟩ := is n a e
    rw [h] at q; cases q
  · refine .inl (.inr ⟨o, (l.keep a _ h (fun n e => ?_) fun ps z => by cases z).1⟩)
    obtain ⟨ws, q⟩ := is n a e
    rw [h] at q; cases q
  · exact .inr h
theorem Le.frL {a : Addr} {vs : List V} (l : Le H μ H' μ') (h : FrL H μ a vs) : FrL H' μ' a vs := by
  obtain ⟨n, h⟩ := h
  obtain ⟨q1, q2⟩ := l.keep a _ h n fun ps z => by cases z
  exact ⟨q2, q1⟩
theorem Le.coL {a : Addr} {vs : List V} (l : Le H μ H' μ') (is : ∀ (n : Nat) a, μ[n]? = some (some a) → ∃ vs, H a = some (.lst vs)) (h : CoL W H μ a vs) : CoL W H' μ' a vs := by
  rcases h with h | ⟨o, h⟩ | h
  · exact .inl (l.frL h)
  · refine .inr (.inl ⟨o, (l.keep a _ h (fun n e => ?_) fun ps z => by cases z).1⟩)
    obtain ⟨ws, q⟩ := is n a e
    rw [h] at q; cases q
  · exact .inr (.inr h)
end
/-- the places of the store hold lists -/
def Is (H : Hp) (μ : Mu) : Prop := ∀ (n : Nat) a, μ[n]? = some (some a) → ∃ vs, H a = some (.lst vs)
/-- a constant of the written part that is no place of the store -/
theorem outM_of {H : Hp} {μ : Mu} {a : Addr} (is : Is H μ) (h : ∀ vs, H a ≠ some (.lst vs)) : outM μ a := fun n e => by
  obtain ⟨vs, q⟩ := is n a e
  exact h vs q
end Dn
set_option Elab.async false
set_option linter.all false
set_option maxRecDepth 100000
set_option maxHeartbeats 2000000
namespace Dn
open PySem PySem.Spec PyProof.Rows L2 GxR

section
variable {W : Wd} {H H' H2 : Hp} {μ μ' μ2 : Mu} {S S' : Sto}
theorem RelS.Is (r : RelS W H μ S) : Is H μ := r.is
mutual
theorem RelD.mono (l : Le H μ H' μ') (is : Is H μ) : ∀ (d : D) (v : V), RelD W H μ d v → RelD W H' μ' d v
  | .non, v, h => by simpa [RelD] using h
  | .bl b, v, h => by simpa [RelD] using h
  | .int i, v, h => by simpa [RelD] using h
  | .str x, v, h => by simpa [RelD] using h
  | .tup ds, v, h => by
    simp only [RelD] at h ⊢
    obtain ⟨a, vs, e, q, r⟩ := h
    exact ⟨a, vs, e, l.sqT is q, RelDs.mono l is ds vs r⟩
  | .lst ds, v, h => by
    simp only [RelD] at h ⊢
    obtain ⟨a, vs, e, q, r⟩ := h
    exact ⟨a, vs, e, l.frL q, RelDs.mono l is ds vs r⟩
  | .con ds, v, h => by
    simp only [RelD] at h ⊢
    obtain ⟨a, vs, e, q, r⟩ := h
    exact ⟨a, vs, e, l.coL is q, RelDs.mono l is ds vs r⟩
  | .dic, v, h => by
    simp only [RelD] at h ⊢
    obtain ⟨a, e, n, q⟩ := h
    obtain ⟨q1, q2⟩ := l.keep a _ q n fun ps z => by cases z
    exact ⟨a, e, q2, q1⟩
  | .obj c fs, v, h => by
    simp only [RelD] at h ⊢
    obtain ⟨a, dx, gs, e, n, q, hw, r⟩ := h
    obtain ⟨q1, q2⟩ := l.keep dx _ q n fun ps z => by cases z
    exact ⟨a, dx, gs, e, q2, q1, hw, RelFs.mono l is fs gs r⟩
theorem RelDs.mono (l : Le H μ H' μ') (is : Is H μ) : ∀ (ds : List D) (vs : List V), RelDs W H μ ds vs → RelDs W H' μ' ds vs
  | [], vs, h => by simpa [RelDs] using h
  | d :: ds, vs, h => by
    simp only [RelDs] at h ⊢
    obtain ⟨v, r, e, h1, h2⟩ := h
    exact ⟨v, r, e, RelD.mono l is d v h1, RelDs.mono l is ds r h2⟩
theorem RelFs.mono (l : Le H μ H' μ') (is : Is H μ) : ∀ (fs : List (Str × D)) (gs : List (Str × V)), RelFs W H μ fs gs → RelFs W H' μ' fs gs
  | [], gs, h => by simpa [RelFs] using h
  | (f, d) :: fs, gs, h => by
    simp only [RelFs] at h ⊢
    obtain ⟨v, r, e, h1, h2⟩ := h
    exact ⟨v, r, e, RelD.mono l is d v h1, RelFs.mono l is fs r h2⟩
end
theorem RelV'.mono (l : Le H μ H' μ') (is : Is H μ) {x : Val} {v : V} (h : RelV' W H μ x v) : RelV' W H' μ' x v := by
  cases x with
  | d x => exact RelD.mono l is x v h
  | r n =>
    simp only [RelV'] at h ⊢
    cases e : μ[n]? with
    | none => rw [e] at h; exact h.elim
    | some o =>
      rcases l.at_ n o e with q | q
      · rw [q, ← e]; exact h
      · rw [q]; trivial
theorem RelE.mono {env : Env} {σ : L2.St} (l : Le H μ H' μ') (is : Is H μ) (h : RelE W H μ env σ) : RelE W H' μ' env σ :=
  ⟨h.1, fun i x e => let ⟨v, e1, r⟩ := h.2 i x e; ⟨v, e1, r.mono l is⟩⟩
theorem RelDs.length : ∀ {ds : List D} {vs : List V}, RelDs W H μ ds vs → ds.length = vs.length
  | [], vs, h => by simp only [RelDs] at h; subst h; rfl
  | d :: ds, vs, h => by
    simp only [RelDs] at h
    obtain ⟨v, r, rfl, _, h2⟩ := h
    simp [RelDs.length h2]
theorem RelDs.get : ∀ {ds : List D} {vs : List V} {i : Nat} {d : D}, RelDs W H μ ds vs → ds[i]? = some d → ∃ v, vs[i]? = some v ∧ RelD W H μ d v
  | [], vs, i, d, h, e => by simp at e
  | x :: ds, vs, i, d, h, e => by
    simp only [RelDs] at h
    obtain ⟨v, r, rfl, h1, h2⟩ := h
    cases i with
    | zero => simp at e; subst e; exact ⟨v, by simp, h1⟩
    | succ i => simp at e; obtain ⟨u, q, z⟩ := RelDs.get h2 e; exact ⟨u, by simpa using q, z⟩
theorem RelDs.append : ∀ {ds es : List D} {vs ws : List V}, RelDs W H μ ds vs → RelDs W H μ es ws → RelDs W H μ (ds ++ es) (vs ++ ws)
  | [], es, vs, ws, h, h' => by simp only [RelDs] at h; subst h; simpa using h'
  | x :: ds, es, vs, ws, h, h' => by
    simp only [RelDs] at h
    obtain ⟨v, r, rfl, h1, h2⟩ := h
    simp only [List.cons_append, RelDs]
    exact ⟨v, r ++ ws, rfl, h1, RelDs.append h2 h'⟩
theorem RelDs.take : ∀ {ds : List D} {vs : List V} (n : Nat), RelDs W H μ ds vs → RelDs W H μ (ds.take n) (vs.take n)
  | [], vs, n, h => by simp only [RelDs] at h; subst h; simp [RelDs]
  | x :: ds, vs, n, h => by
    simp only [RelDs] at h
    obtain ⟨v, r, rfl, h1, h2⟩ := h
    cases n with
    | zero => simp [RelDs]
    | succ n => simp only [List.take_succ_cons, RelDs]; exact ⟨v, r.take n, rfl, h1, RelDs.take n h2⟩
theorem RelDs.drop : ∀ {ds : List D} {vs : List V} (n : Nat), RelDs W H μ ds vs → RelDs W H μ (ds.drop n) (vs.drop n)
  | [], vs, n, h => by simp only [RelDs] at h; subst h; simp [RelDs]
  | x :: ds, vs, n, h => by
    cases n with
    | zero => simpa using h
    | succ n =>
      simp only [RelDs] at h
      obtain ⟨v, r, rfl, h1, h2⟩ := h
      simpa using RelDs.drop n h2
theorem RelDs.set : ∀ {ds : List D} {vs : List V} {d : D} {v : V} (n : Nat), RelDs W H μ ds vs → RelD W H μ d v → RelDs W H μ (ds.set n d) (vs.set n v)
  | [], vs, d, v, n, h, r => by simp only [RelDs] at h; subst h; simp [RelDs]
  | x :: ds, vs, d, v, n, h, r => by
    simp only [RelDs] at h
    obtain ⟨u, us, rfl, h1, h2⟩ := h
    cases n with
    | zero => simp only [List.set_cons_zero, RelDs]; exact ⟨v, us, rfl, r, h2⟩
    | succ n => simp only [List.set_cons_succ, RelDs]; exact ⟨u, us.set n v, rfl, h1, RelDs.set n h2 r⟩
theorem RelDs.reverse {ds : List D} : ∀ {vs : List V}, RelDs W H μ ds vs → RelDs W H μ ds.reverse vs.reverse := by
  induction ds with
  | nil => intro vs h; simp only [RelDs] at h; subst h; simp [RelDs]
  | cons x ds ih =>
    intro vs h
    simp only [RelDs] at h
    obtain ⟨v, r, rfl, h1, h2⟩ := h
    simp only [List.reverse_cons]
    exact (ih h2).append (by simp only [RelDs]; exact ⟨v, [], rfl, h1, rfl⟩)
theorem RelDs.rep {ds : List D} {vs : List V} (h : RelDs W H μ ds vs) : ∀ k : Nat, RelDs W H μ (List.replicate k ds).flatten (List.replicate k vs).flatten
  | 0 => by simp [RelDs]
  | k + 1 => by simp only [List.replicate_succ, List.flatten_cons]; exact h.append (h.rep k)

/-- something new that is no place of the store -/
theorem Le.new {p : Addr} {o : HO} (hp : H p = none) : Le H μ (upd H p o) μ :=
  ⟨Nat.le_refl _, fun _ _ e => .inl e, fun b u e n _ => ⟨by rw [upd_ne (ne_of_none e hp)]; exact e, n⟩⟩
theorem outM.new {p : Addr} (is : Is H μ) (hp : H p = none) : outM μ p := fun n e => by
  obtain ⟨vs, q⟩ := is n p e
  rw [hp] at q; cases q
theorem TabG.upd' {P p : Addr} {o : HO} (h : TabG H P) (hp : H p = none) : TabG (upd H p o) P := by
  obtain ⟨ps, e, t⟩ := h
  exact ⟨ps, by rw [upd_ne (ne_of_none e hp)]; exact e, t⟩
theorem RelS.new {p : Addr} {o : HO} (h : RelS W H μ S) (hp : H p = none) : RelS W (upd H p o) μ S := by
  refine ⟨h.len, h.nd, fun n c o' e e1 => ?_, fun n a e => ?_, fun P hP => TabG.upd' (h.tab P hP) hp, fun p hP => (h.lam p hP).ext fun b o e => by rw [upd_ne (ne_of_none e hp)]; exact e, h.dis⟩
  · have ok := h.cell n c o' e e1
    cases c with
    | dead => trivial
    | lst ds =>
      obtain ⟨a, vs, e2, e3, r⟩ := ok
      exact ⟨a, vs, e2, by rw [upd_ne (ne_of_none e3 hp)]; exact e3, RelDs.mono (Le.new hp) h.is ds vs r⟩
  · obtain ⟨vs, q⟩ := h.is n a e
    exact ⟨vs, by rw [upd_ne (ne_of_none q hp)]; exact q⟩
end
end Dn
set_option Elab.async false
set_option linter.all false
set_option maxRecDepth 100000
set_option maxHeartbeats 2000000
namespace Dn
open PySem PySem.Spec PyProof.Rows L2 GxR
section
variable {W : Wd} {H H' H2 : Hp} {μ μ' μ2 : Mu} {S S' : Sto}
mutual
theorem RelD.sub (o : ∀ a, outM μ a → outM μ' a) : ∀ (d : D) (v : V), RelD W H μ d v → RelD W H μ' d v
  | .non, v, h => by simpa [RelD] using h
  | .bl b, v, h => by simpa [RelD] using h
  | .int i, v, h => by simpa [RelD] using h
  | .str x, v, h => by simpa [RelD] using h
  | .tup ds, v, h => by
    simp only [RelD] at h ⊢
    obtain ⟨a, vs, e, q, r⟩ := h
    exact ⟨a, vs, e, q, RelDs.sub o ds vs r⟩
  | .lst ds, v, h => by
    simp only [RelD] at h ⊢
    obtain ⟨a, vs, e, q, r⟩ := h
    exact ⟨a, vs, e, ⟨o _ q.1, q.2⟩, RelDs.sub o ds vs r⟩
  | .con ds, v, h => by
    simp only [RelD] at h ⊢
    obtain ⟨a, vs, e, q, r⟩ := h
    exact ⟨a, vs, e, q.imp (fun z => ⟨o _ z.1, z.2⟩) id, RelDs.sub o ds vs r⟩
  | .dic, v, h => by
    simp only [RelD] at h ⊢
    obtain ⟨a, e, n, q⟩ := h
    exact ⟨a, e, o _ n, q⟩
  | .obj c fs, v, h => by
    simp only [RelD] at h ⊢
    obtain ⟨a, dx, gs, e, n, q, hw, r⟩ := h
    exact ⟨a, dx, gs, e, o _ n, q, hw, RelFs.sub o fs gs r⟩
theorem RelDs.sub (o : ∀ a, outM μ a → outM μ' a) : ∀ (ds : List D) (vs : List V), RelDs W H μ ds vs → RelDs W H μ' ds vs
  | [], vs, h => by simpa [RelDs] using h
  | d :: ds, vs, h => by
    simp only [RelDs] at h ⊢
    obtain ⟨v, r, e, h1, h2⟩ := h
    exact ⟨v, r, e, RelD.sub o d v h1, RelDs.sub o ds r h2⟩
theorem RelFs.sub (o : ∀ a, outM μ a → outM μ' a) : ∀ (fs : List (Str × D)) (gs : List (Str × V)), RelFs W H μ fs gs → RelFs W H μ' fs gs
  | [], gs, h => by simpa [RelFs] using h
  | (f, d) :: fs, gs, h => by
    simp only [RelFs] at h ⊢
    obtain ⟨v, r, e, h1, h2⟩ := h
    exact ⟨v, r, e, RelD.sub o d v h1, RelFs.sub o fs r h2⟩
end
/-! ### a new place -/
theorem outM.push {p : Addr} {b : Addr} (h : outM μ b) (hb : b ≠ p) : outM (μ ++ [some p]) b := fun n e => by
  by_cases hn : n < μ.length
  · rw [List.getElem?_append_left hn] at e
    exact h n e
  · rw [List.getElem?_append_right (Nat.le_of_not_lt hn)] at e
    cases hk : n - μ.length with
    | zero => rw [hk] at e; simp at e; exact hb e.symm
    | succ k => rw [hk] at e; simp at e
theorem Le.push {p : Addr} {o : HO} (hp : H p = none) : Le H μ (upd H p o) (μ ++ [some p]) :=
  ⟨by simp, fun n o e => .inl (by rw [List.getElem?_append_left (List.getElem?_eq_some_iff.mp e).1]; exact e),
   fun b u e n _ => ⟨by rw [upd_ne (ne_of_none e hp)]; exact e, n.push (ne_of_none e hp)⟩⟩
theorem RelS.push {p : Addr} {ds : List D} {vs : List V} (h : RelS W H μ S) (hp : H p = none) (r : RelDs W H μ ds vs) : RelS W (upd H p (.lst vs)) (μ ++ [some p]) (S ++ [.lst ds]) := by
  have hl := h.len
  have out := outM.new h.is hp
  refine ⟨by simp [hl], fun n m a e1 e2 => ?_, fun n c o e1 e2 => ?_, fun n a e => ?_, fun P hP => TabG.upd' (h.tab P hP) hp, fun p hP => (h.lam p hP).ext fun b o e => by rw [upd_ne (ne_of_none e hp)]; exact e, h.dis⟩
  · by_cases hn : n < μ.length
    · rw [List.getElem?_append_left hn] at e1
      by_cases hm : m < μ.length
      · rw [List.getElem?_append_left hm] at e2
        exact h.nd n m a e1 e2
      · rw [List.getElem?_append_right (Nat.le_of_not_lt hm)] at e2
        cases hk : m - μ.length with
        | zero => rw [hk] at e2; simp at e2; rw [← e2] at e1; exact (out n e1).elim
        | succ k => rw [hk] at e2; simp at e2
    · rw [List.getElem?_append_right (Nat.le_of_not_lt hn)] at e1
      cases hk : n - μ.length with
      | succ k => rw [hk] at e1; simp at e1
      | zero =>
        rw [hk] at e1; simp at e1
        by_cases hm : m < μ.length
        · rw [List.getElem?_append_left hm] at e2
          rw [← e1] at e2; exact (out m e2).elim
        · rw [List.getElem?_append_right (Nat.le_of_not_lt hm)] at e2
          cases hk2 : m - μ.length with
          | zero => omega
          | succ k => rw [hk2] at e2; simp at e2
  · by_cases hn : n < S.length
    · rw [List.getElem?_append_left hn] at e1
      rw [List.getElem?_append_left (hl ▸ hn)] at e2
      have ok := h.cell n c o e1 e2
      cases c with
      | dead => trivial
      | lst es =>
        obtain ⟨a, ws, e3, e4, r4⟩ := ok
        exact ⟨a, ws, e3, by rw [upd_ne (ne_of_none e4 hp)]; exact e4, RelDs.mono (Le.push hp) h.is es ws r4⟩
    · rw [List.getElem?_append_right (Nat.le_of_not_lt hn)] at e1
      rw [List.getElem?_append_right (Nat.le_of_not_lt (hl ▸ hn))] at e2
      rw [hl] at e1
      cases hk : n - μ.length with
      | succ k => rw [hk] at e1; simp at e1
      | zero =>
        rw [hk] at e1 e2; simp at e1 e2
        subst e1; subst e2
        exact ⟨p, vs, rfl, upd_same, RelDs.mono (Le.push hp) h.is ds vs r⟩
  · by_cases hn : n < μ.length
    · rw [List.getElem?_append_left hn] at e
      obtain ⟨ws, q⟩ := h.is n a e
      exact ⟨ws, by rw [upd_ne (ne_of_none q hp)]; exact q⟩
    · rw [List.getElem?_append_right (Nat.le_of_not_lt hn)] at e
      cases hk : n - μ.length with
      | succ k => rw [hk] at e; simp at e
      | zero => rw [hk] at e; simp at e; subst e; exact ⟨vs, upd_same⟩
/-! ### a place is written -/
theorem Le.put {a : Addr} {n : Nat} {vs : List V} (hn : μ[n]? = some (some a)) : Le H μ (upd H a (.lst vs)) μ :=
  ⟨Nat.le_refl _, fun _ _ e => .inl e, fun b u e o _ => ⟨by rw [upd_ne (fun z => o n (by rw [z]; exact hn))]; exact e, o⟩⟩
theorem TabS.put {P a : Addr} {q : Str} {ws vs : List V} (h : LamX.TabS H P q) (ha : H a = some (.lst ws)) : LamX.TabS (upd H a (.lst vs)) P q := by
  obtain ⟨ps, e, t, k⟩ := h
  refine ⟨ps, by rw [upd_ne (fun z => by rw [z, ha] at e; cases e)]; exact e, t, fun pos cv hc => ?_⟩
  obtain ⟨c, e1, e2⟩ := k pos cv hc
  refine ⟨c, e1, ?_⟩
  rw [upd_ne (fun z => by rw [z, ha] at e2; unfold LamX.CodeO at e2; cases e2)]
  exact e2
theorem TabG.put {P a : Addr} {ws vs : List V} (h : TabG H P) (ha : H a = some (.lst ws)) : TabG (upd H a (.lst vs)) P := by
  obtain ⟨ps, e, t⟩ := h
  refine ⟨ps, ?_, t⟩
  rw [upd_ne (fun z => by rw [z, ha] at e; cases e)]
  exact e
theorem RelS.put {a : Addr} {n : Nat} {ds : List D} {vs : List V} (h : RelS W H μ S) (hn : μ[n]? = some (some a)) (r : RelDs W H μ ds vs) : RelS W (upd H a (.lst vs)) μ (S.set n (.lst ds)) := by
  obtain ⟨ws, hw⟩ := h.is n a hn
  refine ⟨by simp [h.len], h.nd, fun m c o e1 e2 => ?_, fun m b e => ?_, fun P hP => TabG.put (h.tab P hP) hw, fun p hP => TabS.put (h.lam p hP) hw, h.dis⟩
  · by_cases hm : n = m
    · subst hm
      have hlt : n < S.length := by rw [h.len]; exact (List.getElem?_eq_some_iff.mp hn).1
      rw [List.getElem?_set_self hlt] at e1
      cases e1
      rw [hn] at e2; cases e2
      exact ⟨a, vs, rfl, upd_same, RelDs.mono (Le.put hn) h.is ds vs r⟩
    · rw [List.getElem?_set_ne hm] at e1
      have ok := h.cell m c o e1 e2
      cases c with
      | dead => trivial
      | lst es =>
        obtain ⟨b, us, e3, e4, r4⟩ := ok
        subst e3
        exact ⟨b, us, rfl, by rw [upd_ne (fun z => hm (h.nd n m a hn (by rw [← z]; exact e2)))]; exact e4, RelDs.mono (Le.put hn) h.is es us r4⟩
  · by_cases hb : b = a
    · subst hb; exact ⟨vs, upd_same⟩
    · obtain ⟨us, q⟩ := h.is m b e
      exact ⟨us, by rw [upd_ne hb]; exact q⟩
/-! ### a place dies -/
theorem outM.kill {b : Addr} (n : Nat) (h : outM μ b) : outM (μ.set n none) b := fun m e => by
  by_cases hm : n = m
  · subst hm
    by_cases hl : n < μ.length
    · rw [List.getElem?_set_self hl] at e; cases e
    · rw [List.getElem?_eq_none (by simp; omega)] at e; cases e
  · rw [List.getElem?_set_ne hm] at e; exact h m e
theorem Le.kill (n : Nat) : Le H μ H (μ.set n none) := by
  refine ⟨by simp, fun m o e => ?_, fun b o e h _ => ⟨e, h.kill n⟩⟩
  by_cases hm : n = m
  · subst hm
    exact .inr (List.getElem?_set_self (List.getElem?_eq_some_iff.mp e).1)
  · exact .inl (by rw [List.getElem?_set_ne hm]; exact e)
theorem RelS.kill (n : Nat) (h : RelS W H μ S) : RelS W H (μ.set n none) (S.set n .dead) := by
  refine ⟨by simp [h.len], fun i j a e1 e2 => ?_, fun m c o e1 e2 => ?_, fun m a e => ?_, h.tab, h.lam, h.dis⟩
  · by_cases hi : n = i
    · subst hi
      by_cases hl : n < μ.length
      · rw [List.getElem?_set_self hl] at e1; cases e1
      · rw [List.getElem?_eq_none (by simp; omega)] at e1; cases e1
    · rw [List.getElem?_set_ne hi] at e1
      by_cases hj : n = j
      · subst hj
        by_cases hl : n < μ.length
        · rw [List.getElem?_set_self hl] at e2; cases e2
        · rw [List.getElem?_eq_none (by simp; omega)] at e2; cases e2
      · rw [List.getElem?_set_ne hj] at e2
        exact h.nd i j a e1 e2
  · by_cases hm : n = m
    · subst hm
      by_cases hl : n < S.length
      · rw [List.getElem?_set_self hl] at e1; cases e1; trivial
      · rw [List.getElem?_eq_none (by simp; omega)] at e1; cases e1
    · rw [List.getElem?_set_ne hm] at e1 e2
      have ok := h.cell m c o e1 e2
      cases c with
      | dead => trivial
      | lst es =>
        obtain ⟨b, us, e3, e4, r4⟩ := ok
        exact ⟨b, us, e3, e4, RelDs.sub (fun _ z => z.kill n) es us r4⟩
  · by_cases hm : n = m
    · subst hm
      by_cases hl : n < μ.length
      · rw [List.getElem?_set_self hl] at e; cases e
      · rw [List.getElem?_eq_none (by simp; omega)] at e; cases e
    · rw [List.getElem?_set_ne hm] at e
      exact h.is m a e
theorem outM.dead {a : Addr} {n : Nat} (h : RelS W H μ S) (hn : μ[n]? = some (some a)) : outM (μ.set n none) a := fun m e => by
  by_cases hm : n = m
  · subst hm
    rw [List.getElem?_set_self (List.getElem?_eq_some_iff.mp hn).1] at e; cases e
  · rw [List.getElem?_set_ne hm] at e
    exact hm (h.nd n m a hn e)
/-! ### places behind the first k go -/
theorem outM.take {b : Addr} (k : Nat) (h : outM μ b) : outM (μ.take k) b := fun n e => by
  rw [List.getElem?_take] at e
  split at e
  · exact h n e
  · cases e
theorem RelS.take (k : Nat) (h : RelS W H μ S) : RelS W H (μ.take k) (S.take k) := by
  refine ⟨by simp [h.len], fun i j a e1 e2 => ?_, fun m c o e1 e2 => ?_, fun m a e => ?_, h.tab, h.lam, h.dis⟩
  · rw [List.getElem?_take] at e1 e2
    split at e1
    · split at e2
      · exact h.nd i j a e1 e2
      · cases e2
    · cases e1
  · rw [List.getElem?_take] at e1 e2
    split at e1
    · rename_i hk
      rw [if_pos hk] at e2
      have ok := h.cell m c o e1 e2
      cases c with
      | dead => trivial
      | lst es =>
        obtain ⟨b, us, e3, e4, r4⟩ := ok
        exact ⟨b, us, e3, e4, RelDs.sub (fun _ z => z.take k) es us r4⟩
    · cases e1
  · rw [List.getElem?_take] at e
    split at e
    · exact h.is m a e
    · cases e
theorem Le.take (l : Le H μ H' μ') : Le H μ H' (μ'.take μ.length) := by
  refine ⟨by rw [List.length_take]; exact Nat.le_min.mpr ⟨Nat.le_refl _, l.len⟩, fun n o e => ?_, fun b o e n t => let ⟨q1, q2⟩ := l.keep b o e n t; ⟨q1, q2.take _⟩⟩
  have hn := (List.getElem?_eq_some_iff.mp e).1
  rw [List.getElem?_take, if_pos hn]
  exact l.at_ n o e
/-- but the one at n, which becomes the k-th -/
theorem outM.comp {b : Addr} {o : Option Addr} {k n : Nat} (hn : μ[n]? = some o) (h : outM μ b) : outM (μ.take k ++ [o]) b := fun m e => by
  by_cases hm : m < (μ.take k).length
  · rw [List.getElem?_append_left hm] at e
    exact h.take k m e
  · rw [List.getElem?_append_right (Nat.le_of_not_lt hm)] at e
    cases hk : m - (μ.take k).length with
    | zero => rw [hk] at e; simp at e; rw [e] at hn; exact h n hn
    | succ j => rw [hk] at e; simp at e
theorem RelS.comp {k n : Nat} {o : Option Addr} {c : Cell} (h : RelS W H μ S) (hk : k ≤ n) (hn : μ[n]? = some o) (hc : S[n]? = some c) : RelS W H (μ.take k ++ [o]) (S.take k ++ [c]) := by
  have hnl := (List.getElem?_eq_some_iff.mp hn).1
  have l1 : (μ.take k).length = k := by rw [List.length_take]; omega
  have l2 : (S.take k).length = k := by rw [List.length_take, h.len]; omega
  have back : ∀ (i : Nat) (a : Addr), (μ.take k ++ [o])[i]? = some (some a) → (i < k ∧ μ[i]? = some (some a)) ∨ (i = k ∧ o = some a) := fun i a e => by
    by_cases hi : i < k
    · rw [List.getElem?_append_left (by omega), List.getElem?_take, if_pos hi] at e
      exact .inl ⟨hi, e⟩
    · rw [List.getElem?_append_right (by omega), l1] at e
      cases hq : i - k with
      | zero => rw [hq] at e; simp at e; exact .inr ⟨by omega, e⟩
      | succ j => rw [hq] at e; simp at e
  refine ⟨by simp [h.len], fun i j a e1 e2 => ?_, fun m c' o' e1 e2 => ?_, fun m a e => ?_, h.tab, h.lam, h.dis⟩
  · rcases back i a e1 with ⟨h1, q1⟩ | ⟨h1, q1⟩ <;> rcases back j a e2 with ⟨h2, q2⟩ | ⟨h2, q2⟩
    · exact h.nd i j a q1 q2
    · rw [q2] at hn
      have := h.nd i n a q1 hn
      omega
    · rw [q1] at hn
      have := h.nd j n a q2 hn
      omega
    · omega
  · have sub : ∀ a, outM μ a → outM (μ.take k ++ [o]) a := fun a z => z.comp hn
    have fin : CellOk W H μ c' o' → CellOk W H (μ.take k ++ [o]) c' o' := fun ok => by
      cases c' with
      | dead => trivial
      | lst es =>
        obtain ⟨b, us, e3, e4, r4⟩ := ok
        exact ⟨b, us, e3, e4, RelDs.sub sub es us r4⟩
    by_cases hi : m < k
    · rw [List.getElem?_append_left (by omega), List.getElem?_take, if_pos hi] at e1 e2
      exact fin (h.cell m c' o' e1 e2)
    · rw [List.getElem?_append_right (by omega), l2] at e1
      rw [List.getElem?_append_right (by omega), l1] at e2
      cases hq : m - k with
      | zero =>
        rw [hq] at e1 e2; simp at e1 e2
        subst e1; subst e2
        exact fin (h.cell n c o hc hn)
      | succ j => rw [hq] at e1; simp at e1
  · rcases back m a e with ⟨_, q⟩ | ⟨_, q⟩
    · exact h.is m a q
    · rw [q] at hn; exact h.is n a hn
theorem Le.comp {n : Nat} {o : Option Addr} (l : Le H μ H' μ') (hn : μ'[n]? = some o) : Le H μ H' (μ'.take μ.length ++ [o]) := by
  have l1 : (μ'.take μ.length).length = μ.length := by rw [List.length_take]; have := l.len; omega
  refine ⟨by simp; have := l.len; omega, fun m p e => ?_, fun b u e z t => let ⟨q1, q2⟩ := l.keep b u e z t; ⟨q1, q2.comp hn⟩⟩
  have hm := (List.getElem?_eq_some_iff.mp e).1
  rw [List.getElem?_append_left (by omega), List.getElem?_take, if_pos hm]
  exact l.at_ m p e
end
end Dn
set_option Elab.async false
set_option linter.all false
set_option maxRecDepth 100000
set_option maxHeartbeats 2000000
/-! ### readings by such a function -/
namespace Dn
open PySem PySem.Spec PyProof.Rows L2 GxR

def RelVs (W : Wd) (H : Hp) (μ : Mu) : List Val → List V → Prop
  | [], vs => vs = []
  | x :: xs, vs => ∃ v r, vs = v :: r ∧ RelV' W H μ x v ∧ RelVs W H μ xs r
/-- an error in flight (told of more later) -/
def RelX (W : Wd) (H : Hp) (μ : Mu) (x : Exn) (u : Value) (dd : Option Addr) : Prop := u = .ref (W.ca x.c) ∧ ∃ d gs, dd = some d ∧ outM μ d ∧ H d = some (.xd gs) ∧ RelFs W H μ x.fs gs
def Post {α : Type} (W : Wd) (E : XK) (H : Hp) (μ : Mu) (r : Out α) (K : α → Sto → Hp → Mu → Prop) : Prop := match r with
  | .ok a S => ∀ H' μ', Le H μ H' μ' → RelS W H' μ' S → K a S H' μ'
  | .exc x S => ∀ H' μ' u dd, Le H μ H' μ' → RelS W H' μ' S → RelX W H' μ' x u dd → E u dd H'
  | .bad => False
section
variable {α β : Type} {W : Wd} {E : XK} {H H' : Hp} {μ μ' : Mu} {S : Sto}
theorem Post.imp {r : Out α} {K K' : α → Sto → Hp → Mu → Prop} (h : Post W E H μ r K) (hk : ∀ a S H' μ', Le H μ H' μ' → RelS W H' μ' S → K a S H' μ' → K' a S H' μ') : Post W E H μ r K' := by
  cases r with
  | ok a S => exact fun H' μ' l s => hk a S H' μ' l s (h H' μ' l s)
  | exc x S => exact h
  | bad => exact h
theorem Post.le {r : Out α} {K : α → Sto → Hp → Mu → Prop} (h : Post W E H μ r K) (l : Le H μ H' μ') : Post W E H' μ' r K := by
  cases r with
  | ok a S => exact fun H2 μ2 l2 s => h H2 μ2 (l.trans l2) s
  | exc x S => exact fun H2 μ2 u dd l2 s => h H2 μ2 u dd (l.trans l2) s
  | bad => exact h
theorem Post.bind {r : Out α} {k : α → Sto → Out β} {K : β → Sto → Hp → Mu → Prop} (h : Post W E H μ (r.bind k) K) : Post W E H μ r fun a S H' μ' => Post W E H' μ' (k a S) K := by
  cases r with
  | ok a S => exact fun H' μ' l s => Post.le (show Post W E H μ (k a S) K from h) l
  | exc x S => exact h
  | bad => exact h
theorem Post.at_ {a : α} {K : α → Sto → Hp → Mu → Prop} (h : Post W E H μ (.ok a S) K) (s : RelS W H μ S) : K a S H μ := h H μ .refl s
end

def QV (W : Wd) (Q : VK) : Val → Sto → Hp → Mu → Prop := fun x _ H μ => ∀ v, RelV' W H μ x v → Q v H
def QVs (W : Wd) (Q : List V → Hp → Prop) : List Val → Sto → Hp → Mu → Prop := fun xs _ H μ => ∀ vs, RelVs W H μ xs vs → Q vs H
def QB (Q : Bool → Hp → Prop) : Bool → Sto → Hp → Mu → Prop := fun b _ H _ => Q b H
abbrev DEf := Env → Sto → Out Val
abbrev DTf := Env → Sto → Out Bool
abbrev DAf := Env → Sto → Out (List Val)
def tE (W : Wd) (E : XK) (f : DEf) : TE := fun σ H Q => ∃ env S μ, RelE W H μ env σ ∧ RelS W H μ S ∧ Post W E H μ (f env S) (QV W Q)
def tT (W : Wd) (E : XK) (f : DTf) : TT := fun σ H Q => ∃ env S μ, RelE W H μ env σ ∧ RelS W H μ S ∧ Post W E H μ (f env S) (QB Q)
def tA (W : Wd) (E : XK) (f : DAf) : TA := fun σ H Q => ∃ env S μ, RelE W H μ env σ ∧ RelS W H μ S ∧ Post W E H μ (f env S) (QVs W Q)
abbrev DE (W : Wd) (E : XK) (X : Cx) (e : Expr) (f : DEf) : Prop := PE X e (tE W E f)
abbrev DT (W : Wd) (E : XK) (X : Cx) (e : Expr) (f : DTf) : Prop := PT X e (tT W E f)
abbrev DWt (W : Wd) (E : XK) (X : Cx) (e : Expr) (f : DTf) : Prop := PW X e (tT W E f)
abbrev DA (W : Wd) (E : XK) (X : Cx) (es : List Expr) (f : DAf) : Prop := PA X es (tA W E f)
theorem _root_.L2.PE.imp {X : Cx} {e : Expr} {t t' : TE} (h : PE X e t) (hi : ∀ σ H Q, t' σ H Q → t σ H Q) : PE X e t' := ⟨fun pins s σ H Q I q => h.run pins s σ H Q I (hi σ H Q q)⟩
theorem _root_.L2.PT.imp {X : Cx} {e : Expr} {t t' : TT} (h : PT X e t) (hi : ∀ σ H Q, t' σ H Q → t σ H Q) : PT X e t' := ⟨fun pins s σ H Q I q => h.run pins s σ H Q I (hi σ H Q q)⟩
theorem _root_.L2.PW.imp {X : Cx} {e : Expr} {t t' : TT} (h : PW X e t) (hi : ∀ σ H Q, t' σ H Q → t σ H Q) : PW X e t' := ⟨fun wh pins s σ H Q I q => h.run wh pins s σ H Q I (hi σ H Q q)⟩
theorem _root_.L2.PA.imp {X : Cx} {e : List Expr} {t t' : TA} (h : PA X e t) (hi : ∀ σ H Q, t' σ H Q → t σ H Q) : PA X e t' := ⟨fun pos pins s σ H Q I q => h.run pos pins s σ H Q I (hi σ H Q q)⟩
theorem _root_.L2.PS.imp {X : Cx} {e : Stmt} {t t' : TS} (h : PS X e t) (hi : ∀ D σ H, t' D σ H → t D σ H) : PS X e t' := ⟨fun pins s σ H D I q => h.run pins s σ H D I (hi D σ H q)⟩
theorem _root_.L2.PSs.imp {X : Cx} {e : List Stmt} {t t' : TS} (h : PSs X e t) (hi : ∀ D σ H, t' D σ H → t D σ H) : PSs X e t' := ⟨fun pins s σ H D I q => h.run pins s σ H D I (hi D σ H q)⟩

/-! ### what is fixed in a def's body (or a block of it) -/
structure Dx (W : Wd) (CX : CXT) (E : XK) (X : Cx) (mg : Str → Option Value) (N : List Str) (sc : Scope) (k : Nat) : Prop where
  eK : X.K = W.K
  emg : X.mg = mg
  eN : X.N = N
  esc : X.env.scope = sc
  nd : List.Nodup N
  calm : X.calm = true
  room : Room k X.A
  pass : Passes CX X E
  own : PassesOwn (model X.prog X.w) X.A X.env X.xe

section
variable {W : Wd} {E : XK} {X : Cx} {pos : Pos}
/-! ### names, constants -/
def dVar (i : Nat) : DEf := fun env S => match env[i]? with
  | some (some x) => .ok x S
  | _ => .bad
theorem de_var {i : Nat} {x : Str} (hN : X.N[i]? = some x) (hv : Vis X.env.scope x) (hd : (x == ("__debug__" : Str)) = false := by decide) (hcd : (x == ("__classdict__" : Str)) = false := by decide) :
    DE W E X (.Name x pos) (dVar i) := (pe_var hN hv hd hcd).imp fun σ H Q ⟨env, S, μ, hE, hS, hp⟩ => by
  unfold dVar at hp
  cases e : env[i]? with
  | none => rw [e] at hp; exact hp.elim
  | some o =>
    cases o with
    | none => rw [e] at hp; exact hp.elim
    | some x =>
      rw [e] at hp
      obtain ⟨v, e1, r⟩ := hE.2 i x e
      exact ⟨v, e1, hp.at_ hS v r⟩
def dC (d : D) : DEf := fun _ S => .ok (.d d) S
theorem de_c {e : Expr} {d : D} {v : V} (h : PE X e (tC v)) (r : ∀ H μ, RelD W H μ d v) : DE W E X e (dC d) := h.imp fun σ H Q ⟨env, S, μ, hE, hS, hp⟩ => hp.at_ hS v (r H μ)
theorem de_int {i j} : DE W E X (.Constant (.int i) j pos) (dC (.int i)) := de_c pe_int fun _ _ => by simp [RelD]
theorem de_bl {b j} : DE W E X (.Constant (.bool b) j pos) (dC (.bl b)) := de_c pe_bl fun _ _ => by simp [RelD]
theorem de_non {j} : DE W E X (.Constant .none j pos) (dC .non) := de_c pe_non fun _ _ => by simp [RelD]
theorem de_str {x j} : DE W E X (.Constant (.str x) j pos) (dC (.str x)) := de_c pe_str fun _ _ => by simp [RelD]
/-- code that is never come to -/
def dBad : DEf := fun _ _ => .bad
theorem de_bad {e : Expr} : DE W E X e dBad := ⟨fun _ _ _ _ _ _ ⟨_, _, _, _, _, h⟩ => h.elim⟩

/-! ### two-place operations -/
abbrev Op2 := Val → Val → Sto → Out Val
def DOp (W : Wd) (E : XK) (r : R2) (o : Op2) : Prop := ∀ (x y : Val) (S : Sto) (H : Hp) (μ : Mu) (v w : V) (Q : VK), RelS W H μ S → RelV' W H μ x v → RelV' W H μ y w → Post W E H μ (o x y S) (QV W Q) → r v w H Q
def dOp (o : Op2) (f g : DEf) : DEf := fun env S => (f env S).bind fun x S1 => (g env S1).bind fun y S2 => o x y S2
theorem tE_op {r : R2} {o : Op2} {f g : DEf} (hd : DOp W E r o) (σ : L2.St) (H : Hp) (Q : VK) (h : tE W E (dOp o f g) σ H Q) : tOp r (tE W E f) (tE W E g) σ H Q := by
  obtain ⟨env, S, μ, hE, hS, hp⟩ := h
  refine ⟨env, S, μ, hE, hS, hp.bind.imp fun x S1 H1 μ1 l1 s1 p1 v rv => ?_⟩
  refine ⟨env, S1, μ1, hE.mono l1 hS.is, s1, p1.bind.imp fun y S2 H2 μ2 l2 s2 p2 w rw' => ?_⟩
  exact hd x y S2 H2 μ2 v w Q s2 (rv.mono l2 s1.is) rw' p2
theorem de_op {op : Operator} {r : R2} {o : Op2} {a b : Expr} {f g : DEf} (ho : OpR X (binaryOp op) r) (hd : DOp W E r o) (ha : DE W E X a f) (hb : DE W E X b g) : DE W E X (.BinOp a op b pos) (dOp o f g) :=
  (pe_op ho ha hb).imp (tE_op hd)
theorem de_cmp {op : CmpOp} {r : R2} {o : Op2} {a b : Expr} {f g : DEf} (ho : OpR X (compareOp op) r) (hd : DOp W E r o) (ha : DE W E X a f) (hb : DE W E X b g) (hm : behindInMarks op b = false) : DE W E X (.Compare a [op] [b] pos) (dOp o f g) :=
  (pe_cmpR ho ha hb hm).imp (tE_op hd)
/-- a value as a test -/
def dB (f : DEf) : DTf := fun env S => (f env S).bind fun x S1 => match x with
  | .d (.bl b) => .ok b S1
  | _ => .bad
theorem tE_test {f : DEf} (σ : L2.St) (H : Hp) (Q : Bool → Hp → Prop) (h : tT W E (dB f) σ H Q) : tTest (tE W E f) σ H Q := by
  obtain ⟨env, S, μ, hE, hS, hp⟩ := h
  refine ⟨env, S, μ, hE, hS, hp.bind.imp fun x S1 H1 μ1 l1 s1 p1 v rv => ?_⟩
  cases x with
  | r n => exact p1.elim
  | d x =>
    cases x with
    | bl b =>
      have e : v = .bl b := by simpa [RelV', RelD] using rv
      exact ⟨b, e, p1.at_ s1⟩
    | _ => exact p1.elim
theorem dt_cmp {op : CmpOp} {r : R2} {o : Op2} {a b : Expr} {f g : DEf} (ho : OpR X (compareOp op) r) (hd : DOp W E r o) (ha : DE W E X a f) (hb : DE W E X b g) (hm : behindInMarks op b = false) : DT W E X (.Compare a [op] [b] pos) (dB (dOp o f g)) :=
  (pt_cmpR ho ha hb hm).imp fun σ H Q h => by
    obtain ⟨env, S, μ, hE, hS, hp⟩ := tE_test σ H Q h
    exact tE_op hd σ H _ ⟨env, S, μ, hE, hS, hp⟩
/-- chains -/
def dChain (o o' : Op2) (f g h : DEf) : DEf := fun env S => (f env S).bind fun x S1 => (g env S1).bind fun y S2 => (o x y S2).bind fun z S3 => match z with
  | .d (.bl true) => (h env S3).bind fun w S4 => o' y w S4
  | .d (.bl false) => .ok (.d (.bl false)) S3
  | _ => .bad
theorem tE_chain {r r' : R2} {o o' : Op2} {f g h : DEf} (hd : DOp W E r o) (hd' : DOp W E r' o') (σ : L2.St) (H : Hp) (Q : VK) (hh : tE W E (dChain o o' f g h) σ H Q) : tChain r r' (tE W E f) (tE W E g) (tE W E h) σ H Q := by
  obtain ⟨env, S, μ, hE, hS, hp⟩ := hh
  refine ⟨env, S, μ, hE, hS, hp.bind.imp fun x S1 H1 μ1 l1 s1 p1 v rv => ?_⟩
  refine ⟨env, S1, μ1, hE.mono l1 hS.is, s1, p1.bind.imp fun y S2 H2 μ2 l2 s2 p2 w rw' => ?_⟩
  refine hd x y S2 H2 μ2 v w _ s2 (rv.mono l2 s1.is) rw' (p2.bind.imp fun z S3 H3 μ3 l3 s3 p3 u ru => ?_)
  cases z with
  | r n => exact p3.elim
  | d z =>
    cases z with
    | bl b =>
      have e : u = .bl b := by simpa [RelV', RelD] using ru
      refine ⟨b, e, ?_⟩
      cases b with
      | true =>
        rw [if_pos rfl]
        refine ⟨env, S3, μ3, (hE.mono (l1.trans l2) hS.is).mono l3 s2.is, s3, p3.bind.imp fun t S4 H4 μ4 l4 s4 p4 q rq => ?_⟩
        exact hd' y t S4 H4 μ4 w q Q s4 ((rw'.mono l3 s2.is).mono l4 s3.is) rq p4
      | false =>
        rw [if_neg Bool.false_ne_true]
        exact p3.at_ s3 _ (by simp [RelV', RelD])
    | _ => exact p3.elim
theorem de_chain {op op' : CmpOp} {r r' : R2} {o o' : Op2} {a b c : Expr} {f g h : DEf} (ho : OpR X (compareOp op) r) (ho' : OpR X (compareOp op') r') (hd : DOp W E r o) (hd' : DOp W E r' o') (ha : DE W E X a f) (hb : DE W E X b g) (hc : DE W E X c h)
    (hm : lastMarks [op, op'] [b, c] = false := by with_unfolding_all rfl) : DE W E X (.Compare a [op, op'] [b, c] pos) (dChain o o' f g h) :=
  (pe_chain ho ho' ha hb hc hm).imp (tE_chain hd hd')
theorem dt_chain {op op' : CmpOp} {r r' : R2} {o o' : Op2} {a b c : Expr} {f g h : DEf} (ho : OpR X (compareOp op) r) (ho' : OpR X (compareOp op') r') (hd : DOp W E r o) (hd' : DOp W E r' o') (ha : DE W E X a f) (hb : DE W E X b g) (hc : DE W E X c h)
    (hm : lastMarks [op, op'] [b, c] = false := by with_unfolding_all rfl) : DT W E X (.Compare a [op, op'] [b, c] pos) (dB (dChain o o' f g h)) :=
  (pt_chain ho ho' ha hb hc hm).imp fun σ H Q h => tE_chain hd hd' σ H _ (by obtain ⟨env, S, μ, hE, hS, hp⟩ := tE_test σ H Q h; exact ⟨env, S, μ, hE, hS, hp⟩)

/-! ### and, or, not, if -/
def dtAnd (f g : DTf) : DTf := fun env S => (f env S).bind fun b S1 => if b = true then g env S1 else .ok false S1
def dtOr (f g : DTf) : DTf := fun env S => (f env S).bind fun b S1 => if b = true then .ok true S1 else g env S1
def dtNot (f : DTf) : DTf := fun env S => (f env S).bind fun b S1 => .ok (!b) S1
variable {a b : Expr} {rest : List Expr} {f g : DTf}
theorem dw_and1 (ha : DT W E X a f) : DWt W E X (.BoolOp .And [a] pos) f := pw_and1 ha
theorem dw_or1 (ha : DT W E X a f) : DWt W E X (.BoolOp .Or [a] pos) f := pw_or1 ha
theorem dw_and (ha : DT W E X a f) (hb : DWt W E X (.BoolOp .And (b :: rest) pos) g) : DWt W E X (.BoolOp .And (a :: b :: rest) pos) (dtAnd f g) := (pw_and ha hb).imp fun σ H Q ⟨env, S, μ, hE, hS, hp⟩ => by
  refine ⟨env, S, μ, hE, hS, hp.bind.imp fun c S1 H1 μ1 l1 s1 p1 => ?_⟩
  show if c = true then _ else _
  cases c with
  | true => rw [if_pos rfl] at p1 ⊢; exact ⟨env, S1, μ1, hE.mono l1 hS.is, s1, p1⟩
  | false => rw [if_neg Bool.false_ne_true] at p1 ⊢; exact p1.at_ s1
theorem dw_or (ha : DT W E X a f) (hb : DWt W E X (.BoolOp .Or (b :: rest) pos) g) : DWt W E X (.BoolOp .Or (a :: b :: rest) pos) (dtOr f g) := (pw_or ha hb).imp fun σ H Q ⟨env, S, μ, hE, hS, hp⟩ => by
  refine ⟨env, S, μ, hE, hS, hp.bind.imp fun c S1 H1 μ1 l1 s1 p1 => ?_⟩
  show if c = true then _ else _
  cases c with
  | false => rw [if_neg Bool.false_ne_true] at p1 ⊢; exact ⟨env, S1, μ1, hE.mono l1 hS.is, s1, p1⟩
  | true => rw [if_pos rfl] at p1 ⊢; exact p1.at_ s1
theorem dt_w {e : Expr} (h : DWt W E X e f) : DT W E X e f := h.pt
theorem dt_not (ha : DT W E X a f) : DT W E X (.UnaryOp .Not a pos) (dtNot f) := (pt_not ha).imp fun σ H Q ⟨env, S, μ, hE, hS, hp⟩ =>
  ⟨env, S, μ, hE, hS, hp.bind.imp fun c S1 H1 μ1 l1 s1 p1 => p1.at_ s1⟩
variable {F G : DEf}
/-! .. as values -/
def dAnd (F G : DEf) : DEf := fun env S => (dB F env S).bind fun b S1 => if b = true then G env S1 else .ok (.d (.bl false)) S1
def dOr (F G : DEf) : DEf := fun env S => (dB F env S).bind fun b S1 => if b = true then .ok (.d (.bl true)) S1 else G env S1
def dNot (F : DEf) : DEf := fun env S => (dB F env S).bind fun b S1 => .ok (.d (.bl (!b))) S1
theorem de_one {op} (h : DE W E X a F) : DE W E X (.BoolOp op [a] pos) F := pe_one h
theorem dB_bind {k : Bool → Sto → Out Val} {env : Env} {S : Sto} {H : Hp} {μ : Mu} {Q : VK} {K : Val → Sto → Hp → Mu → Prop} (h : Post W E H μ ((dB F env S).bind k) K)
    (hk : ∀ c S1 H1 μ1, Le H μ H1 μ1 → RelS W H1 μ1 S1 → Post W E H1 μ1 (k c S1) K → Q (.bl c) H1) : Post W E H μ (F env S) (QV W Q) := by
  have h2 : Post W E H μ ((F env S).bind fun x S1 => (match x with | .d (.bl b) => (.ok b S1 : Out Bool) | _ => .bad).bind k) K := by
    unfold dB at h
    cases e : F env S with
    | ok x S1 => rw [e] at h; exact h
    | exc x S1 => rw [e] at h; exact h
    | bad => rw [e] at h; exact h
  refine h2.bind.imp fun x S1 H1 μ1 l1 s1 p1 v rv => ?_
  cases x with
  | r n => exact p1.elim
  | d x =>
    cases x with
    | bl b =>
      have e : v = .bl b := by simpa [RelV', RelD] using rv
      rw [e]
      exact hk b S1 H1 μ1 l1 s1 p1
    | _ => exact p1.elim
theorem de_and (ha : DE W E X a F) (hb : DE W E X (.BoolOp .And (b :: rest) pos) G) : DE W E X (.BoolOp .And (a :: b :: rest) pos) (dAnd F G) := (pe_and ha hb).imp fun σ H Q ⟨env, S, μ, hE, hS, hp⟩ => by
  refine ⟨env, S, μ, hE, hS, dB_bind (Q := fun x H1 => ∃ c, x = .bl c ∧ if c = true then tE W E G σ H1 Q else Q (.bl false) H1) hp fun c S1 H1 μ1 l1 s1 p1 => ⟨c, rfl, ?_⟩⟩
  cases c with
  | true => rw [if_pos rfl] at p1 ⊢; exact ⟨env, S1, μ1, hE.mono l1 hS.is, s1, p1⟩
  | false => rw [if_neg Bool.false_ne_true] at p1 ⊢; exact p1.at_ s1 _ (by simp [RelV', RelD])
theorem de_or (ha : DE W E X a F) (hb : DE W E X (.BoolOp .Or (b :: rest) pos) G) : DE W E X (.BoolOp .Or (a :: b :: rest) pos) (dOr F G) := (pe_or ha hb).imp fun σ H Q ⟨env, S, μ, hE, hS, hp⟩ => by
  refine ⟨env, S, μ, hE, hS, dB_bind (Q := fun x H1 => ∃ c, x = .bl c ∧ if c = true then Q (.bl true) H1 else tE W E G σ H1 Q) hp fun c S1 H1 μ1 l1 s1 p1 => ⟨c, rfl, ?_⟩⟩
  cases c with
  | false => rw [if_neg Bool.false_ne_true] at p1 ⊢; exact ⟨env, S1, μ1, hE.mono l1 hS.is, s1, p1⟩
  | true => rw [if_pos rfl] at p1 ⊢; exact p1.at_ s1 _ (by simp [RelV', RelD])
theorem de_not (ha : DE W E X a F) : DE W E X (.UnaryOp .Not a pos) (dNot F) := (pe_not ha).imp fun σ H Q ⟨env, S, μ, hE, hS, hp⟩ =>
  ⟨env, S, μ, hE, hS, dB_bind (Q := fun x H1 => ∃ c, x = .bl c ∧ Q (.bl (!c)) H1) hp fun c S1 H1 μ1 l1 s1 p1 => ⟨c, rfl, p1.at_ s1 _ (by simp [RelV', RelD])⟩⟩
def dIf (f : DTf) (F G : DEf) : DEf := fun env S => (f env S).bind fun b S1 => if b = true then F env S1 else G env S1
theorem de_if {c : Expr} (hc : DT W E X c f) (ha : DE W E X a F) (hb : DE W E X b G) : DE W E X (.IfExp c a b pos) (dIf f F G) := (pe_ifExp hc ha hb).imp fun σ H Q ⟨env, S, μ, hE, hS, hp⟩ => by
  refine ⟨env, S, μ, hE, hS, hp.bind.imp fun c S1 H1 μ1 l1 s1 p1 => ?_⟩
  show if c = true then _ else _
  cases c with
  | true => rw [if_pos rfl] at p1 ⊢; exact ⟨env, S1, μ1, hE.mono l1 hS.is, s1, p1⟩
  | false => rw [if_neg Bool.false_ne_true] at p1 ⊢; exact ⟨env, S1, μ1, hE.mono l1 hS.is, s1, p1⟩
/-- any value's truth as a test (bools) -/
theorem dt_val (ha : DE W E X a F) (he : ∀ whole, isTrue a X.env whole = (do let v ← whole; standAt a.pos; holding [v] (truthy v)) := by intro _; rfl) : DT W E X a (dB F) :=
  (pt_val ha he).imp fun σ H Q h => tE_test σ H Q h

/-! ### argument lists -/
def dNil : DAf := fun _ S => .ok [] S
def dCons (F : DEf) (As : DAf) : DAf := fun env S => (F env S).bind fun x S1 => (As env S1).bind fun xs S2 => .ok (x :: xs) S2
theorem da_nil : DA W E X [] dNil := pa_nil.imp fun σ H Q ⟨env, S, μ, hE, hS, hp⟩ => hp.at_ hS [] rfl
theorem da_cons {e : Expr} {es : List Expr} {As : DAf} (ha : DE W E X e F) (hr : DA W E X es As) (hs : starEach (e :: es) X.env = (false, eval e X.env) :: starEach es X.env := by rfl) : DA W E X (e :: es) (dCons F As) :=
  (pa_cons ha hr hs).imp fun σ H Q ⟨env, S, μ, hE, hS, hp⟩ => by
    refine ⟨env, S, μ, hE, hS, hp.bind.imp fun x S1 H1 μ1 l1 s1 p1 v rv => ?_⟩
    refine ⟨env, S1, μ1, hE.mono l1 hS.is, s1, p1.bind.imp fun xs S2 H2 μ2 l2 s2 p2 vs rvs => ?_⟩
    exact p2.at_ s2 _ ⟨v, vs, rfl, rv.mono l2 s1.is, rvs⟩
/-- a call of something with values -/
abbrev Opn := List Val → Sto → Out Val
def DCall (W : Wd) (E : XK) (r : List V → Hp → VK → Prop) (o : Opn) : Prop := ∀ (xs : List Val) (S : Sto) (H : Hp) (μ : Mu) (vs : List V) (Q : VK), RelS W H μ S → RelVs W H μ xs vs → Post W E H μ (o xs S) (QV W Q) → r vs H Q
def dCall (o : Opn) (As : DAf) : DEf := fun env S => (As env S).bind fun xs S1 => o xs S1
theorem tE_call {r : List V → Hp → VK → Prop} {o : Opn} {As : DAf} (hd : DCall W E r o) (σ : L2.St) (H : Hp) (Q : VK) (h : tE W E (dCall o As) σ H Q) : tA W E As σ H fun vs H1 => r vs H1 Q := by
  obtain ⟨env, S, μ, hE, hS, hp⟩ := h
  exact ⟨env, S, μ, hE, hS, hp.bind.imp fun xs S1 H1 μ1 l1 s1 p1 vs rvs => hd xs S1 H1 μ1 vs Q s1 rvs p1⟩
end
end Dn
set_option Elab.async false
set_option linter.all false
set_option maxRecDepth 100000
set_option maxHeartbeats 4000000
/-! a tuple times 0, times 1 -/
namespace Dn
open PySem PySem.Spec PyProof.Rows L2
theorem tuple_mul1 (l : Addr) (items : Array Value) (n : Nat) (dd : Option Addr) (sl : Array (Option Value)) (u : Tok) :
    Meets (Builtin.«tuple.__mul__» ⟨[.ref l, .int 1 u], []⟩) (fun _ R s => s.heap.get? l = some { cls := .type "tuple", dict := dd, data := .seq items n, slots := sl } ∧ R (.ok (.ret (Value.ref l))) s) :=
  .of_wp fun prog w A R s h => by
    obtain ⟨hp, g, d, tk, os⟩ := s
    obtain ⟨hl, h⟩ := h
    have f1 := AutoSeq1.idx_int
    wp_walk using wpAny_loadPart' hl
    exact ⟨_, rfl, h⟩
theorem tuple_mul0 (l : Addr) (items : Array Value) (n : Nat) (dd : Option Addr) (sl : Array (Option Value)) (u : Tok) (hne : items.isEmpty = false) :
    Meets (Builtin.«tuple.__mul__» ⟨[.ref l, .int 0 u], []⟩) (fun _ R s => s.heap.get? l = some { cls := .type "tuple", dict := dd, data := .seq items n, slots := sl } ∧
      R (.ok (.ret (Value.ref s.heap.objs.size))) { s with heap := s.heap.push { cls := Value.type "tuple", data := Data.seq #[] }, toks := s.toks }) :=
  .of_wp fun prog w A R s h => by
    obtain ⟨hp, g, d, tk, os⟩ := s
    obtain ⟨hl, h⟩ := h
    have f1 := AutoSeq1.idx_int
    wp_walk using wpAny_loadPart' hl
    repeat (first
      | (refine wpAny_ite_false (decide_eq_false (by rw [hne]; decide)) ?_; wp_walk using wpAny_loadPart' hl)
      | (refine wpAny_ite_true (decide_eq_true (by simp)) ?_; wp_walk using wpAny_loadPart' hl))
    exact ⟨_, rfl, h⟩
def rRep1 (K : PySem.W.Frag) : R2 := fun x y H Q => ∃ l xs, x = .ref l ∧ y = .int 1 ∧ SqT K H l xs ∧ Q (.ref l) H
def rRep0 (K : PySem.W.Frag) : R2 := fun x y H Q => ∃ l xs, x = .ref l ∧ y = .int 0 ∧ SqT K H l xs ∧ xs ≠ [] ∧ ∀ p, H p = none → Q (.ref p) (upd H p (.tup []))
section
variable {X : Cx}
theorem op_rep1 : OpR X (binaryOp .Mult) (rRep1 X.K) := by
  intro pins s σ H x y v u Q I rx ry h
  obtain ⟨l, xs, rfl, rfl, hT, q⟩ := h
  cases rx
  obtain ⟨t, rfl⟩ := ry
  obtain ⟨its, r, ⟨⟨cls, dd, data, sl⟩, ho, hc, n, hd⟩, hs⟩ := I.tuple hT
  simp only at hc hd
  subst hc hd
  refine wpAny_binaryOp_repeat_ref (T := "tuple") (U := "int") (by decide) ⟨_, ho, rfl⟩ (fun s' => typeIs_int s' 1 t) noFill_tuple_mul F.fills_int_mul F.slot_int_rmul repeat_tuple F.slot_int_index.lookup
    (call_meets F.slot_int_rmul (typeIs_int s 1 t) F.entry_int_rmul (F.args_int_rmul_2 _ _) (int_rmul_tuple 1 t l its.toArray n dd sl)
      ⟨ho, rfl, ⟨_, ho, rfl⟩, call_meets F.slot_tuple_mul ⟨_, ho, rfl⟩ F.entry_tuple_mul (F.args_tuple_mul_2 _ _) (tuple_mul1 l its.toArray n dd sl t) ⟨ho, ?_⟩⟩)
  exact ⟨.ref l, _, I, rfl, q⟩
theorem op_rep0 : OpR X (binaryOp .Mult) (rRep0 X.K) := by
  intro pins s σ H x y v u Q I rx ry h
  obtain ⟨l, xs, rfl, rfl, hT, hne, q⟩ := h
  cases rx
  obtain ⟨t, rfl⟩ := ry
  obtain ⟨its, r, ⟨⟨cls, dd, data, sl⟩, ho, hc, n, hd⟩, hs⟩ := I.tuple hT
  simp only at hc hd
  subst hc hd
  have hn : its ≠ [] := fun e => hne (by
    have hle : its.length = xs.length := r.length.symm
    rw [e] at hle
    exact List.eq_nil_of_length_eq_zero hle.symm)
  have hi : its.toArray.isEmpty = false := by
    cases its with
    | nil => exact absurd rfl hn
    | cons a b => rfl
  refine wpAny_binaryOp_repeat_ref (T := "tuple") (U := "int") (by decide) ⟨_, ho, rfl⟩ (fun s' => typeIs_int s' 0 t) noFill_tuple_mul F.fills_int_mul F.slot_int_rmul repeat_tuple F.slot_int_index.lookup
    (call_meets F.slot_int_rmul (typeIs_int s 0 t) F.entry_int_rmul (F.args_int_rmul_2 _ _) (int_rmul_tuple 0 t l its.toArray n dd sl)
      ⟨ho, rfl, ⟨_, ho, rfl⟩, call_meets F.slot_tuple_mul ⟨_, ho, rfl⟩ F.entry_tuple_mul (F.args_tuple_mul_2 _ _) (tuple_mul0 l its.toArray n dd sl t hi) ⟨ho, ?_⟩⟩)
  refine ⟨.ref s.heap.objs.size, _, I.laid (t' := s.toks) (o := .tup []) (fun b ob q => Heap.get?_push_of_some _ q) (Nat.le_refl _) ?_, rfl, q _ (I.hok.fresh (Nat.le_refl _))⟩
  exact ⟨by rw [sizeLine_eq]; decide, [], .nil, IsTup.new _ _⟩
end
end Dn
set_option Elab.async false
set_option linter.all false
set_option maxRecDepth 100000
set_option maxHeartbeats 4000000
/-! ### operators on data -/
namespace Dn
open PySem PySem.Spec PyProof.Rows L2 GxR

abbrev szL : Nat := 16777216
theorem szL_eq : sizeLine = szL := sizeLine_eq
/-- the items of a list, wherever it stands -/
def seqL (x : Val) (S : Sto) : Option (List D) := match x with
  | .d (.lst ds) => some ds
  | .d (.con ds) => some ds
  | .r n => (match S[n]? with | some (.lst ds) => some ds | _ => none)
  | _ => none
/-- of a list that is tracked -/
def trkL (x : Val) (S : Sto) : Option (List D) := match x with
  | .d (.lst ds) => some ds
  | .r n => (match S[n]? with | some (.lst ds) => some ds | _ => none)
  | _ => none
def seqT (x : Val) : Option (List D) := match x with
  | .d (.tup ds) => some ds
  | _ => none
section
variable {W : Wd} {E : XK} {H : Hp} {μ : Mu} {S : Sto}
theorem cell_rel {n : Nat} {ds : List D} {v : V} (s : RelS W H μ S) (h : RelV' W H μ (.r n) v) (e : S[n]? = some (.lst ds)) : ∃ a vs, v = .ref a ∧ μ[n]? = some (some a) ∧ H a = some (.lst vs) ∧ RelDs W H μ ds vs := by
  have hn : n < μ.length := by rw [← s.len]; exact (List.getElem?_eq_some_iff.mp e).1
  have e1 : μ[n]? = some μ[n] := List.getElem?_eq_getElem hn
  obtain ⟨a, vs, e2, e3, r⟩ := s.cell n _ _ e e1
  rw [e2] at e1
  simp only [RelV', e1] at h
  exact ⟨a, vs, h, e1, e3, r⟩
theorem trkL_rel {x : Val} {ds : List D} {v : V} (s : RelS W H μ S) (h : RelV' W H μ x v) (e : trkL x S = some ds) : ∃ a vs, v = .ref a ∧ H a = some (.lst vs) ∧ RelDs W H μ ds vs := by
  unfold trkL at e
  split at e
  · cases e
    simp only [RelV', RelD] at h
    obtain ⟨a, vs, e1, q, r⟩ := h
    exact ⟨a, vs, e1, q.2, r⟩
  · split at e
    · rename_i e1
      cases e
      obtain ⟨a, vs, h1, _, h2, h3⟩ := cell_rel s h e1
      exact ⟨a, vs, h1, h2, h3⟩
    · cases e
  · cases e
theorem seqL_rel {x : Val} {ds : List D} {v : V} (s : RelS W H μ S) (h : RelV' W H μ x v) (e : seqL x S = some ds) : ∃ a vs, v = .ref a ∧ SqL W.K H a vs ∧ RelDs W H μ ds vs := by
  unfold seqL at e
  split at e
  · cases e
    simp only [RelV', RelD] at h
    obtain ⟨a, vs, e1, q, r⟩ := h
    exact ⟨a, vs, e1, q.sq, r⟩
  · cases e
    simp only [RelV', RelD] at h
    obtain ⟨a, vs, e1, q, r⟩ := h
    exact ⟨a, vs, e1, q.sq, r⟩
  · split at e
    · rename_i e1
      cases e
      obtain ⟨a, vs, h1, _, h2, h3⟩ := cell_rel s h e1
      exact ⟨a, vs, h1, .inl (.inl h2), h3⟩
    · cases e
  · cases e
theorem seqT_rel {x : Val} {ds : List D} {v : V} (h : RelV' W H μ x v) (e : seqT x = some ds) : ∃ a vs, v = .ref a ∧ SqT W.K H a vs ∧ RelDs W H μ ds vs := by
  unfold seqT at e
  split at e
  · cases e
    simpa only [RelV', RelD] using h
  · cases e
theorem int_rel {i : Int} {v : V} (h : RelV' W H μ (.d (.int i)) v) : v = .int i := by simpa only [RelV', RelD] using h
theorem bl_rel {i : Bool} {v : V} (h : RelV' W H μ (.d (.bl i)) v) : v = .bl i := by simpa only [RelV', RelD] using h
theorem str_rel {i : Str} {v : V} (h : RelV' W H μ (.d (.str i)) v) : v = .str i := by simpa only [RelV', RelD] using h
theorem non_rel {v : V} (h : RelV' W H μ (.d .non) v) : v = .non := by simpa only [RelV', RelD] using h
theorem rel_int (i : Int) : RelV' W H μ (.d (.int i)) (.int i) := by simp only [RelV', RelD]
theorem rel_bl (i : Bool) : RelV' W H μ (.d (.bl i)) (.bl i) := by simp only [RelV', RelD]
theorem rel_str (i : Str) : RelV' W H μ (.d (.str i)) (.str i) := by simp only [RelV', RelD]
theorem rel_non : RelV' W H μ (.d .non) .non := by simp only [RelV', RelD]
/-- a new tuple of data -/
theorem post_tup {ds : List D} {vs : List V} {K : Val → Sto → Hp → Mu → Prop} {p : Addr} (h : Post W E H μ (.ok (.d (.tup ds)) S) K) (s : RelS W H μ S) (hp : H p = none) (r : RelDs W H μ ds vs) :
    K (.d (.tup ds)) S (upd H p (.tup vs)) μ ∧ RelV' W (upd H p (.tup vs)) μ (.d (.tup ds)) (.ref p) := by
  refine ⟨h _ _ (Le.new hp) (s.new hp), ?_⟩
  simp only [RelV', RelD]
  exact ⟨p, vs, rfl, .inl (.inl upd_same), RelDs.mono (Le.new hp) s.is ds vs r⟩
/-- a new list of data -/
theorem post_lst {ds : List D} {vs : List V} {K : Val → Sto → Hp → Mu → Prop} {p : Addr} (h : Post W E H μ (.ok (.d (.lst ds)) S) K) (s : RelS W H μ S) (hp : H p = none) (r : RelDs W H μ ds vs) :
    K (.d (.lst ds)) S (upd H p (.lst vs)) μ ∧ RelV' W (upd H p (.lst vs)) μ (.d (.lst ds)) (.ref p) := by
  refine ⟨h _ _ (Le.new hp) (s.new hp), ?_⟩
  simp only [RelV', RelD]
  exact ⟨p, vs, rfl, ⟨outM.new s.is hp, upd_same⟩, RelDs.mono (Le.new hp) s.is ds vs r⟩
/-- a new list as a place -/
theorem post_cell {ds : List D} {vs : List V} {K : Val → Sto → Hp → Mu → Prop} {p : Addr} (h : Post W E H μ (.ok (.r S.length) (S ++ [.lst ds])) K) (s : RelS W H μ S) (hp : H p = none) (r : RelDs W H μ ds vs) :
    K (.r S.length) (S ++ [.lst ds]) (upd H p (.lst vs)) (μ ++ [some p]) ∧ RelV' W (upd H p (.lst vs)) (μ ++ [some p]) (.r S.length) (.ref p) := by
  refine ⟨h _ _ (Le.push hp) (s.push hp r), ?_⟩
  simp only [RelV', s.len]
  simp

/-! ### ints -/
def oI (C : Int → Int → Bool) (g : Int → Int → D) : Op2 := fun x y S => match x, y with
  | .d (.int i), .d (.int j) => if C i j = true then .ok (.d (g i j)) S else .bad
  | _, _ => .bad
theorem dop_I {C : Int → Int → Bool} {C' : Int → Int → Prop} {g : Int → Int → D} {g' : Int → Int → V} (hc : ∀ i j, C i j = true → C' i j) (hg : ∀ i j H μ, RelD W H μ (g i j) (g' i j)) : DOp W E (rI C' g') (oI C g) := by
  intro x y S H μ v w Q s rx ry h
  unfold oI at h
  split at h
  · split at h
    · rename_i c
      exact ⟨_, _, int_rel rx, int_rel ry, hc _ _ c, h.at_ s _ (hg ..)⟩
    · exact h.elim
  · exact h.elim
abbrev cTrue : Int → Int → Bool := fun _ _ => true
theorem dop_I0 {g : Int → Int → D} {g' : Int → Int → V} (hg : ∀ i j H μ, RelD W H μ (g i j) (g' i j)) : DOp W E (rI0 g') (oI cTrue g) := by
  intro x y S H μ v w Q s rx ry h
  obtain ⟨i, j, e1, e2, _, q⟩ := dop_I (C := cTrue) (C' := fun _ _ => True) (fun _ _ _ => trivial) hg x y S H μ v w Q s rx ry h
  exact ⟨i, j, e1, e2, q⟩
def cMul : Int → Int → Bool := fun i j => decide (i.natAbs.log2 + j.natAbs.log2 < 1000000)
def cDiv : Int → Int → Bool := fun _ j => decide (j ≠ 0) && decide (j.natAbs.log2 < 9000)
def cMod : Int → Int → Bool := fun _ j => decide (j ≠ 0)
def cPow : Int → Int → Bool := fun i j => decide (0 ≤ j) && decide (j ≤ 1000000) && decide (i.natAbs < 2 ^ 64)
def oSub : Op2 := oI cTrue fun i j => .int (i - j)
def oDiv : Op2 := oI cDiv fun i j => .int (i.fdiv j)
def oMod : Op2 := oI cMod fun i j => .int (i.fmod j)
def oPow : Op2 := oI cPow fun i j => .int (i ^ j.toNat)
def oLt : Op2 := oI cTrue fun i j => .bl (decide (i < j))
def oLe : Op2 := oI cTrue fun i j => .bl (decide (i ≤ j))
def oGt : Op2 := oI cTrue fun i j => .bl (decide (j < i))
def oGe : Op2 := oI cTrue fun i j => .bl (decide (j ≤ i))
theorem op_fdivZ {X : Cx} : OpR X (binaryOp .FloorDiv) (rI (fun _ j => j ≠ 0 ∧ j.natAbs.log2 < 9000) fun i j => .int (i.fdiv j)) := opI fun i j _ _ _ _ _ hc q => floordiv_int hc.1 q (.inl (PyProof.noPylong_of_log2 hc.2))
theorem dop_sub : DOp W E (rI0 fun i j => .int (i - j)) oSub := dop_I0 fun _ _ _ _ => by simp [RelD]
theorem dop_div : DOp W E (rI (fun _ j => j ≠ 0 ∧ j.natAbs.log2 < 9000) fun i j => .int (i.fdiv j)) oDiv := dop_I (fun _ _ h => by simpa [cDiv] using h) fun _ _ _ _ => by simp [RelD]
theorem dop_mod : DOp W E (rI (fun _ j => j ≠ 0) fun i j => .int (i.fmod j)) oMod := dop_I (fun _ _ h => by simpa [cMod] using h) fun _ _ _ _ => by simp [RelD]
theorem dop_pow : DOp W E (rI CPow fun i j => .int (i ^ j.toNat)) oPow := dop_I (fun _ _ h => by simpa [cPow, CPow, and_assoc] using h) fun _ _ _ _ => by simp [RelD]
theorem dop_lt : DOp W E (rI0 fun i j => .bl (decide (i < j))) oLt := dop_I0 fun _ _ _ _ => by simp [RelD]
theorem dop_le : DOp W E (rI0 fun i j => .bl (decide (i ≤ j))) oLe := dop_I0 fun _ _ _ _ => by simp [RelD]
theorem dop_gt : DOp W E (rI0 fun i j => .bl (decide (j < i))) oGt := dop_I0 fun _ _ _ _ => by simp [RelD]
theorem dop_ge : DOp W E (rI0 fun i j => .bl (decide (j ≤ i))) oGe := dop_I0 fun _ _ _ _ => by simp [RelD]

/-! ### + -/
def oAdd : Op2 := fun x y S => match x, y with
  | .d (.int i), .d (.int j) => .ok (.d (.int (i + j))) S
  | .d (.tup a), .d (.tup b) => if a.length + b.length ≤ szL then .ok (.d (.tup (a ++ b))) S else .bad
  | .d (.str a), .d (.str b) => if a.length + b.length ≤ szL then .ok (.d (.str (a ++ b))) S else .bad
  | _, _ => match trkL x S, trkL y S with
    | some a, some b => if a.length + b.length ≤ szL then .ok (.d (.lst (a ++ b))) S else .bad
    | _, _ => .bad
def rAddA (K : PySem.W.Frag) : R2 := fun x y H Q => rI0 (fun i j => .int (i + j)) x y H Q ∨ rCatA K x y H Q ∨ (∃ i j, x = .str i ∧ y = .str j ∧ i.length + j.length ≤ sizeLine ∧ Q (.str (i ++ j)) H) ∨ rCat x y H Q
theorem op_addA {X : Cx} : OpR X (binaryOp .Add) (rAddA X.K) := op_add.or (op_catA.or (op_add_str.or op_cat))
theorem dop_add : DOp W E (rAddA W.K) oAdd := by
  intro x y S H μ v w Q s rx ry h
  unfold oAdd at h
  split at h
  · exact .inl ⟨_, _, int_rel rx, int_rel ry, h.at_ s _ (rel_int _)⟩
  · rename_i a b
    split at h
    · rename_i hz
      obtain ⟨p, vs, rfl, q1, r1⟩ := seqT_rel rx rfl
      obtain ⟨p', ws, rfl, q2, r2⟩ := seqT_rel ry rfl
      refine .inr (.inl ⟨p, p', vs, ws, rfl, rfl, q1, q2, by rw [← r1.length, ← r2.length, szL_eq]; exact hz, fun e => ?_, fun e1 e2 => ?_, fun e1 e2 c hc => ?_⟩)
      · have ea : a = [] := List.length_eq_zero_iff.mp (by rw [r1.length, e]; rfl)
        refine h.at_ s _ ?_
        rw [ea]; exact ry
      · have eb : b = [] := List.length_eq_zero_iff.mp (by rw [r2.length, e2]; rfl)
        refine h.at_ s _ ?_
        rw [eb, List.append_nil]; exact rx
      · obtain ⟨k, r⟩ := post_tup h s hc (r1.append r2)
        exact k _ r
    · exact h.elim
  · split at h
    · rename_i hz
      exact .inr (.inr (.inl ⟨_, _, str_rel rx, str_rel ry, by rw [szL_eq]; exact hz, h.at_ s _ (rel_str _)⟩))
    · exact h.elim
  · split at h
    · rename_i a b e1 e2
      split at h
      · rename_i hz
        obtain ⟨p, vs, rfl, q1, r1⟩ := trkL_rel s rx e1
        obtain ⟨p', ws, rfl, q2, r2⟩ := trkL_rel s ry e2
        refine .inr (.inr (.inr ⟨p, p', vs, ws, rfl, rfl, q1, q2, by rw [← r1.length, ← r2.length, szL_eq]; exact hz, fun c hc => ?_⟩))
        obtain ⟨k, r⟩ := post_lst h s hc (r1.append r2)
        exact k _ r
      · exact h.elim
    · exact h.elim

/-! ### * -/
def oMul : Op2 := fun x y S => match x, y with
  | .d (.int i), .d (.int j) => if cMul i j = true then .ok (.d (.int (i * j))) S else .bad
  | .d (.tup a), .d (.int k) => if a ≠ [] ∧ ((2 ≤ k ∧ k ≤ 1000 ∧ a.length ≤ 1000) ∨ k = 0 ∨ k = 1) then .ok (.d (.tup (List.replicate k.toNat a).flatten)) S else .bad
  | _, _ => .bad
def rMulA (K : PySem.W.Frag) : R2 := fun x y H Q => rI CMulW (fun i j => .int (i * j)) x y H Q ∨ rRepT K x y H Q ∨ rRep1 K x y H Q ∨ rRep0 K x y H Q
theorem op_mulA {X : Cx} : OpR X (binaryOp .Mult) (rMulA X.K) := op_mulW.or (op_repT.or (op_rep1.or op_rep0))
theorem dop_mul : DOp W E (rMulA W.K) oMul := by
  intro x y S H μ v w Q s rx ry h
  unfold oMul at h
  split at h
  · split at h
    · rename_i c
      exact .inl ⟨_, _, int_rel rx, int_rel ry, by simpa [cMul, CMulW] using c, h.at_ s _ (rel_int _)⟩
    · exact h.elim
  · split at h
    · rename_i c
      obtain ⟨p, vs, rfl, q1, r1⟩ := seqT_rel rx rfl
      have ne : vs ≠ [] := fun e => c.1 (List.length_eq_zero_iff.mp (by rw [r1.length, e]; rfl))
      rcases c.2 with c2 | rfl | rfl
      · refine .inr (.inl ⟨p, _, vs, rfl, int_rel ry, q1, ne, c2.1, c2.2.1, by rw [← r1.length]; exact c2.2.2, fun l hl => ?_⟩)
        obtain ⟨k, r⟩ := post_tup h s hl (r1.rep _)
        exact k _ r
      · refine .inr (.inr (.inr ⟨p, vs, rfl, int_rel ry, q1, ne, fun l hl => ?_⟩))
        have r0 := r1.rep 0
        obtain ⟨k, r⟩ := post_tup h s hl r0
        exact k _ r
      · refine .inr (.inr (.inl ⟨p, vs, rfl, int_rel ry, q1, ?_⟩))
        refine h.at_ s _ ?_
        simp only [RelV', RelD]
        exact ⟨p, vs, rfl, q1, by simpa using r1⟩
    · exact h.elim
  · exact h.elim

/-! ### ==, != -/
mutual
def D.py : D → Option PyData
  | .non => some .none
  | .bl b => some (.bool b)
  | .int i => some (.int i)
  | .str x => some (.str x)
  | .tup ds => (pys ds).map .tuple
  | .lst ds => (pys ds).map .list
  | .con ds => (pys ds).map .list
  | .dic => none
  | .obj _ _ => none
def pys : List D → Option (List PyData)
  | [] => some []
  | d :: ds => match D.py d, pys ds with
    | some p, some ps => some (p :: ps)
    | _, _ => none
end
def pyV (x : Val) (S : Sto) : Option PyData := match x with
  | .d d => d.py
  | .r n => (match S[n]? with | some (.lst ds) => (pys ds).map .list | _ => none)
mutual
theorem dp_of : ∀ (d : D) (v : V) (p : PyData), RelD W H μ d v → d.py = some p → Dp W.K H v p
  | .non, v, p, h, e => by simp only [RelD] at h; simp only [D.py] at e; cases e; rw [h]; exact .non
  | .bl b, v, p, h, e => by simp only [RelD] at h; simp only [D.py] at e; cases e; rw [h]; exact .bl b
  | .int b, v, p, h, e => by simp only [RelD] at h; simp only [D.py] at e; cases e; rw [h]; exact .int b
  | .str b, v, p, h, e => by simp only [RelD] at h; simp only [D.py] at e; cases e; rw [h]; exact .str b
  | .tup ds, v, p, h, e => by
    simp only [RelD] at h
    obtain ⟨a, vs, rfl, q, r⟩ := h
    simp only [D.py] at e
    cases k : pys ds with
    | none => rw [k] at e; cases e
    | some ps => rw [k] at e; cases e; exact .tup q (dps_of ds vs ps r k)
  | .lst ds, v, p, h, e => by
    simp only [RelD] at h
    obtain ⟨a, vs, rfl, q, r⟩ := h
    simp only [D.py] at e
    cases k : pys ds with
    | none => rw [k] at e; cases e
    | some ps => rw [k] at e; cases e; exact .lst q.sq (dps_of ds vs ps r k)
  | .con ds, v, p, h, e => by
    simp only [RelD] at h
    obtain ⟨a, vs, rfl, q, r⟩ := h
    simp only [D.py] at e
    cases k : pys ds with
    | none => rw [k] at e; cases e
    | some ps => rw [k] at e; cases e; exact .lst q.sq (dps_of ds vs ps r k)
  | .dic, v, p, h, e => by simp only [D.py] at e; cases e
  | .obj _ _, v, p, h, e => by simp only [D.py] at e; cases e
theorem dps_of : ∀ (ds : List D) (vs : List V) (ps : List PyData), RelDs W H μ ds vs → pys ds = some ps → DpAll W.K H vs ps
  | [], vs, ps, h, e => by simp only [RelDs] at h; simp only [pys] at e; cases e; rw [h]; exact .nil
  | d :: ds, vs, ps, h, e => by
    simp only [RelDs] at h
    obtain ⟨v, r, rfl, h1, h2⟩ := h
    simp only [pys] at e
    cases k1 : d.py with
    | none => rw [k1] at e; cases e
    | some p =>
      cases k2 : pys ds with
      | none => rw [k1, k2] at e; cases e
      | some qs => rw [k1, k2] at e; cases e; exact .cons (dp_of d v p h1 k1) (dps_of ds r qs h2 k2)
end
theorem pyV_rel {x : Val} {v : V} {p : PyData} (s : RelS W H μ S) (h : RelV' W H μ x v) (e : pyV x S = some p) : Dp W.K H v p := by
  cases x with
  | d d => exact dp_of d v p h e
  | r n =>
    unfold pyV at e
    dsimp only at e
    split at e
    · rename_i ds e1
      obtain ⟨a, vs, rfl, _, h2, h3⟩ := cell_rel s h e1
      cases k : pys ds with
      | none => rw [k] at e; cases e
      | some ps => rw [k] at e; cases e; exact .lst (.inl (.inl h2)) (dps_of ds vs ps h3 k)
    · cases e
def oEqB (neg : Bool) : Op2 := fun x y S => match x, y with
  | .d (.str a), .d (.str b) => .ok (.d (.bl (xor neg (decide (a = b))))) S
  | .d (.int a), .d (.int b) => .ok (.d (.bl (xor neg (decide (a = b))))) S
  | _, _ => match pyV x S, pyV y S with
    | some d, some e => if SeqAt.shaped d && SeqAt.shaped e then .ok (.d (.bl (xor neg (PyData.eqv d e)))) S else .bad
    | _, _ => .bad
abbrev oEq : Op2 := oEqB false
abbrev oNe : Op2 := oEqB true
def rEqA (K : PySem.W.Frag) : R2 := fun x y H Q => rEq x y H Q ∨ rEqD K x y H Q
def rNeA (K : PySem.W.Frag) : R2 := fun x y H Q => rNe x y H Q ∨ rNeD K x y H Q
theorem op_eqA {X : Cx} (hu : X.A.units + 64 < cLine) : OpR X (compareOp .Eq) (rEqA X.K) := op_eq.or (op_eqD hu)
theorem op_neA {X : Cx} (hu : X.A.units + 64 < cLine) : OpR X (compareOp .NotEq) (rNeA X.K) := op_ne.or (op_neD hu)
theorem dop_eq : DOp W E (rEqA W.K) oEq := by
  intro x y S H μ v w Q s rx ry h
  unfold oEq oEqB at h
  split at h
  · rename_i a b
    have := h.at_ s _ (rel_bl _)
    exact .inl ⟨by rw [str_rel rx, str_rel ry]; rfl, by rw [str_rel rx, str_rel ry]; simpa using this⟩
  · rename_i a b
    have := h.at_ s _ (rel_bl _)
    exact .inl ⟨by rw [int_rel rx, int_rel ry]; rfl, by rw [int_rel rx, int_rel ry]; simpa using this⟩
  · refine .inr ?_
    split at h
    · rename_i d e e1 e2
      split at h
      · rename_i c
        rw [Bool.and_eq_true] at c
        refine ⟨d, e, pyV_rel s rx e1, pyV_rel s ry e2, c.1, c.2, ?_⟩
        have := h.at_ s _ (rel_bl _)
        simpa using this
      · exact h.elim
    · exact h.elim
theorem dop_ne : DOp W E (rNeA W.K) oNe := by
  intro x y S H μ v w Q s rx ry h
  unfold oNe oEqB at h
  split at h
  · rename_i a b
    have := h.at_ s _ (rel_bl _)
    exact .inl ⟨by rw [str_rel rx, str_rel ry]; rfl, by rw [str_rel rx, str_rel ry]; simpa using this⟩
  · rename_i a b
    have := h.at_ s _ (rel_bl _)
    exact .inl ⟨by rw [int_rel rx, int_rel ry]; rfl, by rw [int_rel rx, int_rel ry]; simpa using this⟩
  · refine .inr ?_
    split at h
    · rename_i d e e1 e2
      split at h
      · rename_i c
        rw [Bool.and_eq_true] at c
        refine ⟨d, e, pyV_rel s rx e1, pyV_rel s ry e2, c.1, c.2, ?_⟩
        have := h.at_ s _ (rel_bl _)
        simpa using this
      · exact h.elim
    · exact h.elim

/-! ### a[i] -/
def oIx : Op2 := fun x y S => match y with
  | .d (.int i) => (match x with
    | .d (.tup ds) => (match atI ds i with | some d => .ok (.d d) S | none => .bad)
    | .d (.str z) => if z.length ≤ szL then (match atI z.cps.toList i with | some c => .ok (.d (.str ⟨#[c]⟩)) S | none => .bad) else .bad
    | _ => (match seqL x S with
      | some ds => (match atI ds i with | some d => .ok (.d d) S | none => .bad)
      | none => .bad))
  | _ => .bad
theorem RelDs.atI {ds : List D} {vs : List V} {i : Int} {d : D} (h : RelDs W H μ ds vs) (e : L2.atI ds i = some d) : ∃ v, L2.atI vs i = some v ∧ RelD W H μ d v := by
  unfold L2.atI at e ⊢
  rw [← h.length]
  cases k : ixN ds.length i with
  | none => rw [k] at e; cases e
  | some j =>
    rw [k] at e
    simp only [Option.bind_some] at e ⊢
    exact h.get e
theorem dop_ix : DOp W E (rIx W.K) oIx := by
  intro x y S H μ v w Q s rx ry h
  unfold oIx at h
  split at h
  · rename_i i
    have hw := int_rel ry
    split at h
    · split at h
      · rename_i d e
        obtain ⟨p, vs, rfl, q1, r1⟩ := seqT_rel rx rfl
        obtain ⟨u, e2, r2⟩ := r1.atI e
        exact .inr (.inl ⟨p, vs, i, u, rfl, hw, q1, e2, h.at_ s _ r2⟩)
      · exact h.elim
    · split at h
      · rename_i hz
        split at h
        · rename_i c e
          exact .inr (.inr ⟨_, i, c, str_rel rx, hw, by rw [szL_eq]; exact hz, e, h.at_ s _ (rel_str _)⟩)
        · exact h.elim
      · exact h.elim
    · split at h
      · rename_i ds e0
        split at h
        · rename_i d e
          obtain ⟨p, vs, rfl, q1, r1⟩ := seqL_rel s rx e0
          obtain ⟨u, e2, r2⟩ := r1.atI e
          exact .inl ⟨p, vs, i, u, rfl, hw, q1, e2, h.at_ s _ r2⟩
        · exact h.elim
      · exact h.elim
  · exact h.elim
end
section
variable {W : Wd} {E : XK} {X : Cx} {pos : Pos} {a b : Expr} {f g : DEf}
theorem opr_K {F : Value → Value → Sem Value} {r : PySem.W.Frag → R2} (hK : X.K = W.K) (h : OpR X F (r X.K)) : OpR X F (r W.K) := hK ▸ h
theorem de_add (hK : X.K = W.K) (ha : DE W E X a f) (hb : DE W E X b g) : DE W E X (.BinOp a .Add b pos) (dOp oAdd f g) := de_op (opr_K hK op_addA) dop_add ha hb
theorem de_sub (ha : DE W E X a f) (hb : DE W E X b g) : DE W E X (.BinOp a .Sub b pos) (dOp oSub f g) := de_op op_sub dop_sub ha hb
theorem de_mul (hK : X.K = W.K) (ha : DE W E X a f) (hb : DE W E X b g) : DE W E X (.BinOp a .Mult b pos) (dOp oMul f g) := de_op (opr_K hK op_mulA) dop_mul ha hb
theorem de_div (ha : DE W E X a f) (hb : DE W E X b g) : DE W E X (.BinOp a .FloorDiv b pos) (dOp oDiv f g) := de_op op_fdivZ dop_div ha hb
theorem de_mod (ha : DE W E X a f) (hb : DE W E X b g) : DE W E X (.BinOp a .Mod b pos) (dOp oMod f g) := de_op op_modN dop_mod ha hb
theorem de_pow (ha : DE W E X a f) (hb : DE W E X b g) : DE W E X (.BinOp a .Pow b pos) (dOp oPow f g) := de_op L2.op_pow dop_pow ha hb
theorem de_ix (hK : X.K = W.K) (ha : DE W E X a f) (hb : DE W E X b g) (hs : PlainIx b) : DE W E X (.Subscript a b pos) (dOp oIx f g) := (pe_ix (hK ▸ ix_seq) ha hb hs).imp (tE_op dop_ix)
end
end Dn
set_option Elab.async false
set_option linter.all false
set_option maxRecDepth 100000
set_option maxHeartbeats 4000000
/-! ### slices, displays, is, in, built-in functions -/
namespace Dn
open PySem PySem.Spec PyProof.Rows L2 GxR

section
variable {W : Wd} {E : XK} {H : Hp} {μ : Mu} {S : Sto}
/-! ### unary minus -/
def oNeg : Val → Sto → Out Val := fun x S => match x with
  | .d (.int i) => .ok (.d (.int (-i))) S
  | _ => .bad
def dUn (o : Val → Sto → Out Val) (f : DEf) : DEf := fun env S => (f env S).bind fun x S1 => o x S1
theorem de_neg {X : Cx} {a : Expr} {f : DEf} {pos : Pos} (ha : DE W E X a f) : DE W E X (.UnaryOp .USub a pos) (dUn oNeg f) := (pe_un un_neg ha).imp fun σ H Q ⟨env, S, μ, hE, hS, hp⟩ =>
  ⟨env, S, μ, hE, hS, hp.bind.imp fun x S1 H1 μ1 l1 s1 p1 v rv => by
    unfold oNeg at p1
    split at p1
    · exact ⟨_, int_rel rv, p1.at_ s1 _ (rel_int _)⟩
    · exact p1.elim⟩
/-! ### slices -/
abbrev DOf := Env → Sto → Out (Option Int)
def tO (W : Wd) (E : XK) (f : DOf) : TO := fun σ H Q => ∃ env S μ, RelE W H μ env σ ∧ RelS W H μ S ∧ Post W E H μ (f env S) fun o _ H' _ => Q o H'
abbrev DO' (W : Wd) (E : XK) (X : Cx) (e : Option Expr) (f : DOf) : Prop := PO X e (tO W E f)
theorem _root_.L2.PO.imp {X : Cx} {e : Option Expr} {t t' : TO} (h : PO X e t) (hi : ∀ σ H Q, t' σ H Q → t σ H Q) : PO X e t' := ⟨fun pins s σ H Q I q => h.run pins s σ H Q I (hi σ H Q q)⟩
def dO0 : DOf := fun _ S => .ok none S
def dO1 (f : DEf) : DOf := fun env S => (f env S).bind fun x S1 => match x with
  | .d (.int i) => .ok (some i) S1
  | _ => .bad
theorem do_0 {X : Cx} : DO' W E X none dO0 := po_none.imp fun σ H Q ⟨env, S, μ, hE, hS, hp⟩ => hp.at_ hS
theorem do_1 {X : Cx} {a : Expr} {f : DEf} (ha : DE W E X a f) : DO' W E X (some a) (dO1 f) := (po_some ha).imp fun σ H Q ⟨env, S, μ, hE, hS, hp⟩ =>
  ⟨env, S, μ, hE, hS, hp.bind.imp fun x S1 H1 μ1 l1 s1 p1 v rv => by
    split at p1
    · exact ⟨_, int_rel rv, p1.at_ s1⟩
    · exact p1.elim⟩
def cutL {α : Type} (xs : List α) (lo hi : Option Int) : List α := (xs.drop (HT.sIx xs.length 0 lo)).take (HT.sIx xs.length xs.length hi - HT.sIx xs.length 0 lo)
theorem RelDs.cut {ds : List D} {vs : List V} (h : RelDs W H μ ds vs) (lo hi : Option Int) : RelDs W H μ (cutL ds lo hi) (cutV vs lo hi) := by
  unfold cutL cutV
  rw [← h.length]
  exact (h.drop _).take _
def oSl (x : Val) (lo hi : Option Int) (S : Sto) : Out Val := match x with
  | .d (.tup ds) => .ok (.d (.tup (cutL ds lo hi))) S
  | _ => match seqL x S with
    | some ds => .ok (.d (.lst (cutL ds lo hi))) S
    | none => .bad
def dSl (f : DEf) (lo hi : DOf) : DEf := fun env S => (f env S).bind fun x S1 => (lo env S1).bind fun l S2 => (hi env S2).bind fun h S3 => oSl x l h S3
theorem cut_whole {α : Type} {ds : List α} {lo hi : Option Int} (h1 : HT.sIx ds.length 0 lo = 0) (h2 : HT.sIx ds.length ds.length hi = ds.length) : cutL ds lo hi = ds := by
  unfold cutL
  rw [h1, h2]
  simp
theorem de_slice {X : Cx} {a : Expr} {lo hi : Option Expr} {f : DEf} {fl fh : DOf} {p2 pos : Pos} (hK : X.K = W.K) (ha : DE W E X a f) (hl : DO' W E X lo fl) (hh : DO' W E X hi fh) : DE W E X (.Subscript a (.Slice lo hi none p2) pos) (dSl f fl fh) := by
  have hr : SlR X (fun x lo hi H Q => rSlL W.K x lo hi H Q ∨ rSlA W.K x lo hi H Q) := hK ▸ sl_list.or sl_tupA
  refine (pe_slice hr ha hl hh).imp fun σ H Q ⟨env, S, μ, hE, hS, hp⟩ => ?_
  refine ⟨env, S, μ, hE, hS, hp.bind.imp fun x S1 H1 μ1 l1 s1 p1 v rv => ?_⟩
  refine ⟨env, S1, μ1, hE.mono l1 hS.is, s1, p1.bind.imp fun l S2 H2 μ2 l2 s2 p2 => ?_⟩
  refine ⟨env, S2, μ2, (hE.mono l1 hS.is).mono l2 s1.is, s2, p2.bind.imp fun u S3 H3 μ3 l3 s3 p3 => ?_⟩
  have rv3 := (rv.mono l2 s1.is).mono l3 s2.is
  unfold oSl at p3
  split at p3
  · rename_i ds
    obtain ⟨p, vs, rfl, q1, r1⟩ := seqT_rel rv3 rfl
    refine .inr ⟨p, vs, rfl, q1, fun hw => ?_, fun hw c hc => ?_⟩
    · rw [← r1.length] at hw
      rw [cut_whole hw.1 hw.2] at p3
      exact p3.at_ s3 _ rv3
    · obtain ⟨k, r⟩ := post_tup p3 s3 hc (r1.cut l u)
      exact k _ r
  · split at p3
    · rename_i ds e0
      obtain ⟨p, vs, rfl, q1, r1⟩ := seqL_rel s3 rv3 e0
      refine .inl ⟨p, vs, rfl, q1, fun c hc => ?_⟩
      obtain ⟨k, r⟩ := post_lst p3 s3 hc (r1.cut l u)
      exact k _ r
    · exact p3.elim
/-- xs[::-1] -/
def oRev : Val → Sto → Out Val := fun x S => match seqL x S with
  | some ds => .ok (.d (.lst ds.reverse)) S
  | none => .bad
theorem de_rev {X : Cx} {a : Expr} {f : DEf} {k : Nat} {p1 p2 p3 pos : Pos} (hK : X.K = W.K) (ha : DE W E X a f) : DE W E X (.Subscript a (.Slice none none (some (.UnaryOp .USub (.Constant (.int 1) k p1) p2)) p3) pos) (dUn oRev f) :=
  (pe_revL ha).imp fun σ H Q ⟨env, S, μ, hE, hS, hp⟩ => ⟨env, S, μ, hE, hS, hp.bind.imp fun x S1 H1 μ1 l1 s1 p1 v rv => by
    unfold oRev at p1
    split at p1
    · rename_i ds e0
      obtain ⟨p, vs, rfl, q1, r1⟩ := seqL_rel s1 rv e0
      refine ⟨p, vs, rfl, hK ▸ q1, fun c hc => ?_⟩
      obtain ⟨k, r⟩ := post_lst p1 s1 hc r1.reverse
      exact k _ r
    · exact p1.elim⟩

/-! ### displays -/
def datas : List Val → Option (List D)
  | [] => some []
  | .d x :: xs => (datas xs).map (x :: ·)
  | .r _ :: _ => none
theorem datas_rel : ∀ {xs : List Val} {vs : List V} {ds : List D}, RelVs W H μ xs vs → datas xs = some ds → RelDs W H μ ds vs
  | [], vs, ds, h, e => by
    simp only [datas] at e; cases e
    simp only [RelVs] at h
    simp only [RelDs]; exact h
  | .d x :: xs, vs, ds, h, e => by
    simp only [datas] at e
    simp only [RelVs] at h
    obtain ⟨v, r, rfl, h1, h2⟩ := h
    cases k : datas xs with
    | none => rw [k] at e; cases e
    | some es =>
      rw [k] at e; cases e
      simp only [RelDs]
      exact ⟨v, r, rfl, h1, datas_rel h2 k⟩
  | .r _ :: _, vs, ds, h, e => by simp only [datas] at e; cases e
theorem RelVs.length : ∀ {xs : List Val} {vs : List V}, RelVs W H μ xs vs → xs.length = vs.length
  | [], vs, h => by simp only [RelVs] at h; subst h; rfl
  | x :: xs, vs, h => by
    simp only [RelVs] at h
    obtain ⟨v, r, rfl, _, h2⟩ := h
    simp [RelVs.length h2]
theorem RelVs.mono {H' : Hp} {μ' : Mu} (l : Le H μ H' μ') (is : Is H μ) : ∀ {xs : List Val} {vs : List V}, RelVs W H μ xs vs → RelVs W H' μ' xs vs
  | [], vs, h => by simpa [RelVs] using h
  | x :: xs, vs, h => by
    simp only [RelVs] at h ⊢
    obtain ⟨v, r, e, h1, h2⟩ := h
    exact ⟨v, r, e, h1.mono l is, RelVs.mono l is h2⟩
theorem rel_one {x : Val} {vs : List V} (h : RelVs W H μ [x] vs) : ∃ v, vs = [v] ∧ RelV' W H μ x v := by
  simp only [RelVs] at h
  obtain ⟨v, r, rfl, h1, rfl⟩ := h
  exact ⟨v, rfl, h1⟩
theorem rel_two {x y : Val} {vs : List V} (h : RelVs W H μ [x, y] vs) : ∃ v w, vs = [v, w] ∧ RelV' W H μ x v ∧ RelV' W H μ y w := by
  simp only [RelVs] at h
  obtain ⟨v, r, rfl, h1, w, r', rfl, h2, rfl⟩ := h
  exact ⟨v, w, rfl, h1, h2⟩
def oTup : Opn := fun xs S => match datas xs with
  | some ds => if ds.length ≤ szL then .ok (.d (.tup ds)) S else .bad
  | none => .bad
def oLst : Opn := fun xs S => match datas xs with
  | some ds => if ds.length ≤ szL then .ok (.d (.lst ds)) S else .bad
  | none => .bad
def oCell : Opn := fun xs S => match datas xs with
  | some ds => if ds.length ≤ szL then .ok (.r S.length) (S ++ [.lst ds]) else .bad
  | none => .bad
variable {X : Cx} {pos : Pos} {es : List Expr} {As : DAf}
theorem de_tup {x1} (ha : DA W E X es As) : DE W E X (.Tuple es x1 pos) (dCall oTup As) := (pe_tup ha).imp fun σ H Q ⟨env, S, μ, hE, hS, hp⟩ =>
  ⟨env, S, μ, hE, hS, hp.bind.imp fun xs S1 H1 μ1 l1 s1 p1 vs rvs => by
    unfold oTup at p1
    split at p1
    · rename_i ds e0
      split at p1
      · rename_i hz
        have r := datas_rel rvs e0
        exact ⟨by rw [← r.length, szL_eq]; exact hz, fun c hc => let ⟨k, q⟩ := post_tup p1 s1 hc r; k _ q⟩
      · exact p1.elim
    · exact p1.elim⟩
theorem de_lst (ha : DA W E X es As) : DE W E X (.List es pos) (dCall oLst As) := (pe_lst ha).imp fun σ H Q ⟨env, S, μ, hE, hS, hp⟩ =>
  ⟨env, S, μ, hE, hS, hp.bind.imp fun xs S1 H1 μ1 l1 s1 p1 vs rvs => by
    unfold oLst at p1
    split at p1
    · rename_i ds e0
      split at p1
      · rename_i hz
        have r := datas_rel rvs e0
        exact ⟨by rw [← r.length, szL_eq]; exact hz, fun c hc => let ⟨k, q⟩ := post_lst p1 s1 hc r; k _ q⟩
      · exact p1.elim
    · exact p1.elim⟩
theorem de_cell (ha : DA W E X es As) : DE W E X (.List es pos) (dCall oCell As) := (pe_lst ha).imp fun σ H Q ⟨env, S, μ, hE, hS, hp⟩ =>
  ⟨env, S, μ, hE, hS, hp.bind.imp fun xs S1 H1 μ1 l1 s1 p1 vs rvs => by
    unfold oCell at p1
    split at p1
    · rename_i ds e0
      split at p1
      · rename_i hz
        have r := datas_rel rvs e0
        exact ⟨by rw [← r.length, szL_eq]; exact hz, fun c hc => let ⟨k, q⟩ := post_cell p1 s1 hc r; k _ q⟩
      · exact p1.elim
    · exact p1.elim⟩
/-- a place is written no more: its list is data from here on -/
def oFrz : Val → Sto → Out Val := fun x S => match x with
  | .d d => .ok (.d d) S
  | .r n => match S[n]? with
    | some (.lst ds) => .ok (.d (.lst ds)) (S.set n .dead)
    | _ => .bad
theorem de_frz {a : Expr} {f : DEf} (ha : DE W E X a f) : DE W E X a (dUn oFrz f) := ha.imp fun σ H Q ⟨env, S, μ, hE, hS, hp⟩ =>
  ⟨env, S, μ, hE, hS, hp.bind.imp fun x S1 H1 μ1 l1 s1 p1 v rv => by
    unfold oFrz at p1
    split at p1
    · exact p1.at_ s1 _ rv
    · rename_i n
      split at p1
      · rename_i ds e
        obtain ⟨a, vs, rfl, h1, h2, h3⟩ := cell_rel s1 rv e
        refine p1 H1 (μ1.set n none) (Le.kill n) (s1.kill n) _ ?_
        simp only [RelV', RelD]
        exact ⟨a, vs, rfl, ⟨outM.dead s1 h1, h2⟩, RelDs.sub (fun _ z => z.kill n) ds vs h3⟩
      · exact p1.elim⟩

/-! ### is, is not, in, not in -/
theorem d_non {d : D} {v : V} (h : RelD W H μ d v) : (v = .non) ↔ d = .non := by
  cases d with
  | non => simp only [RelD] at h; simp [h]
  | bl b => simp only [RelD] at h; simp [h]
  | int i => simp only [RelD] at h; simp [h]
  | str x => simp only [RelD] at h; simp [h]
  | tup ds => simp only [RelD] at h; obtain ⟨a, vs, e, _⟩ := h; simp [e]
  | lst ds => simp only [RelD] at h; obtain ⟨a, vs, e, _⟩ := h; simp [e]
  | con ds => simp only [RelD] at h; obtain ⟨a, vs, e, _⟩ := h; simp [e]
  | dic => simp only [RelD] at h; obtain ⟨a, e, _⟩ := h; simp [e]
  | obj c fs => simp only [RelD] at h; obtain ⟨a, _, _, e, _⟩ := h; simp [e]
def isNon : D → Bool
  | .non => true
  | _ => false
theorem isNon_iff {d : D} : isNon d = true ↔ d = .non := by cases d <;> simp [isNon]
theorem isNon_dec {d : D} {v : V} (h : RelD W H μ d v) : decide (v = .non) = isNon d := by
  rw [Bool.eq_iff_iff, decide_eq_true_eq, d_non h, isNon_iff]
/-- x is y: y None or a bool -/
def oIsB (neg : Bool) : Op2 := fun x y S => match x, y with
  | .d a, .d .non => .ok (.d (.bl (xor neg (isNon a)))) S
  | .d (.bl a), .d (.bl b) => .ok (.d (.bl (xor neg (decide (a = b))))) S
  | _, _ => .bad
abbrev oIs : Op2 := oIsB false
abbrev oIsNot : Op2 := oIsB true
theorem op_isA {X : Cx} : OpR X (compareOp .Is) (fun x y H Q => (y = .non ∧ Q (.bl (decide (x = .non))) H) ∨ rIsB x y H Q) := op_isN.or op_isBl
theorem op_isNotA {X : Cx} : OpR X (compareOp .IsNot) (fun x y H Q => (y = .non ∧ Q (.bl (!decide (x = .non))) H) ∨ rNotB x y H Q) := op_notN.or op_notBl
theorem dop_is : DOp W E (fun x y H Q => (y = .non ∧ Q (.bl (decide (x = .non))) H) ∨ rIsB x y H Q) oIs := by
  intro x y S H μ v w Q s rx ry h
  unfold oIs oIsB at h
  split at h
  · rename_i a
    have := h.at_ s _ (rel_bl _)
    refine .inl ⟨non_rel ry, ?_⟩
    rw [isNon_dec rx]
    simpa using this
  · rename_i a b
    have := h.at_ s _ (rel_bl _)
    exact .inr ⟨a, b, bl_rel rx, bl_rel ry, by simpa using this⟩
  · exact h.elim
theorem dop_isNot : DOp W E (fun x y H Q => (y = .non ∧ Q (.bl (!decide (x = .non))) H) ∨ rNotB x y H Q) oIsNot := by
  intro x y S H μ v w Q s rx ry h
  unfold oIsNot oIsB at h
  split at h
  · rename_i a
    have := h.at_ s _ (rel_bl _)
    refine .inl ⟨non_rel ry, ?_⟩
    rw [isNon_dec rx]
    simpa using this
  · rename_i a b
    have := h.at_ s _ (rel_bl _)
    exact .inr ⟨a, b, bl_rel rx, bl_rel ry, by simpa using this⟩
  · exact h.elim
/-- flat data -/
def flatD : D → Bool
  | .non | .bl _ | .int _ | .str _ => true
  | _ => false
def eqF : D → D → Bool
  | .non, .non => true
  | .bl a, .bl b => a == b
  | .bl a, .int b => (if a then 1 else 0) == b
  | .int a, .bl b => a == (if b then 1 else 0)
  | .int a, .int b => a == b
  | .str a, .str b => a == b
  | _, _ => false
theorem flat_rel {d : D} {v : V} (h : RelD W H μ d v) (f : flatD d = true) : flatV v = true := by
  cases d with
  | non => simp only [RelD] at h; rw [h]; rfl
  | bl b => simp only [RelD] at h; rw [h]; rfl
  | int i => simp only [RelD] at h; rw [h]; rfl
  | str x => simp only [RelD] at h; rw [h]; rfl
  | _ => cases f
theorem eqF_rel {d e : D} {v w : V} (h : RelD W H μ d v) (h' : RelD W H μ e w) (f : flatD d = true) (f' : flatD e = true) : eqV v w = eqF d e := by
  cases d <;> first
    | exact absurd (show false = true from f) Bool.false_ne_true
    | (cases e <;> first
        | exact absurd (show false = true from f') Bool.false_ne_true
        | (simp only [RelD] at h h'; subst h h'; rfl))
theorem flats_rel : ∀ {ds : List D} {vs : List V}, RelDs W H μ ds vs → ds.all flatD = true → vs.all flatV = true
  | [], vs, h, f => by simp only [RelDs] at h; subst h; rfl
  | d :: ds, vs, h, f => by
    simp only [RelDs] at h
    obtain ⟨v, r, rfl, h1, h2⟩ := h
    simp only [List.all_cons, Bool.and_eq_true] at f ⊢
    exact ⟨flat_rel h1 f.1, flats_rel h2 f.2⟩
theorem inV_rel {d : D} {v : V} (h : RelD W H μ d v) (f : flatD d = true) : ∀ {ds : List D} {vs : List V}, RelDs W H μ ds vs → ds.all flatD = true → inV v vs = ds.any fun e => eqF e d
  | [], vs, h', f' => by simp only [RelDs] at h'; subst h'; rfl
  | e :: ds, vs, h', f' => by
    simp only [RelDs] at h'
    obtain ⟨w, r, rfl, h1, h2⟩ := h'
    simp only [List.all_cons, Bool.and_eq_true] at f'
    have := inV_rel h f h2 f'.2
    unfold inV at this ⊢
    simp only [List.any_cons]
    rw [this, eqF_rel h1 h f'.1 f]
def seqA (x : Val) (S : Sto) : Option (List D) := match x with
  | .d (.tup ds) => some ds
  | _ => seqL x S
theorem seqA_rel {x : Val} {ds : List D} {v : V} (s : RelS W H μ S) (h : RelV' W H μ x v) (e : seqA x S = some ds) : ∃ a vs, v = .ref a ∧ (SqL W.K H a vs ∨ SqT W.K H a vs) ∧ RelDs W H μ ds vs := by
  unfold seqA at e
  split at e
  · cases e
    obtain ⟨a, vs, e1, q, r⟩ := seqT_rel h rfl
    exact ⟨a, vs, e1, .inr q, r⟩
  · obtain ⟨a, vs, e1, q, r⟩ := seqL_rel s h e
    exact ⟨a, vs, e1, .inl q, r⟩
def oInB (neg : Bool) : Op2 := fun x y S => match x, seqA y S with
  | .d a, some ds => if flatD a = true ∧ ds.all flatD = true then .ok (.d (.bl (xor neg (ds.any fun e => eqF e a)))) S else .bad
  | _, _ => .bad
abbrev oIn : Op2 := oInB false
abbrev oNotIn : Op2 := oInB true
theorem dop_inB (neg : Bool) : DOp W E (rIn W.K neg) (oInB neg) := by
  intro x y S H μ v w Q s rx ry h
  unfold oInB at h
  split at h
  · rename_i a ds e
    split at h
    · rename_i c
      obtain ⟨p, vs, rfl, q, r⟩ := seqA_rel s ry e
      refine ⟨p, vs, rfl, q, flat_rel rx c.1, flats_rel r c.2, ?_⟩
      have := h.at_ s _ (rel_bl _)
      rw [inV_rel rx c.1 r c.2]
      cases neg <;> simpa using this
    · exact h.elim
  · exact h.elim

/-! ### built-in functions -/
theorem DCall.or {r r' : List V → Hp → VK → Prop} {o : Opn} (h : ∀ xs S H μ vs Q, RelS W H μ S → RelVs W H μ xs vs → Post W E H μ (o xs S) (QV W Q) → r vs H Q ∨ r' vs H Q) : DCall W E (fun vs H Q => r vs H Q ∨ r' vs H Q) o := h
/-- of one value -/
def o1 (o : Val → Sto → Out Val) : Opn := fun xs S => match xs with
  | [x] => o x S
  | _ => .bad
theorem dcall1 {r : List V → Hp → VK → Prop} {o : Val → Sto → Out Val} (h : ∀ x S H μ v Q, RelS W H μ S → RelV' W H μ x v → Post W E H μ (o x S) (QV W Q) → r [v] H Q) : DCall W E r (o1 o) := by
  intro xs S H μ vs Q s rvs p
  unfold o1 at p
  split at p
  · obtain ⟨v, rfl, rv⟩ := rel_one rvs
    exact h _ S H μ v Q s rv p
  · exact p.elim
def o2 (o : Op2) : Opn := fun xs S => match xs with
  | [x, y] => o x y S
  | _ => .bad
theorem dcall2 {r : List V → Hp → VK → Prop} {o : Op2} (h : ∀ x y S H μ v w Q, RelS W H μ S → RelV' W H μ x v → RelV' W H μ y w → Post W E H μ (o x y S) (QV W Q) → r [v, w] H Q) : DCall W E r (o2 o) := by
  intro xs S H μ vs Q s rvs p
  unfold o2 at p
  split at p
  · obtain ⟨v, w, rfl, rv, rw'⟩ := rel_two rvs
    exact h _ _ S H μ v w Q s rv rw' p
  · exact p.elim
def bLen : Val → Sto → Out Val := fun x S => match x with
  | .d (.str z) => if z.length ≤ szL then .ok (.d (.int z.length)) S else .bad
  | _ => match seqA x S with
    | some ds => .ok (.d (.int ds.length)) S
    | none => .bad
theorem dc_len : DCall W E (fun xs H Q => ∃ x n, xs = [x] ∧ LenV W.K x H n ∧ Q (.int n) H) (o1 bLen) := dcall1 fun x S H μ v Q s rv p => by
  unfold bLen at p
  split at p
  · split at p
    · rename_i z hz
      exact ⟨v, _, rfl, by rw [str_rel rv]; exact ⟨by rw [szL_eq]; exact hz, rfl⟩, p.at_ s _ (rel_int _)⟩
    · exact p.elim
  · split at p
    · rename_i ds e
      obtain ⟨a, vs, rfl, q, r⟩ := seqA_rel s rv e
      refine ⟨_, ds.length, rfl, ?_, p.at_ s _ (rel_int _)⟩
      rcases q with q | q
      · exact .inl ⟨vs, q, r.length⟩
      · exact .inr ⟨vs, q, r.length⟩
    · exact p.elim
def bAbs : Val → Sto → Out Val := fun x S => match x with
  | .d (.int i) => .ok (.d (.int (if i < 0 then -i else i))) S
  | _ => .bad
theorem dc_abs : DCall W E (fun xs H Q => ∃ i, xs = [.int i] ∧ Q (.int (if i < 0 then -i else i)) H) (o1 bAbs) := dcall1 fun x S H μ v Q s rv p => by
  unfold bAbs at p
  split at p
  · exact ⟨_, by rw [int_rel rv], p.at_ s _ (rel_int _)⟩
  · exact p.elim
def bInt : Val → Sto → Out Val := fun x S => match x with
  | .d (.int i) => .ok (.d (.int i)) S
  | .d (.bl k) => .ok (.d (.int (if k then 1 else 0))) S
  | _ => .bad
theorem dc_int : DCall W E (fun xs H Q => (∃ i, xs = [.int i] ∧ Q (.int i) H) ∨ ∃ k, xs = [.bl k] ∧ Q (.int (if k then 1 else 0)) H) (o1 bInt) := dcall1 fun x S H μ v Q s rv p => by
  unfold bInt at p
  split at p
  · exact .inl ⟨_, by rw [int_rel rv], p.at_ s _ (rel_int _)⟩
  · exact .inr ⟨_, by rw [bl_rel rv], p.at_ s _ (rel_int _)⟩
  · exact p.elim
def bMax2 : Op2 := oI cTrue fun i j => .int (if j > i then j else i)
def bMin2 : Op2 := oI cTrue fun i j => .int (if j < i then j else i)
theorem dc_max2 : DCall W E (fun xs H Q => ∃ i j, xs = [.int i, .int j] ∧ Q (.int (if j > i then j else i)) H) (o2 bMax2) := dcall2 fun x y S H μ v w Q s rx ry p => by
  obtain ⟨i, j, rfl, rfl, q⟩ := dop_I0 (W := W) (E := E) (g := fun i j => D.int (if j > i then j else i)) (g' := fun i j => V.int (if j > i then j else i)) (fun _ _ _ _ => by simp [RelD]) x y S H μ v w Q s rx ry p
  exact ⟨i, j, rfl, q⟩
theorem dc_min2 : DCall W E (fun xs H Q => ∃ i j, xs = [.int i, .int j] ∧ Q (.int (if j < i then j else i)) H) (o2 bMin2) := dcall2 fun x y S H μ v w Q s rx ry p => by
  obtain ⟨i, j, rfl, rfl, q⟩ := dop_I0 (W := W) (E := E) (g := fun i j => D.int (if j < i then j else i)) (g' := fun i j => V.int (if j < i then j else i)) (fun _ _ _ _ => by simp [RelD]) x y S H μ v w Q s rx ry p
  exact ⟨i, j, rfl, q⟩
def bGcd : Op2 := oI cTrue fun i j => .int ((Nat.gcd i.natAbs j.natAbs : Nat) : Int)
theorem dc_gcd : DCall W E rGcd (o2 bGcd) := dcall2 fun x y S H μ v w Q s rx ry p => by
  obtain ⟨i, j, rfl, rfl, q⟩ := dop_I0 (W := W) (E := E) (g := fun i j => D.int ((Nat.gcd i.natAbs j.natAbs : Nat) : Int)) (g' := fun i j => V.int ((Nat.gcd i.natAbs j.natAbs : Nat) : Int)) (fun _ _ _ _ => by simp [RelD]) x y S H μ v w Q s rx ry p
  exact ⟨i, j, rfl, q⟩
def bDivmod : Op2 := fun x y S => match x, y with
  | .d (.int i), .d (.int j) => if 0 < j ∧ j < 1073741824 then .ok (.d (.tup [.int (i / j), .int (i % j)])) S else .bad
  | _, _ => .bad
theorem dc_divmod : DCall W E (fun xs H Q => ∃ i j, xs = [.int i, .int j] ∧ CDiv i j ∧ ∀ p, H p = none → Q (.ref p) (upd H p (.tup [.int (i / j), .int (i % j)]))) (o2 bDivmod) := dcall2 fun x y S H μ v w Q s rx ry p => by
  unfold bDivmod at p
  split at p
  · rename_i i j
    split at p
    · rename_i c
      refine ⟨i, j, by rw [int_rel rx, int_rel ry], c, fun b hb => ?_⟩
      obtain ⟨k, r⟩ := post_tup (vs := [.int (i / j), .int (i % j)]) p s hb (by simp [RelDs, RelD])
      exact k _ r
    · exact p.elim
  · exact p.elim
/-- tuple(xs) -/
def bTuple : Val → Sto → Out Val := fun x S => match seqA x S with
  | some ds => .ok (.d (.tup ds)) S
  | none => .bad
theorem dc_tuple : DCall W E (fun xs H Q => ∃ p ys, xs = [.ref p] ∧ ((SqL W.K H p ys ∧ ∀ l, H l = none → Q (.ref l) (upd H l (.tup ys))) ∨ (SqT W.K H p ys ∧ Q (.ref p) H))) (o1 bTuple) := dcall1 fun x S H μ v Q s rv p => by
  unfold bTuple at p
  split at p
  · rename_i ds e
    obtain ⟨a, vs, rfl, q, r⟩ := seqA_rel s rv e
    refine ⟨a, vs, rfl, ?_⟩
    rcases q with q | q
    · exact .inl ⟨q, fun l hl => let ⟨k, r'⟩ := post_tup p s hl r; k _ r'⟩
    · refine .inr ⟨q, p.at_ s _ ?_⟩
      simp only [RelV', RelD]
      exact ⟨a, vs, rfl, q, r⟩
  · exact p.elim
/-- list(xs), as data and as a place -/
def bList : Val → Sto → Out Val := fun x S => match seqA x S with
  | some ds => .ok (.d (.lst ds)) S
  | none => .bad
def bListC : Val → Sto → Out Val := fun x S => match seqA x S with
  | some ds => .ok (.r S.length) (S ++ [.lst ds])
  | none => .bad
theorem dc_list : DCall W E (fun xs H Q => ∃ p ys, xs = [.ref p] ∧ (SqL W.K H p ys ∨ SqT W.K H p ys) ∧ ∀ l, H l = none → Q (.ref l) (upd H l (.lst ys))) (o1 bList) := dcall1 fun x S H μ v Q s rv p => by
  unfold bList at p
  split at p
  · rename_i ds e
    obtain ⟨a, vs, rfl, q, r⟩ := seqA_rel s rv e
    exact ⟨a, vs, rfl, q, fun l hl => let ⟨k, r'⟩ := post_lst p s hl r; k _ r'⟩
  · exact p.elim
theorem dc_listC : DCall W E (fun xs H Q => ∃ p ys, xs = [.ref p] ∧ (SqL W.K H p ys ∨ SqT W.K H p ys) ∧ ∀ l, H l = none → Q (.ref l) (upd H l (.lst ys))) (o1 bListC) := dcall1 fun x S H μ v Q s rv p => by
  unfold bListC at p
  split at p
  · rename_i ds e
    obtain ⟨a, vs, rfl, q, r⟩ := seqA_rel s rv e
    exact ⟨a, vs, rfl, q, fun l hl => let ⟨k, r'⟩ := post_cell p s hl r; k _ r'⟩
  · exact p.elim
/-- all, any of a list of bools -/
def blsOf : List D → Option (List Bool)
  | [] => some []
  | .bl b :: ds => (blsOf ds).map (b :: ·)
  | _ :: _ => none
theorem bls_rel : ∀ {ds : List D} {vs : List V} {bs : List Bool}, RelDs W H μ ds vs → blsOf ds = some bs → vs = bs.map V.bl
  | [], vs, bs, h, e => by simp only [blsOf] at e; cases e; simp only [RelDs] at h; subst h; rfl
  | d :: ds, vs, bs, h, e => by
    simp only [RelDs] at h
    obtain ⟨v, r, rfl, h1, h2⟩ := h
    cases d <;> simp only [blsOf] at e <;> try cases e
    rename_i b
    cases k : blsOf ds with
    | none => rw [k] at e; cases e
    | some cs =>
      rw [k] at e; cases e
      simp only [RelD] at h1
      rw [h1, bls_rel h2 k]; rfl
def intsOf : List D → Option (List Int)
  | [] => some []
  | .int b :: ds => (intsOf ds).map (b :: ·)
  | _ :: _ => none
theorem ints_rel : ∀ {ds : List D} {vs : List V} {bs : List Int}, RelDs W H μ ds vs → intsOf ds = some bs → vs = bs.map V.int
  | [], vs, bs, h, e => by simp only [intsOf] at e; cases e; simp only [RelDs] at h; subst h; rfl
  | d :: ds, vs, bs, h, e => by
    simp only [RelDs] at h
    obtain ⟨v, r, rfl, h1, h2⟩ := h
    cases d <;> simp only [intsOf] at e <;> try cases e
    rename_i b
    cases k : intsOf ds with
    | none => rw [k] at e; cases e
    | some cs =>
      rw [k] at e; cases e
      simp only [RelD] at h1
      rw [h1, ints_rel h2 k]; rfl
def bAll : Val → Sto → Out Val := fun x S => match (seqL x S).bind blsOf with
  | some bs => .ok (.d (.bl (bs.all id))) S
  | none => .bad
def bAny : Val → Sto → Out Val := fun x S => match (seqL x S).bind blsOf with
  | some bs => .ok (.d (.bl (bs.any id))) S
  | none => .bad
def bSum : Val → Sto → Out Val := fun x S => match (seqL x S).bind intsOf with
  | some bs => .ok (.d (.int bs.sum)) S
  | none => .bad
theorem dc_all : DCall W E (rAll W.K) (o1 bAll) := dcall1 fun x S H μ v Q s rv p => by
  unfold bAll at p
  split at p
  · rename_i bs e
    obtain ⟨ds, e1, e2⟩ := Option.bind_eq_some_iff.mp e
    obtain ⟨a, vs, rfl, q, r⟩ := seqL_rel s rv e1
    exact ⟨a, bs, rfl, by rw [← bls_rel r e2]; exact q, p.at_ s _ (rel_bl _)⟩
  · exact p.elim
theorem dc_any : DCall W E (rAny W.K) (o1 bAny) := dcall1 fun x S H μ v Q s rv p => by
  unfold bAny at p
  split at p
  · rename_i bs e
    obtain ⟨ds, e1, e2⟩ := Option.bind_eq_some_iff.mp e
    obtain ⟨a, vs, rfl, q, r⟩ := seqL_rel s rv e1
    exact ⟨a, bs, rfl, by rw [← bls_rel r e2]; exact q, p.at_ s _ (rel_bl _)⟩
  · exact p.elim
theorem dc_sum : DCall W E (rSum W.K) (o1 bSum) := dcall1 fun x S H μ v Q s rv p => by
  unfold bSum at p
  split at p
  · rename_i bs e
    obtain ⟨ds, e1, e2⟩ := Option.bind_eq_some_iff.mp e
    obtain ⟨a, vs, rfl, q, r⟩ := seqL_rel s rv e1
    exact ⟨a, bs, rfl, by rw [← ints_rel r e2]; exact q, p.at_ s _ (rel_int _)⟩
  · exact p.elim
end
end Dn
set_option Elab.async false
set_option linter.all false
set_option maxRecDepth 100000
set_option maxHeartbeats 4000000
/-! ### targets, statements, loops -/
namespace Dn
open PySem PySem.Spec PyProof.Rows L2 GxR

section
variable {W : Wd} {E : XK} {X : Cx} {pos : Pos}
abbrev DGf := Val → Env → Sto → Out Env
def QE (W : Wd) (Q : L2.St → Hp → Prop) : Env → Sto → Hp → Mu → Prop := fun env _ H μ => ∀ σ, RelE W H μ env σ → Q σ H
def tG (W : Wd) (E : XK) (g : DGf) : TG := fun v σ H Q => ∃ x env S μ, RelV' W H μ x v ∧ RelE W H μ env σ ∧ RelS W H μ S ∧ Post W E H μ (g x env S) (QE W Q)
abbrev DG (W : Wd) (E : XK) (X : Cx) (tg : Expr) (g : DGf) : Prop := PG X tg (tG W E g)
theorem _root_.L2.PG.imp {X : Cx} {e : Expr} {t t' : TG} (h : PG X e t) (hi : ∀ v σ H Q, t' v σ H Q → t v σ H Q) : PG X e t' := ⟨fun pins s σ H v u Q I r q => h.run pins s σ H v u Q I r (hi v σ H Q q)⟩
theorem _root_.L2.PGs.imp {X : Cx} {e : List Expr} {t t' : TGs} (h : PGs X e t) (hi : ∀ v σ H Q, t' v σ H Q → t v σ H Q) : PGs X e t' := ⟨fun pins s σ H v u Q I r q => h.run pins s σ H v u Q I r (hi v σ H Q q)⟩
theorem RelE.set {H : Hp} {μ : Mu} {env : Env} {σ : L2.St} {i : Nat} {x : Val} {v : V} (h : RelE W H μ env σ) (r : RelV' W H μ x v) : RelE W H μ (env.set i (some x)) (σ.set i (some v)) := by
  refine ⟨by simp [h.1], fun j y e => ?_⟩
  by_cases hj : i = j
  · subst hj
    have hl : i < env.length := by
      by_cases hl : i < env.length
      · exact hl
      · rw [List.getElem?_eq_none (by simp; omega)] at e; cases e
    rw [List.getElem?_set_self hl] at e
    cases e
    exact ⟨v, List.getElem?_set_self (h.1 ▸ hl), r⟩
  · rw [List.getElem?_set_ne hj] at e ⊢
    exact h.2 j y e
def dgName (i : Nat) : DGf := fun x env S => .ok (env.set i (some x)) S
theorem dg_name {i : Nat} {x : Str} (hN : X.N.Nodup) (hi : X.N[i]? = some x) (hx : Loc X.env.scope x) (hf : X.fn x = true ∨ X.env.scope.names.lookup x = some .local) : DG W E X (.Name x pos) (dgName i) :=
  (pg_name hN hi hx hf).imp fun v σ H Q ⟨x, env, S, μ, rv, hE, hS, hp⟩ => hp.at_ hS _ (hE.set rv)
abbrev DGsf := List D → Env → Sto → Out Env
def tGs (W : Wd) (E : XK) (g : DGsf) : TGs := fun vs σ H Q => ∃ xs env S μ, RelDs W H μ xs vs ∧ RelE W H μ env σ ∧ RelS W H μ S ∧ Post W E H μ (g xs env S) (QE W Q)
abbrev DGs (W : Wd) (E : XK) (X : Cx) (tg : List Expr) (g : DGsf) : Prop := PGs X tg (tGs W E g)
def dgNil : DGsf := fun xs env S => match xs with
  | [] => .ok env S
  | _ => .bad
def dgCons (g : DGf) (gs : DGsf) : DGsf := fun xs env S => match xs with
  | x :: xs => (g (.d x) env S).bind fun env1 S1 => gs xs env1 S1
  | _ => .bad
theorem dgs_nil : DGs W E X [] dgNil := pgs_nil.imp fun vs σ H Q ⟨xs, env, S, μ, rv, hE, hS, hp⟩ => by
  unfold dgNil at hp
  split at hp
  · exact ⟨by simpa only [RelDs] using rv, hp.at_ hS _ hE⟩
  · exact hp.elim
theorem dgs_cons {e : Expr} {es : List Expr} {g : DGf} {gs : DGsf} (h1 : DG W E X e g) (h2 : DGs W E X es gs) (hs : (assignEach (e :: es) X.env).map (·.2) = assign e X.env :: (assignEach es X.env).map (·.2) := by rfl) : DGs W E X (e :: es) (dgCons g gs) :=
  (pgs_cons h1 h2 hs).imp fun vs σ H Q ⟨xs, env, S, μ, rv, hE, hS, hp⟩ => by
    unfold dgCons at hp
    split at hp
    · rename_i x xs
      simp only [RelDs] at rv
      obtain ⟨v, r, rfl, r1, r2⟩ := rv
      refine ⟨v, r, rfl, .d x, env, S, μ, r1, hE, hS, hp.bind.imp fun env1 S1 H1 μ1 l1 s1 p1 σ1 hE1 => ?_⟩
      exact ⟨xs, env1, S1, μ1, RelDs.mono l1 hS.is xs r r2, hE1, s1, p1⟩
    · exact hp.elim
def dgTup (n : Nat) (gs : DGsf) : DGf := fun x env S => match x with
  | .d (.tup ds) => if ds.length = n then gs ds env S else .bad
  | _ => .bad
theorem dg_tup {es : List Expr} {k n : Nat} {gs : DGsf} (hK : X.K = W.K) (hc : X.calm = true) (h : DGs W E X es gs) (hn : (assignEach es X.env).length = n := by rfl) (hst : (assignEach es X.env).findIdx? (·.1) = none := by rfl) : DG W E X (.Tuple es k pos) (dgTup n gs) :=
  (pg_tup hc h hn hst).imp fun v σ H Q ⟨x, env, S, μ, rv, hE, hS, hp⟩ => by
    unfold dgTup at hp
    split at hp
    · rename_i ds
      split at hp
      · rename_i hz
        obtain ⟨a, vs, rfl, q, r⟩ := seqT_rel rv rfl
        exact ⟨a, vs, rfl, hK ▸ q, by rw [← r.length]; exact hz, ds, env, S, μ, r, hE, hS, hp⟩
      · exact hp.elim
    · exact hp.elim
/-- xs[i] = v -/
def oSet (o i x : Val) (S : Sto) : Out Unit := match o, i, x with
  | .r n, .d (.int k), .d d => (match S[n]? with
    | some (.lst ds) => (match ixN ds.length k with
      | some j => .ok () (S.set n (.lst (ds.set j d)))
      | none => .bad)
    | _ => .bad)
  | _, _, _ => .bad
def dgSub (f g : DEf) : DGf := fun x env S => (f env S).bind fun o S1 => (g env S1).bind fun i S2 => (oSet o i x S2).bind fun _ S3 => .ok env S3
theorem dg_sub {o i : Expr} {f g : DEf} (ho : DE W E X o f) (hi : DE W E X i g) (ha : ∀ v, assign (.Subscript o i pos) X.env v = (do
      let ov ← holding [v] (eval o X.env)
      let iv ← holding [v, ov] (eval i X.env)
      standAt pos
      holding [v, ov, iv] (setItem ov iv v)
      release [v, ov, iv] []) := by intro _; rfl) : DG W E X (.Subscript o i pos) (dgSub f g) :=
  (pg_sub ho hi set_list ha).imp fun v σ H Q ⟨x, env, S, μ, rv, hE, hS, hp⟩ => by
    refine ⟨env, S, μ, hE, hS, hp.bind.imp fun o S1 H1 μ1 l1 s1 p1 ov ro => ?_⟩
    refine ⟨env, S1, μ1, hE.mono l1 hS.is, s1, p1.bind.imp fun i S2 H2 μ2 l2 s2 p2 iv ri => ?_⟩
    have p3 := p2.bind
    have rv2 := (rv.mono l1 hS.is).mono l2 s1.is
    have ro2 := ro.mono l2 s1.is
    unfold oSet at p3
    split at p3
    · rename_i n k d
      split at p3
      · rename_i ds e
        split at p3
        · rename_i j ej
          obtain ⟨a, vs, rfl, h1, h2, h3⟩ := cell_rel s2 ro2 e
          refine ⟨a, vs, k, j, rfl, int_rel ri, h2, by rw [← h3.length]; exact ej, ?_⟩
          have pq := p3 (upd H2 a (.lst (vs.set j v))) μ2 (Le.put h1) (s2.put h1 (h3.set j rv2))
          exact pq.at_ (s2.put h1 (h3.set j rv2)) _ (((hE.mono l1 hS.is).mono l2 s1.is).mono (Le.put h1) s2.is)
        · exact p3.elim
      · exact p3.elim
    · exact p3.elim

/-! ### methods of lists -/
def dMeth (o : Val → List Val → Sto → Out Val) (f : DEf) (As : DAf) : DEf := fun env S => (f env S).bind fun x S1 => match seqL x S1 with
  | some _ => (As env S1).bind fun xs S2 => o x xs S2
  | none => .bad
def DMt (W : Wd) (E : XK) (r : V → List V → Hp → VK → Prop) (o : Val → List Val → Sto → Out Val) : Prop := ∀ x xs S H μ v vs Q, RelS W H μ S → RelV' W H μ x v → RelVs W H μ xs vs → Post W E H μ (o x xs S) (QV W Q) → r v vs H Q
def mAppend (x : Val) (xs : List Val) (S : Sto) : Out Val := match x, xs with
  | .r n, [.d d] => (match S[n]? with
    | some (.lst ds) => if ds.length < szL then .ok (.d .non) (S.set n (.lst (ds ++ [d]))) else .bad
    | _ => .bad)
  | _, _ => .bad
def mExtend (x : Val) (xs : List Val) (S : Sto) : Out Val := match x, xs with
  | .r n, [y] => (match S[n]?, trkL y S with
    | some (.lst ds), some es => if ds.length + es.length ≤ szL then .ok (.d .non) (S.set n (.lst (ds ++ es))) else .bad
    | _, _ => .bad)
  | _, _ => .bad
theorem dm_append : DMt W E rAppend mAppend := by
  intro x xs S H μ v vs Q s rv rvs p
  unfold mAppend at p
  split at p
  · rename_i n d
    split at p
    · rename_i ds e
      split at p
      · rename_i hz
        obtain ⟨a, ws, rfl, h1, h2, h3⟩ := cell_rel s rv e
        obtain ⟨u, rfl, ru⟩ := rel_one rvs
        have r2 : RelDs W H μ (ds ++ [d]) (ws ++ [u]) := h3.append (by simp only [RelDs]; exact ⟨u, [], rfl, ru, rfl⟩)
        exact ⟨a, ws, u, rfl, rfl, h2, by rw [← h3.length, szL_eq]; exact hz, p _ _ (Le.put h1) (s.put h1 r2) _ rel_non⟩
      · exact p.elim
    · exact p.elim
  · exact p.elim
theorem dm_extend : DMt W E rExtend mExtend := by
  intro x xs S H μ v vs Q s rv rvs p
  unfold mExtend at p
  split at p
  · rename_i n y
    split at p
    · rename_i ds es e1 e2
      split at p
      · rename_i hz
        obtain ⟨a, ws, rfl, h1, h2, h3⟩ := cell_rel s rv e1
        obtain ⟨u, rfl, ru⟩ := rel_one rvs
        obtain ⟨b, us, rfl, h4, h5⟩ := trkL_rel s ru e2
        exact ⟨a, b, ws, us, rfl, rfl, h2, h4, by rw [← h3.length, ← h5.length, szL_eq]; exact hz, p _ _ (Le.put h1) (s.put h1 (h3.append h5)) _ rel_non⟩
      · exact p.elim
    · exact p.elim
  · exact p.elim
theorem de_meth {o e : Expr} {es : List Expr} {name : Str} {apos cpos : Pos} {id : String} {r : V → List V → Hp → VK → Prop} {m : Val → List Val → Sto → Out Val} {f : DEf} {As : DAf} (hK : X.K = W.K)
    (slot : Slot "list" name id) (hty : typeOf (.builtin id) = pure (.type "method_descriptor")) (hm : MtM X id r) (hd : DMt W E r m) (ho : DE W E X o f) (ha : DA W E X (e :: es) As)
    (hbase : attributeBase o name X.env (eval o X.env) = eval o X.env := by rfl)
    (hfew : ((backTo cpos (starEach (e :: es) X.env)).all (fun x => !x.1) && (backToKw cpos (keywordEach [] X.env)).all (fun x => x.1.isSome)
      && decide ((e :: es).length + ([] : List Keyword).length + (if ([] : List Keyword).isEmpty then 0 else 1) < 30)) = true := by rfl)
    (hline : (apos.endLine == cpos.line) = true := by rfl) (hs : starEach (e :: es) X.env = (false, eval e X.env) :: starEach es X.env := by rfl) (hplain : (backTo cpos (starEach es X.env)).any (·.1) = false := by rfl) :
    DE W E X (.Call (.Attribute o name apos) (e :: es) [] cpos) (dMeth m f As) :=
  (pe_bm PySem.F.plainAttrs_list slot hty hm ho ha hbase hfew hline hs hplain).imp fun σ H Q ⟨env, S, μ, hE, hS, hp⟩ =>
    ⟨env, S, μ, hE, hS, hp.bind.imp fun x S1 H1 μ1 l1 s1 p1 v rv => by
      split at p1
      · rename_i ds e0
        obtain ⟨a, vs, rfl, q, r⟩ := seqL_rel s1 rv e0
        refine ⟨.inl ⟨rfl, vs, hK ▸ q⟩, env, S1, μ1, hE.mono l1 hS.is, s1, p1.bind.imp fun xs S2 H2 μ2 l2 s2 p2 ws rws => ?_⟩
        exact hd x xs S2 H2 μ2 _ ws Q s2 (rv.mono l2 s1.is) rws p2
      · exact p1.elim⟩

/-! ### statements -/
inductive Fl where
  | nx (env : Env) | ret (x : Val) | brk (env : Env) | cnt (env : Env)
abbrev DSf := Env → Sto → Out Fl
def QS (W : Wd) (D : Ends) : Fl → Sto → Hp → Mu → Prop := fun fl _ H μ => match fl with
  | .nx env => ∀ σ, RelE W H μ env σ → D.nx σ H
  | .ret x => ∀ v, RelV' W H μ x v → D.rt v H
  | .brk env => ∀ σ, RelE W H μ env σ → D.bk σ H
  | .cnt env => ∀ σ, RelE W H μ env σ → D.ct σ H
def tS (W : Wd) (E : XK) (f : DSf) : TS := fun D σ H => ∃ env S μ, RelE W H μ env σ ∧ RelS W H μ S ∧ Post W E H μ (f env S) (QS W D)
abbrev DS (W : Wd) (E : XK) (X : Cx) (st : Stmt) (f : DSf) : Prop := PS X st (tS W E f)
abbrev DSs (W : Wd) (E : XK) (X : Cx) (st : List Stmt) (f : DSf) : Prop := PSs X st (tS W E f)
def dNext : DSf := fun env S => .ok (.nx env) S
def dSeq (f g : DSf) : DSf := fun env S => (f env S).bind fun fl S1 => match fl with
  | .nx env1 => g env1 S1
  | fl => .ok fl S1
variable {st : Stmt} {rest : List Stmt} {f g : DSf}
theorem dss_nil : DSs W E X [] dNext := pss_nil.imp fun D σ H ⟨env, S, μ, hE, hS, hp⟩ => hp.at_ hS σ hE
theorem dss_cons (h1 : DS W E X st f) (h2 : DSs W E X rest g) : DSs W E X (st :: rest) (dSeq f g) := (pss_cons h1 h2).imp fun D σ H ⟨env, S, μ, hE, hS, hp⟩ => by
  refine ⟨env, S, μ, hE, hS, hp.bind.imp fun fl S1 H1 μ1 l1 s1 p1 => ?_⟩
  cases fl with
  | nx env1 => exact fun σ1 hE1 => ⟨env1, S1, μ1, hE1, s1, p1⟩
  | ret x => exact p1.at_ s1
  | brk env1 => exact p1.at_ s1
  | cnt env1 => exact p1.at_ s1
theorem dss_one (h1 : DS W E X st f) : DSs W E X [st] f := pss_one h1
def dBadS : DSf := fun _ _ => .bad
theorem ds_bad : DS W E X st dBadS := ⟨fun _ _ _ _ _ _ ⟨_, _, _, _, _, h⟩ => h.elim⟩
theorem dss_bad {sts : List Stmt} : DSs W E X sts dBadS := ⟨fun _ _ _ _ _ _ ⟨_, _, _, _, _, h⟩ => h.elim⟩
theorem ds_pass : DS W E X (.Pass pos) dNext := ps_pass.imp fun D σ H ⟨env, S, μ, hE, hS, hp⟩ => hp.at_ hS σ hE
def dBrk : DSf := fun env S => .ok (.brk env) S
def dCnt : DSf := fun env S => .ok (.cnt env) S
theorem ds_break : DS W E X (.Break pos) dBrk := ps_break.imp fun D σ H ⟨env, S, μ, hE, hS, hp⟩ => hp.at_ hS σ hE
theorem ds_continue : DS W E X (.Continue pos) dCnt := ps_continue.imp fun D σ H ⟨env, S, μ, hE, hS, hp⟩ => hp.at_ hS σ hE
def dRet (F : DEf) : DSf := fun env S => (F env S).bind fun x S1 => .ok (.ret x) S1
theorem ds_ret {e : Expr} {F : DEf} (he : DE W E X e F) : DS W E X (.Return (some e) pos) (dRet F) := (ps_ret he).imp fun D σ H ⟨env, S, μ, hE, hS, hp⟩ =>
  ⟨env, S, μ, hE, hS, hp.bind.imp fun x S1 H1 μ1 l1 s1 p1 => p1.at_ s1⟩
def dRetN : DSf := fun _ S => .ok (.ret (.d .non)) S
theorem ds_retN : DS W E X (.Return none pos) dRetN := ps_retN.imp fun D σ H ⟨env, S, μ, hE, hS, hp⟩ => hp.at_ hS _ rel_non
def dDrop (F : DEf) : DSf := fun env S => (F env S).bind fun _ S1 => .ok (.nx env) S1
theorem ds_expr {e : Expr} {F : DEf} (he : DE W E X e F) (hs : swapsWith e none pos.line X.env = pure false := by rfl) : DS W E X (.Expr e pos) (dDrop F) := (ps_expr he hs).imp fun D σ H ⟨env, S, μ, hE, hS, hp⟩ =>
  ⟨env, S, μ, hE, hS, hp.bind.imp fun x S1 H1 μ1 l1 s1 p1 v rv => p1.at_ s1 σ (hE.mono l1 hS.is)⟩
def dIfS (c : DTf) (f g : DSf) : DSf := fun env S => (c env S).bind fun b S1 => if b = true then f env S1 else g env S1
theorem ds_if {c : Expr} {a b : List Stmt} {F : DTf} (hc : DT W E X c F) (ha : DSs W E X a f) (hb : DSs W E X b g) : DS W E X (.If c a b pos) (dIfS F f g) := (ps_if hc ha hb).imp fun D σ H ⟨env, S, μ, hE, hS, hp⟩ => by
  refine ⟨env, S, μ, hE, hS, hp.bind.imp fun c S1 H1 μ1 l1 s1 p1 => ?_⟩
  show if c = true then _ else _
  cases c with
  | true => rw [if_pos rfl] at p1 ⊢; exact ⟨env, S1, μ1, hE.mono l1 hS.is, s1, p1⟩
  | false => rw [if_neg Bool.false_ne_true] at p1 ⊢; exact ⟨env, S1, μ1, hE.mono l1 hS.is, s1, p1⟩
def dAsg (F : DEf) (g : DGf) : DSf := fun env S => (F env S).bind fun x S1 => (g x env S1).bind fun env1 S2 => .ok (.nx env1) S2
theorem tS_asg {F : DEf} {g : DGf} (D : Ends) (σ : L2.St) (H : Hp) (h : tS W E (dAsg F g) D σ H) : tAsg (tE W E F) (tG W E g) D σ H := by
  obtain ⟨env, S, μ, hE, hS, hp⟩ := h
  refine ⟨env, S, μ, hE, hS, hp.bind.imp fun x S1 H1 μ1 l1 s1 p1 v rv => ?_⟩
  exact ⟨x, env, S1, μ1, rv, hE.mono l1 hS.is, s1, p1.bind.imp fun env1 S2 H2 μ2 l2 s2 p2 => p2.at_ s2⟩
theorem ds_asg {tg e : Expr} {F : DEf} {g : DGf} (he : DE W E X e F) (hg : DG W E X tg g) (hs : swapsWithSole [tg] e pos.line X.env = pure false := by rfl) (hw : swappedStores [tg] e X.env = pure none := by rfl)
    (h1 : (assignEach [tg] X.env).map (·.2) = [assign tg X.env] := by rfl) : DS W E X (.Assign [tg] e pos) (dAsg F g) := (ps_asg he hg hs hw h1).imp tS_asg
theorem ds_set {i : Nat} {x : Str} {e : Expr} {F : DEf} {pos' : Pos} (hN : X.N.Nodup) (hi : X.N[i]? = some x) (hx : Loc X.env.scope x) (he : DE W E X e F) (hs : swapsWith e (some (.Name x pos')) pos.line X.env = pure false := by rfl) (hf : X.fn x = true ∨ X.env.scope.names.lookup x = some .local) :
    DS W E X (.Assign [.Name x pos'] e pos) (dAsg F (dgName i)) := (ps_set hN hi hx he hs hf).imp fun D σ H ⟨env, S, μ, hE, hS, hp⟩ =>
  ⟨env, S, μ, hE, hS, hp.bind.imp fun x S1 H1 μ1 l1 s1 p1 v rv => (p1.bind.at_ s1).at_ s1 _ ((hE.mono l1 hS.is).set rv)⟩
/-- a, b = x, y -/
def dPar (i j : Nat) (As : DAf) : DSf := fun env S => (As env S).bind fun xs S1 => match xs with
  | [x, y] => .ok (.nx ((env.set i (some x)).set j (some y))) S1
  | _ => .bad
theorem ds_par {i j : Nat} {x y : Str} {a b : Expr} {As : DAf} {px py pt : Pos} {kt k2 pt2} (hc : X.calm = true) (hN : X.N.Nodup) (hi : X.N[i]? = some x) (hj : X.N[j]? = some y) (hij : i ≠ j)
    (hx : X.env.scope.names.lookup x = some .local) (hy : X.env.scope.names.lookup y = some .local) (ha : DA W E X [a, b] As)
    (hw : swappedStores [.Tuple [.Name x px, .Name y py] kt pt] (.Tuple [a, b] k2 pt2) X.env = pure (some [x, y]))
    (hs : swapsWithSole [.Tuple [.Name x px, .Name y py] kt pt] (.Tuple [a, b] k2 pt2) pos.line X.env = pure false := by rfl) :
    DS W E X (.Assign [.Tuple [.Name x px, .Name y py] kt pt] (.Tuple [a, b] k2 pt2) pos) (dPar i j As) := (ps_par hc hN hi hj hij hx hy ha hw hs).imp fun D σ H ⟨env, S, μ, hE, hS, hp⟩ =>
  ⟨env, S, μ, hE, hS, hp.bind.imp fun xs S1 H1 μ1 l1 s1 p1 vs rvs => by
    split at p1
    · obtain ⟨v, w, rfl, rv, rw'⟩ := rel_two rvs
      exact ⟨v, w, rfl, p1.at_ s1 _ (((hE.mono l1 hS.is).set rv).set rw')⟩
    · exact p1.elim⟩
def dPar3 (i j l : Nat) (As : DAf) : DSf := fun env S => (As env S).bind fun xs S1 => match xs with
  | [x, y, z] => .ok (.nx (((env.set i (some x)).set j (some y)).set l (some z))) S1
  | _ => .bad
theorem ds_par3 {i j l : Nat} {x y z : Str} {a b c : Expr} {As : DAf} {px py pz pt pos : Pos} {kt k2 pt2} (hc : X.calm = true) (hN : X.N.Nodup) (hi : X.N[i]? = some x) (hj : X.N[j]? = some y) (hl : X.N[l]? = some z) (hij : i ≠ j) (hil : i ≠ l) (hjl : j ≠ l)
    (hx : X.env.scope.names.lookup x = some .local) (hy : X.env.scope.names.lookup y = some .local) (hz : X.env.scope.names.lookup z = some .local) (ha : DA W E X [a, b, c] As)
    (hw : swappedStores [.Tuple [.Name x px, .Name y py, .Name z pz] kt pt] (.Tuple [a, b, c] k2 pt2) X.env = pure (some [x, y, z]))
    (hs : swapsWithSole [.Tuple [.Name x px, .Name y py, .Name z pz] kt pt] (.Tuple [a, b, c] k2 pt2) pos.line X.env = pure false := by rfl) :
    DS W E X (.Assign [.Tuple [.Name x px, .Name y py, .Name z pz] kt pt] (.Tuple [a, b, c] k2 pt2) pos) (dPar3 i j l As) := (ps_par3 hc hN hi hj hl hij hil hjl hx hy hz ha hw hs).imp fun D σ H ⟨env, S, μ, hE, hS, hp⟩ =>
  ⟨env, S, μ, hE, hS, hp.bind.imp fun xs S1 H1 μ1 l1 s1 p1 vs rvs => by
    split at p1
    · simp only [RelVs] at rvs
      obtain ⟨v, r, rfl, rv, w, r', rfl, rw', u, r'', rfl, ru, rfl⟩ := rvs
      exact ⟨v, w, u, rfl, p1.at_ s1 _ ((((hE.mono l1 hS.is).set rv).set rw').set ru)⟩
    · exact p1.elim⟩
end

/-! ### what is walked -/
/-- the items; the places that must stay as they are meanwhile -/
structure Itm where
  ds : List D
  wt : List (Nat × List D)
def wtOk (wt : List (Nat × List D)) (S : Sto) : Prop := ∀ p ∈ wt, S[p.1]? = some (.lst p.2)
structure ItOk (W : Wd) (J : It) (it : Itm) (H : Hp) (μ : Mu) : Prop where
  go : ∀ i H' μ' S', Le H μ H' μ' → RelS W H' μ' S' → wtOk it.wt S' → i < it.ds.length → J.go i H'
  stop : ∀ H' μ' S', Le H μ H' μ' → RelS W H' μ' S' → wtOk it.wt S' → J.stop it.ds.length H'
  yld : ∀ i H' μ' S' x H2, Le H μ H' μ' → RelS W H' μ' S' → wtOk it.wt S' → i < it.ds.length → J.yld i H' x H2 → ∃ d, it.ds[i]? = some d ∧ RelD W H2 μ' d x ∧ Le H' μ' H2 μ' ∧ RelS W H2 μ' S'
abbrev DIf := Env → Sto → Out Itm
def tI (W : Wd) (E : XK) (f : DIf) : TI := fun σ H R => ∃ env S μ, RelE W H μ env σ ∧ RelS W H μ S ∧ Post W E H μ (f env S) fun it _ H' μ' => ∀ J, ItOk W J it H' μ' → R J H'
abbrev DI (W : Wd) (E : XK) (X : Cx) (tg iter : Expr) (f : DIf) : Prop := PI X tg iter (tI W E f)
theorem _root_.L2.PI.imp {X : Cx} {tg e : Expr} {t t' : TI} (h : PI X tg e t) (hi : ∀ σ H Q, t' σ H Q → t σ H Q) : PI X tg e t' := ⟨fun pins s σ H Q I q => h.run pins s σ H Q I (hi σ H Q q)⟩
open Classical in
/-- the loop over what is left -/
noncomputable def dLoop (g : DGf) (body : DSf) (wt : List (Nat × List D)) : List D → Env → Sto → Out Fl
  | [], env, S => if wtOk wt S then .ok (.nx env) S else .bad
  | d :: ds, env, S => if wtOk wt S then (g (.d d) env S).bind fun env1 S1 => (body env1 S1).bind fun fl S2 => match fl with
      | .nx e => dLoop g body wt ds e S2
      | .cnt e => dLoop g body wt ds e S2
      | .brk e => .ok (.nx e) S2
      | .ret x => .ok (.ret x) S2
    else .bad
noncomputable def dFor (it : DIf) (g : DGf) (body : DSf) : DSf := fun env S => (it env S).bind fun i S1 => dLoop g body i.wt i.ds env S1
section
variable {W : Wd} {E : XK} {X : Cx} {pos : Pos}
theorem ds_for {tg iter : Expr} {body : List Stmt} {it : DIf} {g : DGf} {f : DSf} (hp : PassesOwn (model X.prog X.w) X.A X.env X.xe) (hc : X.calm = true) (hi : DI W E X tg iter it) (hg : DG W E X tg g) (hb : DSs W E X body f)
    (hs : ∀ x, foldedSetIterable iter X.env x = pure x := by intro _; rfl) : DS W E X (.For tg iter body [] pos) (dFor it g f) :=
  (ps_for hp hc hi hg hb hs).imp fun D σ H ⟨env, S, μ, hE, hS, hp⟩ => by
    refine ⟨env, S, μ, hE, hS, hp.bind.imp fun i S1 H1 μ1 l1 s1 p1 => ?_⟩
    have hE1 := hE.mono l1 hS.is
    intro J hJ
    refine ⟨fun t m σ' H' => m = i.ds.length - t ∧ t ≤ i.ds.length ∧ ∃ env' S' μ', Le H1 μ1 H' μ' ∧ RelE W H' μ' env' σ' ∧ RelS W H' μ' S' ∧ Post W E H' μ' (dLoop g f i.wt (i.ds.drop t) env' S') (QS W D),
      ⟨_, rfl, Nat.zero_le _, env, S1, μ1, .refl, hE1, s1, by simpa using p1⟩, ?_⟩
    rintro t m σ' H' ⟨rfl, ht, env', S', μ', l', hE', hS', hp'⟩
    by_cases hlt : t < i.ds.length
    · have hd : i.ds.drop t = i.ds[t] :: i.ds.drop (t + 1) := List.drop_eq_getElem_cons hlt
      rw [hd] at hp'
      unfold dLoop at hp'
      split at hp'
      case isFalse => exact hp'.elim
      rename_i hw'
      refine .inr ⟨hJ.go t H' μ' S' l' hS' hw' hlt, fun σ2 H2 => ∃ env2 S2 μ2, Le H1 μ1 H2 μ2 ∧ RelE W H2 μ2 env2 σ2 ∧ RelS W H2 μ2 S2 ∧ Post W E H2 μ2 (dLoop g f i.wt (i.ds.drop (t + 1)) env2 S2) (QS W D),
        fun σ2 H2 ⟨env2, S2, μ2, h1, h2, h3, h4⟩ => ⟨_, by omega, rfl, hlt, env2, S2, μ2, h1, h2, h3, h4⟩, fun x H2 y => ?_⟩
      obtain ⟨d, e1, r, l2, s2⟩ := hJ.yld t H' μ' S' x H2 l' hS' hw' hlt y
      rw [List.getElem?_eq_getElem hlt] at e1
      cases e1
      refine ⟨.d i.ds[t], env', S', μ', r, hE'.mono l2 hS'.is, s2, (hp'.le l2).bind.imp fun env3 S3 H3 μ3 l3 s3 p3 σ3 hE3 => ?_⟩
      refine ⟨env3, S3, μ3, hE3, s3, p3.bind.imp fun fl S4 H4 μ4 l4 s4 p4 => ?_⟩
      have lA := ((l'.trans l2).trans l3).trans l4
      cases fl with
      | nx e => exact fun σ4 hE4 => ⟨e, S4, μ4, lA, hE4, s4, p4⟩
      | cnt e => exact fun σ4 hE4 => ⟨e, S4, μ4, lA, hE4, s4, p4⟩
      | brk e => exact p4.at_ s4
      | ret x => exact p4.at_ s4
    · have e : t = i.ds.length := by omega
      subst e
      rw [List.drop_length] at hp'
      unfold dLoop at hp'
      split at hp'
      case isFalse => exact hp'.elim
      rename_i hw'
      exact .inl ⟨hJ.stop H' μ' S' l' hS' hw', hp'.at_ hS' σ' hE'⟩

/-! ### while -/
def dWhileN (c : DTf) (body : DSf) : Nat → Env → Sto → Out Fl
  | 0, _, _ => .bad
  | n + 1, env, S => (c env S).bind fun b S1 => if b = true then (body env S1).bind fun fl S2 => match fl with
      | .nx e => dWhileN c body n e S2
      | .cnt e => dWhileN c body n e S2
      | .brk e => .ok (.nx e) S2
      | .ret x => .ok (.ret x) S2
    else .ok (.nx env) S1
end
open Classical in
noncomputable def dWhile (c : DTf) (body : DSf) : DSf := fun env S => if h : ∃ n, dWhileN c body n env S ≠ .bad then dWhileN c body (Classical.choose h) env S else .bad
theorem Out.bind_ne {α β : Type} {r : Out α} {k : α → Sto → Out β} (h : r.bind k ≠ .bad) : r ≠ .bad := fun e => h (by rw [e]; rfl)
theorem dWhileN_mono {c : DTf} {body : DSf} : ∀ {n m : Nat} {env : Env} {S : Sto}, n ≤ m → dWhileN c body n env S ≠ .bad → dWhileN c body m env S = dWhileN c body n env S
  | 0, m, env, S, _, h => (h rfl).elim
  | n + 1, 0, env, S, h, _ => absurd h (by omega)
  | n + 1, m + 1, env, S, hm, h => by
    unfold dWhileN at h ⊢
    cases e1 : c env S with
    | exc x S1 => rfl
    | bad => rfl
    | ok b S1 =>
      rw [e1] at h
      simp only [Out.bind_ok] at h ⊢
      cases b with
      | false => rfl
      | true =>
        simp only [if_true] at h ⊢
        cases e2 : body env S1 with
        | exc x S1 => rfl
        | bad => rfl
        | ok fl S2 =>
          rw [e2] at h
          simp only [Out.bind_ok] at h ⊢
          cases fl with
          | nx e => exact dWhileN_mono (by omega) h
          | cnt e => exact dWhileN_mono (by omega) h
          | brk e => rfl
          | ret x => rfl
theorem dWhile_of {c : DTf} {body : DSf} {n : Nat} {env : Env} {S : Sto} (h : dWhileN c body n env S ≠ .bad) : dWhile c body env S = dWhileN c body n env S := by
  have hx : ∃ n, dWhileN c body n env S ≠ .bad := ⟨n, h⟩
  have h2 := Classical.choose_spec hx
  unfold dWhile
  rw [dif_pos hx]
  rcases Nat.le_total n (Classical.choose hx) with k | k
  · exact dWhileN_mono k h
  · exact (dWhileN_mono k h2).symm
theorem Post.ne {α : Type} {W : Wd} {E : XK} {H : Hp} {μ : Mu} {r : Out α} {K : α → Sto → Hp → Mu → Prop} (h : Post W E H μ r K) : r ≠ .bad := fun e => by rw [e] at h; exact h
section
variable {W : Wd} {E : XK} {X : Cx} {pos : Pos}
theorem ds_while {c : Expr} {body : List Stmt} {F : DTf} {f : DSf} (hp : PassesOwn (model X.prog X.w) X.A X.env X.xe) (hc : DT W E X c F) (hb : DSs W E X body f) : DS W E X (.While c body [] pos) (dWhile F f) :=
  (ps_while hp hc hb).imp fun D σ H ⟨env, S, μ, hE, hS, hp⟩ => by
    have hn : ∃ n, dWhile F f env S = dWhileN F f n env S := by
      have := hp.ne
      unfold dWhile at this ⊢
      split at this
      · rename_i hx
        exact ⟨_, by rw [dif_pos hx]⟩
      · exact (this rfl).elim
    obtain ⟨n, en⟩ := hn
    rw [en] at hp
    refine ⟨fun m σ' H' => ∃ env' S' μ', RelE W H' μ' env' σ' ∧ RelS W H' μ' S' ∧ Post W E H' μ' (dWhileN F f m env' S') (QS W D), ⟨n, env, S, μ, hE, hS, hp⟩, ?_⟩
    rintro m σ' H' ⟨env', S', μ', hE', hS', hp'⟩
    cases m with
    | zero => exact hp'.elim
    | succ m =>
      unfold dWhileN at hp'
      refine ⟨env', S', μ', hE', hS', hp'.bind.imp fun b S1 H1 μ1 l1 s1 p1 => ?_⟩
      show if b = true then _ else _
      have hE1 := hE'.mono l1 hS'.is
      cases b with
      | false =>
        rw [if_neg Bool.false_ne_true] at p1 ⊢
        exact p1.at_ s1 σ' hE1
      | true =>
        rw [if_pos rfl] at p1 ⊢
        refine ⟨fun σ2 H2 => ∃ env2 S2 μ2, RelE W H2 μ2 env2 σ2 ∧ RelS W H2 μ2 S2 ∧ Post W E H2 μ2 (dWhileN F f m env2 S2) (QS W D), fun σ2 H2 h => ⟨m, Nat.lt_succ_self _, h⟩, ?_⟩
        refine ⟨env', S1, μ1, hE1, s1, p1.bind.imp fun fl S2 H2 μ2 l2 s2 p2 => ?_⟩
        cases fl with
        | nx e => exact fun σ2 hE2 => ⟨e, S2, μ2, hE2, s2, p2⟩
        | cnt e => exact fun σ2 hE2 => ⟨e, S2, μ2, hE2, s2, p2⟩
        | brk e => exact p2.at_ s2
        | ret x => exact p2.at_ s2
end
end Dn
set_option Elab.async false
set_option linter.all false
set_option maxRecDepth 100000
set_option maxHeartbeats 4000000
/-! ### iterables, comprehensions, all(..) -/
namespace Dn
open PySem PySem.Spec PyProof.Rows L2 GxR Gx

/-! ### what is walked -/
section
variable {W : Wd} {E : XK} {X : Cx} {H : Hp} {μ : Mu} {S : Sto} {tg : Expr} {pos : Pos}
/-- a list or a tuple -/
theorem pi_seq {l : Expr} {tl : TE} (hl : PE X l tl) : PI X tg l fun σ H R => tl σ H fun x H1 => ∃ a, x = .ref a ∧ (((∃ xs, SqL X.K H1 a xs) ∧ R (Itl X.K a) H1) ∨ ((∃ xs, SqT X.K H1 a xs) ∧ R (Itt X.K a) H1)) := by
  refine ⟨fun pins s σ H R I h => thn (hl.run pins s σ H _ I h) fun v s1 ⟨x, H1, I1, r1, a, ex, q1⟩ => ?_⟩
  subst ex
  cases r1
  have new : ∀ b, b ∈ [s1.heap.objs.size] → FpOk X pins H1 b := fun b hb => by
    rw [List.mem_singleton.mp hb]
    exact I1.fpOk (Nat.le_refl _) (I1.hok.fresh (Nat.le_refl _))
  rcases q1 with ⟨⟨xs, hq⟩, q⟩ | ⟨⟨xs, hq⟩, q⟩
  · obtain ⟨its, rv, p, _⟩ := I1.list hq
    exact wpAny_pyIter_list p.isList ⟨_, [s1.heap.objs.size], _, _, H1, rfl, I1.kept (t' := s1.toks) fun b o e => Heap.get?_push_of_some _ e, turn_list a _, ⟨_, Heap.get?_push_size _ rfl, rfl, rfl⟩, new, q⟩
  · obtain ⟨its, rv, p, _⟩ := I1.tuple hq
    exact wpAny_pyIter_tuple (show s1.heap.IsTuple a its.toArray from p) ⟨_, [s1.heap.objs.size], _, _, H1, rfl, I1.kept (t' := s1.toks) fun b o e => Heap.get?_push_of_some _ e, turn_tuple a _, ⟨_, Heap.get?_push_size _ rfl, rfl, rfl⟩, new, q⟩
/-- a list that is watched stays -/
def wtV (x : Val) (S : Sto) : List (Nat × List D) := match x with
  | .r n => (match S[n]? with | some (.lst ds) => [(n, ds)] | _ => [])
  | _ => []
theorem stays {x : Val} {ds : List D} {v : V} (s : RelS W H μ S) (h : RelV' W H μ x v) (e : seqL x S = some ds) : ∃ a, v = .ref a ∧ ∀ H' μ' S', Le H μ H' μ' → RelS W H' μ' S' → wtOk (wtV x S) S' → ∃ vs, SqL W.K H' a vs ∧ RelDs W H' μ' ds vs := by
  unfold seqL at e
  split at e
  · cases e
    simp only [RelV', RelD] at h
    obtain ⟨a, vs, e1, q, r⟩ := h
    exact ⟨a, e1, fun H' μ' S' l s' _ => ⟨vs, (l.frL q).sq, RelDs.mono l s.is ds vs r⟩⟩
  · cases e
    simp only [RelV', RelD] at h
    obtain ⟨a, vs, e1, q, r⟩ := h
    exact ⟨a, e1, fun H' μ' S' l s' _ => ⟨vs, (l.coL s.is q).sq, RelDs.mono l s.is ds vs r⟩⟩
  · rename_i n
    split at e
    · rename_i e1
      cases e
      obtain ⟨a, vs, h1, h0, h2, h3⟩ := cell_rel s h e1
      refine ⟨a, h1, fun H' μ' S' l s' w => ?_⟩
      have e2 : S'[n]? = some (.lst ds) := w (n, ds) (by simp [wtV, e1])
      have hn : n < μ'.length := by rw [← s'.len]; exact (List.getElem?_eq_some_iff.mp e2).1
      obtain ⟨b, us, e3, e4, r⟩ := s'.cell n _ _ e2 (List.getElem?_eq_getElem hn)
      rcases l.at_ n _ h0 with q | q
      · rw [List.getElem?_eq_getElem hn, e3] at q
        cases q
        exact ⟨us, .inl (.inl e4), r⟩
      · rw [List.getElem?_eq_getElem hn, e3] at q
        cases q
    · cases e
  · cases e
theorem staysT {x : Val} {ds : List D} {v : V} (s : RelS W H μ S) (h : RelV' W H μ x v) (e : seqT x = some ds) : ∃ a, v = .ref a ∧ ∀ H' μ', Le H μ H' μ' → ∃ vs, SqT W.K H' a vs ∧ RelDs W H' μ' ds vs := by
  obtain ⟨a, vs, e1, q, r⟩ := seqT_rel h e
  exact ⟨a, e1, fun H' μ' l => ⟨vs, l.sqT s.is q, RelDs.mono l s.is ds vs r⟩⟩
theorem itl_ok {x : Val} {ds : List D} {a : Addr} (h : ∀ H' μ' S', Le H μ H' μ' → RelS W H' μ' S' → wtOk (wtV x S) S' → ∃ vs, SqL W.K H' a vs ∧ RelDs W H' μ' ds vs) : ItOk W (Itl W.K a) ⟨ds, wtV x S⟩ H μ where
  go := fun i H' μ' S' l s w hi => by
    obtain ⟨vs, q, r⟩ := h H' μ' S' l s w
    obtain ⟨v, e, _⟩ := r.get (List.getElem?_eq_getElem hi)
    exact ⟨vs, v, q, e⟩
  stop := fun H' μ' S' l s w => by
    obtain ⟨vs, q, r⟩ := h H' μ' S' l s w
    exact ⟨vs, q, Nat.le_of_eq r.length.symm⟩
  yld := fun i H' μ' S' x H2 l s w hi y => by
    obtain ⟨vs, q, r⟩ := h H' μ' S' l s w
    obtain ⟨v, e, rv⟩ := r.get (List.getElem?_eq_getElem hi)
    obtain ⟨rfl, y⟩ := y
    have := y vs q
    rw [e] at this; cases this
    exact ⟨_, List.getElem?_eq_getElem hi, rv, .refl, s⟩
theorem itt_ok {ds : List D} {a : Addr} (h : ∀ H' μ', Le H μ H' μ' → ∃ vs, SqT W.K H' a vs ∧ RelDs W H' μ' ds vs) : ItOk W (Itt W.K a) ⟨ds, []⟩ H μ where
  go := fun i H' μ' S' l s w hi => by
    obtain ⟨vs, q, r⟩ := h H' μ' l
    obtain ⟨v, e, _⟩ := r.get (List.getElem?_eq_getElem hi)
    exact ⟨vs, v, q, e⟩
  stop := fun H' μ' S' l s w => by
    obtain ⟨vs, q, r⟩ := h H' μ' l
    exact ⟨vs, q, Nat.le_of_eq r.length.symm⟩
  yld := fun i H' μ' S' x H2 l s w hi y => by
    obtain ⟨vs, q, r⟩ := h H' μ' l
    obtain ⟨v, e, rv⟩ := r.get (List.getElem?_eq_getElem hi)
    obtain ⟨rfl, y⟩ := y
    have := y vs q
    rw [e] at this; cases this
    exact ⟨_, List.getElem?_eq_getElem hi, rv, .refl, s⟩
def iSeq (x : Val) (S : Sto) : Out Itm := match x with
  | .d (.tup ds) => .ok ⟨ds, []⟩ S
  | _ => match seqL x S with
    | some ds => .ok ⟨ds, wtV x S⟩ S
    | none => .bad
def diSeq (f : DEf) : DIf := fun env S => (f env S).bind fun x S1 => iSeq x S1
theorem wtV_ok {x : Val} {S : Sto} : wtOk (wtV x S) S := by
  intro p hp
  unfold wtV at hp
  split at hp
  · split at hp
    · rename_i ds e
      rw [List.mem_singleton.mp hp]; exact e
    · cases hp
  · cases hp
theorem wtOk_nil (S : Sto) : wtOk [] S := fun _ h => by cases h
theorem di_seq {l : Expr} {f : DEf} (hK : X.K = W.K) (hl : DE W E X l f) : DI W E X tg l (diSeq f) := (pi_seq hl).imp fun σ H R ⟨env, S, μ, hE, hS, hp⟩ =>
  ⟨env, S, μ, hE, hS, hp.bind.imp fun x S1 H1 μ1 l1 s1 p1 v rv => by
    unfold iSeq at p1
    rw [hK]
    split at p1
    · rename_i ds
      obtain ⟨a, rfl, h⟩ := staysT s1 rv rfl
      obtain ⟨vs, q, _⟩ := h H1 μ1 .refl
      exact ⟨a, rfl, .inr ⟨⟨vs, q⟩, p1.at_ s1 _ (itt_ok h)⟩⟩
    · split at p1
      · rename_i ds e
        obtain ⟨a, rfl, h⟩ := stays s1 rv e
        obtain ⟨vs, q, _⟩ := h H1 μ1 S1 .refl s1 wtV_ok
        exact ⟨a, rfl, .inl ⟨⟨vs, q⟩, p1.at_ s1 _ (itl_ok h)⟩⟩
      · exact p1.elim⟩
/-- lo, lo + 1, .. -/
def rngD (lo : Int) (n : Nat) : List D := (List.range n).map fun i : Nat => D.int (lo + i)
theorem itr_ok {lo : Int} {n : Nat} : ItOk W (Itr lo n) ⟨rngD lo n, []⟩ H μ where
  go := fun i H' μ' S' l s w hi => by simpa [rngD, Itr] using hi
  stop := fun H' μ' S' l s w => by simp [rngD, Itr]
  yld := fun i H' μ' S' x H2 l s w hi y => by
    obtain ⟨rfl, rfl⟩ := y
    have hi' : i < n := by simpa [rngD] using hi
    refine ⟨.int (lo + i), ?_, by simp [RelD], .refl, s⟩
    simp [rngD, List.getElem?_map, List.getElem?_range hi']
def smallI (i : Int) : Bool := decide (-(2 ^ 62) ≤ i) && decide (i < 2 ^ 62)
def iRng1 (xs : List Val) (S : Sto) : Out Itm := match xs with
  | [.d (.int j)] => if smallI j = true then .ok ⟨rngD 0 j.toNat, []⟩ S else .bad
  | _ => .bad
def iRng2 (xs : List Val) (S : Sto) : Out Itm := match xs with
  | [.d (.int i), .d (.int j)] => if smallI i = true ∧ smallI j = true then .ok ⟨rngD i (j - i).toNat, []⟩ S else .bad
  | _ => .bad
def diRng1 (As : DAf) : DIf := fun env S => (As env S).bind fun xs S1 => iRng1 xs S1
def diRng2 (As : DAf) : DIf := fun env S => (As env S).bind fun xs S1 => iRng2 xs S1
theorem smallI_iff {i : Int} : smallI i = true ↔ -(2 ^ 62) ≤ i ∧ i < 2 ^ 62 := by simp [smallI]
theorem di_rng1 {a : Expr} {As : DAf} {p : Pos} (hg : Gl X "range") (hm : X.mg "range" = none) (ha : DA W E X [a] As) (hs : starEach [a] X.env = [(false, eval a X.env)] := by rfl) : DI W E X tg (.Call (.Name "range" p) [a] [] pos) (diRng1 As) :=
  (pi_range1 hg hm ha hs).imp fun σ H R ⟨env, S, μ, hE, hS, hp⟩ => ⟨env, S, μ, hE, hS, hp.bind.imp fun xs S1 H1 μ1 l1 s1 p1 vs rvs => by
    unfold iRng1 at p1
    split at p1
    · rename_i j
      split at p1
      · rename_i c
        obtain ⟨v, rfl, rv⟩ := rel_one rvs
        rw [smallI_iff] at c
        exact ⟨j, by rw [int_rel rv], c.1, c.2, p1.at_ s1 _ itr_ok⟩
      · exact p1.elim
    · exact p1.elim⟩
theorem di_rng2 {a b : Expr} {As : DAf} {p : Pos} (hg : Gl X "range") (hm : X.mg "range" = none) (ha : DA W E X [a, b] As) (hs : starEach [a, b] X.env = [(false, eval a X.env), (false, eval b X.env)] := by rfl) (hs2 : starEach [b] X.env = [(false, eval b X.env)] := by rfl) : DI W E X tg (.Call (.Name "range" p) [a, b] [] pos) (diRng2 As) :=
  (pi_range2 hg hm ha hs hs2).imp fun σ H R ⟨env, S, μ, hE, hS, hp⟩ => ⟨env, S, μ, hE, hS, hp.bind.imp fun xs S1 H1 μ1 l1 s1 p1 vs rvs => by
    unfold iRng2 at p1
    split at p1
    · rename_i i j
      split at p1
      · rename_i c
        obtain ⟨v, w, rfl, rv, rw'⟩ := rel_two rvs
        rw [smallI_iff, smallI_iff] at c
        exact ⟨i, j, by rw [int_rel rv, int_rel rw'], ⟨c.1.1, c.1.2, c.2.1, c.2.2⟩, p1.at_ s1 _ itr_ok⟩
      · exact p1.elim
    · exact p1.elim⟩
/-! zip -/
theorem pairs_ok {J : It} {ds es : List D} {n : Nat} {wt : List (Nat × List D)} (hn : n = min ds.length es.length)
    (hgo : ∀ i H' μ' S', Le H μ H' μ' → RelS W H' μ' S' → wtOk wt S' → i < n → J.go i H') (hst : ∀ H' μ' S', Le H μ H' μ' → RelS W H' μ' S' → wtOk wt S' → J.stop n H')
    (hy : ∀ i H' μ' S' v H2, Le H μ H' μ' → RelS W H' μ' S' → wtOk wt S' → i < n → J.yld i H' v H2 → ∃ T x y d e, v = .ref T ∧ H' T = none ∧ H2 = upd H' T (.tup [x, y]) ∧ ds[i]? = some d ∧ es[i]? = some e ∧ RelD W H' μ' d x ∧ RelD W H' μ' e y) :
    ItOk W J ⟨(ds.zip es).map fun p => .tup [p.1, p.2], wt⟩ H μ where
  go := fun i H' μ' S' l s w hi => hgo i H' μ' S' l s w (by simpa [hn] using hi)
  stop := fun H' μ' S' l s w => by
    have e : ((ds.zip es).map fun p => D.tup [p.1, p.2]).length = n := by simp [hn]
    rw [e]
    exact hst H' μ' S' l s w
  yld := fun i H' μ' S' x' H2 l s w hi yy => by
    obtain ⟨T, x, y, d, e, rfl, hT, rfl, e1, e2, r1, r2⟩ := hy i H' μ' S' x' H2 l s w (by simpa [hn] using hi) yy
    refine ⟨.tup [d, e], ?_, ?_, Le.new hT, s.new hT⟩
    · simp [List.getElem?_map, List.getElem?_zip_eq_some, e1, e2]
    · simp only [RelD]
      refine ⟨T, [x, y], rfl, .inl (.inl upd_same), RelDs.mono (Le.new hT) s.is [d, e] [x, y] ?_⟩
      simp only [RelDs]
      exact ⟨x, [y], rfl, r1, y, [], rfl, r2, rfl⟩
def iZip (xs : List Val) (S : Sto) : Out Itm := match xs with
  | [x, y] => (match seqT x, seqT y with
    | some ds, some es => .ok ⟨(ds.zip es).map fun p => .tup [p.1, p.2], []⟩ S
    | _, _ => match seqL x S, seqL y S with
      | some ds, some es => .ok ⟨(ds.zip es).map fun p => .tup [p.1, p.2], wtV x S ++ wtV y S⟩ S
      | _, _ => .bad)
  | _ => .bad
def diZip (As : DAf) : DIf := fun env S => (As env S).bind fun xs S1 => iZip xs S1
theorem wtOk_app {a b : List (Nat × List D)} : wtOk (a ++ b) S ↔ wtOk a S ∧ wtOk b S := by
  unfold wtOk
  simp only [List.mem_append]
  exact ⟨fun h => ⟨fun p hp => h p (.inl hp), fun p hp => h p (.inr hp)⟩, fun h p hp => hp.elim (h.1 p) (h.2 p)⟩
theorem di_zip {a b : Expr} {As : DAf} {p tpos : Pos} {elts : List Expr} {kk : Nat} (hK : X.K = W.K) (hg : Gl X "zip") (hm : X.mg "zip" = none) (ha : DA W E X [a, b] As)
    (hs : starEach [a, b] X.env = (false, eval a X.env) :: starEach [b] X.env := by rfl) (hpl : (backTo pos (starEach [b] X.env)).any (·.1) = false := by rfl) : DI W E X (.Tuple elts kk tpos) (.Call (.Name "zip" p) [a, b] [] pos) (diZip As) :=
  (RZ.pi_zipA hg hm ha hs hpl).imp fun σ H R ⟨env, S, μ, hE, hS, hp⟩ => ⟨env, S, μ, hE, hS, hp.bind.imp fun xs S1 H1 μ1 l1 s1 p1 vs rvs => by
    unfold iZip at p1
    rw [hK]
    split at p1
    · rename_i x y
      obtain ⟨v, w, rfl, rv, rw'⟩ := rel_two rvs
      split at p1
      · rename_i ds es e1 e2
        obtain ⟨a, rfl, h1⟩ := staysT s1 rv e1
        obtain ⟨b, rfl, h2⟩ := staysT s1 rw' e2
        obtain ⟨us, q1, _⟩ := h1 H1 μ1 .refl
        obtain ⟨ws, q2, _⟩ := h2 H1 μ1 .refl
        refine ⟨a, b, us, ws, rfl, .inr ⟨q1, q2, p1.at_ s1 _ (pairs_ok rfl (fun i H' μ' S' l s w hi => ?_) (fun H' μ' S' l s w => ?_) fun i H' μ' S' v H2 l s w hi yy => ?_)⟩⟩
        · obtain ⟨us, q1, r1⟩ := h1 H' μ' l
          obtain ⟨ws, q2, r2⟩ := h2 H' μ' l
          obtain ⟨u, e3, _⟩ := r1.get (List.getElem?_eq_getElem (Nat.lt_of_lt_of_le hi (Nat.min_le_left _ _)))
          obtain ⟨w, e4, _⟩ := r2.get (List.getElem?_eq_getElem (Nat.lt_of_lt_of_le hi (Nat.min_le_right _ _)))
          exact ⟨us, ws, u, w, q1, q2, e3, e4⟩
        · obtain ⟨us, q1, r1⟩ := h1 H' μ' l
          obtain ⟨ws, q2, r2⟩ := h2 H' μ' l
          exact ⟨us, ws, q1, q2, by rw [← r1.length, ← r2.length]; omega⟩
        · obtain ⟨us, q1, r1⟩ := h1 H' μ' l
          obtain ⟨ws, q2, r2⟩ := h2 H' μ' l
          have hd := List.getElem?_eq_getElem (Nat.lt_of_lt_of_le hi (Nat.min_le_left _ _))
          have he := List.getElem?_eq_getElem (Nat.lt_of_lt_of_le hi (Nat.min_le_right _ _))
          obtain ⟨u, e3, r3⟩ := r1.get hd
          obtain ⟨w, e4, r4⟩ := r2.get he
          obtain ⟨T, x, y, rfl, hT, rfl, f1, f2⟩ := yy
          have g1 := f1 us q1
          have g2 := f2 ws q2
          rw [e3] at g1; cases g1
          rw [e4] at g2; cases g2
          exact ⟨T, _, _, _, _, rfl, hT, rfl, hd, he, r3, r4⟩
      · split at p1
        · rename_i ds es e1 e2
          obtain ⟨a, rfl, h1⟩ := stays s1 rv e1
          obtain ⟨b, rfl, h2⟩ := stays s1 rw' e2
          obtain ⟨us, q1, _⟩ := h1 H1 μ1 S1 .refl s1 wtV_ok
          obtain ⟨ws, q2, _⟩ := h2 H1 μ1 S1 .refl s1 wtV_ok
          refine ⟨a, b, us, ws, rfl, .inl ⟨q1, q2, p1.at_ s1 _ (pairs_ok rfl (fun i H' μ' S' l s w hi => ?_) (fun H' μ' S' l s w => ?_) fun i H' μ' S' v H2 l s w hi yy => ?_)⟩⟩
          · rw [wtOk_app] at w
            obtain ⟨us, q1, r1⟩ := h1 H' μ' S' l s w.1
            obtain ⟨ws, q2, r2⟩ := h2 H' μ' S' l s w.2
            obtain ⟨u, e3, _⟩ := r1.get (List.getElem?_eq_getElem (Nat.lt_of_lt_of_le hi (Nat.min_le_left _ _)))
            obtain ⟨w, e4, _⟩ := r2.get (List.getElem?_eq_getElem (Nat.lt_of_lt_of_le hi (Nat.min_le_right _ _)))
            exact ⟨us, ws, u, w, q1, q2, e3, e4⟩
          · rw [wtOk_app] at w
            obtain ⟨us, q1, r1⟩ := h1 H' μ' S' l s w.1
            obtain ⟨ws, q2, r2⟩ := h2 H' μ' S' l s w.2
            exact ⟨us, ws, q1, q2, by rw [← r1.length, ← r2.length]; omega⟩
          · rw [wtOk_app] at w
            obtain ⟨us, q1, r1⟩ := h1 H' μ' S' l s w.1
            obtain ⟨ws, q2, r2⟩ := h2 H' μ' S' l s w.2
            have hd := List.getElem?_eq_getElem (Nat.lt_of_lt_of_le hi (Nat.min_le_left _ _))
            have he := List.getElem?_eq_getElem (Nat.lt_of_lt_of_le hi (Nat.min_le_right _ _))
            obtain ⟨u, e3, r3⟩ := r1.get hd
            obtain ⟨w, e4, r4⟩ := r2.get he
            obtain ⟨T, x, y, rfl, hT, rfl, f1, f2⟩ := yy
            have g1 := f1 us q1
            have g2 := f2 ws q2
            rw [e3] at g1; cases g1
            rw [e4] at g2; cases g2
            exact ⟨T, _, _, _, _, rfl, hT, rfl, hd, he, r3, r4⟩
        · exact p1.elim
    · exact p1.elim⟩
end

/-! ### blocks: the names of their own forgotten -/
def wipeE (env : Env) : List Nat → Env
  | [] => env
  | v :: vs => (wipeE env vs).set v none
theorem wipe_rel {W : Wd} {H : Hp} {μ : Mu} {env : Env} {σ : L2.St} (h : RelE W H μ env σ) : ∀ vs, RelE W H μ (wipeE env vs) (wipe σ vs)
  | [] => h
  | v :: vs => by
    have ih := wipe_rel h vs
    refine ⟨by simp [wipeE, wipe, ih.1], fun i x e => ?_⟩
    by_cases hi : v = i
    · subst hi
      unfold wipeE at e
      by_cases hl : v < (wipeE env vs).length
      · rw [List.getElem?_set_self hl] at e; cases e
      · rw [List.getElem?_eq_none (by simp; omega)] at e; cases e
    · unfold wipeE at e
      unfold wipe
      rw [List.getElem?_set_ne hi] at e ⊢
      exact ih.2 i x e
theorem wipe_set' {σ : L2.St} {i : Nat} {o : Option V} : ∀ vs : List Nat, (i ∈ vs → wipe (σ.set i o) vs = wipe σ vs) ∧ (i ∉ vs → wipe (σ.set i o) vs = (wipe σ vs).set i o)
  | [] => ⟨fun h => absurd h List.not_mem_nil, fun _ => rfl⟩
  | v :: vs => by
    obtain ⟨h1, h2⟩ := wipe_set' (σ := σ) (i := i) (o := o) vs
    by_cases hm : i ∈ vs
    · refine ⟨fun _ => ?_, fun z => absurd (List.mem_cons_of_mem _ hm) z⟩
      unfold wipe
      rw [h1 hm]
    · refine ⟨fun z => ?_, fun z => ?_⟩
      · rcases List.mem_cons.mp z with rfl | z
        · unfold wipe
          rw [h2 hm, List.set_set]
        · exact absurd z hm
      · have hne : i ≠ v := fun q => z (by rw [q]; exact List.mem_cons_self)
        unfold wipe
        rw [h2 hm, List.set_comm _ _ hne]
theorem wipe_wipe {σ : L2.St} (vs : List Nat) : ∀ us : List Nat, (∀ u ∈ us, u ∈ vs) → wipe (wipe σ us) vs = wipe σ vs
  | [], _ => rfl
  | u :: us, h => by
    have e := (wipe_set' (σ := wipe σ us) (i := u) (o := none) vs).1 (h u List.mem_cons_self)
    exact e.trans (wipe_wipe vs us fun w hw => h w (List.mem_cons_of_mem _ hw))
section
variable {W : Wd} {E : XK} {X : Cx} {pos : Pos} {vs : List Nat}
def QEw (W : Wd) (vs : List Nat) (σ : L2.St) (Q : L2.St → Hp → Prop) : Env → Sto → Hp → Mu → Prop := fun env _ H μ => ∀ σ', RelE W H μ env σ' → wipe σ' vs = wipe σ vs → Q σ' H
/-- a target that stores names of vs alone -/
def tGw (W : Wd) (E : XK) (vs : List Nat) (g : DGf) : TG := fun v σ H Q => ∃ x env S μ, RelV' W H μ x v ∧ RelE W H μ env σ ∧ RelS W H μ S ∧ Post W E H μ (g x env S) (QEw W vs σ Q)
abbrev DGw (W : Wd) (E : XK) (vs : List Nat) (X : Cx) (tg : Expr) (g : DGf) : Prop := PG X tg (tGw W E vs g)
def tGsw (W : Wd) (E : XK) (vs : List Nat) (g : DGsf) : TGs := fun us σ H Q => ∃ xs env S μ, RelDs W H μ xs us ∧ RelE W H μ env σ ∧ RelS W H μ S ∧ Post W E H μ (g xs env S) (QEw W vs σ Q)
abbrev DGsw (W : Wd) (E : XK) (vs : List Nat) (X : Cx) (tg : List Expr) (g : DGsf) : Prop := PGs X tg (tGsw W E vs g)
theorem dgw_name {i : Nat} {x : Str} (hv : i ∈ vs) (hN : X.N.Nodup) (hi : X.N[i]? = some x) (hx : Loc X.env.scope x) (hf : X.fn x = true ∨ X.env.scope.names.lookup x = some .local) : DGw W E vs X (.Name x pos) (dgName i) :=
  (pg_name hN hi hx hf).imp fun v σ H Q ⟨x, env, S, μ, rv, hE, hS, hp⟩ => hp.at_ hS _ (hE.set rv) ((wipe_set' vs).1 hv)
theorem dgsw_nil : DGsw W E vs X [] dgNil := pgs_nil.imp fun us σ H Q ⟨xs, env, S, μ, rv, hE, hS, hp⟩ => by
  unfold dgNil at hp
  split at hp
  · exact ⟨by simpa only [RelDs] using rv, hp.at_ hS _ hE rfl⟩
  · exact hp.elim
theorem dgsw_cons {e : Expr} {es : List Expr} {g : DGf} {gs : DGsf} (h1 : DGw W E vs X e g) (h2 : DGsw W E vs X es gs) (hs : (assignEach (e :: es) X.env).map (·.2) = assign e X.env :: (assignEach es X.env).map (·.2) := by rfl) : DGsw W E vs X (e :: es) (dgCons g gs) :=
  (pgs_cons h1 h2 hs).imp fun us σ H Q ⟨xs, env, S, μ, rv, hE, hS, hp⟩ => by
    unfold dgCons at hp
    split at hp
    · rename_i x xs
      simp only [RelDs] at rv
      obtain ⟨v, r, rfl, r1, r2⟩ := rv
      refine ⟨v, r, rfl, .d x, env, S, μ, r1, hE, hS, hp.bind.imp fun env1 S1 H1 μ1 l1 s1 p1 σ1 hE1 w1 => ?_⟩
      exact ⟨xs, env1, S1, μ1, RelDs.mono l1 hS.is xs r r2, hE1, s1, p1.imp fun env2 S2 H2 μ2 l2 s2 p2 σ2 hE2 w2 => p2 σ2 hE2 (w2.trans w1)⟩
    · exact hp.elim
theorem dgw_tup {es : List Expr} {k n : Nat} {gs : DGsf} (hK : X.K = W.K) (hc : X.calm = true) (h : DGsw W E vs X es gs) (hn : (assignEach es X.env).length = n := by rfl) (hst : (assignEach es X.env).findIdx? (·.1) = none := by rfl) : DGw W E vs X (.Tuple es k pos) (dgTup n gs) :=
  (pg_tup hc h hn hst).imp fun v σ H Q ⟨x, env, S, μ, rv, hE, hS, hp⟩ => by
    unfold dgTup at hp
    split at hp
    · rename_i ds
      split at hp
      · rename_i hz
        obtain ⟨a, us, rfl, q, r⟩ := seqT_rel rv rfl
        exact ⟨a, us, rfl, hK ▸ q, by rw [← r.length]; exact hz, ds, env, S, μ, r, hE, hS, hp⟩
      · exact hp.elim
    · exact hp.elim
/-- a clause's tests -/
abbrev DTs (W : Wd) (E : XK) (X : Cx) (ifs : List Expr) (f : DTf) : Prop := PTs X ifs (tT W E f)
def dYes : DTf := fun _ S => .ok true S
theorem dts_nil : DTs W E X [] dYes := ⟨fun pins s σ H Q I ⟨env, S, μ, hE, hS, hp⟩ => pts_nil.run pins s σ H Q I (hp.at_ hS)⟩
theorem dts_one {c : Expr} {f : DTf} (h : DT W E X c f) : DTs W E X [c] f := pts_one h
end

open Classical in
/-- the list as it grows is the place n -/
noncomputable def lcLoop (g : DGf) (tt : DTf) (te : DEf) (wt : List (Nat × List D)) (env : Env) (n : Nat) : List D → List D → Sto → Out (List D)
  | [], acc, S => if wtOk wt S ∧ S[n]? = some (.lst acc) then .ok acc S else .bad
  | d :: ds, acc, S => if wtOk wt S then (g (.d d) env S).bind fun env1 S1 => (tt env1 S1).bind fun b S2 =>
      if b = true then (te env1 S2).bind fun z S3 => match z with
        | .d z => if acc.length < szL ∧ S3[n]? = some (.lst acc) then lcLoop g tt te wt env n ds (acc ++ [z]) (S3.set n (.lst (acc ++ [z]))) else .bad
        | .r _ => .bad
      else if S2[n]? = some (.lst acc) then lcLoop g tt te wt env n ds acc S2 else .bad
    else .bad
/-- the new list as data -/
noncomputable def dLc (it : DIf) (g : DGf) (tt : DTf) (te : DEf) (vs : List Nat) : DEf := fun env S => (it env S).bind fun i S1 =>
  (lcLoop g tt te i.wt (wipeE env vs) S1.length i.ds [] (S1 ++ [.lst []])).bind fun acc S2 => .ok (.d (.lst acc)) (S2.take S1.length)
/-- the new list as a place -/
noncomputable def dLcC (it : DIf) (g : DGf) (tt : DTf) (te : DEf) (vs : List Nat) : DEf := fun env S => (it env S).bind fun i S1 =>
  (lcLoop g tt te i.wt (wipeE env vs) S1.length i.ds [] (S1 ++ [.lst []])).bind fun acc S2 => .ok (.r S1.length) S2
section
variable {W : Wd} {E : XK} {X : Cx} {pos : Pos} {vs : List Nat}
/-- the places behind go -/
theorem Le.takeLast {H : Hp} {μ : Mu} {H0 : Hp} {μ0 : Mu} {n : Nat} (l : Le H0 μ0 H μ) (hn : μ0.length ≤ n) : Le H0 μ0 H (μ.take n) := by
  refine ⟨by rw [List.length_take]; exact Nat.le_min.mpr ⟨hn, l.len⟩, fun m o e => ?_, fun b o e z t => let ⟨q1, q2⟩ := l.keep b o e z t; ⟨q1, q2.take _⟩⟩
  have hm := (List.getElem?_eq_some_iff.mp e).1
  rw [List.getElem?_take, if_pos (Nat.lt_of_lt_of_le hm hn)]
  exact l.at_ m o e
/-- what a comprehension asks, from what its loop does -/
theorem lc_reads {it : DIf} {g : DGf} {tt : DTf} {te : DEf} {σ : L2.St} {H : Hp} {Q : VK} {k : List D → Sto → Sto → Out Val}
    (h : ∃ env S μ, RelE W H μ env σ ∧ RelS W H μ S ∧ Post W E H μ ((it env S).bind fun i S1 => (lcLoop g tt te i.wt (wipeE env vs) S1.length i.ds [] (S1 ++ [.lst []])).bind fun acc S2 => k acc S1 S2) (QV W Q))
    (hk : ∀ acc (S1 S2 : Sto) H1 μ1 H2 μ2 L, Le H1 μ1 H2 μ2 → RelS W H2 μ2 S2 → S1.length = μ1.length → μ2[S1.length]? = some (some L) → S2[S1.length]? = some (.lst acc) → Post W E H1 μ1 (k acc S1 S2) (QV W Q) → Q (.ref L) H2) :
    tLc (tI W E it) (tGw W E vs g) (tT W E tt) (tE W E te) vs σ H Q := by
  obtain ⟨env, S, μ, hE, hS, hp⟩ := h
  refine ⟨env, S, μ, hE, hS, hp.bind.imp fun i S1 H1 μ1 l1 s1 p1 J hJ L hD => ?_⟩
  have hE1 := hE.mono l1 hS.is
  have n0 : S1.length = μ1.length := s1.len
  have p1' : Post W E H1 μ1 (lcLoop g tt te i.wt (wipeE env vs) S1.length i.ds [] (S1 ++ [.lst []])) fun acc S2 H2 μ2 => Post W E H1 μ1 (k acc S1 S2) (QV W Q) := by
    cases e : lcLoop g tt te i.wt (wipeE env vs) S1.length i.ds [] (S1 ++ [.lst []]) with
    | ok acc S2 => rw [e] at p1; exact fun _ _ _ _ => p1
    | exc x S2 => rw [e] at p1; exact p1
    | bad => rw [e] at p1; exact p1
  have len0 : (μ1 ++ [some L] : Mu)[S1.length]? = some (some L) := by rw [n0]; simp
  refine ⟨fun t m H' => m = i.ds.length - t ∧ t ≤ i.ds.length ∧ ∃ acc S' μ', Le H1 μ1 H' μ' ∧ RelE W H' μ' (wipeE env vs) (wipe σ vs) ∧ RelS W H' μ' S' ∧ μ'[S1.length]? = some (some L) ∧
      S'[S1.length]? = some (.lst acc) ∧ Post W E H' μ' (lcLoop g tt te i.wt (wipeE env vs) S1.length (i.ds.drop t) acc S') fun acc S2 H2 μ2 => Post W E H1 μ1 (k acc S1 S2) (QV W Q),
    ⟨_, rfl, Nat.zero_le _, [], S1 ++ [.lst []], μ1 ++ [some L], Le.push hD, wipe_rel (hE1.mono (Le.push hD) s1.is) vs, s1.push hD (by simp [RelDs]), len0, by simp, by rw [List.drop_zero]; exact p1'.le (Le.push hD)⟩, ?_⟩
  rintro t m H' ⟨rfl, ht, acc, S', μ', l', hE', hS', hD', hacc, hp'⟩
  by_cases hlt : t < i.ds.length
  · have hd : i.ds.drop t = i.ds[t] :: i.ds.drop (t + 1) := List.drop_eq_getElem_cons hlt
    rw [hd] at hp'
    unfold lcLoop at hp'
    split at hp'
    case isFalse => exact hp'.elim
    rename_i hw'
    refine .inr ⟨hJ.go t H' μ' S' l' hS' hw' hlt, fun H2 => ∃ acc S2 μ2, Le H1 μ1 H2 μ2 ∧ RelE W H2 μ2 (wipeE env vs) (wipe σ vs) ∧ RelS W H2 μ2 S2 ∧ μ2[S1.length]? = some (some L) ∧
      S2[S1.length]? = some (.lst acc) ∧ Post W E H2 μ2 (lcLoop g tt te i.wt (wipeE env vs) S1.length (i.ds.drop (t + 1)) acc S2) fun acc S2 H2 μ2 => Post W E H1 μ1 (k acc S1 S2) (QV W Q),
      fun H2 ⟨acc, S2, μ2, h⟩ => ⟨_, by omega, rfl, hlt, acc, S2, μ2, h⟩, fun x H2 y => ?_⟩
    obtain ⟨d, e1, r, l2, s2⟩ := hJ.yld t H' μ' S' x H2 l' hS' hw' hlt y
    rw [List.getElem?_eq_getElem hlt] at e1
    cases e1
    have hE2 := hE'.mono l2 hS'.is
    refine ⟨.d i.ds[t], _, S', μ', r, hE2, s2, (hp'.le l2).bind.imp fun env3 S3 H3 μ3 l3 s3 p3 σ3 hE3 w3 => ⟨w3.trans (wipe_wipe vs vs fun _ z => z), ?_⟩⟩
    have hE3' := hE2.mono l3 s2.is
    refine ⟨env3, S3, μ3, hE3, s3, p3.bind.imp fun b S4 H4 μ4 l4 s4 p4 => ?_⟩
    have hE4' := hE3'.mono l4 s3.is
    show if b = true then _ else _
    have stay : ∀ {S'' : Sto} {H'' : Hp} {μ'' : Mu} {ac : List D}, Le H' μ' H'' μ'' → RelS W H'' μ'' S'' → S''[S1.length]? = some (.lst ac) → μ''[S1.length]? = some (some L) := fun {S'' H'' μ'' ac} l s e => by
      have hn : S1.length < μ''.length := by rw [← s.len]; exact (List.getElem?_eq_some_iff.mp e).1
      obtain ⟨b, us, e3, e4, _⟩ := s.cell _ _ _ e (List.getElem?_eq_getElem hn)
      rcases l.at_ _ _ hD' with q | q
      · exact q
      · rw [List.getElem?_eq_getElem hn, e3] at q; cases q
    cases b with
    | false =>
      rw [if_neg Bool.false_ne_true] at p4 ⊢
      have lA := (l2.trans l3).trans l4
      split at p4
      case isFalse => exact p4.elim
      rename_i hc
      exact ⟨acc, S4, μ4, l'.trans lA, hE4', s4, stay lA s4 hc, hc, p4⟩
    | true =>
      rw [if_pos rfl] at p4 ⊢
      refine ⟨env3, S4, μ4, hE3.mono l4 s3.is, s4, p4.bind.imp fun z S5 H5 μ5 l5 s5 p5 v rv => ?_⟩
      have lA := ((l2.trans l3).trans l4).trans l5
      cases z with
      | r n => exact p5.elim
      | d z =>
        dsimp only at p5
        split at p5
        case isFalse => exact p5.elim
        rename_i hc
        have hD5 := stay lA s5 hc.2
        obtain ⟨L', ws, e3, e4, r4⟩ := s5.cell _ _ _ hc.2 hD5
        cases e3
        have r5 : RelDs W H5 μ5 (acc ++ [z]) (ws ++ [v]) := r4.append (by simp only [RelDs]; exact ⟨v, [], rfl, rv, rfl⟩)
        refine ⟨ws, e4, by rw [← r4.length, szL_eq]; exact hc.1, acc ++ [z], S5.set S1.length (.lst (acc ++ [z])), μ5, (l'.trans lA).trans (Le.put hD5), (hE4'.mono l5 s4.is).mono (Le.put hD5) s5.is, s5.put hD5 r5, hD5, ?_, p5.le (Le.put hD5)⟩
        exact List.getElem?_set_self (List.getElem?_eq_some_iff.mp hc.2).1
  · have e : t = i.ds.length := by omega
    subst e
    rw [List.drop_length] at hp'
    unfold lcLoop at hp'
    split at hp'
    case isFalse => exact hp'.elim
    rename_i hw'
    refine .inl ⟨hJ.stop H' μ' S' l' hS' hw'.1, ?_⟩
    exact hk acc S1 S' H1 μ1 H' μ' L l' hS' n0 hD' hacc (hp'.at_ hS')
end
end Dn
namespace Dn
open PySem PySem.Spec PyProof.Rows L2 GxR Gx
section
variable {W : Wd} {E : XK} {X : Cx} {pos : Pos} {own : List (Str × Nat)} {elt tg iter : Expr} {ifs : List Expr} {scope : Scope} {it : DIf} {g : DGf} {tt : DTf} {te : DEf}
/-- as data -/
theorem de_lc (hc : X.calm = true) (hN : X.N.Nodup) (hi : DI W E X tg iter it) (ok : BlkOk X.N X.env.scope scope own)
    (hg : ∀ (s : Shared) (H : Hp) (C : Addr) (cl : List (Str × Addr)) (fp : List Addr), DGw W E (own.map (·.2)) (X.blk s H scope (compEnvC scope cl C X.env) fp) tg g) (ht : ∀ (s : Shared) (H : Hp) (C : Addr) (cl : List (Str × Addr)) (fp : List Addr), DTs W E (X.blk s H scope (compEnvC scope cl C X.env) fp) ifs tt)
    (he : ∀ (s : Shared) (H : Hp) (C : Addr) (cl : List (Str × Addr)) (fp : List Addr), DE W E (X.blk s H scope (compEnvC scope cl C X.env) fp) elt te) (hs : ∀ x, foldedSetIterable iter X.env x = pure x := by intro _; rfl) :
    DE W E X (.ListComp elt [⟨tg, iter, ifs, 0⟩] scope pos) (dLc it g tt te (own.map (·.2))) :=
  (pe_lc hc hN hi ok hg ht he hs).imp fun σ H Q ⟨env, S, μ, hE, hS, hp⟩ => lc_reads (k := fun acc S1 S2 => .ok (.d (.lst acc)) (S2.take S1.length)) ⟨env, S, μ, hE, hS, hp⟩ fun acc S1 S2 H1 μ1 H2 μ2 L l s e1 e2 e3 p => by
    obtain ⟨L', ws, e4, e5, r⟩ := s.cell _ _ _ e3 e2
    cases e4
    refine p H2 (μ2.take S1.length) (l.takeLast (Nat.le_of_eq e1.symm)) (s.take _) _ ?_
    simp only [RelV', RelD]
    refine ⟨L, ws, rfl, ⟨fun n e => ?_, e5⟩, RelDs.sub (fun _ z => z.take _) acc ws r⟩
    rw [List.getElem?_take] at e
    split at e
    · rename_i hn
      have := s.nd _ _ _ e e2
      omega
    · cases e
/-- as a place -/
theorem de_lcC (hc : X.calm = true) (hN : X.N.Nodup) (hi : DI W E X tg iter it) (ok : BlkOk X.N X.env.scope scope own)
    (hg : ∀ (s : Shared) (H : Hp) (C : Addr) (cl : List (Str × Addr)) (fp : List Addr), DGw W E (own.map (·.2)) (X.blk s H scope (compEnvC scope cl C X.env) fp) tg g) (ht : ∀ (s : Shared) (H : Hp) (C : Addr) (cl : List (Str × Addr)) (fp : List Addr), DTs W E (X.blk s H scope (compEnvC scope cl C X.env) fp) ifs tt)
    (he : ∀ (s : Shared) (H : Hp) (C : Addr) (cl : List (Str × Addr)) (fp : List Addr), DE W E (X.blk s H scope (compEnvC scope cl C X.env) fp) elt te) (hs : ∀ x, foldedSetIterable iter X.env x = pure x := by intro _; rfl) :
    DE W E X (.ListComp elt [⟨tg, iter, ifs, 0⟩] scope pos) (dLcC it g tt te (own.map (·.2))) :=
  (pe_lc hc hN hi ok hg ht he hs).imp fun σ H Q ⟨env, S, μ, hE, hS, hp⟩ => lc_reads (k := fun acc S1 S2 => .ok (.r S1.length) S2) ⟨env, S, μ, hE, hS, hp⟩ fun acc S1 S2 H1 μ1 H2 μ2 L l s e1 e2 e3 p => by
    refine p H2 μ2 l s _ ?_
    simp only [RelV', e2]
/-- name = [..] on one line -/
theorem lc_set {i : Nat} {f : DEf} {t : TE} (hr : ∀ σ H Q, tE W E f σ H Q → t σ H Q) (D : Ends) (σ : L2.St) (H : Hp) (h : tS W E (dAsg f (dgName i)) D σ H) : tAsg t (gName i) D σ H := by
  obtain ⟨env, S, μ, hE, hS, hp⟩ := h
  exact hr _ _ _ ⟨env, S, μ, hE, hS, hp.bind.imp fun x S1 H1 μ1 l1 s1 p1 v rv => (p1.bind.at_ s1).at_ s1 _ ((hE.mono l1 hS.is).set rv)⟩
theorem lc_rd (σ : L2.St) (H : Hp) (Q : VK) (h : tE W E (dLc it g tt te (own.map (·.2))) σ H Q) : tLc (tI W E it) (tGw W E (own.map (·.2)) g) (tT W E tt) (tE W E te) (own.map (·.2)) σ H Q := by
  obtain ⟨env, S, μ, hE, hS, hp⟩ := h
  exact lc_reads (k := fun acc S1 S2 => .ok (.d (.lst acc)) (S2.take S1.length)) ⟨env, S, μ, hE, hS, hp⟩ fun acc S1 S2 H1 μ1 H2 μ2 L l s e1 e2 e3 p => by
    obtain ⟨L', ws, e4, e5, r⟩ := s.cell _ _ _ e3 e2
    cases e4
    refine p H2 (μ2.take S1.length) (l.takeLast (Nat.le_of_eq e1.symm)) (s.take _) _ ?_
    simp only [RelV', RelD]
    refine ⟨L, ws, rfl, ⟨fun n e => ?_, e5⟩, RelDs.sub (fun _ z => z.take _) acc ws r⟩
    rw [List.getElem?_take] at e
    split at e
    · rename_i hn
      have := s.nd _ _ _ e e2
      omega
    · cases e
theorem lcC_rd (σ : L2.St) (H : Hp) (Q : VK) (h : tE W E (dLcC it g tt te (own.map (·.2))) σ H Q) : tLc (tI W E it) (tGw W E (own.map (·.2)) g) (tT W E tt) (tE W E te) (own.map (·.2)) σ H Q := by
  obtain ⟨env, S, μ, hE, hS, hp⟩ := h
  exact lc_reads (k := fun acc S1 S2 => .ok (.r S1.length) S2) ⟨env, S, μ, hE, hS, hp⟩ fun acc S1 S2 H1 μ1 H2 μ2 L l s e1 e2 e3 p => by
    refine p H2 μ2 l s _ ?_
    simp only [RelV', e2]
theorem ds_setLc {f : DEf} {i : Nat} {y : Str} {py spos : Pos} (hr : ∀ σ H Q, tE W E f σ H Q → tLc (tI W E it) (tGw W E (own.map (·.2)) g) (tT W E tt) (tE W E te) (own.map (·.2)) σ H Q)
    (hc : X.calm = true) (hN : X.N.Nodup) (hy : X.N[i]? = some y) (hyl : X.env.scope.names.lookup y = some .local)
    (hsw : swapsWith (.ListComp elt [⟨tg, iter, ifs, 0⟩] scope pos) (some (.Name y py)) spos.line X.env = pure true) (hi : DI W E X tg iter it) (ok : BlkOk X.N X.env.scope scope own)
    (hg : ∀ (s : Shared) (H : Hp) (C : Addr) (cl : List (Str × Addr)) (fp : List Addr), DGw W E (own.map (·.2)) (X.blk s H scope (compEnvC scope cl C X.env) fp) tg g) (ht : ∀ (s : Shared) (H : Hp) (C : Addr) (cl : List (Str × Addr)) (fp : List Addr), DTs W E (X.blk s H scope (compEnvC scope cl C X.env) fp) ifs tt)
    (he : ∀ (s : Shared) (H : Hp) (C : Addr) (cl : List (Str × Addr)) (fp : List Addr), DE W E (X.blk s H scope (compEnvC scope cl C X.env) fp) elt te) (hs : ∀ x, foldedSetIterable iter X.env x = pure x := by intro _; rfl) :
    DS W E X (.Assign [.Name y py] (.ListComp elt [⟨tg, iter, ifs, 0⟩] scope pos) spos) (dAsg f (dgName i)) :=
  (ps_setLc hc hN hy hyl hsw hi ok hg ht he hs).imp (lc_set hr)
end
/-! ### all(test for target in iter) -/
open Classical in
noncomputable def allLoop (g : DGf) (te : DEf) (wt : List (Nat × List D)) (env : Env) : List D → Sto → Out Val
  | [], S => if wtOk wt S then .ok (.d (.bl true)) S else .bad
  | d :: ds, S => if wtOk wt S then (g (.d d) env S).bind fun env1 S1 => (te env1 S1).bind fun z S2 => match z with
      | .d (.bl true) => allLoop g te wt env ds S2
      | .d (.bl false) => .ok (.d (.bl false)) S2
      | _ => .bad
    else .bad
noncomputable def dAllG (it : DIf) (g : DGf) (te : DEf) (vs : List Nat) : DEf := fun env S => (it env S).bind fun i S1 => allLoop g te i.wt (wipeE env vs) i.ds S1
section
variable {W : Wd} {E : XK} {X : Cx} {pos : Pos} {own : List (Str × Nat)} {elt tg iter : Expr} {scope : Scope} {it : DIf} {g : DGf} {te : DEf}
theorem Le.tabbed {H H' : Hp} {μ : Mu} {P : Addr} (h : TabG H P) (t : Tabbed P H H') : Le H μ H' μ :=
  ⟨Nat.le_refl _, fun _ _ e => .inl e, fun b o e n z => ⟨by
    rw [t.2 b (fun q => ?_)]
    · exact e
    · obtain ⟨ps, e2, _⟩ := h
      rw [q, e2] at e
      cases e
      exact z ps rfl, n⟩⟩
theorem RelS.tabbed {H H' : Hp} {μ : Mu} {S : Sto} {P : Addr} (s : RelS W H μ S) (hT : P ∈ W.tabs) (h : TabG H P) (t : Tabbed P H H') : RelS W H' μ S := by
  have ne : ∀ {b vs}, H b = some (.lst vs) → b ≠ P := fun e q => by
    obtain ⟨ps, e2, _⟩ := h
    rw [q, e2] at e; cases e
  refine ⟨s.len, s.nd, fun n c o e1 e2 => ?_, fun n a e => ?_, fun P' hP' => ?_, fun p hp => ?_, s.dis⟩
  · have ok := s.cell n c o e1 e2
    cases c with
    | dead => trivial
    | lst ds =>
      obtain ⟨a, vs, e3, e4, r⟩ := ok
      exact ⟨a, vs, e3, by rw [t.2 a (ne e4)]; exact e4, RelDs.mono (Le.tabbed h t) s.is ds vs r⟩
  · obtain ⟨vs, e4⟩ := s.is n a e
    exact ⟨vs, by rw [t.2 a (ne e4)]; exact e4⟩
  · by_cases q : P' = P
    · rw [q]; exact t.1
    · obtain ⟨ps, e, k⟩ := s.tab P' hP'
      exact ⟨ps, by rw [t.2 P' q]; exact e, k⟩
  · obtain ⟨ps, e, k1, k2⟩ := s.lam p hp
    refine ⟨ps, by rw [t.2 p.1 (fun q => s.dis p hp (q ▸ hT))]; exact e, k1, fun pos cv hc => ?_⟩
    obtain ⟨c, e1, e2⟩ := k2 pos cv hc
    refine ⟨c, e1, ?_⟩
    rw [t.2 c (fun q => by
      obtain ⟨ps2, z, _⟩ := h
      rw [q, z] at e2; unfold LamX.CodeO at e2; cases e2)]
    exact e2
theorem de_allG {c P : Addr} {p gpos : Pos} {k : Nat}
    (hr : Room (k + 4) X.A) (hc : X.calm = true) (hN : X.N.Nodup) (hgl : Gl X "all") (hm : X.mg "all" = none) (hT : P ∈ W.tabs) (TB : TabB X.base X.mg c P) (hcode : X.env.code = .ref c)
    (hi : DI W E X tg iter it) (ok : BlkOk X.N X.env.scope scope own) (hco : scope.isCoroutine = false) (hcell : ∀ y ∈ scope.names, y.2 ≠ .cell) (hdot : scope.names.lookup (".0" : Str) = some NameKind.local)
    (hg : ∀ (s : Shared) (H : Hp) (C : Addr) (cl : List (Str × Addr)) (code : Value) (fp : List Addr) (pn : List (Addr × Obj)), DGw W E (own.map (·.2)) (gcx X s H (genv X scope cl C code) fp pn) tg g)
    (he : ∀ (s : Shared) (H : Hp) (C : Addr) (cl : List (Str × Addr)) (code : Value) (fp : List Addr) (pn : List (Addr × Obj)), Room k (gcx X s H (genv X scope cl C code) fp pn).A → DE W E (gcx X s H (genv X scope cl C code) fp pn) elt te)
    (hs : ∀ v, genFold iter X.env v = pure v := by intro _; rfl)
    (hst : starEach [.GeneratorExp elt [⟨tg, iter, [], 0⟩] scope gpos] X.env = (false, eval (.GeneratorExp elt [⟨tg, iter, [], 0⟩] scope gpos) X.env) :: starEach [] X.env := by rfl) :
    DE W E X (.Call (.Name "all" p) [.GeneratorExp elt [⟨tg, iter, [], 0⟩] scope gpos] [] pos) (dAllG it g te (own.map (·.2))) :=
  (pe_allG hr hc hN hgl hm TB hcode hi ok hco hcell hdot hg he hs hst).imp fun σ H Q ⟨env, S, μ, hE, hS, hp⟩ => by
    refine ⟨env, S, μ, hE, hS, hp.bind.imp fun i S1 H1 μ1 l1 s1 p1 J hJ => ⟨s1.tab P hT, fun H2 ht => ?_⟩⟩
    have lt := Le.tabbed (μ := μ1) (s1.tab P hT) ht
    have s2 := s1.tabbed hT (s1.tab P hT) ht
    have hE2 := wipe_rel ((hE.mono l1 hS.is).mono lt s1.is) (own.map (·.2))
    refine ⟨fun t m H' => m = i.ds.length - t ∧ t ≤ i.ds.length ∧ ∃ S' μ', Le H1 μ1 H' μ' ∧ RelE W H' μ' (wipeE env (own.map (·.2))) (wipe σ (own.map (·.2))) ∧ RelS W H' μ' S' ∧ Post W E H' μ' (allLoop g te i.wt (wipeE env (own.map (·.2))) (i.ds.drop t) S') (QV W Q),
      ⟨_, rfl, Nat.zero_le _, S1, μ1, lt, hE2, s2, by rw [List.drop_zero]; exact Post.le p1 lt⟩, ?_⟩
    rintro t m H' ⟨rfl, ht', S', μ', l', hE', hS', hp'⟩
    by_cases hlt : t < i.ds.length
    · have hd : i.ds.drop t = i.ds[t] :: i.ds.drop (t + 1) := List.drop_eq_getElem_cons hlt
      rw [hd] at hp'
      unfold allLoop at hp'
      split at hp'
      case isFalse => exact hp'.elim
      rename_i hw'
      refine .inr ⟨hJ.go t H' μ' S' l' hS' hw' hlt, fun H2 => ∃ S2 μ2, Le H1 μ1 H2 μ2 ∧ RelE W H2 μ2 (wipeE env (own.map (·.2))) (wipe σ (own.map (·.2))) ∧ RelS W H2 μ2 S2 ∧ Post W E H2 μ2 (allLoop g te i.wt (wipeE env (own.map (·.2))) (i.ds.drop (t + 1)) S2) (QV W Q),
        fun H2 ⟨S2, μ2, h⟩ => ⟨_, by omega, rfl, hlt, S2, μ2, h⟩, fun x H2 y => ?_⟩
      obtain ⟨d, e1, r, l2, s2⟩ := hJ.yld t H' μ' S' x H2 l' hS' hw' hlt y
      rw [List.getElem?_eq_getElem hlt] at e1
      cases e1
      have hE2 := hE'.mono l2 hS'.is
      refine ⟨.d i.ds[t], _, S', μ', r, hE2, s2, (hp'.le l2).bind.imp fun env3 S3 H3 μ3 l3 s3 p3 σ3 hE3 w3 => ⟨w3.trans (wipe_wipe _ _ fun _ z => z), ?_⟩⟩
      refine ⟨env3, S3, μ3, hE3, s3, p3.bind.imp fun z S4 H4 μ4 l4 s4 p4 v rv => ?_⟩
      have hE4 := (hE2.mono l3 s2.is).mono l4 s3.is
      have lA := ((l'.trans l2).trans l3).trans l4
      split at p4
      · exact ⟨true, bl_rel rv, by rw [if_pos rfl]; exact ⟨S4, μ4, lA, hE4, s4, p4⟩⟩
      · exact ⟨false, bl_rel rv, by rw [if_neg Bool.false_ne_true]; exact p4.at_ s4 _ (rel_bl _)⟩
      · exact p4.elim
    · have e : t = i.ds.length := by omega
      subst e
      rw [List.drop_length] at hp'
      unfold allLoop at hp'
      split at hp'
      case isFalse => exact hp'.elim
      rename_i hw'
      exact .inl ⟨hJ.stop H' μ' S' l' hS' hw', hp'.at_ hS' _ (rel_bl _)⟩
end
end Dn
set_option Elab.async false
set_option linter.all false
set_option maxRecDepth 100000
set_option maxHeartbeats 4000000
/-! ### calls of built-in functions by name; defs -/
namespace Dn
open PySem PySem.Spec PyProof.Rows L2 GxR Gx

section
variable {W : Wd} {E : XK} {X : Cx} {pos p : Pos} {x : Str} {e : Expr} {es : List Expr} {As : DAf} {r : List V → Hp → VK → Prop} {o : Opn} {id T : String}
theorem de_callB (hc : CallR X (.builtin id) r) (hd : DCall W E r o) (hg : Gl X x) (hm : X.mg x = none) (hv : bootBuiltins x = some (.builtin id)) (ha : DA W E X (e :: es) As) (hn : x ≠ "__name__" := by decide) (hdb : (x == ("__debug__" : Str)) = false := by decide)
    (he : starEach (e :: es) X.env = (false, eval e X.env) :: starEach es X.env := by rfl) (hpl : (backTo pos (starEach es X.env)).any (·.1) = false := by rfl) : DE W E X (.Call (.Name x p) (e :: es) [] pos) (dCall o As) :=
  (pe_callB hc hg hm hv ha hn hdb he hpl).imp (tE_call hd)
theorem de_callTy (hc : CallR X (.type T) r) (hd : DCall W E r o) (hg : Gl X x) (hm : X.mg x = none) (hv : bootBuiltins x = some (.type T)) (ha : DA W E X (e :: es) As) (hn : x ≠ "__name__" := by decide) (hdb : (x == ("__debug__" : Str)) = false := by decide)
    (he : starEach (e :: es) X.env = (false, eval e X.env) :: starEach es X.env := by rfl) (hpl : (backTo pos (starEach es X.env)).any (·.1) = false := by rfl) : DE W E X (.Call (.Name x p) (e :: es) [] pos) (dCall o As) :=
  (pe_callTy hc hg hm hv ha hn hdb he hpl).imp (tE_call hd)
theorem de_callBf (hc : CallR X (.builtin id) r) (hd : DCall W E r o) (hg : Gl X x) (hm : X.mg x = some (.builtin id)) (ha : DA W E X (e :: es) As) (hdb : (x == ("__debug__" : Str)) = false := by decide)
    (he : starEach (e :: es) X.env = (false, eval e X.env) :: starEach es X.env := by rfl) (hpl : (backTo pos (starEach es X.env)).any (·.1) = false := by rfl) : DE W E X (.Call (.Name x p) (e :: es) [] pos) (dCall o As) :=
  (pe_callBfun hc hg hm ha hdb he hpl).imp (tE_call hd)
theorem boot_len' : bootBuiltins "len" = some (.builtin "len") := by decide +kernel
theorem boot_abs' : bootBuiltins "abs" = some (.builtin "abs") := by decide +kernel
theorem boot_max' : bootBuiltins "max" = some (.builtin "max") := by decide +kernel
theorem boot_min' : bootBuiltins "min" = some (.builtin "min") := by decide +kernel
theorem boot_all' : bootBuiltins "all" = some (.builtin "all") := by decide +kernel
theorem boot_any' : bootBuiltins "any" = some (.builtin "any") := by decide +kernel
theorem boot_sum' : bootBuiltins "sum" = some (.builtin "sum") := by decide +kernel
theorem boot_divmod' : bootBuiltins "divmod" = some (.builtin "divmod") := by decide +kernel
theorem boot_isinstance' : bootBuiltins "isinstance" = some (.builtin "isinstance") := by decide +kernel
theorem boot_int' : bootBuiltins "int" = some (.type "int") := by decide +kernel
theorem boot_bool' : bootBuiltins "bool" = some (.type "bool") := by decide +kernel
theorem boot_str' : bootBuiltins "str" = some (.type "str") := by decide +kernel
theorem boot_tuple' : bootBuiltins "tuple" = some (.type "tuple") := by decide +kernel
theorem boot_list' : bootBuiltins "list" = some (.type "list") := by decide +kernel
theorem boot_dict' : bootBuiltins "dict" = some (.type "dict") := by decide +kernel
/-! isinstance(x, T) -/
inductive Tn where
  | int | bool | str | tup | lst | dic
def Tn.nm : Tn → Str
  | .int => "int" | .bool => "bool" | .str => "str" | .tup => "tuple" | .lst => "list" | .dic => "dict"
def Tn.ty : Tn → String
  | .int => "int" | .bool => "bool" | .str => "str" | .tup => "tuple" | .lst => "list" | .dic => "dict"
def isi (d : D) (t : Tn) : Option Bool := match d, t with
  | .bl _, .int => some true
  | .int _, .int => some true
  | .bl _, .bool => some true
  | .str _, .str => some true
  | .tup _, .tup => some true
  | .lst _, .lst => some true
  | .con _, .lst => some true
  | .dic, .dic => some true
  | .obj _ _, _ => none
  | _, _ => some false
def tyN : D → String
  | .non => "NoneType" | .bl _ => "bool" | .int _ => "int" | .str _ => "str" | .tup _ => "tuple" | .lst _ => "list" | .con _ => "list" | .dic => "dict" | .obj _ _ => ""
theorem isi_kit {d : D} {t : Tn} {b : Bool} (h : isi d t = some b) : kitB (tyN d) t.ty = some b := by
  cases d <;> cases t <;> simp only [isi] at h <;> first
    | (cases h; done)
    | (cases h; simp only [tyN, Tn.ty]; decide +kernel)
theorem tyx_of {H : Hp} {μ : Mu} {d : D} {v : V} {t : Tn} {b : Bool} (h : RelD W H μ d v) (hi : isi d t = some b) : TyX W.K H v (.type (tyN d)) := by
  cases d with
  | non => simp only [RelD] at h; rw [h]; exact .base .non
  | bl b => simp only [RelD] at h; rw [h]; exact .base (.bl b)
  | int b => simp only [RelD] at h; rw [h]; exact .base (.int b)
  | str b => simp only [RelD] at h; rw [h]; exact .base (.str b)
  | tup ds =>
    simp only [RelD] at h
    obtain ⟨a, vs, rfl, q, _⟩ := h
    rcases q with (q | ⟨o, q⟩) | ⟨o, its, n, q1, q2, _⟩
    · exact .base (.tup q)
    · exact .fTuple q
    · exact .kTuple q1 q2
  | lst ds =>
    simp only [RelD] at h
    obtain ⟨a, vs, rfl, q, _⟩ := h
    exact .base (.lst q.2)
  | con ds =>
    simp only [RelD] at h
    obtain ⟨a, vs, rfl, q, _⟩ := h
    rcases q with q | ⟨o, q⟩ | ⟨o, its, n, q1, q2, _⟩
    · exact .base (.lst q.2)
    · exact .base (.frz q)
    · exact .kList q1 q2
  | dic =>
    simp only [RelD] at h
    obtain ⟨a, rfl, _, q⟩ := h
    exact .base (.dK q)
  | obj c fs => cases t <;> cases hi
def oIsi (t : Tn) : Val → Sto → Out Val := fun x S => match x with
  | .d d => (match isi d t with | some b => .ok (.d (.bl b)) S | none => .bad)
  | .r n => (match S[n]? with | some (.lst _) => .ok (.d (.bl (match t with | .lst => true | _ => false))) S | _ => .bad)
theorem de_isi {f : DEf} {p2 : Pos} (t : Tn) (hK : X.K = W.K) (hg : Gl X "isinstance") (hm : X.mg "isinstance" = none) (hg2 : Gl X t.nm) (hm2 : X.mg t.nm = none) (ha : DE W E X e f)
    (he : starEach [e, .Name t.nm p2] X.env = (false, eval e X.env) :: starEach [.Name t.nm p2] X.env := by rfl) (hpl : (backTo pos (starEach [.Name t.nm p2] X.env)).any (·.1) = false := by rfl) : DE W E X (.Call (.Name "isinstance" p) [e, .Name t.nm p2] [] pos) (dUn (oIsi t) f) := by
  have hv : bootBuiltins t.nm = some (.type t.ty) := by cases t <;> decide +kernel
  have hT : PE X (.Name t.nm p2) (tC (.ty t.ty)) := pe_bltn hg2 hm2 hv rfl (by cases t <;> decide) (by cases t <;> decide)
  refine (pe_callB call_isi hg hm boot_isinstance' (pa_cons ha (pa_cons hT pa_nil) he) (by decide) (by decide) he hpl).imp fun σ H Q ⟨env, S, μ, hE, hS, hp⟩ => ?_
  refine ⟨env, S, μ, hE, hS, hp.bind.imp fun x S1 H1 μ1 l1 s1 p1 v rv => ?_⟩
  unfold oIsi at p1
  rw [hK]
  split at p1
  · rename_i d
    split at p1
    · rename_i b e1
      exact ⟨v, _, _, _, b, rfl, .ty _, tyx_of rv e1, kit_ty (isi_kit e1), p1.at_ s1 _ (rel_bl _)⟩
    · exact p1.elim
  · rename_i n
    split at p1
    · rename_i ds e1
      obtain ⟨a, vs, rfl, _, h2, _⟩ := cell_rel s1 rv e1
      refine ⟨_, _, _, _, _, rfl, .ty _, .base (.lst h2), kit_ty ?_, p1.at_ s1 _ (rel_bl _)⟩
      cases t <;> decide +kernel
    · exact p1.elim
end

/-! ### defs -/
def spD (W : Wd) (n : Nat) (m : Opn) : Sp := fun vs H Q E => vs.length = n ∧ ∃ xs S μ, RelVs W H μ xs vs ∧ RelS W H μ S ∧ Post W E H μ (m xs S) (QV W Q)
/-- what comes back: the places behind the caller's go, but a new list -/
def dFin (S : Sto) (x : Val) (S' : Sto) : Out Val := match x with
  | .d d => .ok (.d d) (S'.take S.length)
  | .r n => if n < S.length then .ok (.r n) (S'.take S.length) else match S'[n]? with
    | some c => .ok (.r S.length) (S'.take S.length ++ [c])
    | none => .bad
def dFn (N : Nat) (body : DSf) : Opn := fun xs S => match body (xs.map some ++ List.replicate (N - xs.length) none) S with
  | .ok (.ret x) S' => dFin S x S'
  | .ok (.nx _) S' => .ok (.d .non) (S'.take S.length)
  | .exc x S' => .exc x (S'.take S.length)
  | _ => .bad
theorem start_rel {W : Wd} {H : Hp} {μ : Mu} {N : List Str} : ∀ {xs : List Val} {vs : List V}, RelVs W H μ xs vs → RelE W H μ (xs.map some ++ List.replicate (N.length - xs.length) none) (start N vs) := by
  have key : ∀ {xs : List Val} {vs : List V} {i : Nat} {x : Val}, RelVs W H μ xs vs → xs[i]? = some x → ∃ v, vs[i]? = some v ∧ RelV' W H μ x v := by
    intro xs
    induction xs with
    | nil => intro vs i x h e; simp at e
    | cons y ys ih =>
      intro vs i x h e
      simp only [RelVs] at h
      obtain ⟨v, r, rfl, h1, h2⟩ := h
      cases i with
      | zero => simp at e; subst e; exact ⟨v, by simp, h1⟩
      | succ i => simp at e; obtain ⟨u, q, z⟩ := ih h2 e; exact ⟨u, by simpa using q, z⟩
  intro xs vs h
  unfold L2.start
  rw [h.length]
  refine ⟨by simp [h.length], fun i x e => ?_⟩
  by_cases hi : i < vs.length
  · rw [List.getElem?_append_left (by simpa [h.length] using hi), List.getElem?_map] at e
    rw [List.getElem?_append_left (by simpa using hi), List.getElem?_map]
    cases q : xs[i]? with
    | none => rw [q] at e; cases e
    | some y =>
      rw [q] at e
      simp at e
      subst e
      obtain ⟨v, e2, r⟩ := key h q
      exact ⟨v, by rw [e2]; rfl, r⟩
  · rw [List.getElem?_append_right (by simp [h.length]; omega), List.getElem?_replicate] at e
    split at e <;> cases e
section
variable {W : Wd} {E : XK} {H : Hp} {μ : Mu} {S : Sto}
theorem post_fn {N : Nat} {body : DSf} {xs : List Val} {Q : VK} (hS : RelS W H μ S) (h : Post W E H μ (dFn N body xs S) (QV W Q)) :
    Post W E H μ (body (xs.map some ++ List.replicate (N - xs.length) none) S) (QS W { nx := fun _ H' => Q .non H', rt := Q }) := by
  unfold dFn at h
  generalize body (xs.map some ++ List.replicate (N - xs.length) none) S = r at h ⊢
  have n0 := hS.len
  have tk : ∀ {S' : Sto} {H' : Hp} {μ' : Mu}, Le H μ H' μ' → RelS W H' μ' S' → Le H μ H' (μ'.take μ.length) ∧ RelS W H' (μ'.take μ.length) (S'.take S.length) := fun l s => ⟨l.take, by rw [n0]; exact s.take _⟩
  cases r with
  | bad => exact h
  | exc x S' =>
    intro H' μ' u dd l s rx
    obtain ⟨l2, s2⟩ := tk l s
    obtain ⟨q1, d, gs, q2, q3, q4, q5⟩ := rx
    have sub : ∀ a, outM μ' a → outM (μ'.take μ.length) a := fun a z => z.take _
    exact h H' _ u dd l2 s2 ⟨q1, d, gs, q2, sub _ q3, q4, RelFs.sub sub _ _ q5⟩
  | ok fl S' =>
    intro H' μ' l s
    obtain ⟨l2, s2⟩ := tk l s
    cases fl with
    | nx env => exact fun σ _ => h H' _ l2 s2 _ rel_non
    | brk env => exact h.elim
    | cnt env => exact h.elim
    | ret x =>
      intro v rv
      cases x with
      | d d => exact h H' _ l2 s2 v (RelD.sub (fun _ z => z.take _) d v rv)
      | r n =>
        unfold dFin at h
        dsimp only at h
        split at h
        · rename_i hn
          refine h H' _ l2 s2 v ?_
          have e : (μ'.take μ.length)[n]? = μ'[n]? := by rw [List.getElem?_take, if_pos (n0 ▸ hn)]
          simp only [RelV', e]
          exact rv
        · rename_i hn
          split at h
          · rename_i c e
            have hl : n < μ'.length := by rw [← s.len]; exact (List.getElem?_eq_some_iff.mp e).1
            have eo := List.getElem?_eq_getElem hl
            refine h H' (μ'.take μ.length ++ [μ'[n]]) (l.comp eo) ?_ v ?_
            · rw [n0]
              exact s.comp (by omega) eo e
            · have l1 : (μ'.take μ.length).length = S.length := by rw [List.length_take, n0]; have := l.len; omega
              simp only [RelV'] at rv ⊢
              rw [List.getElem?_append_right (by omega), l1]
              simp only [Nat.sub_self, List.getElem?_cons_zero]
              rw [eo] at rv
              exact rv
          · exact h.elim
end
/-! ### a def's promise where no repr runs (so that one may) -/
structure FnG (P : Program) (w : World) (K : PySem.W.Frag) (mg : Str → Option Value) (base : Heap) (k : Nat) (f : Addr) (fd : FuncData) (ps : List Str) (sp : Sp) : Prop where
  len : ∀ vs H Q E, sp vs H Q E → vs.length = ps.length
  run : ∀ (A : Around) (outer : List PySem.Env) (s : Shared) (H : Hp) (args : Args) (us : List Value) (vs : List V) (Q : VK) (E : XK), Room k A → A.guards = some [] → Env0 P w K mg base A outer s H →
    BindsTo s fd args (ps.zip us) → Vals vs us → sp vs H Q E → codeAny (model P w) A (.call (.ref f) args) (CR CX0 outer P w H s Q E) s
theorem FnG.mono {P : Program} {w : World} {K : PySem.W.Frag} {mg : Str → Option Value} {base : Heap} {j k : Nat} {f : Addr} {fd : FuncData} {ps : List Str} {sp : Sp} (F : FnG P w K mg base j f fd ps sp) (h : j ≤ k) : FnG P w K mg base k f fd ps sp :=
  ⟨F.len, fun A outer s H args us vs Q E hr => F.run A outer s H args us vs Q E (hr.mono h)⟩
/-- by its body -/
theorem fnG_of {P : Program} {w : World} {K : PySem.W.Frag} {mg : Str → Option Value} {base : Heap} {k : Nat} {f : Addr} {name qual : Str} {params : Arguments} {body : List Stmt} {scope : Scope} {dV kV doc pm cdv ct oc : Value} {an od : Option Addr}
    {osl : Array (Option Value)} {N ps : List Str} {sp : Sp} (lk : K.lookup f = some ⟨oc, od, .func (PySem.W.fnOf name qual params body scope dV kV doc pm an cdv ct), osl⟩) (hcd : PySem.W.codeIn K cdv qual = true) (S : FnScope N ps scope)
    (hl : ∀ vs H Q E, sp vs H Q E → vs.length = ps.length)
    (hb : ∀ (A : Around) (outer : List PySem.Env) (s : Shared) (H : Hp) (vs : List V) (Q : VK) (E : XK), Room k (A.deeper (envOfC qual scope s.heap.objs.size f cdv)) → A.guards = some [] → sp vs H Q E →
      ∃ t, PSs (cxOf CX0 P w K mg base N qual scope f cdv A outer s H E) body t ∧ t { nx := fun _ H' => Q .non H', rt := Q } (L2.start N vs) H) :
    FnG P w K mg base (k + 1) f (PySem.W.fnOf name qual params body scope dV kV doc pm an cdv ct) ps sp where
  len := hl
  run := by
    intro A outer s0 H0 args us vs Q E room hg en bd rel promise
    have there : K.In s0.heap := en.mod.kin.keeps fun b o q => (en.bs b o q).1
    have nolim : s0.heap.NoLimit := en.mod.nolimit.keeps fun b o q => (en.bs b o q).1
    obtain ⟨t, body_t, at_start⟩ := hb A outer s0 H0 vs Q E (room.deeper _) hg promise
    refine codeAny_call_function room.depth (there _ _ lk) rfl S.co S.gen rfl (PySem.W.codeRec_of there hcd) (bd _ _ _ _ ?_)
    refine wpAny_newFunctionEnv_cells S.kind (fun y hy => ?_) fun env he s1 inC => ?_
    · obtain ⟨n, u⟩ := y
      exact (S.par n (List.of_mem_zip hy).1).imp id fun c => ⟨c, PySem.W.cellsFrom_some _ _ _ (.inl c)⟩
    · subst he
      have I1 := inv_start (CX := CX0) (P := P) (w := w) (E := E) S room.hd en (hl _ _ _ _ promise) rel inC
      refine ⟨nolim.keeps inC.toInCall.keep, codeAny_func (wpAny_mono (body_t.run [] s1 _ H0 _ I1 at_start) ?_ fun _ _ z => z)⟩
      intro fl s2 hs
      cases fl with
      | brk => obtain ⟨_, _, _, z⟩ := hs; exact z.elim
      | cont => obtain ⟨_, _, _, z⟩ := hs; exact z.elim
      | next => obtain ⟨_, H2, I2, z⟩ := hs; exact ⟨.non, H2, I2.os, I2.bare, I2.base, I2.hok, rfl, z⟩
      | ret u => obtain ⟨v, _, H2, I2, rv, z⟩ := hs; exact ⟨v, H2, I2.os, I2.bare, I2.base, I2.hok, rv, z⟩
section
variable {P : Program} {w : World} {K : PySem.W.Frag} {mg : Str → Option Value} {base : Heap} {x qual : Str} {params : Arguments} {body : List Stmt} {scope : Scope} {kws : List (Str × V)} {q : Str × Option Str} {fd : FuncData}
/-- a def keeps what its body's function says -/
theorem fn_D {W : Wd} {N ps : List Str} {k : Nat} {f : DSf} (F : FunD K x qual params body scope [] kws (He.fAd K q) fd) (S : FnScope N ps scope)
    (hb : ∀ (A : Around) (outer : List PySem.Env) (s : Shared) (H : Hp) (E : XK), Room k (A.deeper (envOfC qual scope s.heap.objs.size (He.fAd K q) (.ref (He.codeOf K q)))) → A.guards = some [] →
      DSs W E (cxOf CX0 P w K mg base N qual scope (He.fAd K q) (.ref (He.codeOf K q)) A outer s H E).nox body f) : FnG P w K mg base (k + 1) (He.fAd K q) fd ps (spD W ps.length (dFn N.length f)) := by
  obtain ⟨oc, od, dV, kV, doc, pm, an, cdv, ct, osl, rfl, lk, hcd, _, _⟩ := F.ex
  obtain ⟨c, rfl⟩ := He.codeIn_ref hcd
  have hc : He.codeOf K q = c := He.codeOf_eq lk rfl
  rw [hc] at hb
  refine fnG_of lk hcd S (fun vs H Q E h => h.1) fun A outer s H vs Q E hr hg ⟨hl, xs, S0, μ, hv, hS, hp⟩ => ⟨_, (hb A outer s H E hr hg).nox, ?_⟩
  exact ⟨_, S0, μ, start_rel (N := N) hv, hS, post_fn hS hp⟩
/-- a def as its callers take it; ks, g: how keywords are put -/
structure Callee (P : Program) (w : World) (K : PySem.W.Frag) (mg : Str → Option Value) (base : Heap) (W : Wd) (k : Nat) (x : Str) (n : Nat) (m : Opn) : Prop where
  ex : ∃ (fd : FuncData) (ps : List Str), ps.length = n ∧ FnG P w K mg base k (He.fAd K (x, none)) fd ps (spD W n m) ∧ (∀ (s : Shared) (us : List Value), us.length = n → BindsTo s fd ⟨us, []⟩ (ps.zip us)) ∧ PySem.W.keepIn K (.ref (He.fAd K (x, none))) = true
  glo : mg x = some (.ref (He.fAd K (x, none)))
/-- the same called with keywords ks behind j positional values; pr: the places in the parameters' order of all that is given -/
def permL {α : Type} (pr : List Nat) (xs : List α) : List α := pr.filterMap fun i => xs[i]?
structure CalleeK (P : Program) (w : World) (K : PySem.W.Frag) (mg : Str → Option Value) (base : Heap) (W : Wd) (k : Nat) (x : Str) (n j : Nat) (ks : List Str) (pr : List Nat) (m : Opn) : Prop where
  ex : ∃ (fd : FuncData) (ps : List Str), ps.length = n ∧ FnG P w K mg base k (He.fAd K (x, none)) fd ps (spD W n m) ∧
    (∀ (s : Shared) (us ws : List Value), us.length = j → ws.length = ks.length → BindsTo s fd ⟨us, ks.zip ws⟩ (ps.zip (permL pr (us ++ ws)))) ∧ PySem.W.keepIn K (.ref (He.fAd K (x, none))) = true
  glo : mg x = some (.ref (He.fAd K (x, none)))
theorem Callee.mono {W : Wd} {j k n : Nat} {m : Opn} (C : Callee P w K mg base W j x n m) (h : j ≤ k) : Callee P w K mg base W k x n m := by
  obtain ⟨⟨fd, ps, h1, h2, h3, h4⟩, g⟩ := C
  exact ⟨⟨fd, ps, h1, h2.mono h, h3, h4⟩, g⟩
theorem CalleeK.mono {W : Wd} {i k n j : Nat} {ks : List Str} {pr : List Nat} {m : Opn} (C : CalleeK P w K mg base W i x n j ks pr m) (h : i ≤ k) : CalleeK P w K mg base W k x n j ks pr m := by
  obtain ⟨⟨fd, ps, h1, h2, h3, h4⟩, g⟩ := C
  exact ⟨⟨fd, ps, h1, h2.mono h, h3, h4⟩, g⟩
def dCallN (n : Nat) (m : Opn) (As : DAf) : DEf := fun env S => (As env S).bind fun xs S1 => if xs.length = n then m xs S1 else .bad
/-- the callee runs, within a body -/
theorem runG {X : Cx} {k : Nat} {f : Addr} {ps : List Str} {sp : Sp} {E : XK} {args : Args} {pins : List (Addr × Obj)} {σ : L2.St} {H : Hp} {s : Shared} {Q : VK} {us : List Value} {vs : List V} (F : FnG X.prog X.w X.K X.mg X.base k f fd ps sp) (hr : Room k X.A) (hG : X.A.guards = some [])
    (hb : BindsTo s fd args (ps.zip us)) (I : Inv X pins σ H s) (r : Vals vs us) (h : sp vs H Q E) {first : List Value} {kw : List (Str × Value)} (ha : args = ⟨first, kw⟩) : wpAny (model X.prog X.w) X.A (call (.ref f) first kw) (EP X pins σ Q) X.xe s := by
  subst ha
  refine wpAny_call (codeAny_mono (F.run X.A X.stack s H _ us vs Q E hr hG I.env0 hb r h) fun res s' hq => ?_)
  match res, hq with
  | .error _, hq => exact hq.elim
  | .ok (.ret u), hq => exact I.after hq
  | .ok .next, hq => exact hq.elim
  | .ok .brk, hq => exact hq.elim
  | .ok .cont, hq => exact hq.elim
theorem de_call {W : Wd} {E : XK} {X : Cx} {k n : Nat} {m : Opn} {p pos : Pos} {e : Expr} {es : List Expr} {As : DAf} (C : Callee X.prog X.w X.K X.mg X.base W k x n m) (hr : Room k X.A) (hG : X.A.guards = some []) (hg : Gl X x) (ha : DA W E X (e :: es) As)
    (hdb : (x == ("__debug__" : Str)) = false := by decide) (he : starEach (e :: es) X.env = (false, eval e X.env) :: starEach es X.env := by rfl) (hpl : (backTo pos (starEach es X.env)).any (·.1) = false := by rfl) :
    DE W E X (.Call (.Name x p) (e :: es) [] pos) (dCallN n m As) := by
  obtain ⟨⟨fd, ps, h1, h2, h3, h4⟩, g⟩ := C
  refine ⟨fun pins s σ H Q I ⟨env, S, μ, hE, hS, hp⟩ => wpAny_Call_Name_kw (ld_glob I hg g ?_ hdb)⟩
  refine PySem.W.callWith_K (h₀ := X.base) I.ok.mod.kin h4 (thn (ha.run pos pins s σ H (fun vs H1 => spD W n m vs H1 Q E) I ⟨env, S, μ, hE, hS, hp.bind.imp fun xs S1 H1 μ1 l1 s1 p1 vs rvs => ?_⟩) fun us s1 ⟨vs, H1, I1, r, q⟩ => ⟨I1.kIn, ?_⟩) he hpl
  · split at p1
    · rename_i hn
      exact ⟨by rw [← rvs.length]; exact hn, xs, S1, μ1, rvs, s1, p1⟩
    · exact p1.elim
  · exact runG h2 hr hG (h3 s1 us (by rw [← r.length]; exact q.1)) I1 r q rfl
theorem de_call0 {W : Wd} {E : XK} {X : Cx} {k : Nat} {m : Opn} {p pos : Pos} (C : Callee X.prog X.w X.K X.mg X.base W k x 0 m) (hr : Room k X.A) (hG : X.A.guards = some []) (hg : Gl X x)
    (hdb : (x == ("__debug__" : Str)) = false := by decide) : DE W E X (.Call (.Name x p) [] [] pos) (dCallN 0 m dNil) := by
  obtain ⟨⟨fd, ps, h1, h2, h3, h4⟩, g⟩ := C
  refine ⟨fun pins s σ H Q I ⟨env, S, μ, hE, hS, hp⟩ => wpAny_Call_Name_kw (ld_glob I hg g ?_ hdb)⟩
  exact PySem.W.callWith_K0 I.kIn h4 (runG (us := []) (vs := []) h2 hr hG (h3 s [] rfl) I .nil (show spD W 0 m [] H Q E from ⟨rfl, [], S, μ, rfl, hS, hp⟩) rfl)
/-! keywords -/
abbrev DK (W : Wd) (E : XK) (X : Cx) (kws : List Keyword) (f : DAf) : Prop := PK X kws (tA W E f)
theorem _root_.L2.PK.imp {X : Cx} {e : List Keyword} {t t' : TA} (h : PK X e t) (hi : ∀ σ H Q, t' σ H Q → t σ H Q) : PK X e t' := ⟨fun pos pins s σ H Q I q => h.run pos pins s σ H Q I (hi σ H Q q)⟩
theorem dk_nil {W : Wd} {E : XK} {X : Cx} : DK W E X [] dNil := pk_nil.imp fun σ H Q ⟨env, S, μ, hE, hS, hp⟩ => hp.at_ hS [] rfl
theorem dk_cons {W : Wd} {E : XK} {X : Cx} {nm : Option Str} {e : Expr} {kpos : Pos} {kws : List Keyword} {F : DEf} {As : DAf} (ha : DE W E X e F) (hr : DK W E X kws As) : DK W E X (⟨nm, e, kpos⟩ :: kws) (dCons F As) :=
  (pk_cons ha hr).imp fun σ H Q ⟨env, S, μ, hE, hS, hp⟩ => by
    refine ⟨env, S, μ, hE, hS, hp.bind.imp fun x S1 H1 μ1 l1 s1 p1 v rv => ?_⟩
    refine ⟨env, S1, μ1, hE.mono l1 hS.is, s1, p1.bind.imp fun xs S2 H2 μ2 l2 s2 p2 vs rvs => ?_⟩
    exact p2.at_ s2 _ ⟨v, vs, rfl, rv.mono l2 s1.is, rvs⟩
theorem RelVs.get {W : Wd} {H : Hp} {μ : Mu} : ∀ {xs : List Val} {vs : List V} {i : Nat}, RelVs W H μ xs vs → (xs[i]? = none ∧ vs[i]? = none) ∨ ∃ x v, xs[i]? = some x ∧ vs[i]? = some v ∧ RelV' W H μ x v
  | [], vs, i, h => by simp only [RelVs] at h; subst h; exact .inl ⟨by simp, by simp⟩
  | x :: xs, vs, i, h => by
    simp only [RelVs] at h
    obtain ⟨v, r, rfl, h1, h2⟩ := h
    cases i with
    | zero => exact .inr ⟨x, v, rfl, rfl, h1⟩
    | succ i => simpa using RelVs.get (i := i) h2
theorem RelVs.perm {W : Wd} {H : Hp} {μ : Mu} {xs : List Val} {vs : List V} (h : RelVs W H μ xs vs) : ∀ pr : List Nat, RelVs W H μ (permL pr xs) (permL pr vs)
  | [] => by simp [permL, RelVs]
  | i :: pr => by
    have ih := RelVs.perm h pr
    unfold permL at ih ⊢
    rcases h.get (i := i) with ⟨e1, e2⟩ | ⟨x, v, e1, e2, r⟩
    · simp only [List.filterMap_cons, e1, e2]; exact ih
    · simp only [List.filterMap_cons, e1, e2, RelVs]; exact ⟨v, _, rfl, r, ih⟩
theorem RelVs.append {W : Wd} {H : Hp} {μ : Mu} : ∀ {xs ys : List Val} {vs ws : List V}, RelVs W H μ xs vs → RelVs W H μ ys ws → RelVs W H μ (xs ++ ys) (vs ++ ws)
  | [], ys, vs, ws, h, h' => by simp only [RelVs] at h; subst h; simpa using h'
  | x :: xs, ys, vs, ws, h, h' => by
    simp only [RelVs] at h
    obtain ⟨v, r, rfl, h1, h2⟩ := h
    simp only [List.cons_append, RelVs]
    exact ⟨v, r ++ ws, rfl, h1, RelVs.append h2 h'⟩
theorem Vals.get2 : ∀ {vs : List V} {us : List Value} {i : Nat}, Vals vs us → (vs[i]? = none ∧ us[i]? = none) ∨ ∃ v u, vs[i]? = some v ∧ us[i]? = some u ∧ RelV v u
  | [], us, i, h => by cases h; exact .inl ⟨by simp, by simp⟩
  | v :: vs, us, i, h => by
    cases h with
    | cons r h2 =>
      cases i with
      | zero => exact .inr ⟨v, _, rfl, rfl, r⟩
      | succ i => simpa using Vals.get2 (i := i) h2
theorem vals_perm {vs : List V} {us : List Value} (h : Vals vs us) : ∀ pr : List Nat, Vals (permL pr vs) (permL pr us)
  | [] => .nil
  | i :: pr => by
    have ih := vals_perm h pr
    unfold permL at ih ⊢
    rcases Vals.get2 (i := i) h with ⟨e1, e2⟩ | ⟨v, u, e1, e2, r⟩
    · simp only [List.filterMap_cons, e1, e2]; exact ih
    · simp only [List.filterMap_cons, e1, e2]; exact .cons r ih
def dCallK (n j l : Nat) (pr : List Nat) (m : Opn) (As Ks : DAf) : DEf := fun env S => (As env S).bind fun xs S1 => (Ks env S1).bind fun ys S2 => if xs.length = j ∧ ys.length = l ∧ (permL pr (xs ++ ys)).length = n then m (permL pr (xs ++ ys)) S2 else .bad
theorem tkw {W : Wd} {E : XK} {n j l : Nat} {pr : List Nat} {m : Opn} {As Ks : DAf} {σ : L2.St} {H : Hp} {Q : VK} (h : tE W E (dCallK n j l pr m As Ks) σ H Q) : tA W E As σ H fun vs H1 => tA W E Ks σ H1 fun zs H2 => vs.length = j ∧ zs.length = l ∧ spD W n m (permL pr (vs ++ zs)) H2 Q E := by
  obtain ⟨env, S, μ, hE, hS, hp⟩ := h
  refine ⟨env, S, μ, hE, hS, hp.bind.imp fun xs S1 H1 μ1 l1 s1 p1 vs rvs => ?_⟩
  refine ⟨env, S1, μ1, hE.mono l1 hS.is, s1, p1.bind.imp fun ys S2 H2 μ2 l2 s2 p2 zs rzs => ?_⟩
  split at p2
  · rename_i c
    have r := ((rvs.mono l2 s1.is).append rzs).perm pr
    exact ⟨by rw [← rvs.length]; exact c.1, by rw [← rzs.length]; exact c.2.1, by rw [← r.length]; exact c.2.2, _, S2, μ2, r, s2, p2⟩
  · exact p2.elim
theorem de_callK {W : Wd} {E : XK} {X : Cx} {k n j l : Nat} {m : Opn} {p pos : Pos} {e : Expr} {es : List Expr} {kws : List Keyword} {ks : List Str} {pr : List Nat} {As Ks : DAf} (C : CalleeK X.prog X.w X.K X.mg X.base W k x n j ks pr m) (hr : Room k X.A) (hG : X.A.guards = some []) (hg : Gl X x)
    (ha : DA W E X (e :: es) As) (hkw : DK W E X kws Ks) (hall : (backToKw pos (keywordEach kws X.env)).all (·.1.isSome) = true := by rfl) (hks : (backToKw pos (keywordEach kws X.env)).filterMap (·.1) = ks := by rfl) (hl : ks.length = l := by rfl)
    (hdb : (x == ("__debug__" : Str)) = false := by decide) (he : starEach (e :: es) X.env = (false, eval e X.env) :: starEach es X.env := by rfl)
    (hpl : ((backTo pos (starEach (e :: es) X.env)).any (·.1) || (backToKw pos (keywordEach kws X.env)).any (·.1.isNone)) = false := by rfl) : DE W E X (.Call (.Name x p) (e :: es) kws pos) (dCallK n j l pr m As Ks) := by
  subst hl
  obtain ⟨⟨fd, ps, h1, h2, h3, h4⟩, g⟩ := C
  refine ⟨fun pins s σ H Q I h => wpAny_Call_Name_kw (ld_glob I hg g ?_ hdb)⟩
  refine PySem.W.callWith_KW (h₀ := X.base) I.ok.mod.kin h4 hall (thn (ha.run pos pins s σ H _ I (tkw h)) fun us s1 ⟨vs, H1, I1, r, q⟩ => ?_) hpl he
  refine thn (hkw.run pos pins s1 σ H1 _ I1 q) fun ws s2 ⟨zs, H2, I2, rz, l1, l2, q2⟩ => ⟨I2.kIn, ?_⟩
  rw [hks]
  exact runG h2 hr hG (h3 s2 us ws (by rw [← r.length]; exact l1) (by rw [← rz.length]; exact l2)) I2 (vals_perm (r.append rz) pr) q2 rfl
theorem de_callK0 {W : Wd} {E : XK} {X : Cx} {k n l : Nat} {m : Opn} {p pos : Pos} {kws : List Keyword} {ks : List Str} {pr : List Nat} {Ks : DAf} (C : CalleeK X.prog X.w X.K X.mg X.base W k x n 0 ks pr m) (hr : Room k X.A) (hG : X.A.guards = some []) (hg : Gl X x)
    (hkw : DK W E X kws Ks) (hall : (backToKw pos (keywordEach kws X.env)).all (·.1.isSome) = true := by rfl) (hks : (backToKw pos (keywordEach kws X.env)).filterMap (·.1) = ks := by rfl) (hl : ks.length = l := by rfl)
    (hdb : (x == ("__debug__" : Str)) = false := by decide)
    (hpl : ((backTo pos (starEach [] X.env)).any (·.1) || (backToKw pos (keywordEach kws X.env)).any (·.1.isNone)) = false := by rfl) : DE W E X (.Call (.Name x p) [] kws pos) (dCallK n 0 l pr m dNil Ks) := by
  subst hl
  obtain ⟨⟨fd, ps, h1, h2, h3, h4⟩, g⟩ := C
  refine ⟨fun pins s σ H Q I h => wpAny_Call_Name_kw (ld_glob I hg g ?_ hdb)⟩
  have h' := tkw h
  refine PySem.W.callWith_KW0 (h₀ := X.base) (first := []) I.ok.mod.kin h4 hall ?_ hpl
  obtain ⟨env, S, μ, hE, hS, hp⟩ := h'
  have q := hp.at_ hS [] rfl
  refine thn (hkw.run pos pins s σ H _ I q) fun ws s2 ⟨zs, H2, I2, rz, l1, l2, q2⟩ => ⟨I2.kIn, ?_⟩
  rw [hks]
  exact runG h2 hr hG (h3 s2 [] ws rfl (by rw [← rz.length]; exact l2)) I2 (vals_perm (show Vals ([] ++ zs) ([] ++ ws) from by simpa using rz) pr) q2 rfl
/-- made from the head's facts -/
theorem callee_of {W : Wd} {ps : List Str} {k : Nat} {m : Opn} {dflt : List (Str × V)} (F : FunD K x x params body scope [] dflt (He.fAd K (x, none)) fd) (h : FnG P w K mg base k (He.fAd K (x, none)) fd ps (spD W ps.length m)) (g : mg x = some (.ref (He.fAd K (x, none))))
    (hb : ∀ (kV doc pm : Value) (an : Option Addr) (cdv ct : Value) (us : List Value), us.length = ps.length → bindArgs (PySem.W.fnOf x x params body scope .none kV doc pm an cdv ct) ⟨us, []⟩ = pure (ps.zip us)) : Callee P w K mg base W k x ps.length m :=
  ⟨⟨fd, ps, rfl, h, fun s us hl => F.bindsA (ps := ps) hb s us hl, F.kp⟩, g⟩
theorem calleeK_of {W : Wd} {ps : List Str} {k j : Nat} {m : Opn} {ks : List Str} {pr : List Nat} {dflt : List (Str × V)} (F : FunD K x x params body scope [] dflt (He.fAd K (x, none)) fd) (h : FnG P w K mg base k (He.fAd K (x, none)) fd ps (spD W ps.length m)) (g : mg x = some (.ref (He.fAd K (x, none))))
    (hb : ∀ (kV doc pm : Value) (an : Option Addr) (cdv ct : Value) (us ws : List Value), us.length = j → ws.length = ks.length → bindArgs (PySem.W.fnOf x x params body scope .none kV doc pm an cdv ct) ⟨us, ks.zip ws⟩ = pure (ps.zip (permL pr (us ++ ws)))) : CalleeK P w K mg base W k x ps.length j ks pr m := by
  refine ⟨⟨fd, ps, rfl, h, fun s us ws h1 h2 => ?_, F.kp⟩, g⟩
  obtain ⟨oc, od, dV, kV, doc, pm, an, cdv, ct, osl, rfl, lk, hcd, hD, hK⟩ := F.ex
  rcases hD with ⟨_, rfl⟩ | ⟨e, _⟩
  · exact .of_eq (hb kV doc pm an cdv ct us ws h1 h2)
  · exact absurd rfl e
end
/-! ### {} -/
section
variable {W : Wd} {E : XK} {X : Cx} {pos : Pos}
theorem de_dic : DE W E X (.Dict [] [] pos) (dC .dic) := pe_dnewK.imp fun σ H Q ⟨env, S, μ, hE, hS, hp⟩ => fun p hp0 => by
  refine hp _ _ (Le.new hp0) (hS.new hp0) _ ?_
  simp only [RelV', RelD]
  exact ⟨p, rfl, outM.new hS.is hp0, upd_same⟩
/-! ### repr -/
def bRepr : Val → Sto → Out Val := fun x S => match pyV x S with
  | some p => if p.showable = true ∧ p.hasDict = false ∧ p.depth ≤ 30 ∧ p.shown.length ≤ szL then .ok (.d (.str p.shown)) S else .bad
  | none => .bad
def rReprA (K : PySem.W.Frag) : List V → Hp → VK → Prop := fun vs H Q => ∃ v p, vs = [v] ∧ Dp K H v p ∧ p.showable = true ∧ p.hasDict = false ∧ p.depth ≤ 30 ∧ p.shown.length ≤ szL ∧ Q (.str p.shown) H
theorem call_reprA (hG : X.A.guards = some []) (hu : X.A.units + 64 < cLine) : CallR X (.builtin "repr") (rReprA X.K) := by
  intro pins s σ H xs us Q I r h
  obtain ⟨v, p, rfl, hd, h1, h2, h3, h4, q⟩ := h
  obtain ⟨u, rfl, ru⟩ := vals1 r
  have fin : ∀ (h' : Heap) (t : Tok) (tk : Nat), (∀ b o, s.heap.get? b = some o → h'.get? b = some o) → EP X pins σ Q (.str p.shown t) { s with heap := h', toks := tk } := fun h' t tk k => ⟨.str p.shown, H, I.kept k, ⟨_, rfl⟩, q⟩
  have hz : p.shown.length ≤ sizeLine := by rw [szL_eq]; exact h4
  obtain ⟨as, rd⟩ := Dp.reads I p v u hd ru
  cases hd with
  | non => cases ru; exact PySem.P.repr_of_none (fin s.heap _ _ fun _ _ e => e)
  | bl b => cases ru; exact PySem.P.repr_of_bool (fin s.heap _ _ fun _ _ e => e)
  | int i =>
    obtain ⟨t, rfl⟩ := ru
    simp only [PyData.showable, decide_eq_true_eq] at h1
    exact PySem.P.repr_of_int h1 (fin s.heap _ _ fun _ _ e => e)
  | str z =>
    obtain ⟨t, rfl⟩ := ru
    exact PySem.P.repr_of_str (fin s.heap _ _ fun _ _ e => e) hz
  | lst hs ha =>
    cases ru
    exact repr_of_reads' rd h1 (fun z => absurd (h2.symm.trans z) Bool.false_ne_true) hG (by omega) (fun _ _ e => e) (fun h' t tk k => fin h' t tk k) hz
  | tup hs ha =>
    cases ru
    exact repr_of_reads' rd h1 (fun z => absurd (h2.symm.trans z) Bool.false_ne_true) hG (by omega) (fun _ _ e => e) (fun h' t tk k => fin h' t tk k) hz
theorem dc_repr : DCall W E (rReprA W.K) (o1 bRepr) := dcall1 fun x S H μ v Q s rv p => by
  unfold bRepr at p
  split at p
  · rename_i d e
    split at p
    · rename_i c
      exact ⟨v, d, rfl, pyV_rel s rv e, c.1, c.2.1, c.2.2.1, c.2.2.2, p.at_ s _ (rel_str _)⟩
    · exact p.elim
  · exact p.elim
theorem boot_repr' : bootBuiltins "repr" = some (.builtin "repr") := by decide +kernel
end
end Dn
set_option Elab.async false
set_option linter.all false
set_option maxRecDepth 100000
set_option maxHeartbeats 4000000
/-! ### t[::-1] of a tuple or a list -/
namespace Dn
open PySem PySem.Spec PyProof.Rows L2 GxR HT
section
variable {prog : Program} {w : World} {A : Around} {E : Value → Shared → Prop} {s : Shared}
theorem back_pick (xs : Array Value) : ((List.range xs.size).filterMap fun (k : Nat) => xs[(((xs.size : Int) - 1) + (k : Int) * (-1)).toNat]?).toArray = xs.toList.reverse.toArray := by
  congr 1
  refine List.ext_getElem? fun i => ?_
  have key : ∀ k ∈ List.range xs.size, xs[(((xs.size : Int) - 1) + (k : Int) * (-1)).toNat]? = some (xs.toList.reverse.getD k .none) := fun k hk => by
    have hk' : k < xs.size := List.mem_range.mp hk
    have e : (((xs.size : Int) - 1) + (k : Int) * (-1)).toNat = xs.size - 1 - k := by omega
    rw [e, List.getD_eq_getElem?_getD, List.getElem?_reverse (by simpa using hk')]
    have hl : xs.size - 1 - k < xs.size := by omega
    simp [hl]
  have e2 : (List.range xs.size).filterMap (fun (k : Nat) => xs[(((xs.size : Int) - 1) + (k : Int) * (-1)).toNat]?) = (List.range xs.size).map fun k => xs.toList.reverse.getD k .none := by
    have : ∀ l : List Nat, (∀ k ∈ l, xs[(((xs.size : Int) - 1) + (k : Int) * (-1)).toNat]? = some (xs.toList.reverse.getD k .none)) → l.filterMap (fun (k : Nat) => xs[(((xs.size : Int) - 1) + (k : Int) * (-1)).toNat]?) = l.map fun k => xs.toList.reverse.getD k .none := by
      intro l
      induction l with
      | nil => intro _; rfl
      | cons a r ih => intro h; rw [List.filterMap_cons, h a List.mem_cons_self, List.map_cons, ih fun k hk => h k (List.mem_cons_of_mem _ hk)]
    exact this _ key
  rw [e2]
  by_cases hi : i < xs.size
  · rw [List.getElem?_map, List.getElem?_range hi]
    have hl : i < xs.toList.reverse.length := by simpa using hi
    simp only [Option.map_some, List.getD_eq_getElem?_getD, List.getElem?_eq_getElem hl, Option.getD_some]
  · rw [List.getElem?_eq_none (by simp; omega), List.getElem?_eq_none (by simp; omega)]
theorem slice_back {sl : Addr} {vl vu vs : Value} {n : Nat} {Q : Int × Int × Nat → Shared → Prop} (hs : s.heap.IsSliceOf sl vl vu vs) (pl : IsPart vl none) (pu : IsPart vu none) (ps : IsPart vs (some (-1)))
    (h : Q ((n : Int) - 1, -1, n) s) : wpAny (model prog w) A (Builtin.Slice.sliceApplied (.ref sl) (pure (n : Int))) Q E s := by
  obtain ⟨o, ho, hc, hd⟩ := id hs
  cases pl
  cases pu
  cases ps with
  | int i t =>
    unfold Builtin.Slice.sliceApplied Builtin.Slice.sliceFields
    refine wpAny_bind (wpAny_bind (wpAny_field ho hd (x := .none) rfl (wpAny_bind (wpAny_field ho hd (x := .none) rfl (wpAny_bind (wpAny_field ho hd (x := .int (-1) t) rfl (wpAny_pure ?_)))))))
    refine wpAny_bind (slicePart_int ?_)
    show wpAny _ _ (if ((-1 : Int) == 0) = true then _ else _) _ _ s
    rw [if_neg (by decide)]
    refine wpAny_bind (slicePart_none (wpAny_bind (slicePart_none (wpAny_bind (wpAny_pure ?_)))))
    have e : Builtin.Slice.slicePlaces ((n : Int) - 1) (-1) (-1) = n := by
      unfold Builtin.Slice.slicePlaces
      rw [if_neg (by decide)]
      by_cases hn : n = 0
      · subst hn; decide
      · rw [if_pos (by omega)]
        have : ((n : Int) - 1 - -1 - 1) / (- -1) + 1 = n := by
          have e2 : (- -1 : Int) = 1 := by decide
          rw [e2, Int.ediv_one]
          omega
        rw [this]
        omega
    show wpAny _ _ (pure ((n : Int) - 1, (-1 : Int), Builtin.Slice.slicePlaces ((n : Int) - 1) (-1) (-1))) _ _ s
    rw [e]
    exact wpAny_pure h
theorem getItem_tuple_back {t sl : Addr} {items : Array Value} {vl vu vs : Value} {Q : Value → Shared → Prop} (ht : IsTup s.heap t items) (hs : s.heap.IsSliceOf sl vl vu vs) (pl : IsPart vl none) (pu : IsPart vu none) (ps : IsPart vs (some (-1)))
    (h : Q (.ref s.heap.objs.size) { s with heap := s.heap.push { cls := .type "tuple", data := .seq items.toList.reverse.toArray } }) (hsz : items.size ≤ sizeLine) : wpAny (model prog w) A (getItem (.ref t) (.ref sl)) Q E s := by
  have hz : sizeOk (.seq items.toList.reverse.toArray) := by
    show items.toList.reverse.toArray.size ≤ sizeLine
    simpa using hsz
  obtain ⟨o, ho, hc, hd⟩ := id hs
  have hT : s.TypeIs (.ref sl) "slice" := ⟨o, ho, hc⟩
  unfold getItem
  try with_reducible refine wpAny_holding ?_
  first | refine wpAny_bind (wpAny_pure ?_) | skip
  refine wpAny_bind (wpAny_sequenceKey ht.typeIs (by decide) ?_)
  refine wpAny_bind (wpAny_callSpecial?_slot (name := Str.ofString "__getitem__") ht.typeIs PyProof.Rows.slot_tuple_getitem (wpAny_call_entry PyProof.Rows.slot_tuple_getitem ht.typeIs entry_tuple_getitem ?_ (args_tuple_getitem _ _)))
  show wpAny _ _ (Builtin.Tuple.tupleItemsOf (.ref t) >>= _) _ _ s
  refine wpAny_bind (tupleItemsOf_ ht (wpAny_bind (wpAny_typeOf hT ?_)))
  rw [if_pos (by decide)]
  refine wpAny_bind (slice_back hs pl pu ps ?_)
  have no : ¬ ((((items.size : Int) - 1) == 0 && (-1 : Int) == 1 && items.size == items.size) = true) := by simp
  show wpAny _ _ (if (((items.size : Int) - 1) == 0 && (-1 : Int) == 1 && items.size == items.size) = true then _ else _) _ _ s
  rw [if_neg no, back_pick]
  first
    | exact wpAny_bind (m := Builtin.Tuple.tupleExact _) (wpAny_newObj_type (wpAny_pure ⟨_, rfl, wpAny_pure h⟩) hz)
    | exact wpAny_bind (m := Builtin.Tuple.tupleExact _) (wpAny_newObj_type (wpAny_bind (wpAny_pure (wpAny_pure ⟨_, rfl, wpAny_pure h⟩))) hz)
    | exact wpAny_bind (wpAny_bind (m := Builtin.Tuple.tupleExact _) (wpAny_newObj_type (wpAny_pure (wpAny_pure ⟨_, rfl, wpAny_pure h⟩)) hz))
    | exact wpAny_bind (wpAny_bind (m := Builtin.Tuple.tupleExact _) (wpAny_newObj_type (wpAny_pure ⟨_, rfl, wpAny_pure h⟩) hz))
end
section
variable {X : Cx} {W : Wd} {E : XK}
def tRevA (K : PySem.W.Frag) (te : TE) : TE := fun σ H Q => te σ H fun x H1 => ∃ a xs, x = .ref a ∧ ((SqL K H1 a xs ∧ ∀ p, H1 p = none → Q (.ref p) (upd H1 p (.lst xs.reverse))) ∨ (SqT K H1 a xs ∧ ∀ p, H1 p = none → Q (.ref p) (upd H1 p (.tup xs.reverse))))
theorem pe_back {e : Expr} {te : TE} {k : Nat} {p1 p2 p3 pos : Pos} (he : PE X e te) : PE X (.Subscript e (.Slice none none (some (.UnaryOp .USub (.Constant (.int 1) k p1) p2)) p3) pos) (tRevA X.K te) := by
  refine ⟨fun pins s0 σ H Q I h => Subscript_ (thn (he.run pins s0 σ H _ I h) fun v s1 ⟨x, H1, I1, r1, a, xs, ex, q⟩ => ?_)⟩
  subst ex
  cases r1
  have step : PO X (some (.UnaryOp .USub (.Constant (.int 1) k p1) p2)) (tPart (tUn (rU fun i => .int (-i)) (tC (.int 1)))) := po_some (pe_un un_neg pe_int)
  refine wpAny_Slice (thn (po_none.run pins s1 σ H1 (fun o H2 => o = none ∧ H2 = H1) I1 ⟨rfl, rfl⟩) fun vl s2 ⟨l, H2, I2, pl, el, e2⟩ => ?_)
  subst el e2
  refine thn (po_none.run pins s2 σ H2 (fun o H3 => o = none ∧ H3 = H2) I2 ⟨rfl, rfl⟩) fun vu s3 ⟨u, H3, I3, pu, eu, e3⟩ => ?_
  subst eu e3
  refine thn (step.run pins s3 σ H3 (fun o H4 => o = some (-1) ∧ H4 = H3) I3 ⟨1, rfl, -1, rfl, rfl, rfl⟩) fun vs s4 ⟨o, H4, I4, ps, eo, e4⟩ => ?_
  subst eo e4
  have I5 : Inv X pins σ H4 { s4 with heap := s4.heap.push { cls := .type "slice", data := .fields #[vl, vu, vs] } } := I4.kept (t' := s4.toks) fun b ob z => Heap.get?_push_of_some _ z
  show wpAny (model X.prog X.w) X.A (subscriptTail e (.Slice none none (some (.UnaryOp .USub (.Constant (.int 1) k p1) p2)) p3) (.ref a) (.ref s4.heap.objs.size)) (EP X pins σ Q) X.xe { s4 with heap := s4.heap.push { cls := .type "slice", data := .fields #[vl, vu, vs] } }
  rcases q with ⟨hx, q⟩ | ⟨hx, q⟩
  · obtain ⟨its, r, ht, hz⟩ := I5.list hx
    have hlen := r.length
    refine tail_any (ops := [.ref a, .ref s4.heap.objs.size]) ht.isList.typeIs (PySem.slot_list_getitem.lookup) ?_ (by with_unfolding_all rfl)
    refine wpAny_getItem_list_slice ht.isList (Heap.IsSliceOf.new _ vl vu vs) pl pu ps (by decide) ?_ (by rw [List.size_toArray]; omega)
    rw [PySem.W.krv_pick]
    exact ⟨.ref _, _, I5.laid (t' := s4.toks) (o := .lst xs.reverse) (fun b ob z => Heap.get?_push_of_some _ z) (Nat.le_refl _) ⟨by rw [List.length_reverse]; exact hz, _, 0, r.reverse, Heap.get?_push_size _ rfl⟩, rfl, q _ (I5.hok.fresh (Nat.le_refl _))⟩
  · obtain ⟨its, r, ht, hz⟩ := I5.tuple hx
    have hlen := r.length
    refine tail_any (ops := [.ref a, .ref s4.heap.objs.size]) ht.typeIs (PyProof.Rows.slot_tuple_getitem.lookup) ?_ (by with_unfolding_all rfl)
    refine getItem_tuple_back ht (Heap.IsSliceOf.new _ vl vu vs) pl pu ps ?_ (by rw [List.size_toArray]; omega)
    exact ⟨.ref _, _, I5.laid (t' := s4.toks) (o := .tup xs.reverse) (fun b ob z => Heap.get?_push_of_some _ z) (Nat.le_refl _) ⟨by rw [List.length_reverse]; exact hz, _, r.reverse, _, Heap.get?_push_size _ rfl, rfl, 0, rfl⟩, rfl, q _ (I5.hok.fresh (Nat.le_refl _))⟩
def oBack : Val → Sto → Out Val := fun x S => match x with
  | .d (.tup ds) => .ok (.d (.tup ds.reverse)) S
  | _ => match seqL x S with
    | some ds => .ok (.d (.lst ds.reverse)) S
    | none => .bad
theorem de_back {a : Expr} {f : DEf} {k : Nat} {p1 p2 p3 pos : Pos} (hK : X.K = W.K) (ha : DE W E X a f) : DE W E X (.Subscript a (.Slice none none (some (.UnaryOp .USub (.Constant (.int 1) k p1) p2)) p3) pos) (dUn oBack f) :=
  (pe_back ha).imp fun σ H Q ⟨env, S, μ, hE, hS, hp⟩ => ⟨env, S, μ, hE, hS, hp.bind.imp fun x S1 H1 μ1 l1 s1 p1 v rv => by
    rw [hK]
    unfold oBack at p1
    split at p1
    · obtain ⟨p, vs, rfl, q1, r1⟩ := seqT_rel rv rfl
      refine ⟨p, vs, rfl, .inr ⟨q1, fun c hc => ?_⟩⟩
      obtain ⟨k, r⟩ := post_tup p1 s1 hc r1.reverse
      exact k _ r
    · split at p1
      · rename_i ds e0
        obtain ⟨p, vs, rfl, q1, r1⟩ := seqL_rel s1 rv e0
        refine ⟨p, vs, rfl, .inl ⟨q1, fun c hc => ?_⟩⟩
        obtain ⟨k, r⟩ := post_lst p1 s1 hc r1.reverse
        exact k _ r
      · exact p1.elim⟩
end
end Dn
set_option Elab.async false
set_option linter.all false
set_option maxRecDepth 100000
set_option maxHeartbeats 4000000
/-! ### short words for the printed derivations -/
namespace Dn
open PySem PySem.Spec PyProof.Rows L2 GxR Gx
section
variable {W : Wd} {E : XK} {X : Cx} {pos : Pos}
theorem dv (i : Nat) {x : Str} (hN : X.N[i]? = some x := by rfl) (hv : Vis X.env.scope x := by first | exact Or.inl rfl | exact Or.inr (Or.inl rfl) | exact Or.inr (Or.inr rfl)) (hd : (x == ("__debug__" : Str)) = false := by decide)
    (hcd : (x == ("__classdict__" : Str)) = false := by decide) : DE W E X (.Name x pos) (dVar i) := de_var hN hv hd hcd
theorem dgn (i : Nat) {x : Str} (hn : X.N.Nodup) (hi : X.N[i]? = some x := by rfl) (hx : Loc X.env.scope x := by first | exact Or.inl rfl | exact Or.inr rfl) (hf : X.fn x = true ∨ X.env.scope.names.lookup x = some .local := by first | exact .inl rfl | exact .inr rfl) : DG W E X (.Name x pos) (dgName i) := dg_name hn hi hx hf
theorem dgwn {vs : List Nat} (i : Nat) {x : Str} (hn : X.N.Nodup) (hv : i ∈ vs := by decide) (hi : X.N[i]? = some x := by rfl) (hx : Loc X.env.scope x := by first | exact Or.inl rfl | exact Or.inr rfl) (hf : X.fn x = true ∨ X.env.scope.names.lookup x = some .local := by first | exact .inl rfl | exact .inr rfl) : DGw W E vs X (.Name x pos) (dgName i) := dgw_name hv hn hi hx hf
theorem dset (i : Nat) {x : Str} {e : Expr} {F : DEf} {pos' : Pos} (hn : X.N.Nodup) (he : DE W E X e F) (hi : X.N[i]? = some x := by rfl) (hx : Loc X.env.scope x := by first | exact Or.inl rfl | exact Or.inr rfl) (hs : swapsWith e (some (.Name x pos')) pos.line X.env = pure false := by rfl)
    (hf : X.fn x = true ∨ X.env.scope.names.lookup x = some .local := by first | exact .inl rfl | exact .inr rfl) : DS W E X (.Assign [.Name x pos'] e pos) (dAsg F (dgName i)) := ds_set hn hi hx he hs hf
end
end Dn
set_option Elab.async false
set_option linter.all false
set_option maxRecDepth 100000
set_option maxHeartbeats 2000000
/-! enumerate over a tuple, over a list -/
namespace Dn
open PySem PySem.Spec PyProof.Rows L2 GxR
theorem en_new (l : Addr) (items : Array Value) (n : Nat) (dd : Option Addr) (sl : Array (Option Value)) :
    Meets (Builtin.«enumerate.__new__» ⟨[.type "enumerate", .ref l], []⟩) (fun _ R s => s.heap.get? l = some { cls := .type "tuple", dict := dd, data := .seq items n, slots := sl } ∧
      R (.ok (.ret (.ref (s.heap.push { cls := .type "tuple_iterator", data := .fields #[.ref l, .int 0 0] }).objs.size)))
        { s with heap := (s.heap.push { cls := .type "tuple_iterator", data := .fields #[.ref l, .int 0 0] }).push { cls := .type "enumerate", data := .fields #[.none, .bool false, .ref s.heap.objs.size, rawInt 0, .none, .none] } }) :=
  .of_wp fun prog w A R s h => by
    obtain ⟨hp, g, dr, tk, os⟩ := s
    obtain ⟨hl, h⟩ := h
    have hsub := sub_enumerate
    have hT : Heap.IsTuple (Shared.heap ⟨hp, g, dr, tk, os⟩) l items := ⟨_, hl, rfl, n, rfl⟩
    wp_walk using AutoSeq1.wpAny_loadPart' hl
    refine wpAny_stack_any fun st => wpAny_pure ?_
    split
    · rename_i c _ _ _ _ _
      cases (c == Value.type "enumerate")
      · wp_walk using AutoSeq1.wpAny_loadPart' hl, wpAny_pyIter_tuple hT
        exact ⟨_, rfl, h⟩
      · wp_walk using AutoSeq1.wpAny_loadPart' hl, wpAny_pyIter_tuple hT
        exact ⟨_, rfl, h⟩
    · wp_walk using AutoSeq1.wpAny_loadPart' hl, wpAny_pyIter_tuple hT
      exact ⟨_, rfl, h⟩
section
variable {prog : Program} {w : World} {A : Around} {E : Value → Shared → Prop} {s : Shared}
theorem en_call {l : Addr} {items : Array Value} {Q : Value → Shared → Prop} (hL : IsTup s.heap l items)
    (h : ∀ h', IsEnum h' (s.heap.objs.size + 1) s.heap.objs.size 0 .none → h'.IsTupleIter s.heap.objs.size l 0 → (∀ b o, s.heap.get? b = some o → h'.get? b = some o) → Q (.ref (s.heap.objs.size + 1)) { s with heap := h' }) :
    wpAny (model prog w) A (call (.type "enumerate") [.ref l]) Q E s := by
  obtain ⟨⟨c, dct, dt, sl⟩, hl, hc, n, hd⟩ := hL
  replace hc : c = .type "tuple" := hc
  replace hd : dt = .seq items n := hd
  subst hc hd
  refine callType_new F.called_enumerate (by decide) (F.typeCall_enumerate_1 _) (F.newCall_enumerate_1 _) (fun obj => F.args_object_init_2 obj _) F.entry_enumerate_new (en_new l items n dct sl) ⟨hl, ?_⟩
  have hz : (s.heap.push { cls := .type "tuple_iterator", data := .fields #[.ref l, .int 0 0] }).objs.size = s.heap.objs.size + 1 := Heap.size_push ..
  show _ ∧ _
  rw [hz]
  have he : IsEnum ((s.heap.push { cls := .type "tuple_iterator", data := .fields #[.ref l, .int 0 0] }).push
      { cls := .type "enumerate", data := .fields #[.none, .bool false, .ref s.heap.objs.size, rawInt 0, .none, .none] }) (s.heap.objs.size + 1) s.heap.objs.size 0 .none := by
    have q := Heap.get?_push_size (s.heap.push { cls := .type "tuple_iterator", data := .fields #[.ref l, .int 0 0] })
      (o := { cls := .type "enumerate", data := .fields #[.none, .bool false, .ref s.heap.objs.size, rawInt 0, .none, .none] }) rfl
    rw [hz] at q; exact q
  exact ⟨⟨_, he, rfl⟩, h _ he ⟨_, Heap.get?_push_of_some _ (Heap.get?_push_size _ rfl), rfl, rfl⟩ fun b o x => Heap.get?_push_of_some _ (Heap.get?_push_of_some _ x)⟩
end
/-- the tuple at a as it stands at each turn, each item in a new pair -/
def IteT (K : PySem.W.Frag) (a : Addr) : It :=
  ⟨fun i H => ∃ (xs : List V) (x : V), SqT K H a xs ∧ xs[i]? = some x, fun i H v H' => ∃ T x, v = .ref T ∧ H T = none ∧ H' = upd H T (.tup [.int (i : Nat), x]) ∧ ∀ xs, SqT K H a xs → xs[i]? = some x, fun i H => ∃ xs : List V, SqT K H a xs ∧ xs.length = i⟩
theorem turn_enT {P : Program} {w : World} {K : PySem.W.Frag} {elts : List Expr} {kk : Nat} {tpos : Pos} (a e it : Addr) :
    Turn P w K (.Tuple elts kk tpos) (IteT K a) [e, it] e (fun i h => (∃ old, IsEnum h e it ((i : Nat) : Int) old) ∧ h.IsTupleIter it a i ∧ e ≠ it ∧ e ≠ a ∧ a ≠ it) where
  mem := by simp
  obj := fun i h st b hb => by
    obtain ⟨⟨old, he⟩, ⟨o, ho, hc, hd⟩, _⟩ := st
    have q : b = e ∨ b = it := by simpa using hb
    rcases q with z | z
    · rw [z]; exact ⟨_, he, fun v q => nomatch q⟩
    · rw [z]; exact ⟨o, ho, fun v q => by rw [hd] at q; cases q⟩
  keep := fun i h h' st k => let ⟨⟨old, he⟩, hi, hne⟩ := st; ⟨⟨old, k e (by simp) _ he⟩, hi.at fun o q => k it (by simp) o q, hne⟩
  item := by
    intro X hP hw hK hc i pins s σ H E I hf st hg
    subst hP hw hK
    obtain ⟨⟨old, he⟩, hit, hne, hea, hai⟩ := st
    obtain ⟨xs, x, hq, hx⟩ := hg
    obtain ⟨its, rv, p, hz⟩ := I.tuple hq
    obtain ⟨u, hu, ru⟩ := rv.get hx
    have hel : e < s.heap.objs.size := Heap.lt_size he
    have hil : it < s.heap.objs.size := by obtain ⟨_, q, _⟩ := hit; exact Heap.lt_size q
    have hlt : i < its.toArray.size := by
      have := (List.getElem?_eq_some_iff.mp hu).1
      simpa using this
    refine wpAny_pyNext_enum_itemD (Draws.tuple (A := X.A.in1) (show X.A.in1.handled = none from I.ok.hd hc) it a hai its.toArray) he ⟨hit, p⟩ hlt hne (by simp [hne, hea]) fun x' h' tk hp ho hst hT hsz hk => ?_
    obtain ⟨hit', hp'⟩ := hst
    have ex : x' = u := by
      have hu' : its.toArray[i]? = some u := by simpa using hu
      rw [hu'] at hp
      cases hp; rfl
    subst ex
    refine ⟨_, rfl, wpAny_letOwnedTupleGo_enum (s := { s with heap := h', toks := tk + 1 }) ho fun h'' he' sb => ?_⟩
    have hT2 : h''.get? s.heap.objs.size = some { cls := .type "tuple", data := .seq #[.int i tk, x'] } := (sb.2 _ (Nat.ne_of_gt hel)).trans hT
    have new : ObjOk X.prog X.w (upd H s.heap.objs.size (.tup [.int (i : Nat), x])) h'' s.heap.objs.size (.tup [.int (i : Nat), x]) :=
      ⟨by show 2 ≤ sizeLine; decide, [.int i tk, x'], .cons ⟨_, rfl⟩ (.cons ru .nil), ⟨_, hT2, rfl, _, rfl⟩⟩
    have I1 : Inv X pins σ (upd H s.heap.objs.size (.tup [.int (i : Nat), x])) { s with heap := h'', toks := tk + 1 } :=
      I.turnedNew (ch := [e, it]) (fun b ob hb q => (sb.2 b (fun z => hb (by simp [z]))).trans (hk b ob (fun z => hb (by simp [z])) (fun z => hb (by simp [z])) q)) hf (Nat.le_refl _) new
    refine ⟨.ref s.heap.objs.size, _, I1, rfl, ⟨_, x, rfl, I.hok.fresh (Nat.le_refl _), rfl, fun ys hy => by rw [I.tuple_inj hy hq]; exact hx⟩, ⟨⟨x', ?_⟩, hit'.at fun o q => (sb.2 it (Ne.symm hne)).trans q, hne, hea, hai⟩, fun b hb => ?_⟩
    · have e1 : ((i + 1 : Nat) : Int) = (i : Int) + 1 := by omega
      rw [e1]; exact he'
    · have hb' : b < s.heap.objs.size := by
        have q : b = e ∨ b = it := by simpa using hb
        rcases q with z | z
        · rw [z]; exact hel
        · rw [z]; exact hil
      rw [upd_ne (Nat.ne_of_lt hb')]
      exact (hf b hb).1
  done := by
    intro X hP hw hK hc i pins s σ H E I hf st hg
    subst hP hw hK
    obtain ⟨⟨old, he⟩, hit, hne, hea, hai⟩ := st
    obtain ⟨xs, hq, hx⟩ := hg
    obtain ⟨its, rv, p, hz⟩ := I.tuple hq
    obtain ⟨f0, f1, f2, f3, f4, f5⟩ := hf it (by simp)
    have hl := rv.length
    have ei : i = its.toArray.size := by simp; omega
    subst ei
    exact wpAny_pyNext_enum_endD (Draws.tuple (A := X.A.in1) (show X.A.in1.handled = none from I.ok.hd hc) it a hai its.toArray) he ⟨hit, p⟩ fun h' eb => ⟨rfl, I.turned (t' := s.toks) (fun b o hb q => eb b o hb q) f0 f1 f3 f4 f5⟩
  self := fun A i s Q E st h => let ⟨⟨_, he⟩, _⟩ := st; wpAny_pyIter_enum he h
def iEnA (K : PySem.W.Frag) (ta : TA) : TI := fun σ H R => ta σ H fun vs H1 => ∃ a xs, vs = [.ref a] ∧ ((SqL K H1 a xs ∧ R (Ite K a) H1) ∨ (SqT K H1 a xs ∧ R (IteT K a) H1))
theorem pi_enA {X : Cx} {e : Expr} {ta : TA} {p pos tpos : Pos} {elts : List Expr} {kk : Nat} (hg : Gl X "enumerate") (hm : X.mg "enumerate" = none) (ha : PA X [e] ta) (hs : starEach [e] X.env = [(false, eval e X.env)] := by rfl) :
    PI X (.Tuple elts kk tpos) (.Call (.Name "enumerate" p) [e] [] pos) (iEnA X.K ta) := by
  refine ⟨fun pins s σ H R I h => ?_⟩
  refine Call_ (ld_blt I hg hm boot_enumerate (PyProof.Rows.callWith_type1 (thn (ha.run pos pins s σ H _ I h) fun us s1 ⟨vs, H1, I1, r1, q1⟩ => ?_) hs rfl))
  obtain ⟨a, xs, ex, hq⟩ := q1
  subst ex
  have fresh : ∀ b ∈ [s1.heap.objs.size + 1, s1.heap.objs.size], FpOk X pins H1 b := fun b hb => by
    have q : b = s1.heap.objs.size + 1 ∨ b = s1.heap.objs.size := by simpa using hb
    have hle : s1.heap.objs.size ≤ b := by omega
    exact I1.fpOk hle (I1.hok.fresh hle)
  cases r1 with
  | cons r rr =>
    cases rr
    cases r
    rcases hq with ⟨hq, q⟩ | ⟨hq, q⟩
    · obtain ⟨its, rv, p', hz⟩ := I1.list hq
      refine call_enumerate_list p'.isList fun h' he hit hsz hk => wpAny_pyIter_enum he ?_
      have I2 : Inv X pins σ H1 { s1 with heap := h' } := I1.kept (t' := s1.toks) hk
      exact ⟨s1.heap.objs.size + 1, [s1.heap.objs.size + 1, s1.heap.objs.size], _, _, H1, rfl, I2, turn_enum a (s1.heap.objs.size + 1) s1.heap.objs.size, ⟨⟨.none, he⟩, hit, Nat.succ_ne_self _⟩, fresh, q⟩
    · obtain ⟨its, rv, p', hz⟩ := I1.tuple hq
      have hal : a < s1.heap.objs.size := by obtain ⟨o, q, _⟩ := p'; exact Heap.lt_size q
      refine en_call p' fun h' he hit hk => wpAny_pyIter_enum he ?_
      have I2 : Inv X pins σ H1 { s1 with heap := h' } := I1.kept (t' := s1.toks) hk
      exact ⟨s1.heap.objs.size + 1, [s1.heap.objs.size + 1, s1.heap.objs.size], _, _, H1, rfl, I2, turn_enT a (s1.heap.objs.size + 1) s1.heap.objs.size, ⟨⟨.none, he⟩, hit, Nat.succ_ne_self _, Nat.ne_of_gt (Nat.lt_succ_of_lt hal), Nat.ne_of_lt hal⟩, fresh, q⟩
/-- the pairs that enumerate tells -/
def enD (ds : List D) : List D := ((rngD 0 ds.length).zip ds).map fun p => .tup [p.1, p.2]
def iEnum (xs : List Val) (S : Sto) : Out Itm := match xs with
  | [x] => (match seqT x with
    | some ds => .ok ⟨enD ds, []⟩ S
    | none => match seqL x S with
      | some ds => .ok ⟨enD ds, wtV x S⟩ S
      | none => .bad)
  | _ => .bad
def diEnum (As : DAf) : DIf := fun env S => (As env S).bind fun xs S1 => Dn.iEnum xs S1
section
variable {W : Wd} {E : XK} {X : Cx} {H H' : Hp} {μ μ' : Mu} {S : Sto}
theorem rng_at {n i : Nat} (h : i < n) : (rngD 0 n)[i]? = some (.int (i : Nat)) := by
  simp [rngD, List.getElem?_map, List.getElem?_range h]
theorem di_enum {a : Expr} {As : DAf} {p tpos : Pos} {elts : List Expr} {kk : Nat} (hK : X.K = W.K) (hg : Gl X "enumerate") (hm : X.mg "enumerate" = none) (ha : DA W E X [a] As) (hs : starEach [a] X.env = [(false, eval a X.env)] := by rfl) :
    DI W E X (.Tuple elts kk tpos) (.Call (.Name "enumerate" p) [a] [] pos) (diEnum As) :=
  (pi_enA hg hm ha hs).imp fun σ H R ⟨env, S, μ, hE, hS, hp⟩ => ⟨env, S, μ, hE, hS, hp.bind.imp fun xs S1 H1 μ1 l1 s1 p1 vs rvs => by
    unfold Dn.iEnum at p1
    rw [hK]
    split at p1
    · rename_i x
      obtain ⟨v, rfl, rv⟩ := rel_one rvs
      split at p1
      · rename_i ds e1
        obtain ⟨a, rfl, h1⟩ := staysT s1 rv e1
        obtain ⟨us, q1, _⟩ := h1 H1 μ1 .refl
        refine ⟨a, us, rfl, .inr ⟨q1, p1.at_ s1 _ (pairs_ok (n := ds.length) (by simp [rngD]) (fun i H' μ' S' l s w hi => ?_) (fun H' μ' S' l s w => ?_) fun i H' μ' S' v H2 l s w hi yy => ?_)⟩⟩
        · obtain ⟨us, q1, r1⟩ := h1 H' μ' l
          obtain ⟨u, e3, _⟩ := r1.get (List.getElem?_eq_getElem hi)
          exact ⟨us, u, q1, e3⟩
        · obtain ⟨us, q1, r1⟩ := h1 H' μ' l
          exact ⟨us, q1, r1.length.symm⟩
        · obtain ⟨us, q1, r1⟩ := h1 H' μ' l
          have hd := List.getElem?_eq_getElem hi
          obtain ⟨u, e3, r3⟩ := r1.get hd
          obtain ⟨T, x, rfl, hT, rfl, f1⟩ := yy
          have g1 := f1 us q1
          rw [e3] at g1; cases g1
          exact ⟨T, _, _, _, _, rfl, hT, rfl, rng_at hi, hd, by simp [RelD], r3⟩
      · split at p1
        · rename_i ds e1
          obtain ⟨a, rfl, h1⟩ := stays s1 rv e1
          obtain ⟨us, q1, _⟩ := h1 H1 μ1 S1 .refl s1 wtV_ok
          refine ⟨a, us, rfl, .inl ⟨q1, p1.at_ s1 _ (pairs_ok (n := ds.length) (by simp [rngD]) (fun i H' μ' S' l s w hi => ?_) (fun H' μ' S' l s w => ?_) fun i H' μ' S' v H2 l s w hi yy => ?_)⟩⟩
          · obtain ⟨us, q1, r1⟩ := h1 H' μ' S' l s w
            obtain ⟨u, e3, _⟩ := r1.get (List.getElem?_eq_getElem hi)
            exact ⟨us, u, q1, e3⟩
          · obtain ⟨us, q1, r1⟩ := h1 H' μ' S' l s w
            exact ⟨us, q1, Nat.le_of_eq r1.length.symm⟩
          · obtain ⟨us, q1, r1⟩ := h1 H' μ' S' l s w
            have hd := List.getElem?_eq_getElem hi
            obtain ⟨u, e3, r3⟩ := r1.get hd
            obtain ⟨T, x, rfl, hT, rfl, f1⟩ := yy
            have g1 := f1 us q1
            rw [e3] at g1; cases g1
            exact ⟨T, _, _, _, _, rfl, hT, rfl, rng_at hi, hd, by simp [RelD], r3⟩
        · exact p1.elim
    · exact p1.elim⟩
end
end Dn
set_option Elab.async false
set_option linter.all false
set_option maxRecDepth 100000
set_option maxHeartbeats 4000000
/-! ### the law's own call -/
namespace Dn
open PySem PySem.Spec PyProof.Rows L2 GxR Gx
/-- what is tracked at the law's entry: the script, if it is no object of the written part, and the empty tables -/
noncomputable def entryH (K : PySem.W.Frag) (a : Addr) (vs : List Value) (ns : List Int) (ts : List Addr) : Hp := fun b =>
  if b ∈ ts then some (.tbl #[]) else if b = a ∧ K.lookup a = none then some (.frz { cls := .type "list", data := .seq vs.toArray } (.lst (ns.map V.int))) else none
section
variable {P : Program} {w : World} {K : PySem.W.Frag} {mg mb : Str → Option Value} {k : Nat} {fa a : Addr} {cs : List (Addr × Addr)} {fd : FuncData} {x : Str} {m : Opn} {s1 : Shared} {vs : List Value} {ns : List Int} {W : Wd}
theorem entry_tab {ts : List Addr} {b : Addr} (h : b ∈ ts) : entryH K a vs ns ts b = some (.tbl #[]) := if_pos h
theorem entry_script {ts : List Addr} (h : a ∉ ts) (hk : K.lookup a = none) : entryH K a vs ns ts a = some (.frz { cls := .type "list", data := .seq vs.toArray } (.lst (ns.map V.int))) := by
  unfold entryH
  rw [if_neg h, if_pos ⟨rfl, hk⟩]
theorem entry_cases {ts : List Addr} {b : Addr} : entryH K a vs ns ts b = none ∨ (b ∈ ts ∧ entryH K a vs ns ts b = some (.tbl #[])) ∨ (b = a ∧ K.lookup a = none ∧ entryH K a vs ns ts b = some (.frz { cls := .type "list", data := .seq vs.toArray } (.lst (ns.map V.int)))) := by
  unfold entryH
  by_cases h1 : b ∈ ts
  · exact .inr (.inl ⟨h1, if_pos h1⟩)
  · by_cases h2 : b = a ∧ K.lookup a = none
    · exact .inr (.inr ⟨h2.1, h2.2, by rw [if_neg h1, if_pos h2]⟩)
    · exact .inl (by rw [if_neg h1, if_neg h2])
/-- the law's def called at its entry, the def kept by a function of data that says True -/
theorem law_callG (KX : K.In s1.heap) (gN : s1.heap.Ns mainGlobals mg) (bN : s1.heap.Ns builtinsNs mb) (bb : ∀ x : Str, x ≠ "__name__" → mb x = bootBuiltins x) (lim : s1.heap.NoLimit) (gn : s1.gens = #[])
    (tE' : ∀ p ∈ cs, s1.heap.get? p.2 = some { cls := .none, data := .fields #[] }) (tK : ∀ p ∈ cs, K.lookup p.2 = none) (tC : ∀ p ∈ cs, PySem.W.CodeHd s1.heap p.1 p.2)
    (bmod : ∃ (bm : Addr) (ob : Obj), mg "__builtins__" = some (.ref bm) ∧ bm ≠ builtinsNs ∧ s1.heap.get? bm = some ob ∧ ob.cls = .type "module" ∧ ob.dict = some builtinsNs ∧ ob.data = .plain)
    (sc : s1.heap.get? a = some { cls := .type "list", data := .seq vs.toArray }) (isI : IntsAre vs ns) (short : ns.length ≤ sizeLine) (room : Room k callerA)
    (hW : W.K = K) (hWt : ∀ T ∈ W.tabs, T ∈ cs.map (·.2)) (hWl : ∀ p ∈ W.lams, p.1 ∈ cs.map (·.2)) (hWd : ∀ p ∈ W.lams, p.1 ∉ W.tabs)
    (F : ∀ base : Heap, K.In base → base.Ns mainGlobals mg → (∀ p ∈ cs, TabB base mg p.1 p.2) → FnG P w K mg base k fa fd [x] (spD W 1 m)) (bd : ∀ (s : Shared) (u : Value), BindsTo s fd ⟨[u], []⟩ [(x, u)])
    (so : ∃ S', m [.d (.con (ns.map .int))] [] = .ok (.d (.bl true)) S') :
    codeAny (model P w) callerA (.call (.ref fa) ⟨[.ref a], []⟩) (fun r s' => r = .ok (.ret (.bool true)) ∧ OldK s1.heap s'.heap ∧ s'.os = s1.os ∧ AllBare s'.gens) s1 := by
  have items := vals_ints isI
  have same := isI.length
  have tabAt : ∀ b ∈ cs.map (·.2), s1.heap.get? b = some { cls := .none, data := .fields #[] } ∧ K.lookup b = none := fun b hb => by
    obtain ⟨p, hp, rfl⟩ := List.mem_map.mp hb
    exact ⟨tE' p hp, tK p hp⟩
  have apart : a ∉ cs.map (·.2) := fun z => by
    have q := (tabAt a z).1
    rw [sc] at q
    cases congrArg Obj.data (Option.some.inj q)
  generalize eH : entryH K a vs ns (cs.map (·.2)) = H
  have kinds : ∀ b, H b = none ∨ (b ∈ cs.map (·.2) ∧ H b = some (.tbl #[])) ∨ (b = a ∧ K.lookup a = none ∧ H b = some (.frz { cls := .type "list", data := .seq vs.toArray } (.lst (ns.map V.int)))) := fun b => by
    rw [← eH]; exact entry_cases
  -- what is no list and no empty record is not tracked
  have free : ∀ {b : Addr} {o : Obj}, s1.heap.get? b = some o → (∀ us n, o.data ≠ .seq us n) → o.data ≠ .fields #[] → H b = none := fun {b o} e n1 n2 => by
    rcases kinds b with z | ⟨z, _⟩ | ⟨z, _, _⟩
    · exact z
    · rw [(tabAt b z).1] at e
      cases e
      exact (n2 rfl).elim
    · rw [z, sc] at e
      cases e
      exact (n1 _ _ rfl).elim
  have hide : ∀ {b : Addr} {o : Obj}, s1.heap.get? b = some o → H b = none → (hidT s1.heap H).get? b = some o := fun e n => hidT_get e n
  have dictFree : ∀ {b : Addr} {o : Obj} {es : Array DictEntry} {ep : Nat}, s1.heap.get? b = some o → o.data = .dict es ep → H b = none := fun e d =>
    free e (fun _ _ z => by rw [d] at z; cases z) fun z => by rw [d] at z; cases z
  have nsH : ∀ {b : Addr} {f : Str → Option Value}, s1.heap.Ns b f → (hidT s1.heap H).Ns b f := fun {b f} ⟨o, es, ep, e, d, r⟩ => ⟨o, es, ep, hide e (dictFree e d), d, r⟩
  have Kfree : ∀ b o, K.lookup b = some o → H b = none := fun b o e => by
    rcases kinds b with z | ⟨z, _⟩ | ⟨z, zk, _⟩
    · exact z
    · rw [(tabAt b z).2] at e; cases e
    · rw [z, zk] at e; cases e
  have KB : K.In (hidT s1.heap H) := fun b o e => hide (KX b o e) (Kfree b o e)
  have modB : L2.Mod K mg (hidT s1.heap H) := ⟨KB, nsH gN, ⟨mb, nsH bN, bb⟩, let ⟨f, z1, z2⟩ := lim; ⟨f, nsH z1, z2⟩⟩
  have tabB : ∀ p ∈ cs, TabB (hidT s1.heap H) mg p.1 p.2 := fun p hp => by
    refine ⟨?_, ?_, fun z => ?_⟩
    · obtain ⟨o, us, file, tx, flags, tg, inF, text, tt, e1, r1, r2, r3, rest⟩ := tC p hp
      refine ⟨o, us, file, tx, flags, tg, inF, text, tt, hide e1 (free e1 (fun _ _ z => by rw [r2] at z; cases z) fun z => ?_), r1, r2, r3, rest⟩
      rw [r2] at z
      cases z
      simp at r3
    · obtain ⟨bm, ob, c1, c2, c3, c4, c5, c6⟩ := bmod
      refine ⟨bm, ob, c1, c2, fun q => ?_, fun q => ?_, hide c3 (free c3 (fun _ _ z => by rw [c6] at z; cases z) fun z => by rw [c6] at z; cases z), c4, c5, c6⟩
      · obtain ⟨o, es, ep, e, d, _⟩ := gN
        rw [q, e] at c3
        cases c3
        rw [d] at c6; cases c6
      · rw [q, tE' p hp] at c3
        cases c3
        cases c6
    · obtain ⟨o, es, ep, e, d, _⟩ := gN
      rw [z, tE' p hp] at e
      cases e
      cases d
  have okH : HOk P w H s1.heap := fun b u z => by
    rcases kinds b with q | ⟨q, q2⟩ | ⟨q, _, q2⟩
    · rw [q] at z; cases z
    · rw [q2] at z; cases z
      exact (tabAt b q).1
    · rw [q2] at z; cases z
      rw [q]
      exact ⟨sc, by rw [List.length_map]; exact short, vs, _, items, sc⟩
  have isScript : SqL K H a (ns.map V.int) := by
    cases hk : K.lookup a with
    | none => exact .inl (.inr ⟨_, by rw [← eH]; exact entry_script apart hk⟩)
    | some o =>
      have e := KX a o hk
      rw [sc] at e
      cases e
      exact .inr ⟨_, vs.toArray, _, hk, rfl, rfl, rfl, by rw [List.size_toArray, same]; exact short, by simpa using items⟩
  have en : Env0 P w K mg (hidT s1.heap H) callerA [] s1 H := ⟨rfl, modB, fun _ _ e => of_hidT e, Nat.le_of_eq (hidT_size _ _), trivial, fun b hb => absurd hb List.not_mem_nil, okH, .of_eq gn⟩
  have prom : spD W 1 m [.ref a] H (fun v _ => v = .bl true) fun _ _ _ => False := by
    refine ⟨rfl, [.d (.con (ns.map .int))], [], [], ?_, ⟨rfl, fun n _ b e => by simp at e, fun n c o e => by simp at e, fun n b e => by simp at e, fun T hT => ?_, fun p hp => ?_, hWd⟩, ?_⟩
    · have rl : ∀ l : List Int, RelDs W H [] (l.map .int) (l.map V.int) := fun l => by
        induction l with
        | nil => simp [RelDs]
        | cons i l ih => simp only [List.map_cons, RelDs]; exact ⟨_, _, rfl, by simp [RelD], ih⟩
      simp only [RelVs, RelV', RelD]
      exact ⟨_, [], rfl, ⟨a, _, rfl, CoL.of (hW ▸ isScript) (fun n e => by simp at e), rl ns⟩, rfl⟩
    · have hT := hWt T hT
      rw [← eH]
      exact ⟨#[], entry_tab hT, trivial⟩
    · have hT := hWl p hp
      rw [← eH]
      exact LamX.TabS.nil (entry_tab hT)
    · obtain ⟨S', e⟩ := so
      rw [e]
      exact fun H' μ' _ _ v rv => bl_rel rv
  refine codeAny_mono ((F _ KB (nsH gN) tabB).run callerA [] s1 H _ [.ref a] [.ref a] _ _ room rfl en (bd s1 (.ref a)) (.cons rfl .nil) prom) fun r s' out => ?_
  match r, out with
  | .error _, out => exact out.elim
  | .ok .next, out => exact out.elim
  | .ok .brk, out => exact out.elim
  | .ok .cont, out => exact out.elim
  | .ok (.ret u), out =>
    obtain ⟨v, H', os', bare, un, okH', rv, q⟩ := out
    have q' : v = .bl true := q
    subst q'
    obtain rfl : u = Value.bool true := rv
    have keep : ∀ b o, b ∉ cs.map (·.2) → s1.heap.get? b = some o → s'.heap.get? b = some o := fun b o nb e => by
      rcases kinds b with z | ⟨z, _⟩ | ⟨z, _, z2⟩
      · exact un.keep b o e z (fun z => absurd z List.not_mem_nil) (fun z => absurd z List.not_mem_nil)
      · exact absurd z nb
      · obtain ⟨e1, _⟩ := okH b _ z2
        obtain ⟨e2, _⟩ := okH' b _ (un.frzs b _ _ z2)
        rw [e] at e1; cases e1
        exact e2
    refine ⟨rfl, ⟨fun b o e => ?_, fun b o e => ?_⟩, os', bare⟩
    · by_cases hb : b ∈ cs.map (·.2)
      · obtain ⟨p, hp, ep⟩ := List.mem_map.mp hb
        rcases kinds b with z | ⟨_, z⟩ | ⟨z, _, _⟩
        · rw [← eH, entry_tab hb] at z; cases z
        · obtain ⟨more, e2⟩ := un.tbls b #[] z
          subst ep
          rw [tE' p hp] at e
          cases e
          exact .inr (.inl ⟨((tC p hp).tab (tE' p hp)).isCodeTable, rfl, #[], more, rfl, okH' _ _ e2⟩)
        · exact absurd (z ▸ hb) apart
      · exact .inl (keep b o hb e)
    · by_cases hb : b ∈ cs.map (·.2)
      · rcases kinds b with z | ⟨_, z⟩ | ⟨z, _, _⟩
        · rw [← eH, entry_tab hb] at z; cases z
        · obtain ⟨more, e2⟩ := un.tbls b #[] z
          exact ⟨_, okH' _ _ e2⟩
        · exact absurd (z ▸ hb) apart
      · exact ⟨o, keep b o hb e⟩
/-- the walk over the head, by it -/
theorem walk_G {l : PySem.W.OpenLaw} {n k : Nat} {q : Program} {loose : List Str} {XP : (Str → Option Value) → Heap → Prop} {YP : World → Heap → Prop} {d : DefRec} {x : Str} {m : Opn}
    (hn : l.most = some n) (hn2 : n ≤ sizeLine) (hdf : d.params.defaults = []) (room : Room k callerA)
    (F : ∀ (w : World) (mg : Str → Option Value) (fa : Addr) (h : Heap), YP w h → h.Ns mainGlobals mg → mg d.name = some (.ref fa) → ∃ (K : PySem.W.Frag) (W : Wd) (fd : FuncData) (cs : List (Addr × Addr)), K.In h ∧ W.K = K ∧ ((∀ T ∈ W.tabs, T ∈ cs.map (·.2)) ∧ (∀ p ∈ W.lams, p.1 ∈ cs.map (·.2)) ∧ ∀ p ∈ W.lams, p.1 ∉ W.tabs) ∧
      (∀ p ∈ cs, h.get? p.2 = some { cls := .none, data := .fields #[] }) ∧ (∀ p ∈ cs, K.lookup p.2 = none) ∧ (∀ p ∈ cs, PySem.W.CodeHd h p.1 p.2) ∧ (∀ (s : Shared) (u : Value), BindsTo s fd ⟨[u], []⟩ [(x, u)]) ∧
      ∀ base : Heap, K.In base → base.Ns mainGlobals mg → (∀ p ∈ cs, TabB base mg p.1 p.2) → FnG l.prog w K mg base k fa fd [x] (spD W 1 m))
    (so : ∀ ns : List Int, ns.length ≤ n → (∀ z ∈ ns, Builtin.Int.intBits z ≤ 1048576) → ∃ S', m [.d (.con (ns.map .int))] [] = .ok (.d (.bl true)) S') :
    PySem.W.WalkO q loose XP YP l.row.toRowW d [] (fun f vs => PySem.call f vs) := by
  refine Att.attach_callB hn hdf fun w s0 s1 mg mb fa o pm cd doc a vs ns G Y ho hd hcd hmg sc isI hlen bits gn => ?_
  obtain ⟨K, W, fd, cs, KX, hW, hWt, t1, t2, t3, bd, hF⟩ := F w mg fa _ Y G.T.g hmg
  exact law_callG KX G.T.g G.T.b G.T.builtins G.T.nolimit gn t1 t2 t3 G.T.bmain sc isI (Nat.le_trans hlen hn2) room hW hWt.1 hWt.2.1 hWt.2.2 hF bd (so ns hlen bits)
end
end Dn
set_option Elab.async false
set_option linter.all false
set_option maxRecDepth 100000
set_option maxHeartbeats 4000000
/-! ### lists put together as a new place; lists repeated -/
namespace Dn
open PySem PySem.Spec PyProof.Rows L2 GxR Gx
section
variable {W : Wd} {E : XK} {X : Cx} {pos : Pos}
def oAddC : Op2 := fun x y S => match trkL x S, trkL y S with
  | some a, some b => if a.length + b.length ≤ szL then .ok (.r S.length) (S ++ [.lst (a ++ b)]) else .bad
  | _, _ => .bad
theorem dop_addC : DOp W E rCat oAddC := by
  intro x y S H μ v w Q s rx ry h
  unfold oAddC at h
  split at h
  · rename_i a b e1 e2
    split at h
    · rename_i hz
      obtain ⟨p, vs, rfl, q1, r1⟩ := trkL_rel s rx e1
      obtain ⟨p', ws, rfl, q2, r2⟩ := trkL_rel s ry e2
      refine ⟨p, p', vs, ws, rfl, rfl, q1, q2, by rw [← r1.length, ← r2.length, szL_eq]; exact hz, fun c hc => ?_⟩
      obtain ⟨k, r⟩ := post_cell h s hc (r1.append r2)
      exact k _ r
    · exact h.elim
  · exact h.elim
theorem de_addC {a b : Expr} {f g : DEf} (ha : DE W E X a f) (hb : DE W E X b g) : DE W E X (.BinOp a .Add b pos) (dOp oAddC f g) := de_op op_cat dop_addC ha hb
def oRepL : Op2 := fun x y S => match trkL x S, y with
  | some a, .d (.int k) => if 0 ≤ k ∧ k ≤ 100000 ∧ a.length ≤ 100 then .ok (.d (.lst (List.replicate k.toNat a).flatten)) S else .bad
  | _, _ => .bad
def oRepC : Op2 := fun x y S => match trkL x S, y with
  | some a, .d (.int k) => if 0 ≤ k ∧ k ≤ 100000 ∧ a.length ≤ 100 then .ok (.r S.length) (S ++ [.lst (List.replicate k.toNat a).flatten]) else .bad
  | _, _ => .bad
theorem rep_size {n : Nat} {k : Int} (h1 : k ≤ 100000) (h2 : n ≤ 100) : n * k.toNat ≤ sizeLine := by
  rw [szL_eq]
  have : n * k.toNat ≤ 100 * 100000 := Nat.mul_le_mul h2 (by omega)
  exact Nat.le_trans this (by decide)
theorem dop_repL : DOp W E rRep oRepL := by
  intro x y S H μ v w Q s rx ry h
  unfold oRepL at h
  split at h
  · rename_i a k e1
    split at h
    · rename_i hz
      obtain ⟨p, vs, rfl, q1, r1⟩ := trkL_rel s rx e1
      refine ⟨p, k, vs, rfl, int_rel ry, q1, by omega, by omega, rep_size hz.2.1 (by rw [← r1.length]; exact hz.2.2), fun c hc => ?_⟩
      obtain ⟨k, r⟩ := post_lst h s hc (r1.rep _)
      exact k _ r
    · exact h.elim
  · exact h.elim
theorem dop_repC : DOp W E rRep oRepC := by
  intro x y S H μ v w Q s rx ry h
  unfold oRepC at h
  split at h
  · rename_i a k e1
    split at h
    · rename_i hz
      obtain ⟨p, vs, rfl, q1, r1⟩ := trkL_rel s rx e1
      refine ⟨p, k, vs, rfl, int_rel ry, q1, by omega, by omega, rep_size hz.2.1 (by rw [← r1.length]; exact hz.2.2), fun c hc => ?_⟩
      obtain ⟨k, r⟩ := post_cell h s hc (r1.rep _)
      exact k _ r
    · exact h.elim
  · exact h.elim
theorem de_repL {a b : Expr} {f g : DEf} (ha : DE W E X a f) (hb : DE W E X b g) : DE W E X (.BinOp a .Mult b pos) (dOp oRepL f g) := de_op op_rep dop_repL ha hb
theorem de_repC {a b : Expr} {f g : DEf} (ha : DE W E X a f) (hb : DE W E X b g) : DE W E X (.BinOp a .Mult b pos) (dOp oRepC f g) := de_op op_rep dop_repC ha hb
end
end Dn
set_option Elab.async false
set_option linter.all false
set_option maxRecDepth 100000
set_option maxHeartbeats 1000000
/-! ### reckoning with such functions -/
namespace Dn
open PySem PySem.Spec PyProof.Rows L2
/-- it comes to an end with Q -/
def Ok {α : Type} (r : Out α) (Q : α → Sto → Prop) : Prop := ∃ a S, r = .ok a S ∧ Q a S
section
variable {α β : Type} {Q : α → Sto → Prop} {a : α} {S : Sto} {x : Exn}
@[simp] theorem ok_ok : Ok (.ok a S) Q ↔ Q a S := ⟨fun ⟨b, T, e, q⟩ => by cases e; exact q, fun q => ⟨a, S, rfl, q⟩⟩
@[simp] theorem ok_bad : Ok (.bad : Out α) Q ↔ False := ⟨fun ⟨b, T, e, q⟩ => (by cases e), False.elim⟩
@[simp] theorem ok_exc : Ok (.exc x S : Out α) Q ↔ False := ⟨fun ⟨b, T, e, q⟩ => (by cases e), False.elim⟩
@[simp] theorem ok_bind {r : Out α} {k : α → Sto → Out β} {Q : β → Sto → Prop} : Ok (r.bind k) Q ↔ Ok r fun a S => Ok (k a S) Q := by
  cases r <;> simp
theorem Ok.mono {r : Out α} {Q' : α → Sto → Prop} (h : Ok r Q) (hq : ∀ a S, Q a S → Q' a S) : Ok r Q' := let ⟨a, S, e, q⟩ := h; ⟨a, S, e, hq a S q⟩
@[simp] theorem ok_ite {c : Prop} [Decidable c] {r r' : Out α} : Ok (if c then r else r') Q ↔ if c then Ok r Q else Ok r' Q := by by_cases h : c <;> simp [h]
end
/-! equations by constructors: nothing unfolds below a name that is not known yet -/
def getV (o : Option (Option Val)) (S : Sto) : Out Val := match o with
  | some (some x) => .ok x S
  | _ => .bad
@[simp] theorem getV_some (x : Val) (S : Sto) : getV (some (some x)) S = .ok x S := (rfl)
@[simp] theorem getV_none (S : Sto) : getV none S = .bad := (rfl)
@[simp] theorem getV_non (S : Sto) : getV (some none) S = .bad := (rfl)
@[simp] theorem dVar_eq (i : Nat) (env : Env) (S : Sto) : dVar i env S = getV env[i]? S := (rfl)
@[simp] theorem dC_eq (d : D) (env : Env) (S : Sto) : dC d env S = .ok (.d d) S := (rfl)
@[simp] theorem dOp_eq (o : Op2) (f g : DEf) (env : Env) (S : Sto) : dOp o f g env S = (f env S).bind fun x S1 => (g env S1).bind fun y S2 => o x y S2 := (rfl)
@[simp] theorem dUn_eq (o : Val → Sto → Out Val) (f : DEf) (env : Env) (S : Sto) : dUn o f env S = (f env S).bind fun x S1 => o x S1 := (rfl)
def toB (x : Val) (S : Sto) : Out Bool := match x with
  | .d (.bl b) => .ok b S
  | _ => .bad
@[simp] theorem toB_bl (b : Bool) (S : Sto) : toB (.d (.bl b)) S = .ok b S := (rfl)
@[simp] theorem dB_eq (f : DEf) (env : Env) (S : Sto) : dB f env S = (f env S).bind toB := (rfl)
def chain (o' : Op2) (y : Val) (h : Sto → Out Val) (z : Val) (S : Sto) : Out Val := match z with
  | .d (.bl true) => (h S).bind fun w S4 => o' y w S4
  | .d (.bl false) => .ok (.d (.bl false)) S
  | _ => .bad
@[simp] theorem chain_bl (o' : Op2) (y : Val) (h : Sto → Out Val) (b : Bool) (S : Sto) : chain o' y h (.d (.bl b)) S = if b = true then (h S).bind fun w S4 => o' y w S4 else .ok (.d (.bl false)) S := by cases b <;> rfl
@[simp] theorem dChain_eq (o o' : Op2) (f g h : DEf) (env : Env) (S : Sto) : dChain o o' f g h env S = (f env S).bind fun x S1 => (g env S1).bind fun y S2 => (o x y S2).bind (chain o' y (h env)) := (rfl)
@[simp] theorem dtAnd_eq (f g : DTf) (env : Env) (S : Sto) : dtAnd f g env S = (f env S).bind fun b S1 => if b = true then g env S1 else .ok false S1 := (rfl)
@[simp] theorem dtOr_eq (f g : DTf) (env : Env) (S : Sto) : dtOr f g env S = (f env S).bind fun b S1 => if b = true then .ok true S1 else g env S1 := (rfl)
@[simp] theorem dtNot_eq (f : DTf) (env : Env) (S : Sto) : dtNot f env S = (f env S).bind fun b S1 => .ok (!b) S1 := (rfl)
@[simp] theorem dAnd_eq (f g : DEf) (env : Env) (S : Sto) : dAnd f g env S = ((f env S).bind toB).bind fun b S1 => if b = true then g env S1 else .ok (.d (.bl false)) S1 := (rfl)
@[simp] theorem dOr_eq (f g : DEf) (env : Env) (S : Sto) : dOr f g env S = ((f env S).bind toB).bind fun b S1 => if b = true then .ok (.d (.bl true)) S1 else g env S1 := (rfl)
@[simp] theorem dNot_eq (f : DEf) (env : Env) (S : Sto) : dNot f env S = ((f env S).bind toB).bind fun b S1 => .ok (.d (.bl (!b))) S1 := (rfl)
@[simp] theorem dIf_eq (f : DTf) (F G : DEf) (env : Env) (S : Sto) : dIf f F G env S = (f env S).bind fun b S1 => if b = true then F env S1 else G env S1 := (rfl)
@[simp] theorem dNil_eq (env : Env) (S : Sto) : dNil env S = .ok [] S := (rfl)
@[simp] theorem dCons_eq (F : DEf) (As : DAf) (env : Env) (S : Sto) : dCons F As env S = (F env S).bind fun x S1 => (As env S1).bind fun xs S2 => .ok (x :: xs) S2 := (rfl)
@[simp] theorem dCall_eq (o : Opn) (As : DAf) (env : Env) (S : Sto) : dCall o As env S = (As env S).bind fun xs S1 => o xs S1 := (rfl)
@[simp] theorem dCallN_eq (n : Nat) (m : Opn) (As : DAf) (env : Env) (S : Sto) : dCallN n m As env S = (As env S).bind fun xs S1 => if xs.length = n then m xs S1 else .bad := (rfl)
@[simp] theorem dCallK_eq (n j l : Nat) (pr : List Nat) (m : Opn) (As Ks : DAf) (env : Env) (S : Sto) : dCallK n j l pr m As Ks env S = (As env S).bind fun xs S1 => (Ks env S1).bind fun ys S2 => if xs.length = j ∧ ys.length = l ∧ (permL pr (xs ++ ys)).length = n then m (permL pr (xs ++ ys)) S2 else .bad := (rfl)
def toO (x : Val) (S : Sto) : Out (Option Int) := match x with
  | .d (.int i) => .ok (some i) S
  | _ => .bad
@[simp] theorem toO_int (i : Int) (S : Sto) : toO (.d (.int i)) S = .ok (some i) S := (rfl)
@[simp] theorem dO0_eq (env : Env) (S : Sto) : dO0 env S = .ok none S := (rfl)
@[simp] theorem dO1_eq (f : DEf) (env : Env) (S : Sto) : dO1 f env S = (f env S).bind toO := (rfl)
@[simp] theorem dSl_eq (f : DEf) (lo hi : DOf) (env : Env) (S : Sto) : dSl f lo hi env S = (f env S).bind fun x S1 => (lo env S1).bind fun l S2 => (hi env S2).bind fun h S3 => oSl x l h S3 := (rfl)
@[simp] theorem dgName_eq (i : Nat) (x : Val) (env : Env) (S : Sto) : dgName i x env S = .ok (env.set i (some x)) S := (rfl)
@[simp] theorem dgNil_eq (env : Env) (S : Sto) : dgNil [] env S = .ok env S := (rfl)
@[simp] theorem dgCons_eq (g : DGf) (gs : DGsf) (x : D) (xs : List D) (env : Env) (S : Sto) : dgCons g gs (x :: xs) env S = (g (.d x) env S).bind fun env1 S1 => gs xs env1 S1 := (rfl)
@[simp] theorem dgTup_eq (n : Nat) (gs : DGsf) (ds : List D) (env : Env) (S : Sto) : dgTup n gs (.d (.tup ds)) env S = if ds.length = n then gs ds env S else .bad := (rfl)
@[simp] theorem dgSub_eq (f g : DEf) (x : Val) (env : Env) (S : Sto) : dgSub f g x env S = (f env S).bind fun o S1 => (g env S1).bind fun i S2 => (oSet o i x S2).bind fun _ S3 => .ok env S3 := (rfl)
def cSet (c : Option Cell) (n : Nat) (k : Int) (d : D) (S : Sto) : Out Unit := match c with
  | some (.lst ds) => (match ixN ds.length k with
    | some j => .ok () (S.set n (.lst (ds.set j d)))
    | none => .bad)
  | _ => .bad
@[simp] theorem oSet_eq (n : Nat) (k : Int) (d : D) (S : Sto) : oSet (.r n) (.d (.int k)) (.d d) S = cSet S[n]? n k d S := by
  unfold oSet cSet
  dsimp only
  all_goals (cases S[n]? with
  | none => rfl
  | some c => cases c <;> rfl)
def iSet (o : Option Nat) (n : Nat) (ds : List D) (d : D) (S : Sto) : Out Unit := match o with
  | some j => .ok () (S.set n (.lst (ds.set j d)))
  | none => .bad
@[simp] theorem iSet_some (j n : Nat) (ds : List D) (d : D) (S : Sto) : iSet (some j) n ds d S = .ok () (S.set n (.lst (ds.set j d))) := (rfl)
@[simp] theorem cSet_lst (ds : List D) (n : Nat) (k : Int) (d : D) (S : Sto) : cSet (some (.lst ds)) n k d S = iSet (ixN ds.length k) n ds d S := (rfl)
@[simp] theorem dNext_eq (env : Env) (S : Sto) : dNext env S = .ok (.nx env) S := (rfl)
def cont (g : DSf) (fl : Fl) (S : Sto) : Out Fl := match fl with
  | .nx env1 => g env1 S
  | fl => .ok fl S
@[simp] theorem cont_nx (g : DSf) (env : Env) (S : Sto) : cont g (.nx env) S = g env S := (rfl)
@[simp] theorem cont_ret (g : DSf) (x : Val) (S : Sto) : cont g (.ret x) S = .ok (.ret x) S := (rfl)
@[simp] theorem cont_brk (g : DSf) (env : Env) (S : Sto) : cont g (.brk env) S = .ok (.brk env) S := (rfl)
@[simp] theorem cont_cnt (g : DSf) (env : Env) (S : Sto) : cont g (.cnt env) S = .ok (.cnt env) S := (rfl)
@[simp] theorem dSeq_eq (f g : DSf) (env : Env) (S : Sto) : dSeq f g env S = (f env S).bind (cont g) := by
  unfold dSeq
  congr 1
@[simp] theorem dBrk_eq (env : Env) (S : Sto) : dBrk env S = .ok (.brk env) S := (rfl)
@[simp] theorem dCnt_eq (env : Env) (S : Sto) : dCnt env S = .ok (.cnt env) S := (rfl)
@[simp] theorem dRet_eq (F : DEf) (env : Env) (S : Sto) : dRet F env S = (F env S).bind fun x S1 => .ok (.ret x) S1 := (rfl)
@[simp] theorem dRetN_eq (env : Env) (S : Sto) : dRetN env S = .ok (.ret (.d .non)) S := (rfl)
@[simp] theorem dDrop_eq (F : DEf) (env : Env) (S : Sto) : dDrop F env S = (F env S).bind fun _ S1 => .ok (.nx env) S1 := (rfl)
@[simp] theorem dIfS_eq (c : DTf) (f g : DSf) (env : Env) (S : Sto) : dIfS c f g env S = (c env S).bind fun b S1 => if b = true then f env S1 else g env S1 := (rfl)
@[simp] theorem dAsg_eq (F : DEf) (g : DGf) (env : Env) (S : Sto) : dAsg F g env S = (F env S).bind fun x S1 => (g x env S1).bind fun env1 S2 => .ok (.nx env1) S2 := (rfl)
def par2 (i j : Nat) (env : Env) (xs : List Val) (S : Sto) : Out Fl := match xs with
  | [x, y] => .ok (.nx ((env.set i (some x)).set j (some y))) S
  | _ => .bad
@[simp] theorem par2_eq (i j : Nat) (env : Env) (x y : Val) (S : Sto) : par2 i j env [x, y] S = .ok (.nx ((env.set i (some x)).set j (some y))) S := (rfl)
@[simp] theorem dPar_eq (i j : Nat) (As : DAf) (env : Env) (S : Sto) : dPar i j As env S = (As env S).bind (par2 i j env) := (rfl)
def par3 (i j l : Nat) (env : Env) (xs : List Val) (S : Sto) : Out Fl := match xs with
  | [x, y, z] => .ok (.nx (((env.set i (some x)).set j (some y)).set l (some z))) S
  | _ => .bad
@[simp] theorem par3_eq (i j l : Nat) (env : Env) (x y z : Val) (S : Sto) : par3 i j l env [x, y, z] S = .ok (.nx (((env.set i (some x)).set j (some y)).set l (some z))) S := (rfl)
@[simp] theorem dPar3_eq (i j l : Nat) (As : DAf) (env : Env) (S : Sto) : dPar3 i j l As env S = (As env S).bind (par3 i j l env) := (rfl)
@[simp] theorem dYes_eq (env : Env) (S : Sto) : dYes env S = .ok true S := (rfl)
/-! operators -/
@[simp] theorem oSub_int (i j : Int) (S : Sto) : oSub (.d (.int i)) (.d (.int j)) S = .ok (.d (.int (i - j))) S := (rfl)
@[simp] theorem oLt_int (i j : Int) (S : Sto) : oLt (.d (.int i)) (.d (.int j)) S = .ok (.d (.bl (decide (i < j)))) S := (rfl)
@[simp] theorem oLe_int (i j : Int) (S : Sto) : oLe (.d (.int i)) (.d (.int j)) S = .ok (.d (.bl (decide (i ≤ j)))) S := (rfl)
@[simp] theorem oGt_int (i j : Int) (S : Sto) : oGt (.d (.int i)) (.d (.int j)) S = .ok (.d (.bl (decide (j < i)))) S := (rfl)
@[simp] theorem oGe_int (i j : Int) (S : Sto) : oGe (.d (.int i)) (.d (.int j)) S = .ok (.d (.bl (decide (j ≤ i)))) S := (rfl)
@[simp] theorem oAdd_int (i j : Int) (S : Sto) : oAdd (.d (.int i)) (.d (.int j)) S = .ok (.d (.int (i + j))) S := (rfl)
@[simp] theorem oAdd_tup (a b : List D) (S : Sto) : oAdd (.d (.tup a)) (.d (.tup b)) S = if a.length + b.length ≤ szL then .ok (.d (.tup (a ++ b))) S else .bad := (rfl)
@[simp] theorem oMul_int (i j : Int) (S : Sto) : oMul (.d (.int i)) (.d (.int j)) S = if cMul i j = true then .ok (.d (.int (i * j))) S else .bad := (rfl)
@[simp] theorem oMul_tup (a : List D) (k : Int) (S : Sto) : oMul (.d (.tup a)) (.d (.int k)) S = if a ≠ [] ∧ ((2 ≤ k ∧ k ≤ 1000 ∧ a.length ≤ 1000) ∨ k = 0 ∨ k = 1) then .ok (.d (.tup (List.replicate k.toNat a).flatten)) S else .bad := (rfl)
@[simp] theorem oDiv_int (i j : Int) (S : Sto) : oDiv (.d (.int i)) (.d (.int j)) S = if cDiv i j = true then .ok (.d (.int (i.fdiv j))) S else .bad := (rfl)
@[simp] theorem oMod_int (i j : Int) (S : Sto) : oMod (.d (.int i)) (.d (.int j)) S = if cMod i j = true then .ok (.d (.int (i.fmod j))) S else .bad := (rfl)
@[simp] theorem oPow_int (i j : Int) (S : Sto) : oPow (.d (.int i)) (.d (.int j)) S = if cPow i j = true then .ok (.d (.int (i ^ j.toNat))) S else .bad := (rfl)
@[simp] theorem oEqB_int (neg : Bool) (i j : Int) (S : Sto) : oEqB neg (.d (.int i)) (.d (.int j)) S = .ok (.d (.bl (xor neg (decide (i = j))))) S := (rfl)
@[simp] theorem oEqB_str (neg : Bool) (i j : Str) (S : Sto) : oEqB neg (.d (.str i)) (.d (.str j)) S = .ok (.d (.bl (xor neg (decide (i = j))))) S := (rfl)
@[simp] theorem oIsB_non (neg : Bool) (a : D) (S : Sto) : oIsB neg (.d a) (.d .non) S = .ok (.d (.bl (xor neg (isNon a)))) S := by cases a <;> rfl
@[simp] theorem oIsB_bl (neg a b : Bool) (S : Sto) : oIsB neg (.d (.bl a)) (.d (.bl b)) S = .ok (.d (.bl (xor neg (decide (a = b))))) S := (rfl)
@[simp] theorem oNeg_int (i : Int) (S : Sto) : oNeg (.d (.int i)) S = .ok (.d (.int (-i))) S := (rfl)
def optV (o : Option D) (S : Sto) : Out Val := match o with
  | some d => .ok (.d d) S
  | none => .bad
@[simp] theorem optV_some (d : D) (S : Sto) : optV (some d) S = .ok (.d d) S := (rfl)
@[simp] theorem oIx_tup (ds : List D) (i : Int) (S : Sto) : oIx (.d (.tup ds)) (.d (.int i)) S = optV (atI ds i) S := by
  unfold oIx optV; dsimp only; all_goals (cases atI ds i <;> rfl)
@[simp] theorem oIx_lst (ds : List D) (i : Int) (S : Sto) : oIx (.d (.lst ds)) (.d (.int i)) S = optV (atI ds i) S := by
  unfold oIx optV; dsimp only [seqL]; all_goals (cases atI ds i <;> rfl)
@[simp] theorem oIx_con (ds : List D) (i : Int) (S : Sto) : oIx (.d (.con ds)) (.d (.int i)) S = optV (atI ds i) S := by
  unfold oIx optV; dsimp only [seqL]; all_goals (cases atI ds i <;> rfl)
def cellIx (c : Option Cell) (i : Int) (S : Sto) : Out Val := match c with
  | some (.lst ds) => optV (atI ds i) S
  | _ => .bad
@[simp] theorem cellIx_lst (ds : List D) (i : Int) (S : Sto) : cellIx (some (.lst ds)) i S = optV (atI ds i) S := (rfl)
@[simp] theorem oIx_r (n : Nat) (i : Int) (S : Sto) : oIx (.r n) (.d (.int i)) S = cellIx S[n]? i S := by
  unfold oIx cellIx optV
  dsimp only [seqL]
  cases S[n]? with
  | none => rfl
  | some c =>
    cases c with
    | dead => rfl
    | lst ds => dsimp only; all_goals (cases atI ds i <;> rfl)
theorem atI_cast {α : Type} (xs : List α) (k : Nat) : atI xs (k : Int) = xs[k]? := by
  cases h : xs[k]? with
  | some v => exact atI_nat h
  | none =>
    have : xs.length ≤ k := List.getElem?_eq_none_iff.mp h
    unfold atI ixN
    rw [if_pos (by omega), if_neg (by omega)]
    rfl
@[simp] theorem atI_two {α : Type} (xs : List α) : atI xs 2 = xs[2]? := atI_cast xs 2
@[simp] theorem atI_three {α : Type} (xs : List α) : atI xs 3 = xs[3]? := atI_cast xs 3
@[simp] theorem atI_four {α : Type} (xs : List α) : atI xs 4 = xs[4]? := atI_cast xs 4
@[simp] theorem atI_zero {α : Type} (xs : List α) : atI xs 0 = xs[0]? := atI_cast xs 0
@[simp] theorem atI_one {α : Type} (xs : List α) : atI xs 1 = xs[1]? := atI_cast xs 1
@[simp] theorem o1_eq (o : Val → Sto → Out Val) (x : Val) (S : Sto) : o1 o [x] S = o x S := (rfl)
@[simp] theorem o2_eq (o : Op2) (x y : Val) (S : Sto) : o2 o [x, y] S = o x y S := (rfl)
@[simp] theorem bInt_int (i : Int) (S : Sto) : bInt (.d (.int i)) S = .ok (.d (.int i)) S := (rfl)
@[simp] theorem bAbs_int (i : Int) (S : Sto) : bAbs (.d (.int i)) S = .ok (.d (.int (if i < 0 then -i else i))) S := (rfl)
@[simp] theorem bMax2_int (i j : Int) (S : Sto) : bMax2 (.d (.int i)) (.d (.int j)) S = .ok (.d (.int (if j > i then j else i))) S := (rfl)
@[simp] theorem bMin2_int (i j : Int) (S : Sto) : bMin2 (.d (.int i)) (.d (.int j)) S = .ok (.d (.int (if j < i then j else i))) S := (rfl)
@[simp] theorem bGcd_int (i j : Int) (S : Sto) : bGcd (.d (.int i)) (.d (.int j)) S = .ok (.d (.int ((Nat.gcd i.natAbs j.natAbs : Nat) : Int))) S := (rfl)
@[simp] theorem bDivmod_int (i j : Int) (S : Sto) : bDivmod (.d (.int i)) (.d (.int j)) S = if 0 < j ∧ j < 1073741824 then .ok (.d (.tup [.int (i / j), .int (i % j)])) S else .bad := (rfl)
@[simp] theorem bLen_tup (ds : List D) (S : Sto) : bLen (.d (.tup ds)) S = .ok (.d (.int ds.length)) S := (rfl)
@[simp] theorem bLen_lst (ds : List D) (S : Sto) : bLen (.d (.lst ds)) S = .ok (.d (.int ds.length)) S := (rfl)
@[simp] theorem bLen_con (ds : List D) (S : Sto) : bLen (.d (.con ds)) S = .ok (.d (.int ds.length)) S := (rfl)
@[simp] theorem bTuple_tup (ds : List D) (S : Sto) : bTuple (.d (.tup ds)) S = .ok (.d (.tup ds)) S := (rfl)
@[simp] theorem bTuple_lst (ds : List D) (S : Sto) : bTuple (.d (.lst ds)) S = .ok (.d (.tup ds)) S := (rfl)
@[simp] theorem bList_tup (ds : List D) (S : Sto) : bList (.d (.tup ds)) S = .ok (.d (.lst ds)) S := (rfl)
@[simp] theorem oBack_tup (ds : List D) (S : Sto) : oBack (.d (.tup ds)) S = .ok (.d (.tup ds.reverse)) S := (rfl)
@[simp] theorem oSl_tup (ds : List D) (lo hi : Option Int) (S : Sto) : oSl (.d (.tup ds)) lo hi S = .ok (.d (.tup (cutL ds lo hi))) S := (rfl)
@[simp] theorem oSl_con (ds : List D) (lo hi : Option Int) (S : Sto) : oSl (.d (.con ds)) lo hi S = .ok (.d (.lst (cutL ds lo hi))) S := (rfl)
def cTuple (c : Option Cell) (S : Sto) : Out Val := match c with
  | some (.lst ds) => .ok (.d (.tup ds)) S
  | _ => .bad
@[simp] theorem cTuple_lst (ds : List D) (S : Sto) : cTuple (some (.lst ds)) S = .ok (.d (.tup ds)) S := (rfl)
@[simp] theorem bTuple_r (n : Nat) (S : Sto) : bTuple (.r n) S = cTuple S[n]? S := by
  unfold bTuple cTuple
  dsimp only [seqA, seqL]
  all_goals (cases S[n]? with
  | none => rfl
  | some c => cases c <;> rfl)
def cLen (c : Option Cell) (S : Sto) : Out Val := match c with
  | some (.lst ds) => .ok (.d (.int ds.length)) S
  | _ => .bad
@[simp] theorem cLen_lst (ds : List D) (S : Sto) : cLen (some (.lst ds)) S = .ok (.d (.int ds.length)) S := (rfl)
@[simp] theorem bLen_r (n : Nat) (S : Sto) : bLen (.r n) S = cLen S[n]? S := by
  unfold bLen cLen
  dsimp only [seqA, seqL]
  all_goals (cases S[n]? with
  | none => rfl
  | some c => cases c <;> rfl)
def cAppend (c : Option Cell) (n : Nat) (d : D) (S : Sto) : Out Val := match c with
  | some (.lst ds) => if ds.length < szL then .ok (.d .non) (S.set n (.lst (ds ++ [d]))) else .bad
  | _ => .bad
@[simp] theorem cAppend_lst (ds : List D) (n : Nat) (d : D) (S : Sto) : cAppend (some (.lst ds)) n d S = if ds.length < szL then .ok (.d .non) (S.set n (.lst (ds ++ [d]))) else .bad := (rfl)
@[simp] theorem mAppend_r (n : Nat) (d : D) (S : Sto) : mAppend (.r n) [.d d] S = cAppend S[n]? n d S := by
  unfold mAppend cAppend
  dsimp only
  all_goals (cases S[n]? with
  | none => rfl
  | some c => cases c <;> rfl)
def cMeth (o : Val → List Val → Sto → Out Val) (As : DAf) (env : Env) (x : Val) (S : Sto) (c : Option Cell) : Out Val := match c with
  | some (.lst _) => (As env S).bind fun xs S2 => o x xs S2
  | _ => .bad
@[simp] theorem cMeth_lst (o : Val → List Val → Sto → Out Val) (As : DAf) (env : Env) (x : Val) (S : Sto) (ds : List D) : cMeth o As env x S (some (.lst ds)) = (As env S).bind fun xs S2 => o x xs S2 := (rfl)
def meth (o : Val → List Val → Sto → Out Val) (As : DAf) (env : Env) (x : Val) (S : Sto) : Out Val := match seqL x S with
  | some _ => (As env S).bind fun xs S2 => o x xs S2
  | none => .bad
@[simp] theorem meth_r (o : Val → List Val → Sto → Out Val) (As : DAf) (env : Env) (n : Nat) (S : Sto) : meth o As env (.r n) S = cMeth o As env (.r n) S S[n]? := by
  unfold meth cMeth
  dsimp only [seqL]
  all_goals (cases S[n]? with
  | none => rfl
  | some c => cases c <;> rfl)
@[simp] theorem dMeth_eq (o : Val → List Val → Sto → Out Val) (f : DEf) (As : DAf) (env : Env) (S : Sto) : dMeth o f As env S = (f env S).bind fun x S1 => meth o As env x S1 := (rfl)
@[simp] theorem datas_nil : datas [] = some [] := (rfl)
@[simp] theorem datas_cons (x : D) (xs : List Val) : datas (.d x :: xs) = (datas xs).map (x :: ·) := (rfl)
def mkT (o : Option (List D)) (S : Sto) : Out Val := match o with
  | some ds => if ds.length ≤ szL then .ok (.d (.tup ds)) S else .bad
  | none => .bad
@[simp] theorem mkT_some (ds : List D) (S : Sto) : mkT (some ds) S = if ds.length ≤ szL then .ok (.d (.tup ds)) S else .bad := (rfl)
@[simp] theorem oTup_eq (xs : List Val) (S : Sto) : oTup xs S = mkT (datas xs) S := (rfl)
def mkC (o : Option (List D)) (S : Sto) : Out Val := match o with
  | some ds => if ds.length ≤ szL then .ok (.r S.length) (S ++ [.lst ds]) else .bad
  | none => .bad
@[simp] theorem mkC_some (ds : List D) (S : Sto) : mkC (some ds) S = if ds.length ≤ szL then .ok (.r S.length) (S ++ [.lst ds]) else .bad := (rfl)
@[simp] theorem oCell_eq (xs : List Val) (S : Sto) : oCell xs S = mkC (datas xs) S := (rfl)
def mkL (o : Option (List D)) (S : Sto) : Out Val := match o with
  | some ds => if ds.length ≤ szL then .ok (.d (.lst ds)) S else .bad
  | none => .bad
@[simp] theorem mkL_some (ds : List D) (S : Sto) : mkL (some ds) S = if ds.length ≤ szL then .ok (.d (.lst ds)) S else .bad := (rfl)
@[simp] theorem oLst_eq (xs : List Val) (S : Sto) : oLst xs S = mkL (datas xs) S := (rfl)
def cAdd (c : Option (List D)) (c' : Option (List D)) (S : Sto) : Out Val := match c, c' with
  | some a, some b => if a.length + b.length ≤ szL then .ok (.r S.length) (S ++ [.lst (a ++ b)]) else .bad
  | _, _ => .bad
@[simp] theorem cAdd_some (a b : List D) (S : Sto) : cAdd (some a) (some b) S = if a.length + b.length ≤ szL then .ok (.r S.length) (S ++ [.lst (a ++ b)]) else .bad := (rfl)
def cellL (c : Option Cell) : Option (List D) := match c with
  | some (.lst ds) => some ds
  | _ => none
@[simp] theorem cellL_lst (ds : List D) : cellL (some (.lst ds)) = some ds := (rfl)
@[simp] theorem trkL_r (n : Nat) (S : Sto) : trkL (.r n) S = cellL S[n]? := by
  unfold trkL cellL
  dsimp only
  all_goals (cases S[n]? with
  | none => rfl
  | some c => cases c <;> rfl)
@[simp] theorem trkL_lst (ds : List D) (S : Sto) : trkL (.d (.lst ds)) S = some ds := (rfl)
@[simp] theorem oAddC_eq (x y : Val) (S : Sto) : oAddC x y S = cAdd (trkL x S) (trkL y S) S := by
  unfold oAddC cAdd
  cases trkL x S <;> cases trkL y S <;> rfl
def lAdd (c : Option (List D)) (c' : Option (List D)) (S : Sto) : Out Val := match c, c' with
  | some a, some b => if a.length + b.length ≤ szL then .ok (.d (.lst (a ++ b))) S else .bad
  | _, _ => .bad
@[simp] theorem lAdd_some (a b : List D) (S : Sto) : lAdd (some a) (some b) S = if a.length + b.length ≤ szL then .ok (.d (.lst (a ++ b))) S else .bad := (rfl)
@[simp] theorem oAdd_r (n : Nat) (y : Val) (S : Sto) : oAdd (.r n) y S = lAdd (trkL (.r n) S) (trkL y S) S := by
  unfold oAdd lAdd
  dsimp only
  all_goals (cases trkL (.r n) S <;> cases trkL y S <;> rfl)
@[simp] theorem oAdd_lst (ds : List D) (y : Val) (S : Sto) : oAdd (.d (.lst ds)) y S = lAdd (some ds) (trkL y S) S := by
  unfold oAdd lAdd
  dsimp only [trkL_lst]
  all_goals (cases trkL y S <;> rfl)
@[simp] theorem oRepL_lst (ds : List D) (k : Int) (S : Sto) : oRepL (.d (.lst ds)) (.d (.int k)) S = if 0 ≤ k ∧ k ≤ 100000 ∧ ds.length ≤ 100 then .ok (.d (.lst (List.replicate k.toNat ds).flatten)) S else .bad := (rfl)
@[simp] theorem oRepC_lst (ds : List D) (k : Int) (S : Sto) : oRepC (.d (.lst ds)) (.d (.int k)) S = if 0 ≤ k ∧ k ≤ 100000 ∧ ds.length ≤ 100 then .ok (.r S.length) (S ++ [.lst (List.replicate k.toNat ds).flatten]) else .bad := (rfl)
def cExt (c : Option Cell) (n : Nat) (c' : Option (List D)) (S : Sto) : Out Val := match c, c' with
  | some (.lst ds), some es => if ds.length + es.length ≤ szL then .ok (.d .non) (S.set n (.lst (ds ++ es))) else .bad
  | _, _ => .bad
@[simp] theorem cExt_lst (ds es : List D) (n : Nat) (S : Sto) : cExt (some (.lst ds)) n (some es) S = if ds.length + es.length ≤ szL then .ok (.d .non) (S.set n (.lst (ds ++ es))) else .bad := (rfl)
@[simp] theorem mExtend_r (n : Nat) (y : Val) (S : Sto) : mExtend (.r n) [y] S = cExt S[n]? n (trkL y S) S := by
  unfold mExtend cExt
  dsimp only
  all_goals (cases S[n]? with
  | none => cases trkL y S <;> rfl
  | some c => cases c <;> cases trkL y S <;> rfl)
def isiV (o : Option Bool) (S : Sto) : Out Val := match o with
  | some b => .ok (.d (.bl b)) S
  | none => .bad
@[simp] theorem isiV_some (b : Bool) (S : Sto) : isiV (some b) S = .ok (.d (.bl b)) S := (rfl)
@[simp] theorem oIsi_d (t : Tn) (d : D) (S : Sto) : oIsi t (.d d) S = isiV (isi d t) S := by
  unfold oIsi isiV; dsimp only; all_goals (cases isi d t <;> rfl)
@[simp] theorem oFrz_d (d : D) (S : Sto) : oFrz (.d d) S = .ok (.d d) S := (rfl)
@[simp] theorem dFin_d (S : Sto) (d : D) (S' : Sto) : dFin S (.d d) S' = .ok (.d d) (S'.take S.length) := (rfl)
@[simp] theorem iRng1_eq (j : Int) (S : Sto) : iRng1 [.d (.int j)] S = if smallI j = true then .ok ⟨rngD 0 j.toNat, []⟩ S else .bad := (rfl)
@[simp] theorem diRng1_eq (As : DAf) (env : Env) (S : Sto) : diRng1 As env S = (As env S).bind fun xs S1 => iRng1 xs S1 := (rfl)
@[simp] theorem iSeq_tup (ds : List D) (S : Sto) : iSeq (.d (.tup ds)) S = .ok ⟨ds, []⟩ S := (rfl)
@[simp] theorem iSeq_lst (ds : List D) (S : Sto) : iSeq (.d (.lst ds)) S = .ok ⟨ds, []⟩ S := (rfl)
@[simp] theorem diSeq_eq (f : DEf) (env : Env) (S : Sto) : diSeq f env S = (f env S).bind fun x S1 => iSeq x S1 := (rfl)
@[simp] theorem dFor_eq (it : DIf) (g : DGf) (body : DSf) (env : Env) (S : Sto) : dFor it g body env S = (it env S).bind fun i S1 => dLoop g body i.wt i.ds env S1 := (rfl)
@[simp] theorem cMod_pos {i j : Int} : cMod i j = true ↔ j ≠ 0 := by simp [cMod]
@[simp] theorem ixN_lit {n : Nat} : ixN (n + 1) 0 = some 0 := by unfold ixN; rw [if_pos (by omega), if_pos (by omega)]; rfl
@[simp] theorem wtOk_nil' (S : Sto) : wtOk [] S ↔ True := ⟨fun _ => trivial, fun _ => wtOk_nil S⟩
theorem ok_fn {N : Nat} {body : DSf} {xs : List Val} {S : Sto} {Q : Val → Sto → Prop} (h : Ok (body (xs.map some ++ List.replicate (N - xs.length) none) S) fun fl S' => match fl with
    | .ret x => Ok (dFin S x S') Q
    | .nx _ => Q (.d .non) (S'.take S.length)
    | _ => False) : Ok (dFn N body xs S) Q := by
  obtain ⟨fl, S', e, q⟩ := h
  unfold dFn
  rw [e]
  cases fl with
  | nx env => exact ⟨_, _, rfl, q⟩
  | ret x => exact q
  | brk env => exact q.elim
  | cnt env => exact q.elim
/-- a loop, by what holds at each turn -/
theorem ok_loop {g : DGf} {body : DSf} {wt : List (Nat × List D)} {ds : List D} {env : Env} {S : Sto} {Q : Fl → Sto → Prop} (I : Nat → Env → Sto → Prop) (h0 : I 0 env S) (hw : ∀ i env S, I i env S → wtOk wt S)
    (hs : ∀ i d env S, ds[i]? = some d → I i env S → Ok (g (.d d) env S) fun env1 S1 => Ok (body env1 S1) fun fl S2 => match fl with
      | .nx e => I (i + 1) e S2
      | .cnt e => I (i + 1) e S2
      | .brk e => Q (.nx e) S2
      | .ret x => Q (.ret x) S2) (hd : ∀ env S, I ds.length env S → Q (.nx env) S) : Ok (dLoop g body wt ds env S) Q := by
  have key : ∀ (es : List D) (i : Nat) (env : Env) (S : Sto), ds.drop i = es → i + es.length = ds.length → I i env S → Ok (dLoop g body wt es env S) Q := by
    intro es
    induction es with
    | nil =>
      intro i env S e hl h
      unfold dLoop
      rw [if_pos (hw i env S h)]
      have : i = ds.length := by simpa using hl
      subst this
      exact ok_ok.mpr (hd env S h)
    | cons d es ih =>
      intro i env S e hl h
      unfold dLoop
      rw [if_pos (hw i env S h), ok_bind]
      have hi : i < ds.length := by simp at hl; omega
      have ed : ds[i]? = some d := by
        rw [List.drop_eq_getElem_cons hi] at e
        rw [List.getElem?_eq_getElem hi]
        exact congrArg some (List.cons.inj e).1
      have er : ds.drop (i + 1) = es := by
        rw [List.drop_eq_getElem_cons hi] at e
        exact (List.cons.inj e).2
      refine (hs i d env S ed h).mono fun env1 S1 h1 => ?_
      rw [ok_bind]
      refine h1.mono fun fl S2 h2 => ?_
      cases fl with
      | nx e' => exact ih (i + 1) e' S2 er (by simp at hl; omega) h2
      | cnt e' => exact ih (i + 1) e' S2 er (by simp at hl; omega) h2
      | brk e' => exact ok_ok.mpr h2
      | ret x => exact ok_ok.mpr h2
  exact key ds 0 env S (by simp) (by simp) h0
/-- a while, by what holds at each turn and a measure -/
theorem ok_while {c : DTf} {body : DSf} {env : Env} {S : Sto} {Q : Fl → Sto → Prop} (I : Nat → Env → Sto → Prop) (n : Nat) (h0 : I n env S)
    (hs : ∀ n env S, I n env S → Ok (c env S) fun b S1 => if b = true then Ok (body env S1) fun fl S2 => match fl with
      | .nx e => ∃ m, m < n ∧ I m e S2
      | .cnt e => ∃ m, m < n ∧ I m e S2
      | .brk e => Q (.nx e) S2
      | .ret x => Q (.ret x) S2
      else Q (.nx env) S1) : Ok (dWhile c body env S) Q := by
  have key : ∀ (N n : Nat), n ≤ N → ∀ env S, I n env S → Ok (dWhileN c body (N + 1) env S) Q := by
    intro N
    induction N with
    | zero =>
      intro n hn env S h
      unfold dWhileN
      rw [ok_bind]
      refine (hs n env S h).mono fun b S1 h1 => ?_
      cases b with
      | false => exact ok_ok.mpr (by simpa using h1)
      | true =>
        simp only [if_true] at h1 ⊢
        rw [ok_bind]
        refine h1.mono fun fl S2 h2 => ?_
        cases fl with
        | nx e => obtain ⟨m, hm, _⟩ := h2; omega
        | cnt e => obtain ⟨m, hm, _⟩ := h2; omega
        | brk e => exact ok_ok.mpr h2
        | ret x => exact ok_ok.mpr h2
    | succ N ih =>
      intro n hn env S h
      unfold dWhileN
      rw [ok_bind]
      refine (hs n env S h).mono fun b S1 h1 => ?_
      cases b with
      | false => exact ok_ok.mpr (by simpa using h1)
      | true =>
        simp only [if_true] at h1 ⊢
        rw [ok_bind]
        refine h1.mono fun fl S2 h2 => ?_
        cases fl with
        | nx e => obtain ⟨m, hm, hI⟩ := h2; exact ih m (by omega) e S2 hI
        | cnt e => obtain ⟨m, hm, hI⟩ := h2; exact ih m (by omega) e S2 hI
        | brk e => exact ok_ok.mpr h2
        | ret x => exact ok_ok.mpr h2
  have k := key n n (Nat.le_refl _) env S h0
  have ne : dWhileN c body (n + 1) env S ≠ .bad := fun z => by
    obtain ⟨_, _, e, _⟩ := k
    rw [z] at e; cases e
  rw [dWhile_of ne]
  exact k
/-- a comprehension whose items leave the store as it was: f tells the items -/
theorem ok_lc {it : DIf} {g : DGf} {te : DEf} {vs : List Nat} {env : Env} {S : Sto} {ds : List D} {f : D → D} {Q : Val → Sto → Prop} (hi : it env S = .ok ⟨ds, []⟩ S) (hl : ds.length ≤ szL)
    (hf : ∀ d ∈ ds, ∀ c, Ok (g (.d d) (wipeE env vs) (S ++ [c])) fun env1 S1 => Ok (te env1 S1) fun z S2 => z = .d (f d) ∧ S2 = S ++ [c]) (q : Q (.d (.lst (ds.map f))) S) : Ok (dLc it g dYes te vs env S) Q := by
  have key : ∀ (es acc : List D), (∀ d ∈ es, d ∈ ds) → acc.length + es.length ≤ szL → lcLoop g dYes te [] (wipeE env vs) S.length es acc (S ++ [.lst acc]) = .ok (acc ++ es.map f) (S ++ [.lst (acc ++ es.map f)]) := by
    intro es
    induction es with
    | nil =>
      intro acc _ _
      unfold lcLoop
      rw [if_pos ⟨wtOk_nil _, by simp⟩]
      simp
    | cons d es ih =>
      intro acc hm hz
      unfold lcLoop
      rw [if_pos (wtOk_nil _)]
      obtain ⟨env1, S1, e1, z, S2, e2, rfl, rfl⟩ := hf d (hm d List.mem_cons_self) (.lst acc)
      rw [e1]
      simp only [Out.bind_ok, dYes, if_true, e2]
      rw [if_pos ⟨by simp at hz; omega, by simp⟩]
      have e3 : (S ++ [Cell.lst acc]).set S.length (.lst (acc ++ [f d])) = S ++ [.lst (acc ++ [f d])] := by simp
      rw [e3, ih (acc ++ [f d]) (fun x hx => hm x (List.mem_cons_of_mem _ hx)) (by simp at hz ⊢; omega)]
      simp
  unfold dLc
  rw [hi]
  simp only [Out.bind_ok]
  rw [key ds [] (fun _ h => h) (by simpa using hl)]
  simpa using q
/-- all(..) likewise -/
theorem ok_allG {it : DIf} {g : DGf} {te : DEf} {vs : List Nat} {env : Env} {S : Sto} {ds : List D} {f : D → Bool} {Q : Val → Sto → Prop} (hi : it env S = .ok ⟨ds, []⟩ S)
    (hf : ∀ d ∈ ds, Ok (g (.d d) (wipeE env vs) S) fun env1 S1 => Ok (te env1 S1) fun z S2 => z = .d (.bl (f d)) ∧ S2 = S) (q : Q (.d (.bl (ds.all f))) S) : Ok (dAllG it g te vs env S) Q := by
  have key : ∀ (es : List D), (∀ d ∈ es, d ∈ ds) → allLoop g te [] (wipeE env vs) es S = .ok (.d (.bl (es.all f))) S := by
    intro es
    induction es with
    | nil => intro _; unfold allLoop; rw [if_pos (wtOk_nil _)]; rfl
    | cons d es ih =>
      intro hm
      unfold allLoop
      rw [if_pos (wtOk_nil _)]
      obtain ⟨env1, S1, e1, z, S2, e2, rfl, rfl⟩ := hf d (hm d List.mem_cons_self)
      rw [e1]
      simp only [Out.bind_ok, e2]
      cases hb : f d with
      | true => simp only [List.all_cons, hb, Bool.true_and]; exact ih fun x hx => hm x (List.mem_cons_of_mem _ hx)
      | false => simp [hb]
  unfold dAllG
  rw [hi]
  simp only [Out.bind_ok]
  rw [key ds fun _ h => h]
  exact ok_ok.mpr q
end Dn
set_option Elab.async false
set_option linter.all false
set_option maxRecDepth 100000
set_option maxHeartbeats 1000000
/-! ### data without objects, ints below 2^b, tuples and lists not longer than l -/
namespace Dn
open PySem PySem.Spec PyProof.Rows L2
mutual
def gD (b l : Nat) : D → Bool
  | .non => true
  | .bl _ => true
  | .int i => decide (i.natAbs < 2 ^ b)
  | .str _ => true
  | .tup ds => decide (ds.length ≤ l) && gDs b l ds
  | .lst ds => decide (ds.length ≤ l) && gDs b l ds
  | .con _ => false
  | .dic => true
  | .obj _ _ => false
def gDs (b l : Nat) : List D → Bool
  | [] => true
  | d :: ds => gD b l d && gDs b l ds
end
theorem gDs_all {b l : Nat} : ∀ {ds : List D}, gDs b l ds = true ↔ ∀ d ∈ ds, gD b l d = true
  | [] => by simp [gDs]
  | d :: ds => by simp [gDs, gDs_all (ds := ds)]
mutual
theorem gD_mono {b l b' l' : Nat} (hb : b ≤ b') (hl : l ≤ l') : ∀ d : D, gD b l d = true → gD b' l' d = true
  | .non, h => rfl
  | .bl _, h => rfl
  | .int i, h => by
    simp only [gD, decide_eq_true_eq] at h ⊢
    exact Nat.lt_of_lt_of_le h (Nat.pow_le_pow_right (by decide) hb)
  | .str _, h => rfl
  | .tup ds, h => by
    simp only [gD, Bool.and_eq_true, decide_eq_true_eq] at h ⊢
    exact ⟨Nat.le_trans h.1 hl, gDs_mono hb hl ds h.2⟩
  | .lst ds, h => by
    simp only [gD, Bool.and_eq_true, decide_eq_true_eq] at h ⊢
    exact ⟨Nat.le_trans h.1 hl, gDs_mono hb hl ds h.2⟩
  | .con _, h => by simp [gD] at h
  | .dic, h => rfl
  | .obj _ _, h => by simp [gD] at h
theorem gDs_mono {b l b' l' : Nat} (hb : b ≤ b') (hl : l ≤ l') : ∀ ds : List D, gDs b l ds = true → gDs b' l' ds = true
  | [], h => rfl
  | d :: ds, h => by
    simp only [gDs, Bool.and_eq_true] at h ⊢
    exact ⟨gD_mono hb hl d h.1, gDs_mono hb hl ds h.2⟩
end
theorem ok_eq {α : Type} {r : Out α} {a : α} {S : Sto} (h : Ok r fun x S' => x = a ∧ S' = S) : r = .ok a S := by
  obtain ⟨x, S', e, rfl, rfl⟩ := h; exact e
theorem eq_ok {α : Type} {r : Out α} {a : α} {S : Sto} {Q : α → Sto → Prop} (h : r = .ok a S) (q : Q a S) : Ok r Q := ⟨a, S, h, q⟩
/-! what a fraction, a row are -/
def wholeB : D → Bool
  | .int _ => true
  | _ => false
def fromB (d : D) (lo hi : Int) : Bool := match d with
  | .int i => decide (lo ≤ i) && decide (i ≤ hi)
  | _ => false
def tupB (d : D) (lo hi : Int) : Bool := match d with
  | .tup ds => decide (lo ≤ ds.length) && decide (ds.length ≤ hi)
  | _ => false
def fracB : D → Bool
  | .tup [.int a, .int b] => decide (0 < b) && decide (Nat.gcd a.natAbs b.natAbs = 1)
  | _ => false
def rowB (n : Int) : D → Bool
  | .tup ds => decide ((ds.length : Int) = n) && ds.all fracB
  | _ => false
def wishB (n : Int) : D → Bool
  | .tup [r, f] => rowB n r && fracB f
  | _ => false
def lotB (most : Int) : D → Bool
  | .tup [.int n, .tup ws] => decide (1 ≤ n) && decide (n ≤ 12) && decide ((ws.length : Int) ≤ most) && ws.all (wishB n)
  | _ => false
@[simp] theorem isi_int_tup (x : List D) : isi (.tup x) .int = some false := rfl
/-- a pair or not -/
theorem pair_cases (ds : List D) : (∃ x y, ds = [x, y]) ∨ ds.length ≠ 2 := by
  match ds with
  | [] => exact .inr (by simp)
  | [x] => exact .inr (by simp)
  | [x, y] => exact .inl ⟨x, y, rfl⟩
  | x :: y :: z :: r => exact .inr (by simp)
end Dn
set_option Elab.async false
set_option linter.all false
set_option maxRecDepth 100000
set_option maxHeartbeats 4000000
/-! ### shifts to the left -/
namespace Dn
open PySem PySem.Spec PyProof.Rows L2 GxR Gx
section
variable {W : Wd} {E : XK} {X : Cx} {pos : Pos}
def oShl : Op2 := oI cPow fun i j => .int (i * 2 ^ j.toNat)
theorem dop_shl : DOp W E (rI CPow fun i j => .int (i * 2 ^ j.toNat)) oShl := dop_I (fun _ _ h => by simpa [cPow, CPow, and_assoc] using h) fun _ _ _ _ => by simp [RelD]
theorem de_shl {a b : Expr} {f g : DEf} (ha : DE W E X a f) (hb : DE W E X b g) : DE W E X (.BinOp a .LShift b pos) (dOp oShl f g) := de_op L2.op_shl dop_shl ha hb
def bDivmodW : Op2 := fun x y S => match x, y with
  | .d (.int i), .d (.int j) => if 0 < j ∧ j.natAbs.log2 < 9000 then .ok (.d (.tup [.int (i / j), .int (i % j)])) S else .bad
  | _, _ => .bad
theorem dc_divmodW : DCall W E (fun xs H Q => ∃ i j, xs = [.int i, .int j] ∧ CDivP i j ∧ ∀ p, H p = none → Q (.ref p) (upd H p (.tup [.int (i / j), .int (i % j)]))) (o2 bDivmodW) := dcall2 fun x y S H μ v w Q s rx ry p => by
  unfold bDivmodW at p
  split at p
  · rename_i i j
    split at p
    · rename_i c
      refine ⟨i, j, by rw [int_rel rx, int_rel ry], ⟨c.1, PyProof.noPylong_of_log2 c.2⟩, fun b hb => ?_⟩
      obtain ⟨k, r⟩ := post_tup (vs := [.int (i / j), .int (i % j)]) p s hb (by simp [RelDs, RelD])
      exact k _ r
    · exact p.elim
  · exact p.elim
end
@[simp] theorem bDivmodW_int (i j : Int) (S : Sto) : bDivmodW (.d (.int i)) (.d (.int j)) S = if 0 < j ∧ j.natAbs.log2 < 9000 then .ok (.d (.tup [.int (i / j), .int (i % j)])) S else .bad := (rfl)
@[simp] theorem oShl_int (i j : Int) (S : Sto) : oShl (.d (.int i)) (.d (.int j)) S = if cPow i j = true then .ok (.d (.int (i * 2 ^ j.toNat))) S else .bad := (rfl)
end Dn
set_option Elab.async false
set_option linter.all false
set_option maxRecDepth 100000
set_option maxHeartbeats 4000000
/-! ### zip over two sequences, each a list or a tuple -/
namespace Zm
open PySem PySem.Spec PyProof.Rows L2 RZ
/-- true: a tuple, false: a list -/
def At (t : Bool) (h : Heap) (j l : Addr) (k : Nat) : Prop := match t with
  | true => h.IsTupleIter j l k
  | false => h.IsListIter j l k
def Sq (t : Bool) (h : Heap) (l : Addr) (xs : Array Value) : Prop := match t with
  | true => h.IsTuple l xs
  | false => h.IsList l xs
section
variable {t u : Bool} {h h' : Heap} {j l c : Addr} {k : Nat} {xs : Array Value}
theorem At.ext (a : At t h j l k) (e : Heap.ExtBut c h h') (n : j ≠ c) : At t h' j l k := by
  cases t with
  | true => exact Heap.IsTupleIter.extBut a e n
  | false => exact Heap.IsListIter.extBut a e n
theorem Sq.ext (a : Sq t h l xs) (e : Heap.ExtBut c h h') (n : l ≠ c) : Sq t h' l xs := by
  cases t with
  | true => exact Heap.IsTuple.extBut a e n
  | false => exact Heap.IsList.extBut a e n
theorem At.same (a : At t h j l k) (e : ∀ o, h.get? j = some o → h'.get? j = some o) : At t h' j l k := by
  cases t with
  | true => exact Heap.IsTupleIter.at a e
  | false => exact Heap.IsListIter.at a e
theorem At.ob (a : At t h j l k) : ∃ o, h.get? j = some o ∧ ∀ v, o.data ≠ .cell v := by
  cases t with
  | true =>
    obtain ⟨o, e, _, d⟩ := a
    exact ⟨o, e, fun v q => by rw [d] at q; cases q⟩
  | false =>
    obtain ⟨o, e, _, d⟩ := a
    exact ⟨o, e, fun v q => by rw [d] at q; cases q⟩
end
section
variable {pg : Program} {w : World} {A : Around} {E : Value → Shared → Prop} {s : Shared} {t u : Bool}
theorem step {j l : Addr} {k : Nat} {xs : Array Value} {x : Value} {Q : Value → Shared → Prop} (a : At t s.heap j l k) (q : Sq t s.heap l xs) (e : xs[k]? = some x)
    (go : ∀ g, At t g j l (k + 1) → Heap.SameBut j s.heap g → Q x { s with heap := g }) : wpAny (model pg w) A (Builtin.SmallTypes.nextOf (.ref j)) Q E s := by
  cases t with
  | true => exact nextOf_tuple_item a q e go
  | false => exact wpAny_nextOf_list_item a q e go
theorem over {j l : Addr} {k : Nat} {xs : Array Value} {Q : Value → Shared → Prop} (hh : A.handled = none) (a : At t s.heap j l k) (q : Sq t s.heap l xs) (e : xs[k]? = none)
    (go : ∀ g f, Heap.ExtBut j s.heap g → (∃ o, g.get? f = some o ∧ o.cls = .type "StopIteration") → E (.ref f) { s with heap := g }) : wpAny (model pg w) A (Builtin.SmallTypes.nextOf (.ref j)) Q E s := by
  cases t with
  | true => exact nextOf_tuple_end hh a q e go
  | false => exact wpAny_nextOf_list_end hh a q e go
/-- what is kept by a turn: all but the zip, its pair and both iterators -/
abbrev Kept (h g : Heap) (Z O i j : Addr) : Prop := ∀ c o, c ≠ Z → c ≠ O → c ≠ i → c ≠ j → h.get? c = some o → g.get? c = some o
variable {Z I O i j a b : Addr} {k m : Nat} {xs ys : Array Value} {va vb x y : Value}
theorem turn {Q : Value → Shared → Prop} (D : ZipApart Z I O i j a b) (hz : IsZip s.heap Z I O .none) (hI : IsPair s.heap I (.ref i) (.ref j)) (hO : IsPair s.heap O va vb) (p1 : At t s.heap i a k) (p2 : At u s.heap j b m)
    (q1 : Sq t s.heap a xs) (q2 : Sq u s.heap b ys) (e1 : xs[k]? = some x) (e2 : ys[m]? = some y)
    (go : ∀ g, IsZip g Z I O (rawInt s.heap.objs.size) ∧ IsPair g O x y ∧ At t g i a (k + 1) ∧ At u g j b (m + 1) ∧ IsPair g s.heap.objs.size x y → Kept s.heap g Z O i j → Q (.ref s.heap.objs.size) { s with heap := g }) :
    wpAny (model pg w) A (Builtin.«zip.__next__» ⟨[.ref Z], []⟩) (fun f s' => ∃ v, f = .done (.ret v) ∧ Q v s') E s := by
  show wpAny _ _ (field (.ref Z) 2 >>= _) _ _ _; refine wpAny_bind (wpAny_field hz rfl (x := .bool false) rfl ?_)
  show wpAny _ _ (field (.ref Z) 3 >>= _) _ _ _; refine wpAny_bind (wpAny_field hz rfl (x := .ref I) rfl (wpAny_bind (wpAny_seqItems hI rfl ?_)))
  show wpAny _ _ (Builtin.SmallTypes.ownedTupleIsFree (.ref Z) >>= _) _ _ _; refine wpAny_bind ?_; unfold Builtin.SmallTypes.ownedTupleIsFree
  refine wpAny_bind (wpAny_field hz rfl (x := .none) rfl (wpAny_pure ?_)); simp only [if_true]
  refine wpAny_bind (wpAny_rule (wpAny_bind (wpAny_field hz rfl (x := .ref O) rfl (wpAny_bind (wpAny_setField_rec hz (by simp) fun g1 z1 k1 => ?_)))))
  replace z1 : IsZip g1 Z I O .ellipsis := z1
  refine wpAny_bind ?_; simp only [List.zipIdx_cons, List.zipIdx_nil, List.forIn_cons, List.forIn_nil]; refine wpAny_bind (wpAny_bind (wpAny_onRaise ?_))
  show wpAny _ _ (Builtin.SmallTypes.nextOf (.ref i) >>= _) _ _ _; refine wpAny_bind (step (p1.ext k1.extBut D.i1z) (q1.ext k1.extBut D.l1z) e1 fun g2 r1 k2 => wpAny_pure ?_)
  have o2 : IsPair g2 O va vb := k2.extBut _ _ D.TOi1 (k1.extBut _ _ D.TOz hO)
  refine wpAny_bind (wpAny_seqItems o2 rfl (wpAny_bind (wpAny_updateSeq_pair o2 fun g3 o3 k3 => ?_))); replace o3 : IsPair g3 O x vb := o3
  refine wpAny_bind (wpAny_letGo (wpAny_pure (wpAny_bind (wpAny_bind (wpAny_onRaise ?_)))))
  show wpAny _ _ (Builtin.SmallTypes.nextOf (.ref j) >>= _) _ _ _
  refine wpAny_bind (step (((p2.ext k1.extBut D.i2z).ext k2.extBut D.i12.symm).ext k3.extBut D.TOi2.symm) (((q2.ext k1.extBut D.l2z).ext k2.extBut D.l2i1).ext k3.extBut D.l2TO) e2 fun g4 r2 k4 => wpAny_pure ?_)
  have o4 : IsPair g4 O x vb := k4.extBut _ _ D.TOi2 o3
  refine wpAny_bind (wpAny_seqItems o4 rfl (wpAny_bind (wpAny_updateSeq_pair o4 fun g5 o5 k5 => ?_))); replace o5 : IsPair g5 O x y := o5
  refine wpAny_bind (wpAny_letGo (wpAny_pure (wpAny_pure (wpAny_bind (wpAny_seqItems o5 rfl (wpAny_bind (wpAny_newTuple ?_)))))))
  have sz : g5.objs.size = s.heap.objs.size := by rw [k5.1, k4.1, k3.1, k2.1, k1.1]
  have z5 : IsZip g5 Z I O .ellipsis := k5.extBut _ _ D.TOz.symm (k4.extBut _ _ D.i2z.symm (k3.extBut _ _ D.TOz.symm (k2.extBut _ _ D.i1z.symm z1)))
  have kp : Kept s.heap g5 Z O i j := fun c o n1 n2 n3 n4 e => k5.extBut _ _ n2 (k4.extBut _ _ n4 (k3.extBut _ _ n2 (k2.extBut _ _ n3 (k1.extBut _ _ n1 e))))
  have f1 : At t g5 i a (k + 1) := ((r1.ext k3.extBut D.TOi1.symm).ext k4.extBut D.i12).ext k5.extBut D.TOi1.symm
  have f2 : At u g5 j b (m + 1) := r2.ext k5.extBut D.TOi2.symm
  show wpAny _ _ (Builtin.SmallTypes.ownedTupleHandOut (.ref Z) (.ref g5.objs.size) >>= _) _ _ _
  refine wpAny_bind ?_; unfold Builtin.SmallTypes.ownedTupleHandOut
  have z6 : IsZip (g5.push { cls := .type "tuple", data := .seq #[x, y] }) Z I O .ellipsis := Heap.get?_push_of_some _ z5
  refine wpAny_bind (wpAny_setField_rec z6 (by simp) fun g7 z7 k7 => ?_); replace z7 : IsZip g7 Z I O (rawInt g5.objs.size) := z7
  refine wpAny_setField_rec z7 (by simp) fun g8 z8 k8 => ?_; replace z8 : IsZip g8 Z I O (rawInt g5.objs.size) := z8
  have up : ∀ c o, c ≠ Z → g5.get? c = some o → g8.get? c = some o := fun c o n e => k8.extBut _ _ n (k7.extBut _ _ n (Heap.get?_push_of_some _ e))
  have nz : g5.objs.size ≠ Z := Nat.ne_of_gt (Heap.lt_size z5)
  have o8 : IsPair g8 g5.objs.size x y := k8.extBut _ _ nz (k7.extBut _ _ nz (Heap.get?_push_size _ rfl))
  rw [sz] at z8 o8
  refine wpAny_pure ⟨_, rfl, ?_⟩; show Q (.ref g5.objs.size) _; rw [sz]
  exact go g8 ⟨z8, up _ _ D.TOz o5, f1.same fun o e => up _ o D.i1z e, f2.same fun o e => up _ o D.i2z e, o8⟩ fun c o n1 n2 n3 n4 e => up c o n1 (kp c o n1 n2 n3 n4 e)
theorem last {Q : Fin → Shared → Prop} (hh : A.handled = none) (D : ZipApart Z I O i j a b) (hz : IsZip s.heap Z I O .none) (hI : IsPair s.heap I (.ref i) (.ref j)) (hO : IsPair s.heap O va vb) (p1 : At t s.heap i a k) (p2 : At u s.heap j b m)
    (q1 : Sq t s.heap a xs) (q2 : Sq u s.heap b ys) (no : xs[k]? = none ∨ ys[m]? = none) (go : ∀ g f, Kept s.heap g Z O i j → (∃ o, g.get? f = some o ∧ o.cls = .type "StopIteration") → E (.ref f) { s with heap := g }) :
    wpAny (model pg w) A (Builtin.«zip.__next__» ⟨[.ref Z], []⟩) Q E s := by
  show wpAny _ _ (field (.ref Z) 2 >>= _) _ _ _; refine wpAny_bind (wpAny_field hz rfl (x := .bool false) rfl ?_)
  show wpAny _ _ (field (.ref Z) 3 >>= _) _ _ _; refine wpAny_bind (wpAny_field hz rfl (x := .ref I) rfl (wpAny_bind (wpAny_seqItems hI rfl ?_)))
  show wpAny _ _ (Builtin.SmallTypes.ownedTupleIsFree (.ref Z) >>= _) _ _ _; refine wpAny_bind ?_; unfold Builtin.SmallTypes.ownedTupleIsFree
  refine wpAny_bind (wpAny_field hz rfl (x := .none) rfl (wpAny_pure ?_)); simp only [if_true]
  refine wpAny_bind (wpAny_rule (wpAny_bind (wpAny_field hz rfl (x := .ref O) rfl (wpAny_bind (wpAny_setField_rec hz (by simp) fun g1 z1 k1 => ?_)))))
  replace z1 : IsZip g1 Z I O .ellipsis := z1
  refine wpAny_bind ?_; simp only [List.zipIdx_cons, List.zipIdx_nil, List.forIn_cons, List.forIn_nil]; refine wpAny_bind (wpAny_bind (wpAny_onRaise ?_))
  show wpAny _ _ (Builtin.SmallTypes.nextOf (.ref i) >>= _) _ _ _
  by_cases e1 : xs[k]? = none
  · refine wpAny_bind (over hh (p1.ext k1.extBut D.i1z) (q1.ext k1.extBut D.l1z) e1 fun g2 f k2 ⟨of, hf, cf⟩ => ?_)
    have z2 : IsZip g2 Z I O .ellipsis := k2 _ _ D.i1z.symm z1
    have fz : f ≠ Z := fun q => by subst q; rw [z2] at hf; cases hf; simp at cf
    exact wpAny_setField_rec z2 (by simp) fun g3 _ k3 => go g3 f (fun c o n1 _ n3 _ q => k3.extBut _ _ n1 (k2 _ _ n3 (k1.extBut _ _ n1 q))) ⟨of, k3.extBut _ _ fz hf, cf⟩
  · obtain ⟨x, ex⟩ := Option.ne_none_iff_exists'.mp e1
    have e2 : ys[m]? = none := no.elim (fun q => absurd q e1) id
    refine wpAny_bind (step (p1.ext k1.extBut D.i1z) (q1.ext k1.extBut D.l1z) ex fun g2 r1 k2 => wpAny_pure ?_)
    have o2 : IsPair g2 O va vb := k2.extBut _ _ D.TOi1 (k1.extBut _ _ D.TOz hO)
    refine wpAny_bind (wpAny_seqItems o2 rfl (wpAny_bind (wpAny_updateSeq_pair o2 fun g3 o3 k3 => wpAny_bind (wpAny_letGo (wpAny_pure (wpAny_bind (wpAny_bind (wpAny_onRaise ?_))))))))
    show wpAny _ _ (Builtin.SmallTypes.nextOf (.ref j) >>= _) _ _ _
    refine wpAny_bind (over hh (((p2.ext k1.extBut D.i2z).ext k2.extBut D.i12.symm).ext k3.extBut D.TOi2.symm) (((q2.ext k1.extBut D.l2z).ext k2.extBut D.l2i1).ext k3.extBut D.l2TO) e2 fun g4 f k4 ⟨of, hf, cf⟩ => ?_)
    have z4 : IsZip g4 Z I O .ellipsis := k4 _ _ D.i2z.symm (k3.extBut _ _ D.TOz.symm (k2.extBut _ _ D.i1z.symm z1))
    have fz : f ≠ Z := fun q => by subst q; rw [z4] at hf; cases hf; simp at cf
    exact wpAny_setField_rec z4 (by simp) fun g5 _ k5 => go g5 f (fun c o n1 n2 n3 n4 q => k5.extBut _ _ n1 (k4 _ _ n4 (k3.extBut _ _ n2 (k2.extBut _ _ n3 (k1.extBut _ _ n1 q))))) ⟨of, k5.extBut _ _ fz hf, cf⟩
end
/-! ### zip(a, b) -/
def nm (t : Bool) : String := match t with
  | true => "tuple_iterator"
  | false => "list_iterator"
abbrev itO (t : Bool) (l : Addr) : Obj := { cls := .type (nm t), data := .fields #[.ref l, .int 0 0] }
theorem iter_seq {pg : Program} {w : World} {A : Around} {E : Value → Shared → Prop} {s : Shared} {t : Bool} {l : Addr} {xs : Array Value} {Q : Value → Shared → Prop} (q : Sq t s.heap l xs) (go : Q (.ref s.heap.objs.size) { s with heap := s.heap.push (itO t l) }) :
    wpAny (model pg w) A (pyIter (.ref l)) Q E s := by
  cases t with
  | true => exact wpAny_pyIter_tuple q go
  | false => exact wpAny_pyIter_list q go
theorem Sq.push {t : Bool} {h : Heap} {l : Addr} {xs : Array Value} (q : Sq t h l xs) (o : Obj) : Sq t (h.push o) l xs := by
  cases t with
  | true => exact Heap.IsTuple.push q o
  | false => exact Heap.IsList.push q o
abbrev g1 (h : Heap) (t : Bool) (a : Addr) : Heap := h.push (itO t a)
abbrev g2 (h : Heap) (t u : Bool) (a b : Addr) : Heap := (g1 h t a).push (itO u b)
abbrev g3 (h : Heap) (t u : Bool) (a b : Addr) : Heap := (g2 h t u a b).push { cls := .type "tuple", data := .seq #[.ref h.objs.size, .ref (g1 h t a).objs.size] }
abbrev g4 (h : Heap) (t u : Bool) (a b : Addr) : Heap := (g3 h t u a b).push { cls := .type "tuple", data := .seq #[.none, .none] }
abbrev g5 (h : Heap) (t u : Bool) (a b : Addr) : Heap := (g4 h t u a b).push { cls := .type "zip", data := .fields #[.none, .bool false, .bool false, .ref (g2 h t u a b).objs.size, .ref (g3 h t u a b).objs.size] }
theorem made (t u : Bool) (a b : Addr) (xs ys : Array Value) : Meets (Builtin.«zip.__new__» ⟨[.type "zip", .ref a, .ref b], []⟩) (fun _ R s => Sq t s.heap a xs ∧ Sq u s.heap b ys ∧ R (.ok (.ret (.ref (g4 s.heap t u a b).objs.size))) { s with heap := g5 s.heap t u a b }) :=
  .of_wp fun pg w A R s h => by
    obtain ⟨hp, g, d, tk, os⟩ := s; obtain ⟨h1, h2, h⟩ := h
    have sub := sub_zip
    have s1 : Sq t (Shared.heap ⟨hp, g, d, tk, os⟩) a xs := h1
    have s2 : Sq u (Shared.heap ⟨hp.push (itO t a), g, d, tk, os⟩) b ys := h2.push _
    wp_walk using iter_seq s1, iter_seq s2
    exact ⟨_, rfl, h⟩
theorem zip_new {pg : Program} {w : World} {A : Around} {E : Value → Shared → Prop} {s : Shared} {t u : Bool} {a b : Addr} {xs ys : Array Value} {Q : Value → Shared → Prop} (q1 : Sq t s.heap a xs) (q2 : Sq u s.heap b ys)
    (go : ∀ g N, N = s.heap.objs.size → IsZip g (N + 4) (N + 2) (N + 3) .none → IsPair g (N + 2) (.ref N) (.ref (N + 1)) → IsPair g (N + 3) .none .none → At t g N a 0 → At u g (N + 1) b 0 → (∀ c o, s.heap.get? c = some o → g.get? c = some o) → Q (.ref (N + 4)) { s with heap := g }) :
    wpAny (model pg w) A (call (.type "zip") [.ref a, .ref b]) Q E s := by
  refine callType_new F.called_zip (by decide) (F.typeCall_zip_2 _ _) (F.newCall_zip_2 _ _) (fun z => F.args_object_init_3 z _ _) F.entry_zip_new (made t u a b xs ys) ⟨q1, q2, ?_⟩
  have n1 : (g1 s.heap t a).objs.size = s.heap.objs.size + 1 := Heap.size_push ..
  have n2 : (g2 s.heap t u a b).objs.size = s.heap.objs.size + 2 := by rw [Heap.size_push, n1]
  have n3 : (g3 s.heap t u a b).objs.size = s.heap.objs.size + 3 := by rw [Heap.size_push, n2]
  have n4 : (g4 s.heap t u a b).objs.size = s.heap.objs.size + 4 := by rw [Heap.size_push, n3]
  have o5 : (g5 s.heap t u a b).get? (g4 s.heap t u a b).objs.size = some _ := Heap.get?_push_size _ rfl
  have o4 : (g5 s.heap t u a b).get? (g3 s.heap t u a b).objs.size = some _ := Heap.get?_push_of_some _ (Heap.get?_push_size _ rfl)
  have o3 : (g5 s.heap t u a b).get? (g2 s.heap t u a b).objs.size = some _ := Heap.get?_push_of_some _ (Heap.get?_push_of_some _ (Heap.get?_push_size _ rfl))
  have o2 : (g5 s.heap t u a b).get? (g1 s.heap t a).objs.size = some (itO u b) := Heap.get?_push_of_some _ (Heap.get?_push_of_some _ (Heap.get?_push_of_some _ (Heap.get?_push_size _ rfl)))
  have o1 : (g5 s.heap t u a b).get? s.heap.objs.size = some (itO t a) := Heap.get?_push_of_some _ (Heap.get?_push_of_some _ (Heap.get?_push_of_some _ (Heap.get?_push_of_some _ (Heap.get?_push_size _ rfl))))
  show _ ∧ _
  rw [n2, n3, n4] at o5; rw [n1, n2] at o3; rw [n3] at o4; rw [n1] at o2; rw [n4]
  have at_ : ∀ (t : Bool) (h : Heap) (j l : Addr), h.get? j = some (itO t l) → At t h j l 0 := fun t h j l e => by
    cases t <;> exact ⟨_, e, rfl, rfl⟩
  exact ⟨⟨_, o5, rfl⟩, go _ _ rfl o5 o3 o4 (at_ _ _ _ _ o1) (at_ _ _ _ _ o2) fun c o x => Heap.get?_push_of_some _ (Heap.get?_push_of_some _ (Heap.get?_push_of_some _ (Heap.get?_push_of_some _ (Heap.get?_push_of_some _ x))))⟩
/-! ### in the hand layer -/
def SqA (t : Bool) (K : PySem.W.Frag) (H : Hp) (a : Addr) (xs : List V) : Prop := match t with
  | true => SqT K H a xs
  | false => SqL K H a xs
def ItM (t u : Bool) (K : PySem.W.Frag) (a b : Addr) : It where
  go := fun i H => ∃ (xs ys : List V) (x y : V), SqA t K H a xs ∧ SqA u K H b ys ∧ xs[i]? = some x ∧ ys[i]? = some y
  yld := fun i H v H' => ∃ T x y, v = .ref T ∧ H T = none ∧ H' = upd H T (.tup [x, y]) ∧ (∀ xs, SqA t K H a xs → xs[i]? = some x) ∧ ∀ ys, SqA u K H b ys → ys[i]? = some y
  stop := fun i H => ∃ xs ys : List V, SqA t K H a xs ∧ SqA u K H b ys ∧ (xs.length ≤ i ∨ ys.length ≤ i)
section
variable {X : Cx} {pins : List (Addr × Obj)} {σ : L2.St} {H : Hp} {s : Shared} {a : Addr} {xs ys : List V} {t : Bool}
theorem seqI (I : Inv X pins σ H s) (h : SqA t X.K H a xs) : ∃ its : List Value, Vals xs its ∧ Sq t s.heap a its.toArray ∧ a < s.heap.objs.size := by
  cases t with
  | true =>
    obtain ⟨its, r, p, _⟩ := I.tuple h
    obtain ⟨o, e, _⟩ := id p
    exact ⟨its, r, p, Heap.lt_size e⟩
  | false =>
    obtain ⟨its, r, p, _⟩ := I.list h
    exact ⟨its, r, p.isList, p.lt⟩
theorem seq_inj (I : Inv X pins σ H s) (h : SqA t X.K H a xs) (h' : SqA t X.K H a ys) : xs = ys := by
  cases t with
  | true => exact I.tuple_inj h h'
  | false => exact I.list_inj h h'
end
theorem turnM {P : Program} {w : World} {K : PySem.W.Frag} {elts : List Expr} {kk : Nat} {tpos : Pos} {t u : Bool} {a b Z I O i j : Addr} (D : ZipApart Z I O i j a b) :
    Turn P w K (.Tuple elts kk tpos) (ItM t u K a b) [Z, I, O, i, j] Z (fun n h => IsZip h Z I O .none ∧ IsPair h I (.ref i) (.ref j) ∧ (∃ x y, IsPair h O x y) ∧ At t h i a n ∧ At u h j b n) where
  mem := List.mem_cons_self
  obj := fun n h ⟨hz, hI, ⟨x, y, hO⟩, p1, p2⟩ c hc => by
    simp only [List.mem_cons, List.not_mem_nil, or_false] at hc
    rcases hc with rfl | rfl | rfl | rfl | rfl
    · exact ⟨_, hz, fun _ z => nomatch z⟩
    · exact ⟨_, hI, fun _ z => nomatch z⟩
    · exact ⟨_, hO, fun _ z => nomatch z⟩
    · exact p1.ob
    · exact p2.ob
  keep := fun n h h' ⟨hz, hI, ⟨x, y, hO⟩, p1, p2⟩ k => ⟨k Z (by simp) _ hz, k I (by simp) _ hI, ⟨x, y, k O (by simp) _ hO⟩, p1.same (k i (by simp)), p2.same (k j (by simp))⟩
  item := by
    intro X hP hw hK hc n pins s σ H E Iv hf ⟨hz, hI, ⟨x0, y0, hO⟩, p1, p2⟩ ⟨xs, ys, x, y, qx, qy, ex, ey⟩
    subst hP hw hK
    obtain ⟨us, rx, sx, _⟩ := seqI Iv qx
    obtain ⟨vs, ry, sy, _⟩ := seqI Iv qy
    obtain ⟨v1, ev1, rv1⟩ := rx.get ex
    obtain ⟨v2, ev2, rv2⟩ := ry.get ey
    have hT : s.TypeIs (.ref Z) "zip" := ⟨_, hz, rfl⟩
    have zl : Z < s.heap.objs.size := Heap.lt_size hz
    unfold pyNext
    refine wpAny_bind (wpAny_attempt (wpAny_callSpecial?_slot (name := Str.ofString "__next__") hT F.slot_zip_next (wpAny_call_entry F.slot_zip_next hT F.entry_zip_next
      (turn D hz hI hO p1 p2 sx sy (x := v1) (y := v2) (by simpa using ev1) (by simpa using ev2) fun g ⟨gz, gO, g1, g2, gT⟩ kp => wpAny_pure ?_) (F.args_zip_next_1 _))))
    refine ⟨_, rfl, wpAny_letOwnedTupleGo_zip (s := { s with heap := g }) gz fun g' gz' sb => ?_⟩
    have kz : ∀ c o, c ≠ Z → g.get? c = some o → g'.get? c = some o := fun c o q e => (sb.2 c q).trans e
    have nx : s.heap.objs.size ≠ Z := Nat.ne_of_gt zl
    have new : ObjOk X.prog X.w (upd H s.heap.objs.size (.tup [x, y])) g' s.heap.objs.size (.tup [x, y]) := ⟨by show 2 ≤ sizeLine; decide, [v1, v2], .cons rv1 (.cons rv2 .nil), ⟨_, kz _ _ nx gT, rfl, _, rfl⟩⟩
    have outs : ∀ c o, c ∉ [Z, I, O, i, j] → s.heap.get? c = some o → g'.get? c = some o := fun c o q e => by
      simp only [List.mem_cons, List.not_mem_nil, or_false, not_or] at q
      exact kz c o q.1 (kp c o q.1 q.2.2.1 q.2.2.2.1 q.2.2.2.2 e)
    have I1 : Inv X pins σ (upd H s.heap.objs.size (.tup [x, y])) { s with heap := g' } := Iv.turnedNew (t' := s.toks) (ch := [Z, I, O, i, j]) (fun c o q e => outs c o q e) hf (Nat.le_refl _) new
    refine ⟨.ref s.heap.objs.size, _, I1, rfl, ⟨_, x, y, rfl, Iv.hok.fresh (Nat.le_refl _), rfl, fun l hl => by rw [seq_inj Iv hl qx]; exact ex, fun l hl => by rw [seq_inj Iv hl qy]; exact ey⟩, ?_, fun c hc => ?_⟩
    · exact ⟨gz', kz _ _ D.TIz (kp _ _ D.TIz D.TITO D.TIi1 D.TIi2 hI), ⟨v1, v2, kz _ _ D.TOz gO⟩, g1.same fun o e => kz _ o D.i1z e, g2.same fun o e => kz _ o D.i2z e⟩
    · have lt : c < s.heap.objs.size := by
        simp only [List.mem_cons, List.not_mem_nil, or_false] at hc
        rcases hc with rfl | rfl | rfl | rfl | rfl
        · exact zl
        · exact Heap.lt_size hI
        · exact Heap.lt_size hO
        · exact (let ⟨_, e, _⟩ := p1.ob; Heap.lt_size e)
        · exact (let ⟨_, e, _⟩ := p2.ob; Heap.lt_size e)
      rw [upd_ne (Nat.ne_of_lt lt)]; exact (hf c hc).1
  done := by
    intro X hP hw hK hc n pins s σ H E Iv hf ⟨hz, hI, ⟨x0, y0, hO⟩, p1, p2⟩ ⟨xs, ys, qx, qy, no⟩
    subst hP hw hK
    obtain ⟨us, rx, sx, _⟩ := seqI Iv qx
    obtain ⟨vs, ry, sy, _⟩ := seqI Iv qy
    have l1 := rx.length; have l2 := ry.length
    have hT : s.TypeIs (.ref Z) "zip" := ⟨_, hz, rfl⟩
    unfold pyNext
    refine wpAny_bind (wpAny_attempt (wpAny_callSpecial?_slot (name := Str.ofString "__next__") hT F.slot_zip_next (wpAny_call_entry F.slot_zip_next hT F.entry_zip_next
      (last (Iv.ok.hd hc) D hz hI hO p1 p2 sx sy (no.imp (fun q => by simp; omega) fun q => by simp; omega) fun g f kp ⟨o, ho, cl⟩ => ?_) (F.args_zip_next_1 _))))
    refine wpAny_bind (wpAny_isInstance (T := "StopIteration") (b := true) ⟨o, ho, cl⟩ isSubtype_stop (wpAny_pure ⟨rfl, Iv.turnedL (t' := s.toks) (ch := [Z, I, O, i, j]) (fun c o q e => ?_) hf⟩))
    simp only [List.mem_cons, List.not_mem_nil, or_false, not_or] at q
    exact kp c o q.1 q.2.2.1 q.2.2.2.1 q.2.2.2.2 e
  self := fun A n s Q E st h => wpAny_pyIter_zip st.1 h
def iMix (K : PySem.W.Frag) (ta : TA) : TI := fun σ H R => ta σ H fun vs H1 => ∃ t u a b xs ys, vs = [.ref a, .ref b] ∧ SqA t K H1 a xs ∧ SqA u K H1 b ys ∧ R (ItM t u K a b) H1
theorem pi_mix {X : Cx} {e e2 : Expr} {ta : TA} {p pos tpos : Pos} {elts : List Expr} {kk : Nat} (hg : Gl X "zip") (hm : X.mg "zip" = none) (ha : PA X [e, e2] ta)
    (hs : starEach [e, e2] X.env = (false, eval e X.env) :: starEach [e2] X.env := by rfl) (hl : (backTo pos (starEach [e2] X.env)).any (·.1) = false := by rfl) : PI X (.Tuple elts kk tpos) (.Call (.Name "zip" p) [e, e2] [] pos) (iMix X.K ta) := by
  refine ⟨fun pins s σ H R Iv h => Call_ (ld_blt Iv hg hm PyProof.Rows.boot_zip (PyProof.Rows.callWith_type1 (thn (ha.run pos pins s σ H _ Iv h) fun us s1 ⟨vs, H1, I1, r1, q1⟩ => ?_) hs hl))⟩
  obtain ⟨t, u, a, b, xs, ys, rfl, qx, qy, q⟩ := q1
  cases r1 with
  | cons r rr =>
    cases rr with
    | cons r' rr =>
      cases rr; cases r; cases r'
      obtain ⟨_, _, sx, la⟩ := seqI I1 qx
      obtain ⟨_, _, sy, lb⟩ := seqI I1 qy
      refine zip_new sx sy fun g N eN gz gI gO g1 g2 kp => wpAny_pyIter_zip gz ?_
      have fr : ∀ c, c ∈ [N + 4, N + 2, N + 3, N, N + 1] → FpOk X pins H1 c := fun c hc => by
        have le : s1.heap.objs.size ≤ c := by
          simp only [List.mem_cons, List.not_mem_nil, or_false] at hc
          rw [← eN]
          rcases hc with rfl | rfl | rfl | rfl | rfl <;> first | exact Nat.le_add_right _ _ | exact Nat.le_refl _
        exact I1.fpOk le (I1.hok.fresh le)
      exact ⟨N + 4, [N + 4, N + 2, N + 3, N, N + 1], _, _, H1, rfl, I1.kept (t' := s1.toks) kp, turnM (by rw [eN]; exact PySem.W.ktu_apart s1.heap.objs.size a b la lb), ⟨gz, gI, ⟨_, _, gO⟩, g1, g2⟩, fr, q⟩
end Zm
/-! ### as functions of data -/
namespace Dn
open PySem PySem.Spec PyProof.Rows L2 GxR Gx Zm
def seqK (x : Val) (S : Sto) : Option (Bool × List D) := match seqT x with
  | some ds => some (true, ds)
  | none => match seqL x S with
    | some ds => some (false, ds)
    | none => none
def iMx (xs : List Val) (S : Sto) : Out Itm := match xs with
  | [x, y] => (match seqK x S, seqK y S with
    | some ds, some es => .ok ⟨(ds.2.zip es.2).map fun p => .tup [p.1, p.2], wtV x S ++ wtV y S⟩ S
    | _, _ => .bad)
  | _ => .bad
def diMx (As : DAf) : DIf := fun env S => (As env S).bind fun xs S1 => iMx xs S1
section
variable {W : Wd} {E : XK} {X : Cx} {H : Hp} {μ : Mu} {S : Sto} {tg : Expr} {pos : Pos}
theorem staysK {x : Val} {ds : Bool × List D} {v : V} (s : RelS W H μ S) (h : RelV' W H μ x v) (e : seqK x S = some ds) : ∃ a, v = .ref a ∧ ∀ H' μ' S', Le H μ H' μ' → RelS W H' μ' S' → wtOk (wtV x S) S' → ∃ vs, SqA ds.1 W.K H' a vs ∧ RelDs W H' μ' ds.2 vs := by
  unfold seqK at e
  split at e
  · rename_i es e1
    cases e
    obtain ⟨a, rfl, q⟩ := staysT s h e1
    exact ⟨a, rfl, fun H' μ' S' l _ _ => q H' μ' l⟩
  · split at e
    · rename_i es e1
      cases e
      exact stays s h e1
    · cases e
theorem di_mx {a b : Expr} {As : DAf} {p tpos : Pos} {elts : List Expr} {kk : Nat} (hK : X.K = W.K) (hg : Gl X "zip") (hm : X.mg "zip" = none) (ha : DA W E X [a, b] As)
    (hs : starEach [a, b] X.env = (false, eval a X.env) :: starEach [b] X.env := by rfl) (hl : (backTo pos (starEach [b] X.env)).any (·.1) = false := by rfl) : DI W E X (.Tuple elts kk tpos) (.Call (.Name "zip" p) [a, b] [] pos) (diMx As) :=
  (pi_mix hg hm ha hs hl).imp fun σ H R ⟨env, S, μ, hE, hS, hp⟩ => ⟨env, S, μ, hE, hS, hp.bind.imp fun xs S1 H1 μ1 l1 s1 p1 vs rvs => by
    unfold iMx at p1
    rw [hK]
    split at p1
    · rename_i x y
      obtain ⟨v, w, rfl, rv, rw'⟩ := rel_two rvs
      split at p1
      · rename_i ds es e1 e2
        obtain ⟨a, rfl, h1⟩ := staysK s1 rv e1
        obtain ⟨b, rfl, h2⟩ := staysK s1 rw' e2
        obtain ⟨us, q1, _⟩ := h1 H1 μ1 S1 .refl s1 wtV_ok
        obtain ⟨ws, q2, _⟩ := h2 H1 μ1 S1 .refl s1 wtV_ok
        refine ⟨ds.1, es.1, a, b, us, ws, rfl, q1, q2, p1.at_ s1 _ (pairs_ok rfl (fun i H' μ' S' l s w hi => ?_) (fun H' μ' S' l s w => ?_) fun i H' μ' S' v H2 l s w hi yy => ?_)⟩
        · rw [wtOk_app] at w
          obtain ⟨us, q1, r1⟩ := h1 H' μ' S' l s w.1
          obtain ⟨ws, q2, r2⟩ := h2 H' μ' S' l s w.2
          obtain ⟨u, e3, _⟩ := r1.get (List.getElem?_eq_getElem (Nat.lt_of_lt_of_le hi (Nat.min_le_left _ _)))
          obtain ⟨w, e4, _⟩ := r2.get (List.getElem?_eq_getElem (Nat.lt_of_lt_of_le hi (Nat.min_le_right _ _)))
          exact ⟨us, ws, u, w, q1, q2, e3, e4⟩
        · rw [wtOk_app] at w
          obtain ⟨us, q1, r1⟩ := h1 H' μ' S' l s w.1
          obtain ⟨ws, q2, r2⟩ := h2 H' μ' S' l s w.2
          exact ⟨us, ws, q1, q2, by rw [← r1.length, ← r2.length]; omega⟩
        · rw [wtOk_app] at w
          obtain ⟨us, q1, r1⟩ := h1 H' μ' S' l s w.1
          obtain ⟨ws, q2, r2⟩ := h2 H' μ' S' l s w.2
          have hd := List.getElem?_eq_getElem (Nat.lt_of_lt_of_le hi (Nat.min_le_left _ _))
          have he := List.getElem?_eq_getElem (Nat.lt_of_lt_of_le hi (Nat.min_le_right _ _))
          obtain ⟨u, e3, r3⟩ := r1.get hd
          obtain ⟨w, e4, r4⟩ := r2.get he
          obtain ⟨T, x, y, rfl, hT, rfl, f1, f2⟩ := yy
          have g1 := f1 us q1
          have g2 := f2 ws q2
          rw [e3] at g1; cases g1
          rw [e4] at g2; cases g2
          exact ⟨T, _, _, _, _, rfl, hT, rfl, hd, he, r3, r4⟩
      · exact p1.elim
    · exact p1.elim⟩
end
end Dn
set_option Elab.async false
set_option linter.all false
set_option maxRecDepth 100000
set_option maxHeartbeats 4000000
/-! ### a pair put together and taken apart: a new list may be in it -/
namespace Dn
open PySem PySem.Spec PyProof.Rows L2 GxR Gx
section
variable {W : Wd} {E : XK} {X : Cx} {pos : Pos}
theorem ds_pair {i j : Nat} {x y : Str} {a b : Expr} {As : DAf} {px py pt : Pos} {kt k2 pt2} (hK : X.K = W.K) (hc : X.calm = true) (hN : X.N.Nodup) (hi : X.N[i]? = some x) (hj : X.N[j]? = some y) (ha : DA W E X [a, b] As)
    (hx : Loc X.env.scope x := by first | exact Or.inl rfl | exact Or.inr rfl) (hy : Loc X.env.scope y := by first | exact Or.inl rfl | exact Or.inr rfl)
    (hfx : X.fn x = true ∨ X.env.scope.names.lookup x = some .local := by first | exact .inl rfl | exact .inr rfl) (hfy : X.fn y = true ∨ X.env.scope.names.lookup y = some .local := by first | exact .inl rfl | exact .inr rfl)
    (hs : swapsWithSole [.Tuple [.Name x px, .Name y py] kt pt] (.Tuple [a, b] k2 pt2) pos.line X.env = pure false := by rfl) (hw : swappedStores [.Tuple [.Name x px, .Name y py] kt pt] (.Tuple [a, b] k2 pt2) X.env = pure none := by rfl)
    (h1 : (assignEach [.Tuple [.Name x px, .Name y py] kt pt] X.env).map (·.2) = [assign (.Tuple [.Name x px, .Name y py] kt pt) X.env] := by rfl)
    (hs1 : (assignEach [.Name x px, .Name y py] X.env).map (·.2) = assign (.Name x px) X.env :: (assignEach [.Name y py] X.env).map (·.2) := by rfl) (hs2 : (assignEach [.Name y py] X.env).map (·.2) = assign (.Name y py) X.env :: (assignEach [] X.env).map (·.2) := by rfl)
    (hn : (assignEach [.Name x px, .Name y py] X.env).length = 2 := by rfl) (hst : (assignEach [.Name x px, .Name y py] X.env).findIdx? (·.1) = none := by rfl) :
    DS W E X (.Assign [.Tuple [.Name x px, .Name y py] kt pt] (.Tuple [a, b] k2 pt2) pos) (dPar i j As) :=
  (ps_asg (pe_tup ha) (pg_tup hc (pgs_cons (pg_name hN hi hx hfx) (pgs_cons (pg_name hN hj hy hfy) pgs_nil hs2) hs1) hn hst) hs hw h1).imp fun D σ H ⟨env, S, μ, hE, hS, hp⟩ =>
  ⟨env, S, μ, hE, hS, hp.bind.imp fun xs S1 H1 μ1 l1 s1 p1 vs rvs => by
    split at p1
    · obtain ⟨v, w, rfl, rv, rw'⟩ := rel_two rvs
      refine ⟨by show 2 ≤ sizeLine; decide, fun c hc0 => ⟨c, [v, w], rfl, .inl (.inl upd_same), rfl, v, [w], rfl, w, [], rfl, rfl, ?_⟩⟩
      have e1 := (hE.mono l1 hS.is).set (i := i) rv
      have e2 := e1.set (i := j) rw'
      exact p1 _ _ (Le.new hc0) (s1.new hc0) _ (e2.mono (Le.new hc0) s1.is)
    · exact p1.elim⟩
end
end Dn
set_option Elab.async false
set_option linter.all false
set_option maxRecDepth 100000
set_option maxHeartbeats 4000000
/-! ### a table at a module's top: texts to tuples of texts -/
namespace Dn
open PySem PySem.Spec PyProof.Rows L2 GxR
/-- what was written holds a tuple of these texts -/
def TxtT (K : PySem.W.Frag) (b : Addr) (xs : List Str) : Prop := ∃ (o : Obj) (its : Array Value) (n : Nat), K.lookup b = some o ∧ o.cls = .type "tuple" ∧ o.data = .seq its n ∧ its.size ≤ sizeLine ∧ Vals (xs.map V.str) its.toList
def strOf : Value → Option Str
  | .str x _ => some x
  | _ => none
def txtB (K : PySem.W.Frag) (b : Addr) (xs : List Str) : Bool := match K.lookup b with
  | some ⟨.type c, _, .seq its _, _⟩ => decide (c = "tuple") && (decide (its.size ≤ 100) && decide (its.toList.map strOf = xs.map some))
  | _ => false
theorem vals_strOf : ∀ {us : List Value} {xs : List Str}, us.map strOf = xs.map some → Vals (xs.map V.str) us
  | [], [], _ => .nil
  | [], x :: xs, h => by cases h
  | u :: us, [], h => by cases h
  | u :: us, x :: xs, h => by
    simp only [List.map_cons, List.cons.injEq] at h
    obtain ⟨h1, h2⟩ := h
    refine .cons ?_ (vals_strOf h2)
    unfold strOf at h1
    split at h1
    · rename_i y t
      cases h1
      exact ⟨t, rfl⟩
    · cases h1
theorem txtB_ok {K : PySem.W.Frag} {b : Addr} {xs : List Str} (h : txtB K b xs = true) : TxtT K b xs := by
  unfold txtB at h
  split at h
  · rename_i c dd its n sl e
    obtain ⟨h1, h2⟩ := He.ba h
    obtain ⟨h2, h3⟩ := He.ba h2
    have hc : c = "tuple" := of_decide_eq_true h1
    subst hc
    exact ⟨_, its, n, e, rfl, rfl, by have := of_decide_eq_true h2; rw [sizeLine_eq]; omega, vals_strOf (of_decide_eq_true h3)⟩
  · cases h
abbrev Tb := List (Str × List Str)
structure GTab (K : PySem.W.Frag) (w : World) (mg : Str → Option Value) (x : Str) (tb : Tb) : Prop where
  at_ : mg x = some (.ref (He.ga K x))
  kd : ∃ es n, KDict K w (He.ga K x) es n
  get : ∀ z xs, tb.lookup z = some xs → ∃ b, PySem.W.nsIn K (He.ga K x) z = some (some (.ref b)) ∧ TxtT K b xs
  miss : ∀ z, tb.lookup z = none → PySem.W.nsIn K (He.ga K x) z = some none
/-! ### how the head tells it -/
def gtB (K : PySem.W.Frag) (x : Str) (tb : Tb) : Bool := tb.all fun p => match PySem.W.nsIn K (He.ga K x) p.1 with
  | some (some (.ref b)) => txtB K b p.2
  | _ => false
/-- where it stands, its keys -/
def gT (x : Str) (tb : Tb) : He.Tab := (fun K => He.ga K x, tb.map (·.1))
theorem lookup_mem {tb : Tb} {z : Str} {xs : List Str} (h : tb.lookup z = some xs) : (z, xs) ∈ tb := by
  induction tb with
  | nil => cases h
  | cons p tb ih =>
    obtain ⟨y, ys⟩ := p
    simp only [List.lookup] at h
    split at h
    · rename_i q
      cases h
      have : z = y := by simpa using q
      subst this
      exact List.mem_cons_self
    · exact List.mem_cons_of_mem _ (ih h)
theorem lookup_no {tb : Tb} {z : Str} (h : tb.lookup z = none) : z ∉ tb.map (·.1) := by
  induction tb with
  | nil => simp
  | cons p tb ih =>
    obtain ⟨y, ys⟩ := p
    simp only [List.lookup] at h
    split at h
    · cases h
    · rename_i q
      have : z ≠ y := by simpa using q
      simp only [List.map_cons, List.mem_cons, not_or]
      exact ⟨this, ih h⟩
theorem gtab_of {K : PySem.W.Frag} {w : World} {mg : Str → Option Value} {x : Str} {tb : Tb} {fa : List He.Fa} {fn : List He.DefD} {ts : List He.Tab} (c : He.SaysT fa fn ts w K) (i : Nat) (h : ts[i]? = some (gT x tb))
    (m : mg x = some (.ref (He.ga K x))) (e : gtB K x tb = true) : GTab K w mg x tb := by
  have d : He.dicW K (He.ga K x) = some (He.keysIn w.params (tb.map (·.1))) := by
    have e1 : ts.map (fun t => He.dicW K (t.1 K)) = ts.map fun t => some (He.keysIn w.params t.2) := congrArg (fun z : He.AlT => z.2) c
    have e2 : (ts.map fun t => He.dicW K (t.1 K))[i]? = (ts.map fun t => some (He.keysIn w.params t.2))[i]? := by rw [e1]
    rw [List.getElem?_map, List.getElem?_map, h] at e2
    exact Option.some.inj e2
  have kd := He.dicW_ok d
  refine ⟨m, kd, fun z xs hz => ?_, fun z hz => ?_⟩
  · have q := List.all_eq_true.mp e (z, xs) (lookup_mem hz)
    simp only at q
    split at q
    · rename_i b hb
      exact ⟨b, hb, txtB_ok q⟩
    · cases q
  · obtain ⟨es, n, D⟩ := kd
    unfold He.dicW at d
    rw [D.at_] at d
    simp only [D.low] at d
    have keys : es.toList.map He.keyOf = He.keysIn w.params (tb.map (·.1)) := by simpa using d
    have each : ∀ en ∈ es.toList, ∃ y t, en.key = .str y t ∧ y ≠ z := fun en hen => by
      have mm : He.keyOf en ∈ es.toList.map He.keyOf := List.mem_map_of_mem hen
      rw [keys] at mm
      unfold He.keysIn at mm
      obtain ⟨y, hy, ey⟩ := List.mem_map.mp mm
      unfold He.keyOf at ey
      split at ey
      · rename_i y' t q
        simp only [Option.some.injEq, Prod.mk.injEq] at ey
        refine ⟨y', t, q, fun zz => ?_⟩
        rw [← zz, ← ey.1] at hz
        exact lookup_no hz hy
      · cases ey
    unfold PySem.W.nsIn
    rw [D.at_]
    dsimp only
    have n1 : es.toList.find? (·.key.isStr z) = none := by
      rw [List.find?_eq_none]
      intro en hen
      obtain ⟨y, t, q, ne⟩ := each en hen
      rw [q, PySem.W.isStr_of]
      simp [Value.isStrOf, ne, Ne.symm ne]
    have n2 : es.toList.any (·.refKey) = false := by
      rw [List.any_eq_false]
      intro en hen
      obtain ⟨y, t, q, ne⟩ := each en hen
      simp [DictEntry.refKey, q]
    rw [n1, n2]
    rfl
/-! ### what is read of it -/
def dGix (tb : Tb) (F : DEf) : DEf := fun env S => (F env S).bind fun y S1 => match y with
  | .d (.str z) => (match tb.lookup z with
    | some xs => .ok (.d (.tup (xs.map .str))) S1
    | none => .bad)
  | _ => .bad
def dGget (tb : Tb) (F : DEf) : DEf := fun env S => (F env S).bind fun y S1 => match y with
  | .d (.str z) => (match tb.lookup z with
    | some xs => .ok (.d (.tup (xs.map .str))) S1
    | none => .ok (.d .non) S1)
  | .d .non => .ok (.d .non) S1
  | _ => .bad
/-! a key that may be None -/
section
def isOpt : Option Str → Value → Bool
  | some z, v => Value.isStrOf z v
  | none, .none => true
  | none, _ => false
theorem isOpt_shape {k : Option Str} {v : Value} (h : isOpt k v = true) : (k = none ∧ v = .none) ∨ ∃ z t, k = some z ∧ v = .str z t := by
  cases k with
  | none => cases v <;> simp [isOpt] at h; exact .inl ⟨rfl, rfl⟩
  | some z =>
    obtain ⟨t, rfl⟩ := Value.isStrOf_shape h
    exact .inr ⟨z, t, rfl, rfl⟩
theorem pyHash_nil {prog : Program} {w : World} {A : Around} {E : Value → Shared → Prop} {s : Shared} {Q : Int → Shared → Prop} (h : Q 0xFCA86420 { s with toks := s.toks + 1 }) : wpAny (model prog w) A (pyHash .none) Q E s := by
  have ty : s.TypeIs .none "NoneType" := rfl
  have one : [Value.none].any Value.onHeap = false := rfl
  unfold pyHash
  refine wpAny_bind ?_
  rw [cRoomFor, if_neg (by rw [one]; exact Bool.false_ne_true)]
  refine wpAny_pure (wpAny_bind (wpAny_specialOf ty F.slot_NoneType_hash.lookup ?_))
  change wpAny _ _ (if (some (Value.builtin "NoneType.__hash__") == some Value.none) = true then _ else _) Q E s
  rw [if_neg (by rw [beq_builtin_none]; exact Bool.false_ne_true)]
  refine wpAny_bind (wpAny_specialOf ty F.slot_NoneType_hash.lookup ?_)
  change wpAny _ _ (callSpecialIfBoundUnlessNone? .none "__hash__" _ >>= _) Q E s
  refine wpAny_bind (wpAny_callSpecialIfBoundUnlessNone?_slot ty F.slot_NoneType_hash (wpAny_call_entry F.slot_NoneType_hash ty F.entry_NoneType_hash (show wpAny _ _ (do ret (← mkInt 0xFCA86420)) _ _ s from wpAny_ret_mkInt ?_) (F.args_NoneType_hash_1 _)))
  change wpAny _ _ (if (decide (-(2 : Int) ^ 63 ≤ 0xFCA86420) && decide ((0xFCA86420 : Int) < 2 ^ 63)) = true then _ else _) Q E _
  rw [if_pos (by decide)]
  exact wpAny_pure h
theorem eq_nils {prog : Program} {w : World} {A : Around} {E : Value → Shared → Prop} {s : Shared} {Q : Bool → Shared → Prop} (h : Q true s) : wpAny (model prog w) A (eqBool .none .none) Q E s := by
  unfold eqBool
  refine wpAny_holding ?_
  rw [if_pos (show (Value.none == Value.none) = true from rfl)]
  exact wpAny_bind (wpAny_rule (wpAny_pure h))
def optKind (prog : Program) (w : World) : KeyKind prog w (Option Str) where
  is := isOpt
  hash := fun k => match k with | some z => hashStr w z | none => 0xFCA86420
  inj := fun v a b ha hb => by
    rcases isOpt_shape ha with ⟨rfl, rfl⟩ | ⟨z, t, rfl, rfl⟩ <;> rcases isOpt_shape hb with ⟨rfl, e⟩ | ⟨z2, t2, rfl, e⟩ <;> (first | rfl | (cases e; rfl) | (cases e))
  byValue := fun k v h => by rcases isOpt_shape h with ⟨rfl, rfl⟩ | ⟨z, t, rfl, rfl⟩ <;> rfl
  pyHash := fun hv h => by
    rcases isOpt_shape hv with ⟨rfl, rfl⟩ | ⟨z, t, rfl, rfl⟩
    · exact pyHash_nil h
    · exact wpAny_pyHash_str h
  eqBool := fun hu hv h => by
    rcases isOpt_shape hu with ⟨rfl, rfl⟩ | ⟨z, t, rfl, rfl⟩ <;> rcases isOpt_shape hv with ⟨rfl, rfl⟩ | ⟨z2, t2, rfl, rfl⟩
    · exact eq_nils (by simpa using h)
    · exact SeqAt.EqAt.none_str _ _ _ _ _ _ (by simpa using h)
    · exact SeqAt.EqAt.str_none _ _ _ _ _ _ (by simpa using h)
    · exact wpAny_eqBool_str (by simpa using h)
  «strs» := fun k x t v h => by
    rcases isOpt_shape h with ⟨rfl, e⟩ | ⟨z, t2, rfl, e⟩
    · cases e
    · cases e
      cases v <;> rfl
end
section
variable {W : Wd} {E : XK} {X : Cx} {pos p : Pos} {e : Expr} {F : DEf} {x : Str} {tb : Tb}
theorem rel_strs {H : Hp} {μ : Mu} : ∀ xs : List Str, RelDs W H μ (xs.map D.str) (xs.map V.str)
  | [] => by simp [RelDs]
  | x :: xs => by simp only [List.map_cons, RelDs]; exact ⟨_, _, rfl, by simp [RelD], rel_strs xs⟩
theorem rel_txt {H : Hp} {μ : Mu} {b : Addr} {xs : List Str} (hK : X.K = W.K) (t : TxtT X.K b xs) : RelV' W H μ (.d (.tup (xs.map .str))) (.ref b) := by
  simp only [RelV', RelD]
  exact ⟨b, xs.map V.str, rfl, .inr (hK ▸ t), rel_strs xs⟩
theorem de_gix (hK : X.K = W.K) (G : GTab X.K X.w X.mg x tb) (hg : Gl X x) (hb : DE W E X e F) (hs : PlainIx e) (hd : (x == ("__debug__" : Str)) = false := by decide) : DE W E X (.Subscript (.Name x p) e pos) (dGix tb F) :=
  (pe_ix ix_kdict (pe_glob (v := .ref (He.ga X.K x)) hg G.at_ rfl hd) hb hs).imp fun σ H Q ⟨env, S, μ, hE, hS, hp⟩ => by
    refine ⟨env, S, μ, hE, hS, hp.bind.imp fun y S1 H1 μ1 l1 s1 p1 v rv => ?_⟩
    try dsimp only at p1
    split at p1
    · rename_i z
      split at p1
      · rename_i xs hz
        obtain ⟨es, n, D⟩ := G.kd
        obtain ⟨b, hb, ht⟩ := G.get z xs hz
        exact ⟨_, z, .ref b, rfl, str_rel rv, ⟨es, n, _, D.at_, D.lit, hb, rfl⟩, p1.at_ s1 _ (rel_txt hK ht)⟩
      · exact p1.elim
    · exact p1.elim
def tGget (K : PySem.W.Frag) (g : Addr) (ty : TE) : TE := fun σ H Q => ty σ H fun y H2 => (y = .non ∧ Q .non H2) ∨ ∃ (z : Str) (r : Option Value) (u : V), y = .str z ∧ PySem.W.nsIn K g z = some r ∧ RelV u (r.getD .none) ∧ Q u H2
theorem opt_map {prog : Program} {w : World} {h : Heap} {a : Addr} {f : Str → Option Value} (m : h.MapOf (strKind prog w) a f) : h.MapOf (optKind prog w) a (fun k => match k with | some z => f z | none => none) := by
  obtain ⟨o, es, ep, ho, hx, hd, hk, hf⟩ := m
  refine ⟨o, es, ep, ho, hx, hd, fun e he => ?_, fun k => ?_⟩
  · obtain ⟨z, h1, h2⟩ := hk e he
    exact ⟨some z, h1, h2⟩
  · cases k with
    | some z => exact hf z
    | none =>
      show findBy isOpt es none = none
      unfold findBy
      rw [Array.find?_eq_none.mpr fun e he q => ?_]
      · rfl
      · obtain ⟨z, h1, _⟩ := hk e he
        obtain ⟨t, e2⟩ := Value.isStrOf_shape h1
        rw [e2] at q
        cases q
theorem pe_gget {apos : Pos} {ty : TE} (G : GTab X.K X.w X.mg x tb) (hg : Gl X x) (he : PE X e ty) (m : M1 X (.Name x p) "get" apos e pos) (hd : (x == ("__debug__" : Str)) = false := by decide) :
    PE X (.Call (.Attribute (.Name x p) "get" apos) [e] [] pos) (tGget X.K (He.ga X.K x) ty) := by
  obtain ⟨es, n, D⟩ := G.kd
  refine ⟨fun pins s σ H Q I h => ?_⟩
  refine wpAny_Call_method m.base m.few m.line PySem.F.plainAttrs_dict PySem.F.slot_dict_get PySem.F.type_dict_get (thn ((pe_glob (v := .ref (He.ga X.K x)) hg G.at_ rfl hd).run pins s σ H (fun y H1 => y = .ref (He.ga X.K x) ∧ tGget X.K (He.ga X.K x) ty σ H1 Q) I ⟨rfl, h⟩) fun u s1 ⟨x', H1, I1, rx, ex, q1⟩ => ?_)
  subst ex
  obtain rfl : u = Value.ref (He.ga X.K x) := rx
  have hm := PySem.W.mapOf_K (prog := X.prog) (w := X.w) I1.kIn D.at_ D.lit
  refine ⟨hm.typeIs, fun b q => ?_, ?_⟩
  · cases q
    exact ⟨_, I1.kIn _ _ D.at_, rfl⟩
  rw [m.trees]
  refine Calls.callWith_builtin rfl (Calls.evalArgs_plain (Calls.spliced_cons (thn (he.run pins s1 σ H1 _ I1 q1) fun iv s2 ⟨y, H2, I2, ry, q2⟩ => Calls.spliced_nil ?_)))
  have hm2 := PySem.W.mapOf_K (prog := X.prog) (w := X.w) I2.kIn D.at_ D.lit
  rcases q2 with ⟨rfl, q2⟩ | ⟨z, r, u, rfl, hz, ru, q2⟩
  · obtain rfl : iv = Value.none := ry
    refine call_meetsIn PySem.F.slot_dict_get hm2.typeIs PySem.F.entry_dict_get (PySem.F.args_dict_get_2 _ _) (meets_dict_get (optKind X.prog X.w) (He.ga X.K x) (k := none) (key := .none) rfl D.low) ⟨_, opt_map hm2, ?_⟩
    exact ⟨.non, H2, I2.tok _, rfl, q2⟩
  · obtain ⟨t, rfl⟩ := (show ∃ t, iv = Value.str z t from ry)
    refine call_meetsIn PySem.F.slot_dict_get hm2.typeIs PySem.F.entry_dict_get (PySem.F.args_dict_get_2 _ _) (meets_dict_get (strKind X.prog X.w) (He.ga X.K x) (strKind_is X.prog X.w z t) D.low) ⟨_, hm2, ?_⟩
    rw [PySem.W.find_K D.at_ hz]
    exact ⟨u, H2, I2.tok _, ru, q2⟩
theorem de_gget {apos : Pos} (hK : X.K = W.K) (G : GTab X.K X.w X.mg x tb) (hg : Gl X x) (hb : DE W E X e F) (m : M1 X (.Name x p) "get" apos e pos) (hd : (x == ("__debug__" : Str)) = false := by decide) :
    DE W E X (.Call (.Attribute (.Name x p) "get" apos) [e] [] pos) (dGget tb F) :=
  (pe_gget G hg hb m hd).imp fun σ H Q ⟨env, S, μ, hE, hS, hp⟩ => by
    refine ⟨env, S, μ, hE, hS, hp.bind.imp fun y S1 H1 μ1 l1 s1 p1 v rv => ?_⟩
    try dsimp only at p1
    split at p1
    · rename_i z
      split at p1
      · rename_i xs hz
        obtain ⟨b, hb, ht⟩ := G.get z xs hz
        exact .inr ⟨z, _, .ref b, str_rel rv, hb, rfl, p1.at_ s1 _ (rel_txt hK ht)⟩
      · rename_i hz
        exact .inr ⟨z, _, .non, str_rel rv, G.miss z hz, rfl, p1.at_ s1 _ (by simp [RelV', RelD])⟩
    · refine .inl ⟨by simpa [RelV', RelD] using rv, p1.at_ s1 _ (by simp [RelV', RelD])⟩
    · exact p1.elim
end
end Dn
set_option Elab.async false
set_option linter.all false
set_option maxRecDepth 100000
set_option maxHeartbeats 2000000
/-! an own error whose __init__ says super().__init__(text), then stores one field: what it keeps, from the def's entry -/
namespace XS
open PySem PySem.Spec PyProof.Rows L2
abbrev envS (qual : Str) (scope : Scope) (L f : Addr) (cd : Value) (cc : Addr) : Env := PySem.W.ksEnv qual scope L f cd cc
def cxS (CX : CXT) (P : Program) (w : World) (K : PySem.W.Frag) (mg : Str → Option Value) (base : Heap) (N : List Str) (qual : Str) (scope : Scope) (f : Addr) (cd : Value) (cc : Addr) (A : Around) (outer : List Env) (s : Shared) (H : Hp) (E : XK) : Cx where
  prog := P
  w := w
  K := K
  mg := mg
  base := base
  A := A.deeper (envS qual scope s.heap.objs.size f cd cc)
  N := N
  s_0 := s
  H_0 := H
  env := envS qual scope s.heap.objs.size f cd cc
  outer := outer
  stack := envS qual scope s.heap.objs.size f cd cc :: outer
  ex := []
  calm := true
  fn := fun _ => false
  pn := []
  xe := fun e s' => wpAny (model P w) (A.deeper (envS qual scope s.heap.objs.size f cd cc)) (leaving (envS qual scope s.heap.objs.size f cd cc) e) (fun _ s'' => CX outer H s E e s'') (fun e' s'' => CX outer H s E e' s'') s'
/-- the names of such an __init__ -/
structure ScS (a b : Str) (sc : Scope) : Prop where
  kind : sc.kind = .function
  co : sc.isCoroutine = false
  gen : sc.isGenerator = false
  ne : a ≠ b
  la : sc.names.lookup a = some .local
  lb : sc.names.lookup b = some .local
  su : sc.names.lookup ("super" : Str) = some .globalImplicit
  kc : sc.names.lookup ("__class__" : Str) = some .free
  free : ∀ y, sc.names.lookup y = some .free → y = ("__class__" : Str)
  cell : ∀ y ∈ sc.names, y.2 ≠ .cell
theorem lookup_one {y z : Str} {c d : Addr} (h : ([(y, c)] : List (Str × Addr)).lookup z = some d) : z = y ∧ d = c := by
  simp only [List.lookup] at h
  split at h
  · rename_i q
    exact ⟨eq_of_beq q, by cases h; rfl⟩
  · cases h
theorem inv_start {CX : CXT} {P : Program} {w : World} {K : PySem.W.Frag} {mg : Str → Option Value} {base : Heap} {a b : Str} {qual : Str} {scope : Scope} {f cc : Addr} {cd : Value} {A : Around} {outer : List Env} {s : Shared} {H : Hp} {E : XK} {u1 u2 : Value} {v1 v2 : V} {h₁ : Heap} {tk : Nat} {cl : Value} {cld : Option Addr} {csl : Array (Option Value)} {cv : Option Value}
    (S : ScS a b scope) (hd : A.handled = none) (e0 : Env0 P w K mg base A outer s H) (r1 : RelV v1 u1) (r2 : RelV v2 u2) (hcc : K.lookup cc = some ⟨cl, cld, .cell cv, csl⟩)
    (hns : h₁.Ns s.heap.objs.size (fun x => [(a, u1), (b, u2)].reverse.lookup x)) (hk : ∀ (q : Addr) o, s.heap.get? q = some o → h₁.get? q = some o) :
    Inv (cxS CX P w K mg base [a, b] qual scope f cd cc A outer s H E) [] (start [a, b] [v1, v2]) H { s with heap := h₁, toks := tk } := by
  have noA : ∀ q : Addr, q ∉ (cxS CX P w K mg base [a, b] qual scope f cd cc A outer s H E).ex := fun q z => absurd (show q ∈ ([] : List Addr) from z) (by simp)
  have hcb : base.get? cc = some ⟨cl, cld, .cell cv, csl⟩ := e0.mod.kin _ _ hcc
  have one : ∀ {x c}, (cxS CX P w K mg base [a, b] qual scope f cd cc A outer s H E).env.cells.lookup x = some c → x = ("__class__" : Str) ∧ c = cc := fun h => lookup_one h
  refine ⟨⟨e0.mod, S.kind, rfl, rfl, Nat.le_refl _, fun x y c h1 h2 => (one h1).1.trans (one h2).1.symm, fun y hy => ?_, fun y c z _ => absurd (show false = true from z) (by simp), fun _ => hd, Around.frames_deeper e0.frames, .inr ⟨rfl, rfl⟩, fun b z => absurd z (noA b), e0.bs, e0.bsz, fun b _ _ => noA b, fun b z => absurd z (noA b), e0.funs, e0.frf⟩,
    rfl, e0.bare, Un.kept hk, ⟨_, hns, fun i y v h1 h2 h3 => ?_⟩, fun y c h => ?_, e0.hok.fresh (Nat.le_refl _), fun y c h => ?_, fun p hp => absurd (show p ∈ ([] : List (Addr × Obj)) from hp) (by simp), e0.hok.kept hk, rfl⟩
  · have hy : scope.names.lookup y = some .cell ∨ scope.names.lookup y = some .free := hy
    rcases hy with hy | hy
    · exact absurd rfl (S.cell _ (PySem.mem_of_lookup hy))
    · rw [S.free y hy]
      exact ⟨cc, rfl⟩
  · have key : (i = 0 ∧ y = a ∧ v = v1) ∨ (i = 1 ∧ y = b ∧ v = v2) := by
      match i, h1, h2 with
      | 0, h1, h2 =>
        simp [L2.start, cxS] at h1 h2
        exact .inl ⟨rfl, h1.symm, h2.symm⟩
      | 1, h1, h2 =>
        simp [L2.start, cxS] at h1 h2
        exact .inr ⟨rfl, h1.symm, h2.symm⟩
      | i + 2, h1, h2 => simp [cxS] at h1
    rcases key with ⟨_, rfl, rfl⟩ | ⟨_, rfl, rfl⟩
    · refine ⟨u1, r1, .inl ⟨S.la, ?_⟩⟩
      show [(b, u2), (y, u1)].lookup y = some u1
      simp [List.lookup, beq_eq_false_iff_ne.mpr S.ne]
    · refine ⟨u2, r2, .inl ⟨S.lb, ?_⟩⟩
      show [(y, u2), (a, u1)].lookup y = some u2
      simp [List.lookup]
  · obtain ⟨_, rfl⟩ := one h
    exact ⟨cv, _, hk _ _ (e0.bs _ _ hcb).1, rfl⟩
  · obtain ⟨_, rfl⟩ := one h
    exact (e0.bs _ _ hcb).2

/-- what the written part holds of such a class C, of its __init__ at f, its code and its cell -/
structure SupK (K : PySem.W.Frag) (mg : Str → Option Value) (P : Program) (C f cc cda : Addr) (fd : FuncData) (a : Str) : Prop where
  T : OexC K C
  fn : ∃ oc od osl, K.lookup f = some ⟨oc, od, .func fd, osl⟩
  ar : ∃ ar, (fd.params.posonlyargs ++ fd.params.args).head? = some ar ∧ ar.arg = a
  co : ∃ ccl cdd vs ccs file tf, K.lookup cda = some ⟨ccl, cdd, .fields vs, ccs⟩ ∧ vs[2]? = some (.str file tf) ∧ ((P.main.file : Str) == file) = true
  ce : ∃ cl cld csl, K.lookup cc = some ⟨cl, cld, .cell (some (.ref C)), csl⟩
  al : ∃ cd, PySem.W.clsIn K C = some cd ∧ PySem.W.alongIn K "__init__" ((cd.mro.dropWhile (· != .ref C)).drop 1) = some (some (.builtin "ValueError.__init__"))
  sf : PySem.W.mroIn K C (.ref C) = some true
  ve : PySem.W.subIn K (.ref C) (.type "ValueError") = some true
  op : PySem.W.nsIn K cStatics "thirdparty.any" = some none
  su : mg "super" = none
  top : (P.main.scope.names.lookup ("super" : Str)).isSome = false
section
variable {CX : CXT} {P : Program} {w : World} {K : PySem.W.Frag} {mg : Str → Option Value} {base : Heap} {a b : Str} {qual : Str} {scope : Scope} {f cc cda C x : Addr} {A : Around} {outer : List Env} {s0 : Shared} {H0 : Hp} {E : XK} {pins : List (Addr × Obj)} {σ : L2.St} {H : Hp} {s : Shared} {fd : FuncData} {body : List Stmt}
theorem super_init (B : SupK K mg P C f cc cda fd a) (S : ScS a b scope) (I : Inv (cxS CX P w K mg base [a, b] qual scope f (.ref cda) cc A outer s0 H0 E) pins σ H s) (hσ : σ[0]? = some (some (.ref x))) (e : H x = some (exo x C none)) {Q : Value → Shared → Prop} {E' : Value → Shared → Prop} {tx : Str} {j : Nat} {p0 p1 p2 p3 p4 : Pos} (hpos : (p2.endLine == p4.line) = true)
    (h : ∀ s', Inv (cxS CX P w K mg base [a, b] qual scope f (.ref cda) cc A outer s0 H0 E) pins σ H s' → Q .none s') :
    PySem.wpAt (model P w) (A.deeper (envS qual scope s0.heap.objs.size f (.ref cda) cc)) (.func body (envS qual scope s0.heap.objs.size f (.ref cda) cc)) (eval (.Call (.Attribute (.Call (.Name "super" p0) [] [] p1) "__init__" p2) [.Constant (.str tx) j p3] [] p4) (envS qual scope s0.heap.objs.size f (.ref cda) cc)) Q E' s := by
  obtain ⟨nm, q, N, bs, bm, sn, sub, ab, col, dd, k0, k1, k2, k3, k5, hC, hbm⟩ := B.T.cls
  obtain ⟨oc, od, osl, lf⟩ := B.fn
  obtain ⟨ar, har, rfl⟩ := B.ar
  obtain ⟨ccl, cdd, vs, ccs, file, tf, lco, hvs, hfile⟩ := B.co
  obtain ⟨cl, cld, csl, lce⟩ := B.ce
  obtain ⟨cd, hcd, hal⟩ := B.al
  have KX : K.In s.heap := I.kIn
  obtain ⟨t1, ho⟩ := exo_at I.hok e
  obtain ⟨m, hns, hlook⟩ := I.loc
  have hv : m ar.arg = some (.ref x) := by
    obtain ⟨u, r, l⟩ := hlook 0 ar.arg (.ref x) rfl hσ (.inl S.la)
    have eu : u = Value.ref x := r
    subst eu
    rcases l with ⟨_, l⟩ | ⟨l, _⟩
    · exact l
    · have z : scope.names.lookup ar.arg = some .cell ∨ scope.names.lookup ar.arg = some .free := l
      rw [S.la] at z
      rcases z with z | z <;> cases z
  obtain ⟨mb, hb1, hb2⟩ := I.mod.blt
  have hD := KX _ _ hC
  have hx : x ≠ C := fun z => by
    rw [z] at ho
    rw [hD] at ho
    simp [excClassObj] at ho
  refine PySem.ks_wpAt_MethodCall ?_ (by
    unfold eval methodCall methodCallPos
    rw [hpos, Bool.or_true]
    rfl)
  obtain ⟨hp, g, d, t, os⟩ := s
  refine PySem.ks_wpAt_super_base S.su S.kc rfl rfl (KX _ _ lf) rfl har rfl (KX _ _ lco) rfl hvs hfile B.top ?_
  refine PySem.W.ks_loadName_global S.kind S.su (Calls.loadGlobal_builtin (I.mod.glob.keeps I.bk) B.su (hb1.keeps I.bk) ((hb2 _ (by decide)).trans (show bootBuiltins "super" = some (.type "super") by decide +kernel)) ⟨rfl, ?_⟩)
  refine wpAny_loadName_free S.kind S.kc rfl ⟨_, KX _ _ lce, rfl⟩ ?_
  refine wpAny_loadName_local S.kind S.la hns hv ?_
  refine PySem.ks_wpAny_isType_cls hD rfl ⟨rfl, ?_⟩
  refine PySem.ks_wpAny_call_super hD rfl ho rfl (fun c z => by cases z) (PySem.W.looks_mroIn KX B.sf) (fun h1 e1 k1' => ?_)
  have KX1 : K.In h1 := KX.keeps k1'
  have ho1 := k1' _ _ ho
  refine PySem.W.kxs_getMethod PySem.W.kxs_ValueError e1 (PySem.W.looks_opaque KX1 B.op) (l₀ := cd.mro) (fun A Q E s k q => wpAny_bind ((PySem.W.looks_clsIn KX1 hcd) A _ E s k (wpAny_pure q))) rfl KX1 hal ?hI hx (by decide) ?_
  case hI =>
    refine PySem.W.Looks.andThen (a := .ref C) ?_ (PySem.W.looks_subIn KX1 B.ve)
    exact fun A Q E s k q => wpAny_typeOf_ref (k _ _ ho1) q
  have k2' : ∀ (y : Addr) o, h1.get? y = some o → (h1.push (PySem.W.kxs_mw "ValueError.__init__" x)).get? y = some o := fun y o z => Heap.get?_push_of_some _ z
  have hu : (h1.push (PySem.W.kxs_mw "ValueError.__init__" x)).get? h1.objs.size = some (PySem.W.kxs_mw "ValueError.__init__" x) := Heap.get?_push_at rfl rfl
  generalize h1.push (PySem.W.kxs_mw "ValueError.__init__" x) = h2 at k2' hu
  have J := I.kept (h' := h2) (t' := t + 1) fun y o z => k2' _ _ (k1' _ _ z)
  have hx2 := k2' _ _ ho1
  have hC2 := k2' _ _ (k1' _ _ hD)
  refine PySem.W.kxs_callWith (i := "ValueError.__init__") (x := x) (by rfl) (Calls.evalArgs_plain (show wpAny _ _ (spliced [(false, eval (.Constant (.str tx) j p3) _)]) _ _ _ from Calls.spliced_cons (Calls.Constant_str (Calls.spliced_nil ⟨hu, ?_⟩))))
  refine wpAny_call (codeAny_of_tree (show wpAny _ _ (callAny (.ref _) ⟨[_], []⟩) _ _ _ from ?_))
  simp only [callAny]
  refine wpAny_bind (wpAny_load hu ?_)
  simp only [PySem.W.kxs_mw, List.nil_append]
  rw [if_pos (show ((Value.type "method-wrapper" == .type "method" || Value.type "method-wrapper" == .type "builtin_function_or_method" || Value.type "method-wrapper" == .type "method-wrapper") = true) from by decide)]
  have FV := PySem.F.excBase_ValueError
  refine wpAny_bind (PySem.W.check_bound_init FV.toExcCallFacts hC2 hx2 rfl (wpAny_pure ⟨PySem.plainId_quiet FV.init.plain _, codeAny_builtin FV.initEntry ?_⟩))
  refine PySem.W.exc_init_tree (cls := .ref C) (t0 := t1) (dv := none) (c2 := .none) (c3 := .none) (b4 := .bool false) hx2 (by simp [sizeLine_eq]) fun h3 k3' ex3 _ => ?_
  have W := J.write (t' := t + 1 + 1) (x := x) (e := x) (o := exo x C none) (by rw [e]; exact True.intro) (.inl rfl) k3' ⟨_, ex3⟩ (exo_ok ex3)
  have same : upd H x (exo x C none) = H := funext fun y => by
    by_cases hy : y = x
    · subst hy
      rw [upd_same, e]
    · exact upd_ne hy
  rw [same] at W
  exact h _ W
end
end XS
set_option Elab.async false
set_option linter.all false
set_option maxRecDepth 100000
set_option maxHeartbeats 2000000
/-! such an __init__ as a promise: the field is stored in the error's own new dict -/
namespace XS
open PySem PySem.Spec PyProof.Rows L2
def spS (C : Addr) (b : Str) : Sp := fun vs H Q _ => ∃ (x : Addr) (v : V), vs = [.ref x, v] ∧ H x = some (exo x C none) ∧ ∀ dx, H dx = none → dx ≠ x → Q .non (upd (upd H dx (exd dx [(b, v)])) x (exo x C (some dx)))
variable {CX : CXT} {P : Program} {w : World} {K : PySem.W.Frag} {mg : Str → Option Value} {base : Heap} {k : Nat} {f cc cda C : Addr} {name qual a b : Str} {params : Arguments} {scope : Scope} {dV kV doc pm ct oc : Value} {an od : Option Addr} {osl : Array (Option Value)} {tx : Str} {j : Nat} {p0 p1 p2 p3 p4 p5 p6 p7 p8 p9 : Pos}
abbrev bodyS (a b tx : Str) (j : Nat) (p0 p1 p2 p3 p4 p5 p6 p7 p8 p9 : Pos) : List Stmt :=
  [.Expr (.Call (.Attribute (.Call (.Name "super" p0) [] [] p1) "__init__" p2) [.Constant (.str tx) j p3] [] p4) p5, .Assign [.Attribute (.Name a p6) b p7] (.Name b p8) p9]
theorem fn_super (lk : K.lookup f = some ⟨oc, od, .func (PySem.W.ksFn name qual params (bodyS a b tx j p0 p1 p2 p3 p4 p5 p6 p7 p8 p9) scope dV kV doc pm an (.ref cda) ct cc), osl⟩) (hcd : PySem.W.codeIn K (.ref cda) qual = true) (S : ScS a b scope)
    (B : SupK K mg P C f cc cda (PySem.W.ksFn name qual params (bodyS a b tx j p0 p1 p2 p3 p4 p5 p6 p7 p8 p9) scope dV kV doc pm an (.ref cda) ct cc) a) (hpos : (p2.endLine == p4.line) = true) (hno : PySem.W.findIn K (.ref C) b = some none)
    (hda : (a == ("__debug__" : Str)) = false) (hdb : (b == ("__debug__" : Str)) = false) (hca : (a == ("__classdict__" : Str)) = false) (hcb : (b == ("__classdict__" : Str)) = false)
    (hsw : ∀ env : Env, swapsWith (.Name b p8) (some (.Attribute (.Name a p6) b p7)) p9.line env = pure false) :
    FnOk P w K mg base CX (k + 1) f (PySem.W.ksFn name qual params (bodyS a b tx j p0 p1 p2 p3 p4 p5 p6 p7 p8 p9) scope dV kV doc pm an (.ref cda) ct cc) [a, b] (spS C b) := by
  refine ⟨fun vs H Q E ⟨x, v, e, _⟩ => by rw [e]; rfl, fun A outer s H args us vs Q E hr e0 hb r hsp => ?_⟩
  obtain ⟨x, v, rfl, ex, hQ⟩ := hsp
  have KX : K.In s.heap := e0.mod.kin.keeps fun b o e => (e0.bs b o e).1
  have lim : s.heap.NoLimit := e0.mod.nolimit.keeps fun b o e => (e0.bs b o e).1
  obtain ⟨cl, cld, csl, lce⟩ := B.ce
  cases r with
  | @cons _ u1 _ _ r1 r' =>
  cases r' with
  | @cons _ u2 _ _ r2 r'' =>
  cases r'' with
  | nil =>
  have hloc : ∀ y ∈ [a, b].zip [u1, u2], scope.names.lookup y.1 = some .local := fun y hy => by
    simp at hy
    rcases hy with rfl | rfl
    · exact S.la
    · exact S.lb
  refine PySem.ks_codeAny_call_defAt hr.depth (KX _ _ lk) rfl lim (PySem.W.codeRec_of KX hcd) rfl hb S.cell hloc (fun h₁ hns hk₁ => ?_) S.co S.gen S.kind
  have I := inv_start (CX := CX) (E := E) (qual := qual) (f := f) (cd := .ref cda) (cv := some (.ref C)) (tk := s.toks + ([a, b].zip [u1, u2]).length) S hr.hd e0 r1 r2 lce hns hk₁
  refine PySem.ks_wpAt_execs_cons (PySem.ks_wpAt_Expr_any (hi := (by show interactive (envS _ scope _ _ _ _) = false; unfold interactive; simp [S.kind])) (super_init B S I rfl ex hpos fun s' I' => ?_))
  refine PySem.wpAt_of_wpAny ?_
  have st := pss_one (ps_ost (p' := p7) (pos := p9) (f := b) (X := cxS CX P w K mg base [a, b] qual scope f (.ref cda) cc A outer s H E) (pe_var (i := 0) (x := a) (pos := p6) rfl (.inl S.la) hda hca) (pe_var (i := 1) (x := b) (pos := p8) rfl (.inl S.lb) hdb hcb) (hsw _))
  refine wpAny_mono (st.run [] s' _ H { nx := fun _ H' => Q .non H', rt := fun _ _ => False } I' ?_) (fun fl s2 hs => ?_) fun e s2 hs => hs
  · exact ⟨v, rfl, .ref x, rfl, x, C, rfl, B.T, hno, .inl ⟨ex, fun dx h1 h2 => hQ dx h1 h2⟩⟩
  · cases fl with
    | next =>
      obtain ⟨σ', H', J, q⟩ := hs
      exact ⟨V.non, H', J.os, J.bare, J.base, J.hok, rfl, q⟩
    | ret u =>
      obtain ⟨_, _, _, _, _, q⟩ := hs
      exact q.elim
    | brk =>
      obtain ⟨_, _, _, q⟩ := hs
      exact q.elim
    | cont =>
      obtain ⟨_, _, _, q⟩ := hs
      exact q.elim
end XS
set_option Elab.async false
set_option linter.all false
set_option maxRecDepth 100000
set_option maxHeartbeats 2000000
/-! raise X(e) of such a class: what goes on bears its field in a new dict -/
namespace XS
open PySem PySem.Spec PyProof.Rows L2
def tMkS (C : Addr) (b : Str) (te : TE) : L2.St → Hp → XK → Prop := fun σ H Q => te σ H fun v H1 => ∀ d, H1 d = none → Q (.ref C) (some d) (upd H1 d (.xd [(b, v)]))
variable {X : Cx} {e : Expr} {te : TE} {x b : Str} {p pos pos' : Pos} {C fI : Addr} {k : Nat} {fd : FuncData} {a : Str}
theorem tA_one {ta : TA} (h : ∀ σ H (Q : List V → Hp → Prop), te σ H (fun v H1 => Q [v] H1) → ta σ H Q) {σ : L2.St} {H : Hp} {Q : XK} (q : tMkS C b te σ H Q) (ht : ∀ (σ : L2.St) (H : Hp) (Q R : VK), te σ H Q → (∀ v H1, Q v H1 → R v H1) → te σ H R) : tMkO C (spS C b) [] ta σ H Q := by
  refine h σ H _ (ht σ H _ _ q fun v H1 q1 => ⟨by simp, fun y hy => ?_⟩)
  refine ⟨y, v, rfl, upd_same, fun dx h1 h2 => ⟨rfl, dx, [(b, v)], upd_same, ?_, ?_, ?_⟩⟩
  · rw [upd_ne h2, upd_same]
  · rw [upd_ne h2] at h1
    exact h1
  · rw [upd_ne h2] at h1
    have hq := q1 dx h1
    have same : upd (del (upd (upd (upd H1 y (exo y C none)) dx (exd dx [(b, v)])) y (exo y C (some dx))) y) dx (.xd [(b, v)]) = upd H1 dx (.xd [(b, v)]) := funext fun z => by
      by_cases z1 : z = dx
      · subst z1
        rw [upd_same, upd_same]
      · rw [upd_ne z1, upd_ne z1]
        by_cases z2 : z = y
        · subst z2
          rw [del_same, hy]
        · rw [del_ne z2, upd_ne z2, upd_ne z1, upd_ne z2]
    show Q (.ref C) (some dx) (upd (del _ y) dx (.xd [(b, v)]))
    rw [same]
    exact hq
/-- such an error made, not raised yet; its context is None -/
theorem pmk_super {ta : TA} (T : OexC X.K C) (iC : PySem.W.findIn X.K (.ref C) "__init__" = some (some (.ref fI))) (tI : PySem.W.typeIn X.K (.ref fI) = some (.type "function"))
    (F1 : FnOk X.prog X.w X.K X.mg X.base C8.CX0 k fI fd [a, b] (spS C b)) (hr : Room (k + 1) X.A) (hb : Binds X.K fd [a, b] []) (hg : Gl X x) (hm : X.mg x = some (.ref C)) (ha : PA X [e] ta)
    (hdb : (x == ("__debug__" : Str)) = false) (he : starEach [e] X.env = (false, eval e X.env) :: starEach [] X.env := by rfl) : L2N.PMk X (.Call (.Name x p) [e] [] pos) (tMkO C (spS C b) [] ta) := by
  intro pins s0 σ0 H0 Q0 I0 wish
  obtain ⟨_, _, _, _, bases, _, _, _, _, _, _, _, _, _, _, there, low⟩ := T.cls
  refine wpAny_Call_Name_kw (ld_glob I0 hg hm ?_ hdb)
  refine PySem.W.callWith_K (h₀ := X.base) I0.ok.mod.kin T.kC (thn (ha.run pos pins s0 σ0 H0 _ I0 wish) fun us ⟨h1, g1, dr1, tk1, o1⟩ ⟨vs, H1, I1, rel, _, q1⟩ => ⟨I1.kIn, ?_⟩) he rfl
  obtain ⟨n, en⟩ : ∃ n, n = h1.objs.size + 1 := ⟨_, rfl⟩
  obtain ⟨hN, eN⟩ : ∃ hN, hN = (h1.push (PySem.W.kdv_tup us)).push (PySem.HandSPX.excO C h1.objs.size) := ⟨_, rfl⟩
  have stays : ∀ b o, h1.get? b = some o → hN.get? b = some o := fun b o z => by rw [eN]; exact Heap.get?_push_of_some _ (Heap.get?_push_of_some _ z)
  have at_n : hN.get? n = some (PySem.HandSPX.excO C h1.objs.size) := by rw [eN, en]; heap_get
  have le : h1.objs.size ≤ n := by omega
  have free : H1 n = none := I1.hok.fresh le
  have q2 := q1 n free
  have I2 : Inv X pins σ0 (upd H1 n (exo n C none)) ⟨hN, g1, dr1, tk1, o1⟩ := I1.laid (t' := tk1) stays le (exo_ok at_n)
  have rel2 : Vals (V.ref n :: (vs ++ [])) (Value.ref n :: (us ++ [])) := .cons rfl (rel.append .nil)
  have many : (Value.ref n :: us ++ []).length = 2 := by
    have z := rel2.length
    rw [F1.len _ _ _ _ q2] at z
    exact z.symm
  have few : us.length ≤ sizeLine := by
    rw [sizeLine_eq]
    simp at many
    omega
  have hb2 : BindsTo ⟨hN, g1, dr1, tk1, o1⟩ fd ⟨Value.ref n :: us, []⟩ ([a, b].zip (Value.ref n :: (us ++ []))) := by
    have z := hb ⟨hN, g1, dr1, tk1, o1⟩ (Value.ref n :: us) I2.kIn many
    rw [List.cons_append] at z
    exact z
  have go := F1.run _ X.stack ⟨hN, g1, dr1, tk1, o1⟩ (upd H1 n (exo n C none)) ⟨Value.ref n :: us, []⟩ (Value.ref n :: (us ++ [])) _ _ (fun _ _ _ => False) (hr.make C us []) (I2.env0.make C us []) hb2 rel2 q2
  subst en eN
  refine wpAny_call (PySem.HandSPX.call_own F.excBase_ValueError (fun Y => PySem.HandSPX.refsVE_contains Y bases low) (I1.kIn _ _ there) (PySem.W.looks_findIn I1.kIn iC) (fun self => PySem.W.bind_fn I1.kIn self tI) few (codeAny_mono go fun r s3 q3 => ?_))
  cases r with
  | error er => exact C8.pass0 (X := X) (E := fun _ _ _ => False) pins σ0 _ _ er s3 I2 q3
  | ok fl =>
    cases fl with
    | ret u =>
      obtain ⟨v, H2, os2, bare2, un2, hok2, rv, ev, d, fs, ea, ed, hd1, q4⟩ := q3
      subst ev
      obtain ⟨h2, g2, d2, t2, os'⟩ := s3
      obtain ⟨t0, G, J, kG, ge, hoe, na⟩ := mk_end0 (d2 := d2) (t2 := t2) I1 le stays un2 hok2 os2 bare2 ea ed hd1
      exact ⟨rv, _, _, _, ⟨G, g2, d2, t2, os'⟩, _, .ref C, some d, rfl, J, kG, ge, hoe, ⟨rfl, rfl, fun vs e => by cases e; rfl⟩, rfl, rfl, na, rfl, bare2, raises_own T.exC T.tyC, q4⟩
    | next => exact q3.elim
    | brk => exact q3.elim
    | cont => exact q3.elim
theorem ps_raiseS {ta : TA} {W : WX} (hc : X.calm = true) (tk : L2N.Takes X W) (T : OexC X.K C) (iC : PySem.W.findIn X.K (.ref C) "__init__" = some (some (.ref fI))) (tI : PySem.W.typeIn X.K (.ref fI) = some (.type "function"))
    (F1 : FnOk X.prog X.w X.K X.mg X.base C8.CX0 k fI fd [a, b] (spS C b)) (hr : Room (k + 1) X.A) (hb : Binds X.K fd [a, b] []) (hg : Gl X x) (hm : X.mg x = some (.ref C)) (ha : PA X [e] ta)
    (hdb : (x == ("__debug__" : Str)) = false) (he : starEach [e] X.env = (false, eval e X.env) :: starEach [] X.env := by rfl) : PS X (.Raise (some (.Call (.Name x p) [e] [] pos)) none pos') (fun _ σ H => tMkO C (spS C b) [] ta σ H fun cls d H' => W cls d σ H') :=
  L2N.ps_raise hc tk (pmk_super T iC tI F1 hr hb hg hm ha hdb he)
end XS
set_option Elab.async false
set_option linter.all false
set_option maxRecDepth 100000
set_option maxHeartbeats 4000000
/-! try with several clauses that all bear the same name n, which sits in slot i -/
namespace XS
open PySem PySem.Spec PyProof.Rows L2
abbrev Cl : Type := Value × (Addr → Value → Option Addr → TS)
def wAsL (K : PySem.W.Frag) (i : Nat) (Wout : WX) (D : Ends) : List Cl → WX
  | [] => Wout
  | (c, ts) :: r => wAs K c i ts (wAsL K i Wout D r) D
inductive HsL (X : Cx) (n : Str) : List ExceptHandler → List Cl → Prop
  | nil : HsL X n [] []
  | cons {x : Str} {c : Value} {ts : Addr → Value → Option Addr → TS} {b0 : Stmt} {more : List Stmt} {q1 q2 : Pos} {hs : List ExceptHandler} {l : List Cl} (nm : Names X x c)
      (su : ∀ (a : Addr) (o : Obj) (cls : Value) (d : Option Addr) (pn : List (Addr × Obj)), L2N.Zn cls d o → (∃ vs, o.data = .fields vs) → PSs (X.suite a ((a, o) :: pn)) (b0 :: more) (ts a cls d))
      (tl : HsL X n hs l) : HsL X n (.ExceptHandler (some (.Name x q1)) (some n) (b0 :: more) q2 :: hs) ((c, ts) :: l)
section
variable {X : Cx} {n : Str} {i : Nat} {pins : List (Addr × Obj)} {σ : L2.St} {H : Hp} {sI s : Shared} {a : Addr} {B : Heap} {cls : Value} {d : Option Addr} {D : Ends} {Wout : WX}
/-- the error a lies in the air at s; sI is the state without it -/
structure Air (X : Cx) (pins : List (Addr × Obj)) (σ : L2.St) (H : Hp) (sI : Shared) (a : Addr) (B : Heap) (cls : Value) (d : Option Addr) (s : Shared) : Prop where
  inv : Inv X pins σ H sI
  nb : ∀ b o, sI.heap.get? b = some o → b ∉ frs X.stack → B.get? b = some o
  na : H a = none
  fl : HandSPX.FlyingZ B (X.env :: X.outer) a (L2N.Zn cls d) s.heap
  up : sI.heap.UpToSlots s.heap
  os : s.os = sI.os
  ag : AllBare s.gens
theorem Air.in (A : Air X pins σ H sI a B cls d s) : Inv X pins σ H s := A.inv.landed A.nb A.fl.1 A.up A.os A.ag
theorem Air.suite (A : Air X pins σ H sI a B cls d s) (hf : X.env.frame = some X.env.locals) : ∃ o vs, s.heap.get? a = some o ∧ L2N.Zn cls d o ∧ o.data = .fields vs ∧ Inv (X.suite a ((a, o) :: (X.pn ++ pins))) [] σ H s := by
  obtain ⟨o, vs, h1, h2, h3⟩ := A.fl.there
  have out : a ∉ frs (X.env :: X.outer) := fun hm => by
    obtain ⟨_, o', e', no⟩ := A.fl.2.2.1.mem hm
    rw [h1] at e'
    cases e'
    exact no _ h3
  refine ⟨o, vs, h1, h2, h3, A.in.suite h1 h3 A.na (fun z => out ?_) fun hm => ?_⟩
  · rw [z]
    exact List.mem_filterMap.mpr ⟨_, List.mem_cons_self, hf⟩
  · obtain ⟨e, he, q⟩ := List.mem_filterMap.mp hm
    exact out (List.mem_filterMap.mpr ⟨e, List.mem_cons_of_mem _ he, q⟩)
/-- no clause is left: it goes on -/
theorem Air.out (A : Air X pins σ H sI a B cls d s) (hs : X.stack = X.env :: X.outer) (hf : X.env.frame = some X.env.locals) (tk : L2N.Takes X Wout) (w : Wout cls d σ H) {Q : Flow → Shared → Prop} :
    wpAny (model X.prog X.w) X.A (handleBy (.ref a) X.env []) Q X.xe s := by
  refine wpAny_handleBy_nil ?_
  obtain ⟨k1, k2, k3, o, vs, T, oT, tt, h1, hz, h3, hv, hr⟩ := id A.fl
  unfold PySem.passOn
  refine wpAny_bind (wpAny_field h1 h3 hv ?_)
  rw [if_neg (by simp)]
  have go : wpAny (model X.prog X.w) X.A (setFlight (.ref a) X.env.frame) (fun _ s4 => wpAny (model X.prog X.w) X.A (throw (.ref a) : Sem Flow) Q X.xe s4) X.xe s := by
    rw [hf]
    exact HandSPX.setFlight_upZ A.fl fun h4 hh up4 => wpAny_throw (tk _ _ ⟨a, B, sI, pins, σ, H, cls, d, rfl, A.inv, A.nb, A.up.trans up4, .inr (.inr (by rw [hs]; exact hh)), A.na, A.os, A.ag, w⟩)
  first
    | exact wpAny_bind (wpAny_pure (wpAny_bind go))
    | exact wpAny_bind go
/-- the clauses, one after the other -/
theorem Air.walk (hs : X.stack = X.env :: X.outer) (hf : X.env.frame = some X.env.locals) (hN : X.N.Nodup) (hi : X.N[i]? = some n) (hl : X.env.kindOf n = some .local) (tk : L2N.Takes X Wout) :
    ∀ {hds : List ExceptHandler} {l : List Cl}, HsL X n hds l → ∀ {s : Shared}, Air X pins σ H sI a B cls d s → wAsL X.K i Wout D l cls d σ H → wpAny (model X.prog X.w) X.A (handleBy (.ref a) X.env hds) (SP X pins D) X.xe s := by
  intro hds l h
  induction h with
  | nil => exact fun A w => A.out hs hf tk w
  | @cons x c ts b0 more q1 q2 hds l nm su tl ih =>
    intro s A w
    obtain ⟨b, e1, yes, no⟩ := w
    obtain ⟨o, vs, h1, hz, h3, S⟩ := A.suite hf
    have look : PySem.W.Looks (model X.prog X.w) s.heap (typeOf (.ref a)) cls := fun _ _ _ _ k q => wpAny_typeOf_ref (k _ _ h1) (by rw [hz.1]; exact q)
    have name : ∀ {Q : Value → Shared → Prop} {E : Value → Shared → Prop}, Q c s → wpAny (model X.prog X.w) (X.A.mark (some (.ref a))) (eval (.Name x q1) X.env) Q E s := fun q => by
      rcases nm with ⟨hg, hd, hm | ⟨hm, hv, hn⟩⟩
      · exact ld_glob (X := X.suite a _) S hg hm q hd
      · exact ld_blt (X := X.suite a _) S hg hm hv q hn hd
    refine wpAny_handleBy_cons (codeAny_handlers_test (name ((PySem.W.exm_one (M := model X.prog X.w) A.in.kIn look e1).here ?_))) (by intro z; cases z)
    cases b with
    | false => exact ih A (no rfl)
    | true =>
      refine codeAny_handlers_suite_as (HandSPX.lands_againZ A.fl fun h4 fl4 up4 => ?_)
      have A4 : Air X pins σ H sI a B cls d { s with heap := h4 } := ⟨A.inv, A.nb, A.na, fl4, A.up.trans up4, A.os, A.ag⟩
      obtain ⟨o4, vs4, g1, gz, g3, S4⟩ := A4.suite hf
      have ok := A.inv.ok
      refine store_ok (X := X.suite a ((a, o4) :: (X.pn ++ pins))) (v := .ref a) S4 hN hi (.inl hl) rfl (fun s5 S5 => ?_) (.inr hl)
      refine wpAny_mono ((su a o4 cls d _ gz ⟨_, g3⟩).run [] s5 _ H _ S5 (yes rfl a A.na)) (fun fw s6 q => ?_) fun _ _ z => z.elim
      have last : ∀ {σ6 : L2.St} {H6 : Hp} {Q : Shared → Prop}, Inv (X.suite a ((a, o4) :: (X.pn ++ pins))) [] σ6 H6 s6 → (∀ s7, Inv X pins (σ6.set i none) H6 s7 → Q s7) → wpAny (model X.prog X.w) X.A (do bindName X.env n .none; unbindBehindTheSuite X.env n q2) (fun _ s7 => Q s7) X.xe s6 :=
        fun S6 hq => gone_ok (S6.unsuite ok) hN hi hl hq
      cases fw with
      | ret u =>
        obtain ⟨v, σ6, H6, S6, r6, z⟩ := q
        exact last S6 fun s7 J => ⟨v, _, H6, J, r6, z⟩
      | next =>
        obtain ⟨σ6, H6, S6, z⟩ := q
        exact last S6 fun s7 J => ⟨_, H6, J, z⟩
      | brk =>
        obtain ⟨σ6, H6, S6, z⟩ := q
        exact last S6 fun s7 J => ⟨_, H6, J, z⟩
      | cont =>
        obtain ⟨σ6, H6, S6, z⟩ := q
        exact last S6 fun s7 J => ⟨_, H6, J, z⟩
end
theorem ps_tryL {X : Cx} {n : Str} {i : Nat} {body : List Stmt} {h0 : ExceptHandler} {hds : List ExceptHandler} {l : List Cl} {pos : Pos} {tb : WX → TS} {Wout : WX} (hs : X.stack = X.env :: X.outer) (hf : X.env.frame = some X.env.locals) (hN : X.N.Nodup) (hi : X.N[i]? = some n) (hl : X.env.kindOf n = some .local) (tk : L2N.Takes X Wout)
    (hb : ∀ (W : WX) (pn : List (Addr × Obj)) (xe : Value → Shared → Prop), L2N.Takes (X.tr pn xe) W → PassesOwn (model X.prog X.w) X.A X.env xe → PSs (X.tr pn xe) body (tb W)) (hh : HsL X n (h0 :: hds) l) :
    PS X (.Try body (h0 :: hds) [] [] pos) (fun D σ H => tb (wAsL X.K i Wout D l) D σ H) := by
  refine ⟨fun pins s σ H D I h => wpAny_Try_except ?_⟩
  have ok := I.ok
  have fr : X.A.frames = some (X.env :: X.outer) := by rw [ok.frames, hs]
  obtain ⟨xe, hxe⟩ : ∃ xe : Value → Shared → Prop, xe = fun e s1 => wpAny (model X.prog X.w) X.A (noteFrame e X.env) (fun _ s2 => wpAny (model X.prog X.w) X.A (setFlight e none) (fun _ s3 => wpAny (model X.prog X.w) X.A (handleBy e X.env (h0 :: hds)) (SP X pins D) X.xe s3) X.xe s2) X.xe s1 := ⟨_, rfl⟩
  have take : L2N.Takes (X.tr (X.pn ++ pins) xe) (wAsL X.K i Wout D l) := fun u s' xx => by
    obtain ⟨a, B, sI, pn', σ', H', cls, d, rfl, J', nb, up, sky, na, os, ag, w⟩ := xx
    rw [hxe]
    refine L2N.Sky.land L2N.Zn.steady fr hf (by rw [← hs]; exact sky) fun h3 fl3 up3 => ?_
    exact Air.walk hs hf hN hi hl tk hh ⟨J'.ofTry ok, nb, na, fl3, up.trans up3, os, ag⟩ w
  have run := (hb (wAsL X.K i Wout D l) (X.pn ++ pins) xe take (by rw [hxe]; exact PassesOwn.looking)).run [] s σ H D (I.toTry _) h
  rw [hxe] at run
  refine wpAny_mono run (fun fw s1 q => ?_) fun _ _ z => z
  cases fw with
  | ret u =>
    obtain ⟨v, σ', H', J, r, z⟩ := q
    exact ⟨v, σ', H', J.ofTry ok, r, z⟩
  | next =>
    obtain ⟨σ', H', J, z⟩ := q
    exact wpAny_execs_nil ⟨σ', H', J.ofTry ok, z⟩
  | brk =>
    obtain ⟨σ', H', J, z⟩ := q
    exact ⟨σ', H', J.ofTry ok, z⟩
  | cont =>
    obtain ⟨σ', H', J, z⟩ := q
    exact ⟨σ', H', J.ofTry ok, z⟩
end XS
set_option Elab.async false
set_option linter.all false
set_option maxRecDepth 100000
set_option maxHeartbeats 4000000
/-! told: try: a() / except X as n: return [w, n.f] ..; return [w0] -/
namespace XS
open PySem PySem.Spec PyProof.Rows L2 LamX
abbrev Tc : Type := Addr × Str × Str
def suT (i : Nat) (t : Tc) : Addr → Value → Option Addr → TS := fun a cls d => tRet (tLst (tCons (tC (.str t.2.2)) (tCons (tXf a cls d t.1 t.2.1 (tVar i)) tNil)))
inductive HsT (X : Cx) (n : Str) : List ExceptHandler → List Tc → Prop
  | nil : HsT X n [] []
  | cons {x f w : Str} {c : Addr} {j : Nat} {q1 q2 q3 q4 q5 q6 q7 : Pos} {hs : List ExceptHandler} {l : List Tc} (nm : Names X x (.ref c)) (T : XfC X.K c) (no : PySem.W.findIn X.K (.ref c) f = some none) (tl : HsT X n hs l) :
      HsT X n (.ExceptHandler (some (.Name x q1)) (some n) [.Return (some (.List [.Constant (.str w) j q3, .Attribute (.Name n q4) f q5] q6)) q7] q2 :: hs) ((c, f, w) :: l)
theorem HsT.ok {X : Cx} {n : Str} {i : Nat} (hi : X.N[i]? = some n) (hl : X.env.scope.names.lookup n = some .local) (hd : (n == ("__debug__" : Str)) = false) (hc : (n == ("__classdict__" : Str)) = false) {hs : List ExceptHandler} {l : List Tc} (h : HsT X n hs l) : HsL X n hs (l.map fun t => (.ref t.1, suT i t)) := by
  induction h with
  | nil => exact .nil
  | @cons x f w c j q1 q2 q3 q4 q5 q6 q7 hs l nm T no tl ih =>
    refine .cons nm (fun a o cls d pn hz hf => ?_) ih
    have v : PE (X.suite a ((a, o) :: pn)) (.Name n q4) (tVar i) := pe_var hi (.inl hl) hd hc
    exact pss_one (ps_ret (pe_lst (pa_cons pe_str (pa_cons (pe_xf T no hz.zc hf v) pa_nil))))
theorem takes0N {X : Cx} : L2N.Takes X (fun _ _ _ _ => False) := fun _ _ ⟨_, _, _, _, _, _, _, _, _, _, _, _, _, _, _, _, w⟩ => w.elim
/-- what a def that is handed a thunk makes of it -/
def Gives0 (X : Cx) (Ng : List Str) (nm : Str) (sg : Scope) (g : Addr) (cdg : Value) (bg : List Stmt) (a q : Str) (TT : (XK → Hp → VK → Prop) → Hp → VK → Prop) : Prop :=
  ∀ (f c' : Addr) (s : Shared) (H : Hp) (Q : VK) (tl : XK → Hp → VK → Prop),
    (∀ (W : WX) (pn : List (Addr × Obj)) (xe : Value → Shared → Prop) (E : XK) (p1 p2 : Pos),
      L2N.Takes ((cxOf C8.CX0 X.prog X.w X.K X.mg X.base Ng nm sg g cdg X.A X.stack s H C8.E0).tr pn xe) W → (∀ cls d σ H, E cls d H → W cls d σ H) →
        PE ((cxOf C8.CX0 X.prog X.w X.K X.mg X.base Ng nm sg g cdg X.A X.stack s H C8.E0).tr pn xe) (.Call (.Name a p1) [] [] p2) (fun σ H Q => σ[0]? = some (some (.ref f)) ∧ H c' = some (CodeO c' q) ∧ tl E H Q)) →
    H c' = some (CodeO c' q) → TT tl H Q → ∃ t, PSs (cxOf C8.CX0 X.prog X.w X.K X.mg X.base Ng nm sg g cdg X.A X.stack s H C8.E0).nox bg t ∧ t { nx := fun _ H => Q .non H, rt := Q } (L2.start Ng [.ref f]) H
/-- what the clauses make of an error of class cls with the field f ↦ v -/
def pickT (K : PySem.W.Frag) (C : Addr) (b : Str) (v : V) (H : Hp) (Q : VK) : List Tc → Prop
  | [] => False
  | t :: r => ∃ z, PySem.W.exmOne K (.ref C) (.ref t.1) = some z ∧ (z = true → C = t.1 ∧ b = t.2.1 ∧ ∀ p, H p = none → Q (.ref p) (upd H p (.lst [.str t.2.2, v]))) ∧ (z = false → pickT K C b v H Q r)
def TTl (K : PySem.W.Frag) (l : List Tc) (w0 : Str) : (XK → Hp → VK → Prop) → Hp → VK → Prop := fun tl H Q =>
  tl (fun cls d H' => ∃ (C dd : Addr) (b : Str) (v : V), cls = .ref C ∧ d = some dd ∧ H' dd = some (.xd [(b, v)]) ∧ pickT K C b v H' Q l) H fun _ H' => [V.str w0].length ≤ sizeLine ∧ ∀ p, H' p = none → Q (.ref p) (upd H' p (.lst [.str w0]))
theorem pick_was {K : PySem.W.Frag} {i : Nat} {D : Ends} {Q : VK} (hD : D.rt = Q) {C dd : Addr} {b : Str} {v : V} {σ : L2.St} {H : Hp} (hi : i < σ.length) (hx : H dd = some (.xd [(b, v)])) : ∀ {l : List Tc}, pickT K C b v H Q l → wAsL K i (fun _ _ _ _ => False) D (l.map fun t => (.ref t.1, suT i t)) (.ref C) (some dd) σ H
  | [], h => h
  | t :: r, ⟨z, e, yes, no⟩ => by
    refine ⟨z, e, fun hz a ha => ?_, fun hz => pick_was hD hi hx (no hz)⟩
    obtain ⟨rfl, rfl, q⟩ := yes hz
    refine ⟨.ref a, by simp [hi], rfl, rfl, dd, [(t.2.1, v)], v, rfl, hx, by simp [List.lookup], ?_⟩
    exact ⟨by simp [sizeLine_eq], fun p hp => by rw [← hD] at q; exact q p hp⟩

theorem Takes.len {X : Cx} {W : WX} (tk : L2N.Takes X W) : L2N.Takes X fun cls d σ H => σ.length = X.N.length → W cls d σ H := fun u s' ⟨a, B, sI, pins, σ, H, cls, d, e, I, nb, up, sky, na, os, ag, w⟩ =>
  tk u s' ⟨a, B, sI, pins, σ, H, cls, d, e, I, nb, up, sky, na, os, ag, w I.len⟩
section
variable {X : Cx} {Ng : List Str} {x a n q w0 : Str} {sg : Scope} {g : Addr} {cdg : Value} {j0 i : Nat} {p1 p2 p3 p4 p5 p6 p8 : Pos} {h0 : ExceptHandler} {hs : List ExceptHandler} {l : List Tc}
theorem toldL_gives (hN : Ng.Nodup) (hi : Ng[i]? = some n) (hl : sg.names.lookup n = some .local) (hd : (n == ("__debug__" : Str)) = false) (hc : (n == ("__classdict__" : Str)) = false) (hsw : ∀ (e : Expr) (env : Env), swapsWith (.Call (.Name a p1) [] [] p2) none p3.line env = pure false)
    (hT : ∀ (s : Shared) (H : Hp), HsT (cxOf C8.CX0 X.prog X.w X.K X.mg X.base Ng x sg g cdg X.A X.stack s H C8.E0).nox n (h0 :: hs) l) (h00 : ∀ f : Addr, (L2.start Ng [V.ref f])[0]? = some (some (V.ref f))) (hlen : ∀ f : Addr, (L2.start Ng [V.ref f]).length = Ng.length) :
    Gives0 X Ng x sg g cdg [.Try [.Expr (.Call (.Name a p1) [] [] p2) p3] (h0 :: hs) [] [] p8, .Return (some (.List [.Constant (.str w0) j0 p4] p5)) p6] a q (TTl X.K l w0) := by
  intro f c' s H Q tl act hcode h
  have il : i < Ng.length := (List.getElem?_eq_some_iff.mp hi).1
  refine ⟨_, pss_cons (XS.ps_tryL (X := (cxOf C8.CX0 X.prog X.w X.K X.mg X.base Ng x sg g cdg X.A X.stack s H C8.E0).nox) (i := i) (n := n) (Wout := fun _ _ _ _ => False)
      (tb := fun W D σ H => ∃ Ech : XK, (∀ cls d σ' H', σ'.length = Ng.length → Ech cls d H' → W cls d σ' H') ∧ σ[0]? = some (some (.ref f)) ∧ H c' = some (CodeO c' q) ∧ tl Ech H fun _ H' => D.nx σ H')
      rfl rfl hN hi hl takes0N (fun W pn xe tk _ => ?_) ((hT s H).ok hi hl hd hc)) (pss_one (ps_ret (pe_lst (pa_cons pe_str pa_nil)))), ?_⟩
  · refine ⟨fun pins s' σ H' D I h' => ?_⟩
    obtain ⟨Ech, hW, h1, h2, h3⟩ := h'
    have hp := act (fun cls d σ H => σ.length = Ng.length → W cls d σ H) pn xe Ech p1 p2 (Takes.len tk) fun cls d σ' H' z hh => hW cls d σ' H' hh z
    exact (pss_one (ps_expr (pos := p3) hp (hsw (.Name a p1) _))).run pins s' σ H' D I ⟨h1, h2, h3⟩
  · refine ⟨_, fun cls d σ' H' hh z => ?_, h00 f, hcode, h⟩
    obtain ⟨C, dd, b, v, rfl, rfl, hx, pk⟩ := z
    exact pick_was rfl (by rw [hh]; exact il) hx pk
end
end XS
set_option Elab.async false
set_option linter.all false
set_option maxRecDepth 100000
set_option maxHeartbeats 4000000
/-! an own error class of the told form, by one Bool of the head: its __init__ takes b, says super().__init__(text), keeps b -/
namespace EK
open PySem PySem.Spec PyProof.Rows L2 XS
def isInit (b : Str) : List Stmt → Bool
  | [.Expr (.Call (.Attribute (.Call (.Name s _) [] [] _) i p2) [.Constant (.str _) _ _] [] p4) _, .Assign [.Attribute (.Name a _) f _] (.Name v _) _] =>
    decide (s = "super") && (decide (i = "__init__") && ((p2.endLine == p4.line) && (decide (a = "self") && (decide (f = b) && decide (v = b)))))
  | _ => false
theorem isInit_ok {b : Str} {l : List Stmt} (h : isInit b l = true) : ∃ (tx : Str) (j : Nat) (p0 p1 p2 p3 p4 p5 p6 p7 p8 p9 : Pos), l = bodyS "self" b tx j p0 p1 p2 p3 p4 p5 p6 p7 p8 p9 ∧ (p2.endLine == p4.line) = true := by
  unfold isInit at h
  split at h
  · simp only [Bool.and_eq_true, decide_eq_true_eq] at h
    obtain ⟨rfl, rfl, h3, rfl, rfl, rfl⟩ := h
    exact ⟨_, _, _, _, _, _, _, _, _, _, _, _, rfl, h3⟩
  · cases h
def isPar (b : Str) (p : Arguments) : Bool := match p with
  | ⟨[], [a1, a2], none, [], [], none, []⟩ => decide (a1.arg = "self") && decide (a2.arg = b)
  | _ => false
theorem isPar_ok {b : Str} {p : Arguments} (h : isPar b p = true) : ∃ (e1 e2 : Option Expr) (q1 q2 : Pos), p = ⟨[], [⟨"self", e1, q1⟩, ⟨b, e2, q2⟩], none, [], [], none, []⟩ := by
  unfold isPar at h
  split at h
  · rename_i a1 a2
    obtain ⟨n1, e1, q1⟩ := a1
    obtain ⟨n2, e2, q2⟩ := a2
    simp only [Bool.and_eq_true, decide_eq_true_eq] at h
    obtain ⟨rfl, rfl⟩ := h
    exact ⟨_, _, _, _, rfl⟩
  · cases h
def isSc (b : Str) (sc : Scope) : Bool := decide (sc.kind = .function) && (!sc.isCoroutine && (!sc.isGenerator && (decide (sc.names.lookup ("self" : Str) = some NameKind.local) && (decide (sc.names.lookup b = some NameKind.local) && (decide (sc.names.lookup ("super" : Str) = some NameKind.globalImplicit) &&
  (decide (sc.names.lookup ("__class__" : Str) = some NameKind.free) && (sc.names.all (fun y => !decide (y.2 = .free) || decide (y.1 = "__class__")) && sc.names.all fun y => !decide (y.2 = .cell))))))))
theorem isSc_ok {b : Str} {sc : Scope} (h : isSc b sc = true) (ne : ("self" : Str) ≠ b) : ScS "self" b sc := by
  unfold isSc at h
  simp only [Bool.and_eq_true, decide_eq_true_eq, Bool.not_eq_true', List.all_eq_true, Bool.or_eq_true, decide_eq_false_iff_not] at h
  obtain ⟨h1, h2, h3, h4, h5, h6, h7, h8, h9⟩ := h
  refine ⟨h1, h2, h3, ne, h4, h5, h6, h7, fun y hy => ?_, h9⟩
  rcases h8 _ (PySem.mem_of_lookup hy) with z | z
  · exact absurd rfl z
  · exact z
def cellB (K : PySem.W.Frag) (C cc : Addr) : Bool := match K.lookup cc with
  | some ⟨_, _, .cell (some (.ref C')), _⟩ => decide (C' = C)
  | _ => false
theorem cellB_ok {K : PySem.W.Frag} {C cc : Addr} (h : cellB K C cc = true) : ∃ cl cld csl, K.lookup cc = some ⟨cl, cld, .cell (some (.ref C)), csl⟩ := by
  unfold cellB at h
  split at h
  · rename_i e
    have z := of_decide_eq_true h
    subst z
    exact ⟨_, _, _, e⟩
  · cases h
def fileV (f0 : Str) : Option Value → Bool
  | some (.str file _) => (f0 == file)
  | _ => false
def fileB (f0 : Str) (K : PySem.W.Frag) (c : Addr) : Bool := match K.lookup c with
  | some ⟨_, _, .fields vs, _⟩ => fileV f0 vs[2]?
  | _ => false
theorem fileB_ok {f0 : Str} {K : PySem.W.Frag} {c : Addr} (h : fileB f0 K c = true) : ∃ ccl cdd vs ccs file tf, K.lookup c = some ⟨ccl, cdd, .fields vs, ccs⟩ ∧ vs[2]? = some (.str file tf) ∧ (f0 == file) = true := by
  unfold fileB at h
  split at h
  · rename_i vs _ e
    cases e2 : vs[2]? with
    | none => rw [e2] at h; cases h
    | some v =>
      rw [e2] at h
      cases v with
      | str file t => exact ⟨_, _, _, _, _, _, e, e2, h⟩
      | _ => cases h
  · cases h
def fdB (f0 : Str) (K : PySem.W.Frag) (C : Addr) (b : Str) (fd : FuncData) : Bool := (match fd.body with
  | .stmts l => isInit b l
  | _ => false) && (isPar b fd.params && (isSc b fd.scope && (decide (fd.globals = mainGlobals) && (decide (fd.builtins = builtinsNs) && (decide (fd.defaults = .none) && ((match fd.closure with
  | [(n, cc)] => decide (n = "__class__") && cellB K C cc
  | _ => false) && (match fd.code with
  | .ref c => PySem.W.codeIn K (.ref c) fd.qualname && fileB f0 K c
  | _ => false)))))))
def clsB (K : PySem.W.Frag) (C : Addr) : Bool := match K.lookup C with
  | some ⟨.type t, _, .cls cd, sl⟩ => decide (t = "type") && (match cd.mro with
    | .ref C' :: bm => decide (C' = C) && PySem.HandSPX.refsVE bm
    | _ => false) && (cd.hasDict && (!cd.hasDel && (match sl.toList with
    | [_, _, _, _, some (.builtin n), _] => decide (n = "ValueError.__new__")
    | _ => false)))
  | _ => false
theorem clsB_ok {K : PySem.W.Frag} {C : Addr} (h : clsB K C = true) : ∃ nm q N bs bm sn sub ab col dd k0 k1 k2 k3 k5, K.lookup C = some (excClassObj nm q C N bs bm true sn sub ab col dd k0 k1 k2 k3 k5 "ValueError.__new__") ∧ PySem.HandSPX.refsVE bm = true := by
  unfold clsB at h
  split at h
  · rename_i t dd cd sl e
    obtain ⟨nm, bs, mro, N, q, hd, sn, sub, ab, col, del⟩ := cd
    obtain ⟨sl⟩ := sl
    simp only [Bool.and_eq_true, decide_eq_true_eq, Bool.not_eq_true'] at h
    obtain ⟨⟨rfl, h1⟩, h2, h3, h4⟩ := h
    subst h2 h3
    split at h1
    · rename_i C1 bm
      simp only [Bool.and_eq_true, decide_eq_true_eq] at h1
      obtain ⟨rfl, h1⟩ := h1
      split at h4
      · rename_i n _
        have z := of_decide_eq_true h4
        subst z
        exact ⟨_, _, _, _, _, _, _, _, _, _, _, _, _, _, _, e, h1⟩
      · cases h4
    · cases h1
  · cases h
/-- all that the head is asked of the class x whose errors keep b -/
def errB (f0 : Str) (K : PySem.W.Frag) (x b : Str) : Bool :=
  He.eqO (PySem.W.nsIn K mainGlobals x) (some (some (.ref (He.ga K x)))) && (clsB K (He.ga K x) && (He.eqO (PySem.W.findIn K (.ref (He.ga K x)) "__setattr__") (some (some (.builtin "object.__setattr__"))) && (decide (PySem.W.subIn K (.ref (He.ga K x)) (.type "BaseException") = some true) &&
  (decide (PySem.W.typeIn K (.ref (He.ga K x)) = some (.type "type")) && (PySem.W.keepIn K (.ref (He.ga K x)) && (He.eqO (PySem.W.findIn K (.ref (He.ga K x)) "__init__") (some (some (.ref (He.ma K (He.ga K x) "__init__")))) && (decide (PySem.W.typeIn K (.ref (He.ma K (He.ga K x) "__init__")) = some (.type "function")) &&
  ((match K.lookup (He.ma K (He.ga K x) "__init__") with
    | some ⟨_, _, .func fd, _⟩ => fdB f0 K (He.ga K x) b fd
    | _ => false) && ((match PySem.W.clsIn K (He.ga K x) with
    | some cd => He.eqO (PySem.W.alongIn K "__init__" ((cd.mro.dropWhile (· != .ref (He.ga K x))).drop 1)) (some (some (.builtin "ValueError.__init__")))
    | none => false) && (decide (PySem.W.mroIn K (He.ga K x) (.ref (He.ga K x)) = some true) && (decide (PySem.W.subIn K (.ref (He.ga K x)) (.type "ValueError") = some true) && (He.eqO (PySem.W.nsIn K cStatics "thirdparty.any") (some none) && (xfB K (He.ga K x) && He.eqO (PySem.W.findIn K (.ref (He.ga K x)) b) (some none))))))))))))))
/-- of a class that is only named in a clause -/
def errL (K : PySem.W.Frag) (x b : Str) : Bool := He.eqO (PySem.W.nsIn K mainGlobals x) (some (some (.ref (He.ga K x)))) && (xfB K (He.ga K x) && He.eqO (PySem.W.findIn K (.ref (He.ga K x)) b) (some none))
structure ErrL (K : PySem.W.Frag) (mg : Str → Option Value) (x b : Str) : Prop where
  xf : XfC K (He.ga K x)
  no : PySem.W.findIn K (.ref (He.ga K x)) b = some none
  glo : mg x = some (.ref (He.ga K x))
theorem errL_of {K : PySem.W.Frag} {mg : Str → Option Value} {h0 : Heap} {x b : Str} (X : K.In h0) (G : h0.Ns mainGlobals mg) (h : errL K x b = true) : ErrL K mg x b := by
  obtain ⟨h1, h⟩ := Bool.and_eq_true_iff.mp h
  obtain ⟨h2, h3⟩ := Bool.and_eq_true_iff.mp h
  exact ⟨xfB_ok h2, He.eqO_ok h3, PySem.W.mg_of X G (He.eqO_ok h1)⟩
/-- what the layer wants of it -/
structure ErrK (P : Program) (w : World) (K : PySem.W.Frag) (mg : Str → Option Value) (x b : Str) : Prop where
  T : OexC K (He.ga K x)
  iC : PySem.W.findIn K (.ref (He.ga K x)) "__init__" = some (some (.ref (He.ma K (He.ga K x) "__init__")))
  tI : PySem.W.typeIn K (.ref (He.ma K (He.ga K x) "__init__")) = some (.type "function")
  F1 : ∀ (base : Heap) (k : Nat), ∃ fd, FnOk P w K mg base C8.CX0 (k + 1) (He.ma K (He.ga K x) "__init__") fd ["self", b] (spS (He.ga K x) b) ∧ Binds K fd ["self", b] []
  xf : XfC K (He.ga K x)
  no : PySem.W.findIn K (.ref (He.ga K x)) b = some none
  glo : mg x = some (.ref (He.ga K x))
theorem errK_of {P : Program} {w : World} {K : PySem.W.Frag} {mg : Str → Option Value} {h0 : Heap} {x b : Str} (hb : b = "given" ∨ b = "index") (X : K.In h0) (G : h0.Ns mainGlobals mg) (su : mg "super" = none) (top : (P.main.scope.names.lookup ("super" : Str)).isSome = false)
    (h : errB P.main.file K x b = true) : ErrK P w K mg x b := by
  have ba : ∀ {a b : Bool}, (a && b) = true → a = true ∧ b = true := Bool.and_eq_true_iff.mp
  obtain ⟨h1, h⟩ := ba h
  obtain ⟨h2, h⟩ := ba h
  obtain ⟨h3, h⟩ := ba h
  obtain ⟨h4, h⟩ := ba h
  obtain ⟨h5, h⟩ := ba h
  obtain ⟨h6, h⟩ := ba h
  obtain ⟨h7, h⟩ := ba h
  obtain ⟨h8, h⟩ := ba h
  obtain ⟨h9, h⟩ := ba h
  obtain ⟨h10, h⟩ := ba h
  obtain ⟨h11, h⟩ := ba h
  obtain ⟨h12, h⟩ := ba h
  obtain ⟨h13, h⟩ := ba h
  obtain ⟨h14, h15⟩ := ba h
  have T : OexC K (He.ga K x) := ⟨clsB_ok h2, He.eqO_ok h3, of_decide_eq_true h4, of_decide_eq_true h5, h6⟩
  have hne : ("self" : Str) ≠ b := by rcases hb with rfl | rfl <;> decide
  refine ⟨T, He.eqO_ok h7, of_decide_eq_true h8, fun base k => ?_, xfB_ok h14, He.eqO_ok h15, PySem.W.mg_of X G (He.eqO_ok h1)⟩
  split at h9
  · rename_i oc od fd osl lk
    obtain ⟨name, qual, params, body, scope, globals, closure, dV, kV, doc, pm, an, code, ct, blt⟩ := fd
    unfold fdB at h9
    obtain ⟨g1, h9⟩ := ba h9
    obtain ⟨g2, h9⟩ := ba h9
    obtain ⟨g3, h9⟩ := ba h9
    obtain ⟨g4, h9⟩ := ba h9
    obtain ⟨g5, h9⟩ := ba h9
    obtain ⟨g6, h9⟩ := ba h9
    obtain ⟨g7, g8⟩ := ba h9
    dsimp only at g1 g2 g3 g4 g5 g6 g7 g8
    have g4' := of_decide_eq_true g4
    have g5' := of_decide_eq_true g5
    have g6' := of_decide_eq_true g6
    subst g4' g5' g6'
    cases body with
    | expr e => cases g1
    | stmts l =>
      obtain ⟨tx, j, p0, p1, p2, p3, p4, p5, p6, p7, p8, p9, rfl, hpos⟩ := isInit_ok g1
      obtain ⟨e1, e2, q1, q2, rfl⟩ := isPar_ok g2
      have S := isSc_ok g3 hne
      split at g7
      · rename_i n cc
        obtain ⟨gn, gc⟩ := ba g7
        have gn := of_decide_eq_true gn
        subst gn
        split at g8
        · rename_i cda
          obtain ⟨gq, gf⟩ := ba g8
          have al : ∃ cd, PySem.W.clsIn K (He.ga K x) = some cd ∧ PySem.W.alongIn K "__init__" ((cd.mro.dropWhile (· != .ref (He.ga K x))).drop 1) = some (some (.builtin "ValueError.__init__")) := by
            split at h10
            · rename_i cd ec
              exact ⟨cd, ec, He.eqO_ok h10⟩
            · cases h10
          refine ⟨_, fn_super lk gq S ⟨T, ⟨_, _, _, lk⟩, ⟨_, rfl, rfl⟩, fileB_ok gf, cellB_ok gc, al, of_decide_eq_true h11, of_decide_eq_true h12, He.eqO_ok h13, su, top⟩ hpos (He.eqO_ok h15) (by decide) ?_ (by decide) ?_ (fun env => by rfl), Binds.all fun us hl => ?_⟩
          · rcases hb with rfl | rfl <;> decide
          · rcases hb with rfl | rfl <;> decide
          · rcases hb with rfl | rfl
            · exact match us, hl with | [_, _], _ => rfl
            · exact match us, hl with | [_, _], _ => rfl
        · cases g8
      · cases g7
  · cases h9
end EK
set_option Elab.async false
set_option linter.all false
set_option maxRecDepth 100000
set_option maxHeartbeats 4000000
/-! lambdas: made while all but the maker's table stays; called with one value -/
namespace Lx
open PySem PySem.Spec PyProof.Rows L2 LamX
structure Grown (P : Addr) (q : Str) (H H' : Hp) : Prop where
  keep : ∀ b o, b ≠ P → H b = some o → H' b = some o
  tab : TabS H' P q
section
variable {X : Cx} {pins : List (Addr × Obj)} {σ : L2.St} {H : Hp} {s : Shared}
theorem lam_new {c P : Addr} {params : Arguments} {body : Expr} {scope : Scope} {pos : Pos} {E Q : Value → Shared → Prop} (I : Inv X pins σ H s) (TB : LamX.TabB X.base X.mg c P) (hcode : X.env.code = .ref c)
    (hT : TabS H P (X.env.qual ++ "<lambda>")) (hdf : defaultsOf params X.env = ([], [])) (hcl : ∀ y ∈ scope.names, y.2 = .free → ∃ c, X.env.cells.lookup y.1 = some c)
    (go : ∀ (f c1 : Addr) (pm ct : Value) (H1 : Hp) (s1 : Shared), Inv X pins σ H1 s1 → Grown P (X.env.qual ++ "<lambda>") H H1 →
      s1.heap.get? f = some (PySem.W.kla_obj "<lambda>" (X.env.qual ++ "<lambda>") params body scope (cloFrom X.env.cells scope.names []) pm c1 ct) → H1 f = none → f ∉ frs X.stack → H1 c1 = some (CodeO c1 (X.env.qual ++ "<lambda>")) → Q (.ref f) s1) :
    wpAny (model X.prog X.w) X.A (eval (.Lambda params body scope pos) X.env) Q E s := by
  obtain ⟨ps, e0, tr, kn⟩ := hT
  have old : s.heap.get? P = some { cls := .none, data := .fields ps } := I.hok P _ e0
  have bmP := TB.bm.keeps I.bk
  have away : ∀ a : Addr, s.heap.objs.size ≤ a → a ∉ frs X.stack := fun a ha m => by
    rcases List.mem_cons.mp (I.stkSub _ m) with z | z
    · have q := I.lt
      rw [← z] at q
      exact absurd (Nat.lt_of_lt_of_le q ha) (Nat.lt_irrefl _)
    · exact I.nofs ha z
  refine PySem.W.kla_eval hdf ?_
  rcases hc : codeAmong pos ps.toList with _ | cv
  · refine PySem.W.kla_makeFunction (mg := X.mg) (c := c) (P := P) (ps := ps) (closure_ok hcl) I.ok.glob (I.mod.glob.keeps I.bk) hcode (TB.code.keeps I.bk) old tr hc TB.gP bmP ?_
    intro c1 ct h1 tk ext above below rec there
    obtain ⟨_, oc, vs, t, z, g1, g2, g3⟩ := rec
    cases z
    have size : s.heap.objs.size ≤ h1.objs.size := by omega
    have nc : H c1 = none := I.hok.fresh above
    have neP : ∀ {b o}, H b = some o → b ≠ c1 := fun e => ne_of_none e nc
    have J := inv_table (q := X.env.qual ++ "<lambda>") (t' := tk) (more := #[rawInt pos.line, rawInt pos.col, .ref c1]) (h' := h1.push (PySem.W.kla_obj "<lambda>" (X.env.qual ++ "<lambda>") params body scope (cloFrom X.env.cells scope.names []) ((X.mg "__name__").getD .none) c1 ct)) I e0
      (fun b o ne g => Heap.get?_push_of_some _ (ext b o ne g)) (Heap.get?_push_of_some _ there) above ⟨oc, vs, t, Heap.get?_push_of_some _ g1, g2, g3⟩
    have same : ∀ b o, b ≠ P → H b = some o → upd (upd H P (.tbl (ps ++ #[rawInt pos.line, rawInt pos.col, .ref c1]))) c1 (CodeO c1 (X.env.qual ++ "<lambda>")) b = some o := fun b o ne e => by
      rw [upd_ne (neP e), upd_ne ne, e]
    refine go h1.objs.size c1 _ ct _ _ J ⟨same, _, by rw [upd_ne (neP e0), upd_same], ?_, fun p cv q => ?_⟩ (Heap.get?_push_size _ rfl) ?_ (away _ size) upd_same
    · rw [Array.toList_append]
      exact PySem.TriplesOk_snoc _ _ _ _ tr
    · rw [Array.toList_append] at q
      rcases among_app ps.toList tr q with q | rfl
      · obtain ⟨c0, e1, e2⟩ := kn p cv q
        exact ⟨c0, e1, same c0 _ (fun z => by rw [z, e0] at e2; unfold CodeO at e2; cases e2) e2⟩
      · exact ⟨c1, rfl, upd_same⟩
    · rw [upd_ne (Nat.ne_of_gt below), upd_ne (Nat.ne_of_gt (Nat.lt_of_lt_of_le (Heap.lt_size old) size))]
      exact I.hok.fresh size
  · obtain ⟨c1, rfl, hco⟩ := kn pos cv hc
    refine PySem.W.kla_makeFunctionHit (mg := X.mg) (c := c) (P := P) (ps := ps) (closure_ok hcl) I.ok.glob (I.mod.glob.keeps I.bk) hcode (TB.code.keeps I.bk) old tr hc bmP ?_
    intro ct h1 tk ext size
    exact go h1.objs.size c1 _ ct H _ (I.kept fun b o e => Heap.get?_push_of_some _ (ext b o e)) ⟨fun _ _ _ e => e, ps, e0, tr, kn⟩ (Heap.get?_push_size _ rfl) (I.hok.fresh size) (away _ size) hco
end
/-- one parameter n, that no slot of the maker bears -/
structure LamP (sc : Scope) (N : List Str) (n : Str) (scope : Scope) : Prop where
  kind : scope.kind = .function
  co : scope.isCoroutine = false
  gen : scope.isGenerator = false
  cell : ∀ y ∈ scope.names, y.2 ≠ .cell
  own : ∀ y ∈ scope.names, y.2 = .local → y.1 = n
  par : scope.names.lookup n = some .local
  free : ∀ y ∈ scope.names, y.2 = .free → sc.names.lookup y.1 = some .cell ∨ sc.names.lookup y.1 = some .free
  new : n ∉ N
def lamPB (sc : Scope) (N : List Str) (n : Str) (scope : Scope) : Bool := decide (scope.kind = .function) && (!scope.isCoroutine && (!scope.isGenerator && (scope.names.all (fun y => !decide (y.2 = .cell) && ((!decide (y.2 = .local) || decide (y.1 = n)) && (!decide (y.2 = .free) || (decide (sc.names.lookup y.1 = some .cell) || decide (sc.names.lookup y.1 = some .free))))) &&
  (decide (scope.names.lookup n = some .local) && !N.contains n))))
theorem lamP_by {sc : Scope} {N : List Str} {n : Str} {scope : Scope} (h : lamPB sc N n scope = true) : LamP sc N n scope := by
  unfold lamPB at h
  simp only [Bool.and_eq_true, Bool.or_eq_true, Bool.not_eq_true', decide_eq_true_eq, decide_eq_false_iff_not, List.all_eq_true] at h
  obtain ⟨h1, h2, h3, h4, h5, h6⟩ := h
  refine ⟨h1, h2, h3, fun y hy => (h4 y hy).1, fun y hy e => ?_, h5, fun y hy e => ?_, fun m => ?_⟩
  · rcases (h4 y hy).2.1 with z | z
    · exact absurd e z
    · exact z
  · rcases (h4 y hy).2.2 with z | z
    · exact absurd e z
    · exact z
  · have : N.contains n = true := List.contains_iff_mem.mpr m
    rw [this] at h6
    cases h6
theorem LamP.has {X : Cx} {n : Str} {scope : Scope} (L : LamP X.env.scope X.N n scope) (ok : X.Ok) : ∀ y ∈ scope.names, y.2 = .free → ∃ c, X.env.cells.lookup y.1 = some c := fun y hy e => by
  rcases L.free y hy e with k | k
  · exact ok.has _ (.inl k)
  · exact ok.has _ (.inr k)
/-- a lambda's body: what leaves it bears no context -/
abbrev lcN (X : Cx) (A : Around) (outer : List Env) (s : Shared) (H : Hp) (E : XK) (scope : Scope) (f c1 : Addr) : Cx :=
  (lamCx X A outer s H E scope f c1).wish fun e s' => wpAny (model X.prog X.w) (A.deeper (lamEnv X scope s.heap.objs.size f c1)) (leaving (lamEnv X scope s.heap.objs.size f c1) e) (fun _ s2 => L2N.CX X.prog X.w outer H s E e s2) (fun e2 s2 => L2N.CX X.prog X.w outer H s E e2 s2) s'
/-- the context of such a lambda's body: the maker's slots, and the parameter behind them -/
def lcx (X : Cx) (n : Str) (A : Around) (outer : List Env) (s : Shared) (H : Hp) (E : XK) (scope : Scope) (f c1 : Addr) : Cx := { lcN X A outer s H E scope f c1 with N := X.N ++ [n] }
section
variable {X : Cx} {pins : List (Addr × Obj)} {σ : L2.St} {H HZ : Hp} {s s1 : Shared} {n : Str}
theorem lcx_start {A : Around} {outer : List Env} {E : XK} {scope : Scope} {f c1 : Addr} {h1 : Heap} {tk : Nat} {v : V} {u : Value} (I : Inv X pins σ H s) (L : LamP X.env.scope X.N n scope) (e0 : Env0 X.prog X.w X.K X.mg X.base A outer s1 HZ) (hd : A.handled = none)
    (un : Un (frs X.stack) [] H HZ s.heap s1.heap) (hns : h1.Ns s1.heap.objs.size fun y => ([(n, u)] : List (Str × Value)).reverse.lookup y) (kp : ∀ b o, s1.heap.get? b = some o → h1.get? b = some o) (r : RelV v u) :
    Inv (lcx X n A outer s1 HZ E scope f c1) [] (σ ++ [some v]) HZ { s1 with heap := h1, toks := tk } := by
  have has := L.has I.ok
  have look : ∀ {y}, scope.names.lookup y = some .free → ∃ c, (cloFrom X.env.cells scope.names []).lookup y = some c := fun hl => mem_lookup (cloFrom_has (cells := X.env.cells) (acc := []) (PySem.mem_of_lookup hl))
  have back : ∀ {y c}, (cloFrom X.env.cells scope.names []).lookup y = some c → X.env.cells.lookup y = some c := fun {y c} e => by
    rcases cloFrom_mem (PySem.mem_of_lookup e) with hm | ⟨m1, m2⟩
    · cases hm
    · obtain ⟨d, hd⟩ := has _ m1 rfl
      have hd : X.env.cells.lookup y = some d := hd
      rw [m2, hd]
      rfl
  have stays : ∀ {c : Addr} {v : Option Value}, H c = none → s.heap.IsCell c v → h1.IsCell c v := fun n ⟨o, ho, hd⟩ => by
    obtain ⟨sl, q⟩ := un.any ho n (by simp)
    exact ⟨_, kp _ _ q, hd⟩
  have noA : ∀ b : Addr, b ∉ (lcx X n A outer s1 HZ E scope f c1).ex := fun b z => absurd (show b ∈ ([] : List Addr) from z) (by simp)
  refine ⟨⟨e0.mod, L.kind, rfl, rfl, Nat.le_refl _, fun y z c a b => I.ok.inj y z c (back a) (back b), fun y hy => ?_, fun y c z _ => ?_, fun _ => hd, Around.frames_deeper e0.frames, .inr ⟨rfl, rfl⟩, fun b z => absurd z (noA b), e0.bs, e0.bsz, fun b _ _ => noA b,
      fun b z => absurd z (noA b), e0.funs, e0.frf⟩,
    rfl, e0.bare, Un.kept kp, ⟨_, hns, fun i y w a b d => ?_⟩, fun y c e => ?_, e0.hok.fresh (Nat.le_refl _), fun y c e => ?_, fun q hq => absurd (show q ∈ ([] : List (Addr × Obj)) ++ [] from hq) (by simp), e0.hok.kept kp, ?_⟩
  · rcases (show scope.names.lookup y = some .cell ∨ scope.names.lookup y = some .free from hy) with k | k
    · exact absurd rfl (L.cell _ (PySem.mem_of_lookup k))
    · exact look k
  · exact absurd (show false = true from z) (by decide)
  · have a : (X.N ++ [n])[i]? = some y := a
    have len := I.len
    by_cases hi : i < X.N.length
    · rw [List.getElem?_append_left hi] at a
      rw [List.getElem?_append_left (by omega)] at b
      rcases (show Vis scope y from d) with k | k | k
      · have z : y = n := L.own _ (PySem.mem_of_lookup k) rfl
        exact absurd (z ▸ List.mem_of_getElem? a) L.new
      · exact absurd rfl (L.cell _ (PySem.mem_of_lookup k))
      · obtain ⟨m, hn, hl⟩ := I.loc
        have from_ := L.free _ (PySem.mem_of_lookup k) rfl
        obtain ⟨w', r', q⟩ := hl i y w a b (from_.elim (fun k => .inr (.inl k)) fun k => .inr (.inr k))
        obtain ⟨c2, h2⟩ := look k
        refine ⟨w', r', .inr ⟨.inr k, c2, h2, ?_⟩⟩
        have ec := back h2
        rcases q with ⟨k', _⟩ | ⟨_, c3, e', z⟩
        · have k' : X.env.scope.names.lookup y = some .local := k'
          rcases from_ with k2 | k2
          · rw [show X.env.scope.names.lookup y = _ from k2] at k'; cases k'
          · rw [show X.env.scope.names.lookup y = _ from k2] at k'; cases k'
        · rw [ec] at e'
          cases e'
          exact stays (I.freeC y _ ec) z
    · rw [List.getElem?_append_right (by omega)] at a b
      have z : i - X.N.length = 0 := by
        rcases Nat.eq_zero_or_pos (i - X.N.length) with z | z
        · exact z
        · rw [List.getElem?_eq_none (by simp; omega)] at a; cases a
      rw [z] at a
      rw [show i - σ.length = 0 by omega] at b
      simp at a b
      subst a; subst b
      exact ⟨u, r, .inl ⟨L.par, by simp [List.lookup]⟩⟩
  · obtain ⟨w', z⟩ := I.cell y c (back e)
    exact ⟨w', stays (I.freeC y c (back e)) z⟩
  · obtain ⟨w', o, ho, hd⟩ := I.cell y c (back e)
    exact un.free c o ho (I.freeC y c (back e)) (by simp)
  · have := I.len
    show (σ ++ [some v]).length = (X.N ++ [n]).length
    simp [this]
/-- x(), in the def that got the lambda -/
theorem pe_act0 {CXg : CXT} {Eg : XK} {Ng : List Str} {qg : Str} {sg : Scope} {g f c1 : Addr} {cdg pm ct : Value} {params : Arguments} {body : Expr} {scope : Scope} {k i : Nat} {a : Str} {pn : List (Addr × Obj)} {xe : Value → Shared → Prop} {W : WX} {E : XK} {tb : TE} {p1 p2 : Pos}
    (I : Inv X pins σ H s) (L : LamS X.env.scope scope) (hf : s.heap.get? f = some (PySem.W.kla_obj "<lambda>" (X.env.qual ++ "<lambda>") params body scope (cloFrom X.env.cells scope.names []) pm c1 ct)) (hfn : H f = none) (hfr : f ∉ frs X.stack)
    (hbind : bindArgs (PySem.W.kla_fn "<lambda>" (X.env.qual ++ "<lambda>") params body scope (cloFrom X.env.cells scope.names []) pm (.ref c1) ct) ⟨[], []⟩ = pure [])
    (tk : L2N.Takes ((cxOf CXg X.prog X.w X.K X.mg X.base Ng qg sg g cdg X.A X.stack s H Eg).tr pn xe) W) (hW : ∀ cls d σ' H', E cls d H' → W cls d σ' H') (hr : Room (k + 1) (X.A.deeper (envOfC qg sg s.heap.objs.size g cdg))) (hg0 : X.A.guards = some [])
    (hbody : ∀ (A : Around) (outer : List Env) (s : Shared) (H : Hp), Room k (A.deeper (lamEnv X scope s.heap.objs.size f c1)) → A.guards = some [] → PE (lcN X A outer s H E scope f c1) body tb)
    (hN : Ng[i]? = some a) (hv : Vis sg a) (hd : (a == ("__debug__" : Str)) = false := by decide) (hcd : (a == ("__classdict__" : Str)) = false := by decide) :
    PE ((cxOf CXg X.prog X.w X.K X.mg X.base Ng qg sg g cdg X.A X.stack s H Eg).tr pn xe) (.Call (.Name a p1) [] [] p2)
      (fun σZ HZ Q => σZ[i]? = some (some (.ref f)) ∧ HZ c1 = some (CodeO c1 (X.env.qual ++ "<lambda>")) ∧ tb σ HZ Q) := by
  refine ⟨fun pinsZ sZ σZ HZ Q IZ h => ?_⟩
  obtain ⟨hs, hc, q2⟩ := h
  refine wpAny_Call_Name_kw (thn ((pe_var (pos := p1) (i := i) hN hv hd hcd).run pinsZ sZ σZ HZ (fun v H1 => v = .ref f ∧ H1 = HZ) IZ ⟨.ref f, hs, rfl, rfl⟩) fun u s1 ⟨v, H1, I1, r1, q1⟩ => ?_)
  obtain ⟨rfl, rfl⟩ := q1
  obtain rfl : u = Value.ref f := r1
  have there := I1.base.keep f _ hf hfn hfr fun z => nomatch (show f ∈ ([] : List Addr) from z)
  refine PySem.W.callWith_F0 ⟨_, _, _, _, there⟩ ?_
  have un : Un (frs X.stack) [] H H1 s.heap s1.heap := I1.base
  obtain ⟨⟨oc, vs, t, hoc, hdc, hvc⟩, _, _⟩ := I1.hok c1 _ hc
  have rc : codeAny (model X.prog X.w) (X.A.deeper (envOfC qg sg s.heap.objs.size g cdg)) (.call (.ref f) ⟨[], []⟩) (CR (L2N.CX X.prog X.w) (envOfC qg sg s.heap.objs.size g cdg :: X.stack) X.prog X.w H1 s1 Q E) s1 := by
    refine PySem.W.kla_callFunE hr.depth there rfl L.co L.gen rfl ⟨c1, oc, vs, t, rfl, hoc, hdc, hvc⟩ ?_
    rw [hbind]
    refine wpAny_pure (wpAny_newFunctionEnv (fun y hy => (L.own y hy).2) (fun y hy => by cases hy) (fun h1 hns hsb => ⟨I1.nolimit.fresh _ hsb, ?_⟩) L.kind)
    have kp : ∀ b o, s1.heap.get? b = some o → h1.get? b = some o := fun b o e => hsb.extBut b o (Nat.ne_of_lt (Heap.lt_size e)) (Heap.get?_push_of_some _ e)
    have J := lam_start2 (E := E) (f := f) (c' := c1) (tk := s1.toks + ([] : List (Str × Value)).length) I L I1.env0 hr.hd un hns kp
    refine PySem.W.kla_codeExpr (wpAny_mono ((hbody _ _ s1 H1 (hr.deeper _) hg0).run [] _ _ H1 Q (J.wish _) q2) (fun v s' hq => ?_) fun e s' hq => hq)
    obtain ⟨w', H', J', rv, q⟩ := hq
    exact ⟨w', H', J'.os, J'.bare, J'.base, J'.hok, rv, q⟩
  have hx : Passes (L2N.CX X.prog X.w) ((cxOf CXg X.prog X.w X.K X.mg X.base Ng qg sg g cdg X.A X.stack s H Eg).tr pn xe) E := L2N.passes_call tk hW
  refine wpAny_call (codeAny_mono rc fun r s' hq => ?_)
  cases r with
  | error e => exact hx pinsZ σZ _ s1 e s' I1 hq
  | ok fl =>
    cases fl with
    | ret u => exact I1.after hq
    | next => exact hq.elim
    | brk => exact hq.elim
    | cont => exact hq.elim
/-- x(e), in the def that got the lambda -/
theorem pe_act1 {CXg : CXT} {Eg : XK} {Ng : List Str} {qg : Str} {sg : Scope} {g f c1 : Addr} {cdg pm ct : Value} {params : Arguments} {body e : Expr} {scope : Scope} {k i : Nat} {a : Str} {pn : List (Addr × Obj)} {xe : Value → Shared → Prop} {W : WX} {E : XK} {te tb : TE} {p1 p2 : Pos}
    (I : Inv X pins σ H s) (L : LamP X.env.scope X.N n scope) (hf : s.heap.get? f = some (PySem.W.kla_obj "<lambda>" (X.env.qual ++ "<lambda>") params body scope (cloFrom X.env.cells scope.names []) pm c1 ct)) (hfn : H f = none) (hfr : f ∉ frs X.stack)
    (hbind : ∀ u, bindArgs (PySem.W.kla_fn "<lambda>" (X.env.qual ++ "<lambda>") params body scope (cloFrom X.env.cells scope.names []) pm (.ref c1) ct) ⟨[u], []⟩ = pure [(n, u)])
    (tk : L2N.Takes ((cxOf CXg X.prog X.w X.K X.mg X.base Ng qg sg g cdg X.A X.stack s H Eg).tr pn xe) W) (hW : ∀ cls d σ' H', E cls d H' → W cls d σ' H') (hr : Room (k + 1) (X.A.deeper (envOfC qg sg s.heap.objs.size g cdg))) (hg0 : X.A.guards = some [])
    (hbody : ∀ (A : Around) (outer : List Env) (s : Shared) (H : Hp), Room k (A.deeper (lamEnv X scope s.heap.objs.size f c1)) → A.guards = some [] → PE (lcx X n A outer s H E scope f c1) body tb)
    (he : PE ((cxOf CXg X.prog X.w X.K X.mg X.base Ng qg sg g cdg X.A X.stack s H Eg).tr pn xe) e te)
    (hN : Ng[i]? = some a) (hv : Vis sg a) (hd : (a == ("__debug__" : Str)) = false := by decide) (hcd : (a == ("__classdict__" : Str)) = false := by decide)
    (hst : starEach [e] ((cxOf CXg X.prog X.w X.K X.mg X.base Ng qg sg g cdg X.A X.stack s H Eg).tr pn xe).env = (false, eval e ((cxOf CXg X.prog X.w X.K X.mg X.base Ng qg sg g cdg X.A X.stack s H Eg).tr pn xe).env) :: starEach [] ((cxOf CXg X.prog X.w X.K X.mg X.base Ng qg sg g cdg X.A X.stack s H Eg).tr pn xe).env := by rfl) :
    PE ((cxOf CXg X.prog X.w X.K X.mg X.base Ng qg sg g cdg X.A X.stack s H Eg).tr pn xe) (.Call (.Name a p1) [e] [] p2)
      (fun σZ HZ Q => σZ[i]? = some (some (.ref f)) ∧ te σZ HZ fun v H1 => H1 c1 = some (CodeO c1 (X.env.qual ++ "<lambda>")) ∧ tb (σ ++ [some v]) H1 Q) := by
  refine ⟨fun pinsZ sZ σZ HZ Q IZ h => ?_⟩
  obtain ⟨hs, ht⟩ := h
  refine wpAny_Call_Name_kw (thn ((pe_var (pos := p1) (i := i) hN hv hd hcd).run pinsZ sZ σZ HZ (fun v H1 => v = .ref f ∧ H1 = HZ) IZ ⟨.ref f, hs, rfl, rfl⟩) fun u s1 ⟨v, H1, I1, r1, q1⟩ => ?_)
  obtain ⟨rfl, rfl⟩ := q1
  obtain rfl : u = Value.ref f := r1
  have there : ∀ {s2 : Shared} {σ2 : L2.St} {H2 : Hp}, Inv ((cxOf CXg X.prog X.w X.K X.mg X.base Ng qg sg g cdg X.A X.stack s H Eg).tr pn xe) pinsZ σ2 H2 s2 → s2.heap.get? f = some (PySem.W.kla_obj "<lambda>" (X.env.qual ++ "<lambda>") params body scope (cloFrom X.env.cells scope.names []) pm c1 ct) :=
    fun J => J.base.keep f _ hf hfn hfr fun z => nomatch (show f ∈ ([] : List Addr) from z)
  refine PySem.W.callWith_F ⟨_, _, _, _, there I1⟩ ?_ hst rfl
  rw [hst]
  refine Calls.spliced_cons (thn (he.run pinsZ s1 σZ _ _ I1 ht) fun u s2 ⟨v, H2, I2, r2, q2⟩ => Calls.spliced_nil ⟨⟨_, _, _, _, there I2⟩, ?_⟩)
  obtain ⟨hc, q2⟩ := q2
  have un : Un (frs X.stack) [] H H2 s.heap s2.heap := I2.base
  obtain ⟨⟨oc, vs, t, hoc, hdc, hvc⟩, _, _⟩ := I2.hok c1 _ hc
  have rc : codeAny (model X.prog X.w) (X.A.deeper (envOfC qg sg s.heap.objs.size g cdg)) (.call (.ref f) ⟨[u], []⟩) (CR (L2N.CX X.prog X.w) (envOfC qg sg s.heap.objs.size g cdg :: X.stack) X.prog X.w H2 s2 Q E) s2 := by
    refine PySem.W.kla_callFunE hr.depth (there I2) rfl L.co L.gen rfl ⟨c1, oc, vs, t, rfl, hoc, hdc, hvc⟩ ?_
    rw [hbind]
    refine wpAny_pure (wpAny_newFunctionEnv L.cell (fun y hy => ?_) (fun h1 hns hsb => ⟨I2.nolimit.fresh _ hsb, ?_⟩) L.kind)
    · simp at hy
      subst hy
      exact L.par
    have kp : ∀ b o, s2.heap.get? b = some o → h1.get? b = some o := fun b o e => hsb.extBut b o (Nat.ne_of_lt (Heap.lt_size e)) (Heap.get?_push_of_some _ e)
    have J := lcx_start (E := E) (f := f) (c1 := c1) (tk := s2.toks + ([(n, u)] : List (Str × Value)).length) I L I2.env0 hr.hd un hns kp r2
    refine PySem.W.kla_codeExpr (wpAny_mono ((hbody _ _ s2 H2 (hr.deeper _) hg0).run [] _ _ H2 Q J q2) (fun v s' hq => ?_) fun e s' hq => hq)
    obtain ⟨w', H', J', rv, q⟩ := hq
    exact ⟨w', H', J'.os, J'.bare, J'.base, J'.hok, rv, q⟩
  have hx : Passes (L2N.CX X.prog X.w) ((cxOf CXg X.prog X.w X.K X.mg X.base Ng qg sg g cdg X.A X.stack s H Eg).tr pn xe) E := L2N.passes_call tk hW
  refine wpAny_call (codeAny_mono rc fun r s' hq => ?_)
  cases r with
  | error e => exact hx pinsZ σZ _ s2 e s' I2 hq
  | ok fl =>
    cases fl with
    | ret u => exact I2.after hq
    | next => exact hq.elim
    | brk => exact hq.elim
    | cont => exact hq.elim
/-! ### a def called with a lambda -/
def tLam0 (P : Addr) (q : Str) (TT : (XK → Hp → VK → Prop) → Hp → VK → Prop) (t : XK → TE) : TE := fun σ H Q => TabS H P q ∧ ∀ H1, Grown P q H H1 → TT (fun E H' Q' => t E σ H' Q') H1 Q
theorem pe_lam0 {TT : (XK → Hp → VK → Prop) → Hp → VK → Prop} {x a : Str} {g c P : Addr} {k : Nat} {pg : Arguments} {bg : List Stmt} {sg : Scope} {fd : FuncData} {Ng : List Str}
    {params : Arguments} {body : Expr} {scope : Scope} {t : XK → TE} {p lpos pos : Pos} (hg : Gl X x) (hm : X.mg x = some (.ref g)) (F : FunD X.K x x pg bg sg [] [] g fd) (hb : ∀ (s : Shared) (u : Value), BindsTo s fd ⟨[u], []⟩ [(a, u)]) (Sg : FnScope Ng [a] sg) (hNg : Ng[0]? = some a) (hva : Vis sg a)
    (hG : ∀ cdg, XS.Gives0 X Ng x sg g cdg bg a (X.env.qual ++ "<lambda>") TT)
    (TB : LamX.TabB X.base X.mg c P) (hcode : X.env.code = .ref c) (hr : Room (k + 2) X.A) (hg0 : X.A.guards = some []) (L : LamS X.env.scope scope) (hdef : defaultsOf params X.env = ([], []))
    (hbind : ∀ (q : Str) (cl : List (Str × Addr)) (pm cv ctv : Value), bindArgs (PySem.W.kla_fn "<lambda>" q params body scope cl pm cv ctv) ⟨[], []⟩ = pure [])
    (hbody : ∀ (A : Around) (outer : List Env) (s : Shared) (H : Hp) (E : XK) (f c' : Addr), Room k (A.deeper (lamEnv X scope s.heap.objs.size f c')) → A.guards = some [] → PE (lcN X A outer s H E scope f c') body (t E))
    (hdb : (x == ("__debug__" : Str)) = false := by decide) (hd : (a == ("__debug__" : Str)) = false := by decide) (hcd : (a == ("__classdict__" : Str)) = false := by decide) :
    PE X (.Call (.Name x p) [.Lambda params body scope lpos] [] pos) (tLam0 P (X.env.qual ++ "<lambda>") TT t) := by
  obtain ⟨oc, od, dV, kV, doc, pm, an, cdv, ct, osl, rfl, lk, hcg, _, _⟩ := F.ex
  refine ⟨fun pins s σ H Q I ⟨hT, h⟩ => wpAny_Call_Name_kw (ld_glob I hg hm ?_ hdb)⟩
  refine PySem.W.callWith_K (h₀ := X.base) I.ok.mod.kin F.kp ?_ (by rfl) (by rfl)
  show wpAny _ _ (spliced ((false, eval (.Lambda params body scope lpos) X.env) :: backTo pos (starEach [] X.env))) _ _ s
  refine Calls.spliced_cons (lam_new I TB hcode hT hdef (L.has I.ok) fun f c1 pm' ctv H1 s1 I1 G hf hfn hfr hco => Calls.spliced_nil ⟨I1.kIn, ?_⟩)
  refine wpAny_call (codeAny_mono (run_ofS (CX := C8.CX0) (Q := Q) (E := C8.E0) (N := Ng) (ps := [a]) (us := [.ref f]) (vs := [.ref f]) lk hcg Sg hr I1.env0 (hb s1 (.ref f)) (.cons rfl .nil) rfl fun hr' => ?_) fun r s2 hq => ?_)
  · obtain ⟨t', ht', hq'⟩ := hG cdv f c1 s1 H1 Q (fun E H' Q' => t E σ H' Q') (fun W pn xe E p1 p2 tk hW => pe_act0 (i := 0) I1 L hf hfn hfr (hbind _ _ _ _ _) tk hW hr' hg0 (fun A outer s H hr2 hg2 => hbody A outer s H E f c1 hr2 hg2) hNg hva hd hcd) hco (h H1 G)
    exact ⟨t', ht'.nox, hq'⟩
  · match r, hq with
    | .error e, hq => exact (show False from hq).elim
    | .ok (.ret u), hq => exact I1.after hq
    | .ok .next, hq => exact hq.elim
    | .ok .brk, hq => exact hq.elim
    | .ok .cont, hq => exact hq.elim
/-- a def with two parameters, the second one called with one value -/
def GivesTo1 (X : Cx) (Ng : List Str) (x : Str) (sg : Scope) (g : Addr) (cdg : Value) (bg : List Stmt) (a : Str) (q : Str) (TT : V → (V → Hp → VK → Prop) → Hp → VK → Prop) : Prop :=
  ∀ (f c' : Addr) (s : Shared) (H : Hp) (Q : VK) (v : V) (tl : V → Hp → VK → Prop),
    (∀ (e : Expr) (te : TE) (p1 p2 : Pos), PE (cxOf C8.CX0 X.prog X.w X.K X.mg X.base Ng x sg g cdg X.A X.stack s H C8.E0) e te →
      starEach [e] (envOfC x sg s.heap.objs.size g cdg) = (false, eval e (envOfC x sg s.heap.objs.size g cdg)) :: starEach [] (envOfC x sg s.heap.objs.size g cdg) →
      PE (cxOf C8.CX0 X.prog X.w X.K X.mg X.base Ng x sg g cdg X.A X.stack s H C8.E0) (.Call (.Name a p1) [e] [] p2) (fun σZ HZ Q => σZ[1]? = some (some (.ref f)) ∧ te σZ HZ fun u H1 => H1 c' = some (CodeO c' q) ∧ tl u H1 Q)) →
    H c' = some (CodeO c' q) → TT v tl H Q →
    ∃ t, PSs (cxOf C8.CX0 X.prog X.w X.K X.mg X.base Ng x sg g cdg X.A X.stack s H C8.E0) bg t ∧ t { nx := fun _ H' => Q .non H', rt := Q } (L2.start Ng [v, .ref f]) H
def tLam1 (P : Addr) (q : Str) (TT : V → (V → Hp → VK → Prop) → Hp → VK → Prop) (te t : TE) : TE := fun σ H Q => te σ H fun v Hv => TabS Hv P q ∧ ∀ H1, Grown P q Hv H1 → TT v (fun u H' Q' => t (σ ++ [some u]) H' Q') H1 Q
theorem pe_lam1 {TT : V → (V → Hp → VK → Prop) → Hp → VK → Prop} {x a0 a : Str} {g c P : Addr} {k : Nat} {pg : Arguments} {bg : List Stmt} {sg : Scope} {fd : FuncData} {Ng : List Str}
    {params : Arguments} {body e : Expr} {scope : Scope} {te t : TE} {p lpos pos : Pos} (hg : Gl X x) (hm : X.mg x = some (.ref g)) (F : FunD X.K x x pg bg sg [] [] g fd) (hb : ∀ (s : Shared) (u w : Value), BindsTo s fd ⟨[u, w], []⟩ [(a0, u), (a, w)]) (Sg : FnScope Ng [a0, a] sg) (hNg : Ng[1]? = some a) (hva : Vis sg a)
    (hG : ∀ cdg, GivesTo1 X Ng x sg g cdg bg a (X.env.qual ++ "<lambda>") TT)
    (TB : LamX.TabB X.base X.mg c P) (hcode : X.env.code = .ref c) (hr : Room (k + 2) X.A) (hg0 : X.A.guards = some []) (L : LamP X.env.scope X.N n scope) (hdef : defaultsOf params X.env = ([], []))
    (hbind : ∀ (q : Str) (cl : List (Str × Addr)) (pm cv ctv u : Value), bindArgs (PySem.W.kla_fn "<lambda>" q params body scope cl pm cv ctv) ⟨[u], []⟩ = pure [(n, u)])
    (he : PE X e te)
    (hbody : ∀ (A : Around) (outer : List Env) (s : Shared) (H : Hp) (f c' : Addr), Room k (A.deeper (lamEnv X scope s.heap.objs.size f c')) → A.guards = some [] → PE (lcx X n A outer s H C8.E0 scope f c') body t)
    (hdb : (x == ("__debug__" : Str)) = false := by decide) (hd : (a == ("__debug__" : Str)) = false := by decide) (hcd : (a == ("__classdict__" : Str)) = false := by decide)
    (hs1 : starEach [e, .Lambda params body scope lpos] X.env = (false, eval e X.env) :: starEach [.Lambda params body scope lpos] X.env := by rfl) :
    PE X (.Call (.Name x p) [e, .Lambda params body scope lpos] [] pos) (tLam1 P (X.env.qual ++ "<lambda>") TT te t) := by
  obtain ⟨oc, od, dV, kV, doc, pm, an, cdv, ct, osl, rfl, lk, hcg, _, _⟩ := F.ex
  refine ⟨fun pins s σ H Q I h => wpAny_Call_Name_kw (ld_glob I hg hm ?_ hdb)⟩
  refine PySem.W.callWith_K (h₀ := X.base) I.ok.mod.kin F.kp ?_ hs1 (by rfl)
  rw [hs1]
  refine Calls.spliced_cons (thn (he.run pins s σ H _ I h) fun u0 s0 ⟨v, H0, I0, r0, hT, h0⟩ => ?_)
  show wpAny _ _ (spliced ((false, eval (.Lambda params body scope lpos) X.env) :: backTo pos (starEach [] X.env))) _ _ s0
  refine Calls.spliced_cons (lam_new I0 TB hcode hT hdef (L.has I0.ok) fun f c1 pm' ctv H1 s1 I1 G hf hfn hfr hco => Calls.spliced_nil ⟨I1.kIn, ?_⟩)
  refine wpAny_call (codeAny_mono (run_ofS (CX := C8.CX0) (Q := Q) (E := C8.E0) (N := Ng) (ps := [a0, a]) (us := [u0, .ref f]) (vs := [v, .ref f]) lk hcg Sg hr I1.env0 (hb s1 u0 (.ref f)) (.cons r0 (.cons rfl .nil)) rfl fun hr' => ?_) fun r s2 hq => ?_)
  · exact hG cdv f c1 s1 H1 Q v (fun u H' Q' => t (σ ++ [some u]) H' Q') (fun e te p1 p2 he hst =>
      pe_act1 (CXg := C8.CX0) (Eg := C8.E0) (i := 1) (pn := []) (xe := (cxOf C8.CX0 X.prog X.w X.K X.mg X.base Ng x sg g cdv X.A X.stack s1 H1 C8.E0).xe) (E := C8.E0) (W := fun _ _ _ _ => False) I1 L hf hfn hfr (hbind _ _ _ _ _) XS.takes0N (fun _ _ _ _ z => z) hr' hg0 (fun A outer s H hr2 hg2 => hbody A outer s H f c1 hr2 hg2) he hNg hva hd hcd hst) hco (h0 H1 G)
  · match r, hq with
    | .error e, hq => exact (show False from hq).elim
    | .ok (.ret u), hq => exact I1.after hq
    | .ok .next, hq => exact hq.elim
    | .ok .brk, hq => exact hq.elim
    | .ok .cont, hq => exact hq.elim
end
end Lx
set_option Elab.async false
set_option linter.all false
set_option maxRecDepth 100000
set_option maxHeartbeats 4000000
/-! ### four put together and taken apart: new lists may be among them -/
namespace Dn
open PySem PySem.Spec PyProof.Rows L2 GxR Gx
def dPar4 (i j l m : Nat) (As : DAf) : DSf := fun env S => (As env S).bind fun xs S1 => match xs with
  | [x, y, z, w] => .ok (.nx ((((env.set i (some x)).set j (some y)).set l (some z)).set m (some w))) S1
  | _ => .bad
section
variable {W : Wd} {E : XK} {X : Cx} {pos : Pos}
theorem ds_quad {i j l m : Nat} {x y z w : Str} {a b c d : Expr} {As : DAf} {px py pz pw pt : Pos} {kt k2 pt2} (hK : X.K = W.K) (hc : X.calm = true) (hN : X.N.Nodup) (hi : X.N[i]? = some x) (hj : X.N[j]? = some y) (hl : X.N[l]? = some z) (hm : X.N[m]? = some w) (ha : DA W E X [a, b, c, d] As)
    (hx : Loc X.env.scope x := by first | exact Or.inl rfl | exact Or.inr rfl) (hy : Loc X.env.scope y := by first | exact Or.inl rfl | exact Or.inr rfl) (hz : Loc X.env.scope z := by first | exact Or.inl rfl | exact Or.inr rfl) (hw : Loc X.env.scope w := by first | exact Or.inl rfl | exact Or.inr rfl)
    (hfx : X.fn x = true ∨ X.env.scope.names.lookup x = some .local := by first | exact .inl rfl | exact .inr rfl) (hfy : X.fn y = true ∨ X.env.scope.names.lookup y = some .local := by first | exact .inl rfl | exact .inr rfl)
    (hfz : X.fn z = true ∨ X.env.scope.names.lookup z = some .local := by first | exact .inl rfl | exact .inr rfl) (hfw : X.fn w = true ∨ X.env.scope.names.lookup w = some .local := by first | exact .inl rfl | exact .inr rfl)
    (hs : swapsWithSole [.Tuple [.Name x px, .Name y py, .Name z pz, .Name w pw] kt pt] (.Tuple [a, b, c, d] k2 pt2) pos.line X.env = pure false := by rfl) (hsw : swappedStores [.Tuple [.Name x px, .Name y py, .Name z pz, .Name w pw] kt pt] (.Tuple [a, b, c, d] k2 pt2) X.env = pure none := by rfl)
    (h1 : (assignEach [.Tuple [.Name x px, .Name y py, .Name z pz, .Name w pw] kt pt] X.env).map (·.2) = [assign (.Tuple [.Name x px, .Name y py, .Name z pz, .Name w pw] kt pt) X.env] := by rfl)
    (hs1 : (assignEach [.Name x px, .Name y py, .Name z pz, .Name w pw] X.env).map (·.2) = assign (.Name x px) X.env :: (assignEach [.Name y py, .Name z pz, .Name w pw] X.env).map (·.2) := by rfl) (hs2 : (assignEach [.Name y py, .Name z pz, .Name w pw] X.env).map (·.2) = assign (.Name y py) X.env :: (assignEach [.Name z pz, .Name w pw] X.env).map (·.2) := by rfl)
    (hs3 : (assignEach [.Name z pz, .Name w pw] X.env).map (·.2) = assign (.Name z pz) X.env :: (assignEach [.Name w pw] X.env).map (·.2) := by rfl) (hs4 : (assignEach [.Name w pw] X.env).map (·.2) = assign (.Name w pw) X.env :: (assignEach [] X.env).map (·.2) := by rfl)
    (hn : (assignEach [.Name x px, .Name y py, .Name z pz, .Name w pw] X.env).length = 4 := by rfl) (hst : (assignEach [.Name x px, .Name y py, .Name z pz, .Name w pw] X.env).findIdx? (·.1) = none := by rfl) :
    DS W E X (.Assign [.Tuple [.Name x px, .Name y py, .Name z pz, .Name w pw] kt pt] (.Tuple [a, b, c, d] k2 pt2) pos) (dPar4 i j l m As) :=
  (ps_asg (pe_tup ha) (pg_tup hc (pgs_cons (pg_name hN hi hx hfx) (pgs_cons (pg_name hN hj hy hfy) (pgs_cons (pg_name hN hl hz hfz) (pgs_cons (pg_name hN hm hw hfw) pgs_nil hs4) hs3) hs2) hs1) hn hst) hs hsw h1).imp fun D σ H ⟨env, S, μ, hE, hS, hp⟩ =>
  ⟨env, S, μ, hE, hS, hp.bind.imp fun xs S1 H1 μ1 l1 s1 p1 vs rvs => by
    split at p1
    · simp only [RelVs] at rvs
      obtain ⟨v1, _, rfl, r1, v2, _, rfl, r2, v3, _, rfl, r3, v4, _, rfl, r4, rfl⟩ := rvs
      refine ⟨by show 4 ≤ sizeLine; decide, fun c hc0 => ⟨c, [v1, v2, v3, v4], rfl, .inl (.inl upd_same), rfl, v1, _, rfl, v2, _, rfl, v3, _, rfl, v4, [], rfl, rfl, ?_⟩⟩
      have e1 := (hE.mono l1 hS.is).set (i := i) r1
      have e2 := e1.set (i := j) r2
      have e3 := e2.set (i := l) r3
      have e4 := e3.set (i := m) r4
      exact p1 _ _ (Le.new hc0) (s1.new hc0) _ (e4.mono (Le.new hc0) s1.is)
    · exact p1.elim⟩
end
def par4 (i j l m : Nat) (env : Env) (xs : List Val) (S : Sto) : Out Fl := match xs with
  | [x, y, z, w] => .ok (.nx ((((env.set i (some x)).set j (some y)).set l (some z)).set m (some w))) S
  | _ => .bad
@[simp] theorem par4_eq (i j l m : Nat) (env : Env) (x y z w : Val) (S : Sto) : par4 i j l m env [x, y, z, w] S = .ok (.nx ((((env.set i (some x)).set j (some y)).set l (some z)).set m (some w))) S := (rfl)
@[simp] theorem dPar4_eq (i j l m : Nat) (As : DAf) (env : Env) (S : Sto) : dPar4 i j l m As env S = (As env S).bind (par4 i j l m env) := (rfl)
end Dn
set_option Elab.async false
set_option linter.all false
set_option maxRecDepth 100000
set_option maxHeartbeats 2000000
/-! defs that may raise: what leaves them is told by Out.exc -/
namespace Dn
open PySem PySem.Spec PyProof.Rows L2 GxR
/-- as FnG, and an error may leave -/
structure FnX (P : Program) (w : World) (K : PySem.W.Frag) (mg : Str → Option Value) (base : Heap) (k : Nat) (f : Addr) (fd : FuncData) (ps : List Str) (sp : Sp) : Prop where
  len : ∀ vs H Q E, sp vs H Q E → vs.length = ps.length
  run : ∀ (A : Around) (outer : List PySem.Env) (s : Shared) (H : Hp) (args : Args) (us : List Value) (vs : List V) (Q : VK) (E : XK), Room k A → A.guards = some [] → Env0 P w K mg base A outer s H →
    BindsTo s fd args (ps.zip us) → Vals vs us → sp vs H Q E → codeAny (model P w) A (.call (.ref f) args) (CR (L2N.CX P w) outer P w H s Q E) s
theorem FnX.mono {P : Program} {w : World} {K : PySem.W.Frag} {mg : Str → Option Value} {base : Heap} {j k : Nat} {f : Addr} {fd : FuncData} {ps : List Str} {sp : Sp} (F : FnX P w K mg base j f fd ps sp) (h : j ≤ k) : FnX P w K mg base k f fd ps sp :=
  ⟨F.len, fun A outer s H args us vs Q E hr => F.run A outer s H args us vs Q E (hr.mono h)⟩
theorem fnX_of {P : Program} {w : World} {K : PySem.W.Frag} {mg : Str → Option Value} {base : Heap} {k : Nat} {f : Addr} {name qual : Str} {params : Arguments} {body : List Stmt} {scope : Scope} {dV kV doc pm cdv ct oc : Value} {an od : Option Addr}
    {osl : Array (Option Value)} {N ps : List Str} {sp : Sp} (lk : K.lookup f = some ⟨oc, od, .func (PySem.W.fnOf name qual params body scope dV kV doc pm an cdv ct), osl⟩) (hcd : PySem.W.codeIn K cdv qual = true) (S : FnScope N ps scope)
    (hl : ∀ vs H Q E, sp vs H Q E → vs.length = ps.length)
    (hb : ∀ (A : Around) (outer : List PySem.Env) (s : Shared) (H : Hp) (vs : List V) (Q : VK) (E : XK), Room k (A.deeper (envOfC qual scope s.heap.objs.size f cdv)) → A.guards = some [] → sp vs H Q E →
      ∃ t, PSs (cxOf (L2N.CX P w) P w K mg base N qual scope f cdv A outer s H E) body t ∧ t { nx := fun _ H' => Q .non H', rt := Q } (L2.start N vs) H) :
    FnX P w K mg base (k + 1) f (PySem.W.fnOf name qual params body scope dV kV doc pm an cdv ct) ps sp where
  len := hl
  run := by
    intro A outer s0 H0 args us vs Q E room hg en bd rel promise
    have there : K.In s0.heap := en.mod.kin.keeps fun b o q => (en.bs b o q).1
    have nolim : s0.heap.NoLimit := en.mod.nolimit.keeps fun b o q => (en.bs b o q).1
    obtain ⟨t, body_t, at_start⟩ := hb A outer s0 H0 vs Q E (room.deeper _) hg promise
    refine codeAny_call_function room.depth (there _ _ lk) rfl S.co S.gen rfl (PySem.W.codeRec_of there hcd) (bd _ _ _ _ ?_)
    refine wpAny_newFunctionEnv_cells S.kind (fun y hy => ?_) fun env he s1 inC => ?_
    · obtain ⟨n, u⟩ := y
      exact (S.par n (List.of_mem_zip hy).1).imp id fun c => ⟨c, PySem.W.cellsFrom_some _ _ _ (.inl c)⟩
    · subst he
      have I1 := inv_start (CX := L2N.CX P w) (P := P) (w := w) (E := E) S room.hd en (hl _ _ _ _ promise) rel inC
      refine ⟨nolim.keeps inC.toInCall.keep, codeAny_func (wpAny_mono (body_t.run [] s1 _ H0 _ I1 at_start) ?_ fun _ _ z => z)⟩
      intro fl s2 hs
      cases fl with
      | brk => obtain ⟨_, _, _, z⟩ := hs; exact z.elim
      | cont => obtain ⟨_, _, _, z⟩ := hs; exact z.elim
      | next => obtain ⟨_, H2, I2, z⟩ := hs; exact ⟨.non, H2, I2.os, I2.bare, I2.base, I2.hok, rfl, z⟩
      | ret u => obtain ⟨v, _, H2, I2, rv, z⟩ := hs; exact ⟨v, H2, I2.os, I2.bare, I2.base, I2.hok, rv, z⟩
section
variable {P : Program} {w : World} {K : PySem.W.Frag} {mg : Str → Option Value} {base : Heap} {x qual : Str} {params : Arguments} {body : List Stmt} {scope : Scope} {kws : List (Str × V)} {q : Str × Option Str} {fd : FuncData}
theorem fn_DX {W : Wd} {N ps : List Str} {k : Nat} {f : DSf} (F : FunD K x qual params body scope [] kws (He.fAd K q) fd) (S : FnScope N ps scope)
    (hb : ∀ (A : Around) (outer : List PySem.Env) (s : Shared) (H : Hp) (E : XK), Room k (A.deeper (envOfC qual scope s.heap.objs.size (He.fAd K q) (.ref (He.codeOf K q)))) → A.guards = some [] →
      DSs W E (cxOf (L2N.CX P w) P w K mg base N qual scope (He.fAd K q) (.ref (He.codeOf K q)) A outer s H E) body f) : FnX P w K mg base (k + 1) (He.fAd K q) fd ps (spD W ps.length (dFn N.length f)) := by
  obtain ⟨oc, od, dV, kV, doc, pm, an, cdv, ct, osl, rfl, lk, hcd, _, _⟩ := F.ex
  obtain ⟨c, rfl⟩ := He.codeIn_ref hcd
  have hc : He.codeOf K q = c := He.codeOf_eq lk rfl
  rw [hc] at hb
  refine fnX_of lk hcd S (fun vs H Q E h => h.1) fun A outer s H vs Q E hr hg ⟨hl, xs, S0, μ, hv, hS, hp⟩ => ⟨_, hb A outer s H E hr hg, ?_⟩
  exact ⟨_, S0, μ, start_rel (N := N) hv, hS, post_fn hS hp⟩
/-- a def that may raise, as its callers take it -/
structure CalleeX (P : Program) (w : World) (K : PySem.W.Frag) (mg : Str → Option Value) (base : Heap) (W : Wd) (k : Nat) (x : Str) (n : Nat) (m : Opn) : Prop where
  ex : ∃ (fd : FuncData) (ps : List Str), ps.length = n ∧ FnX P w K mg base k (He.fAd K (x, none)) fd ps (spD W n m) ∧ (∀ (s : Shared) (us : List Value), us.length = n → BindsTo s fd ⟨us, []⟩ (ps.zip us)) ∧ PySem.W.keepIn K (.ref (He.fAd K (x, none))) = true
  glo : mg x = some (.ref (He.fAd K (x, none)))
theorem CalleeX.mono {W : Wd} {j k n : Nat} {m : Opn} (C : CalleeX P w K mg base W j x n m) (h : j ≤ k) : CalleeX P w K mg base W k x n m := by
  obtain ⟨⟨fd, ps, h1, h2, h3, h4⟩, g⟩ := C
  exact ⟨⟨fd, ps, h1, h2.mono h, h3, h4⟩, g⟩
theorem calleeX_of {W : Wd} {ps : List Str} {k : Nat} {m : Opn} {dflt : List (Str × V)} (F : FunD K x x params body scope [] dflt (He.fAd K (x, none)) fd) (h : FnX P w K mg base k (He.fAd K (x, none)) fd ps (spD W ps.length m)) (g : mg x = some (.ref (He.fAd K (x, none))))
    (hb : ∀ (kV doc pm : Value) (an : Option Addr) (cdv ct : Value) (us : List Value), us.length = ps.length → bindArgs (PySem.W.fnOf x x params body scope .none kV doc pm an cdv ct) ⟨us, []⟩ = pure (ps.zip us)) : CalleeX P w K mg base W k x ps.length m :=
  ⟨⟨fd, ps, rfl, h, fun s us hl => F.bindsA (ps := ps) hb s us hl, F.kp⟩, g⟩
theorem runX {X : Cx} {k : Nat} {f : Addr} {ps : List Str} {sp : Sp} {E : XK} {args : Args} {pins : List (Addr × Obj)} {σ : L2.St} {H : Hp} {s : Shared} {Q : VK} {us : List Value} {vs : List V} (F : FnX X.prog X.w X.K X.mg X.base k f fd ps sp) (hr : Room k X.A) (hG : X.A.guards = some []) (tk : L2N.Takes X fun cls d _ H => E cls d H)
    (hb : BindsTo s fd args (ps.zip us)) (I : Inv X pins σ H s) (r : Vals vs us) (h : sp vs H Q E) {first : List Value} {kw : List (Str × Value)} (ha : args = ⟨first, kw⟩) : wpAny (model X.prog X.w) X.A (call (.ref f) first kw) (EP X pins σ Q) X.xe s := by
  subst ha
  refine wpAny_call (codeAny_mono (F.run X.A X.stack s H _ us vs Q E hr hG I.env0 hb r h) fun res s' hq => ?_)
  match res, hq with
  | .error e, hq => exact tk e s' (L2N.XE.of_call I (fun _ _ _ z => z) hq)
  | .ok (.ret u), hq => exact I.after hq
  | .ok .next, hq => exact hq.elim
  | .ok .brk, hq => exact hq.elim
  | .ok .cont, hq => exact hq.elim
theorem de_callX {W : Wd} {E : XK} {X : Cx} {k n : Nat} {m : Opn} {p pos : Pos} {e : Expr} {es : List Expr} {As : DAf} (C : CalleeX X.prog X.w X.K X.mg X.base W k x n m) (hr : Room k X.A) (hG : X.A.guards = some []) (tk : L2N.Takes X fun cls d _ H => E cls d H) (hg : Gl X x) (ha : DA W E X (e :: es) As)
    (hdb : (x == ("__debug__" : Str)) = false := by decide) (he : starEach (e :: es) X.env = (false, eval e X.env) :: starEach es X.env := by rfl) (hpl : (backTo pos (starEach es X.env)).any (·.1) = false := by rfl) :
    DE W E X (.Call (.Name x p) (e :: es) [] pos) (dCallN n m As) := by
  obtain ⟨⟨fd, ps, h1, h2, h3, h4⟩, g⟩ := C
  refine ⟨fun pins s σ H Q I ⟨env, S, μ, hE, hS, hp⟩ => wpAny_Call_Name_kw (ld_glob I hg g ?_ hdb)⟩
  refine PySem.W.callWith_K (h₀ := X.base) I.ok.mod.kin h4 (thn (ha.run pos pins s σ H (fun vs H1 => spD W n m vs H1 Q E) I ⟨env, S, μ, hE, hS, hp.bind.imp fun xs S1 H1 μ1 l1 s1 p1 vs rvs => ?_⟩) fun us s1 ⟨vs, H1, I1, r, q⟩ => ⟨I1.kIn, ?_⟩) he hpl
  · split at p1
    · rename_i hn
      exact ⟨by rw [← rvs.length]; exact hn, xs, S1, μ1, rvs, s1, p1⟩
    · exact p1.elim
  · exact runX h2 hr hG tk (h3 s1 us (by rw [← r.length]; exact q.1)) I1 r q rfl
/-! ### raise X(e) -/
def dRaise (C b : Str) (f : DEf) : DSf := fun env S => (f env S).bind fun v S1 => match v with
  | .d x => .exc ⟨C, [(b, x)]⟩ S1
  | .r _ => .bad
end
end Dn
set_option Elab.async false
set_option linter.all false
set_option maxRecDepth 100000
set_option maxHeartbeats 2000000
/-! raise X(e) in a def of the layer -/
namespace Dn
open PySem PySem.Spec PyProof.Rows L2 GxR
section
variable {W : Wd} {E : XK} {X : Cx} {x b a : Str} {e : Expr} {f : DEf} {p pos pos' : Pos} {C fI : Addr} {k : Nat} {fd : FuncData}
theorem ds_raise (hc : X.calm = true) (tk : L2N.Takes X fun cls d _ H => E cls d H) (T : OexC X.K C) (iC : PySem.W.findIn X.K (.ref C) "__init__" = some (some (.ref fI))) (tI : PySem.W.typeIn X.K (.ref fI) = some (.type "function"))
    (F1 : FnOk X.prog X.w X.K X.mg X.base C8.CX0 k fI fd [a, b] (XS.spS C b)) (hr : Room (k + 1) X.A) (hb : Binds X.K fd [a, b] []) (hg : Gl X x) (hm : X.mg x = some (.ref C)) (hW : W.ca x = C) (he : DE W E X e f)
    (hdb : (x == ("__debug__" : Str)) = false := by decide) (hs : starEach [e] X.env = (false, eval e X.env) :: starEach [] X.env := by rfl) : DS W E X (.Raise (some (.Call (.Name x p) [e] [] pos)) none pos') (dRaise x b f) := by
  refine (XS.ps_raiseS (pos' := pos') (pos := pos) (p := p) hc tk T iC tI F1 hr hb hg hm (pa_cons he pa_nil hs) hdb hs).imp fun D σ H q => ?_
  obtain ⟨env, S, μ, hE, hS, hp⟩ := q
  have hp := (show Post W E H μ ((f env S).bind _) (QS W D) from hp).bind
  refine XS.tA_one (te := tE W E f) (fun σ H Q z => z) ⟨env, S, μ, hE, hS, hp.imp fun v S1 H1 μ1 l1 s1 p1 u rv d hd => ?_⟩ fun σ H Q R ⟨env, S, μ, hE, hS, z⟩ h => ⟨env, S, μ, hE, hS, z.imp fun v S1 H1 μ1 l1 s1 q u rv => h _ _ (q u rv)⟩
  cases v with
  | r n => exact p1.elim
  | d y =>
    have l := Le.new (μ := μ1) (o := .xd [(b, u)]) hd
    refine p1 _ μ1 _ _ l (s1.new hd) ⟨by rw [hW], d, _, rfl, outM.new s1.is hd, upd_same, u, [], rfl, ?_, rfl⟩
    exact RelD.mono l s1.is y u rv
end
end Dn
set_option Elab.async false
set_option linter.all false
set_option maxRecDepth 100000
set_option maxHeartbeats 4000000
/-! told's clauses with tuples; told and number_error in the layer -/
namespace Dn
open PySem PySem.Spec PyProof.Rows L2 GxR Gx Lx
section
open XS LamX
def suU (i : Nat) (t : Tc) : Addr → Value → Option Addr → TS := fun a cls d => tRet (tTup (tCons (tC (.str t.2.2)) (tCons (tXf a cls d t.1 t.2.1 (tVar i)) tNil)))
inductive HsU (X : Cx) (n : Str) : List ExceptHandler → List Tc → Prop
  | nil : HsU X n [] []
  | cons {x f w : Str} {c : Addr} {j : Nat} {ec : Nat} {q1 q2 q3 q4 q5 q6 q7 : Pos} {hs : List ExceptHandler} {l : List Tc} (nm : Names X x (.ref c)) (T : XfC X.K c) (no : PySem.W.findIn X.K (.ref c) f = some none) (tl : HsU X n hs l) :
      HsU X n (.ExceptHandler (some (.Name x q1)) (some n) [.Return (some (.Tuple [.Constant (.str w) j q3, .Attribute (.Name n q4) f q5] ec q6)) q7] q2 :: hs) ((c, f, w) :: l)
theorem HsU.ok {X : Cx} {n : Str} {i : Nat} (hi : X.N[i]? = some n) (hl : X.env.scope.names.lookup n = some .local) (hd : (n == ("__debug__" : Str)) = false) (hc : (n == ("__classdict__" : Str)) = false) {hs : List ExceptHandler} {l : List Tc} (h : HsU X n hs l) : HsL X n hs (l.map fun t => (.ref t.1, suU i t)) := by
  induction h with
  | nil => exact .nil
  | cons nm T no tl ih =>
    refine .cons nm (fun a o cls d pn hz hf => ?_) ih
    have v : ∀ q, PE (X.suite a ((a, o) :: pn)) (.Name n q) (tVar i) := fun q => pe_var hi (.inl hl) hd hc
    exact pss_one (ps_ret (pe_tup (pa_cons pe_str (pa_cons (pe_xf T no hz.zc hf (v _)) pa_nil))))
def pickU (K : PySem.W.Frag) (C : Addr) (b : Str) (v : V) (H : Hp) (Q : VK) : List Tc → Prop
  | [] => False
  | t :: r => ∃ z, PySem.W.exmOne K (.ref C) (.ref t.1) = some z ∧ (z = true → C = t.1 ∧ b = t.2.1 ∧ ∀ p, H p = none → Q (.ref p) (upd H p (.tup [.str t.2.2, v]))) ∧ (z = false → pickU K C b v H Q r)
def TTu (K : PySem.W.Frag) (l : List Tc) (w0 : Str) : (XK → Hp → VK → Prop) → Hp → VK → Prop := fun tl H Q =>
  tl (fun cls d H' => ∃ (C dd : Addr) (b : Str) (v : V), cls = .ref C ∧ d = some dd ∧ H' dd = some (.xd [(b, v)]) ∧ pickU K C b v H' Q l) H fun v H' => ∀ p, H' p = none → Q (.ref p) (upd H' p (.tup [.str w0, v]))
theorem pickU_was {K : PySem.W.Frag} {i : Nat} {D : Ends} {Q : VK} (hD : D.rt = Q) {C dd : Addr} {b : Str} {v : V} {σ : L2.St} {H : Hp} (hi : i < σ.length) (hx : H dd = some (.xd [(b, v)])) : ∀ {l : List Tc}, pickU K C b v H Q l → wAsL K i (fun _ _ _ _ => False) D (l.map fun t => (.ref t.1, suU i t)) (.ref C) (some dd) σ H
  | [], h => h
  | t :: r, ⟨z, e, yes, no⟩ => by
    refine ⟨z, e, fun hz a ha => ?_, fun hz => pickU_was hD hi hx (no hz)⟩
    obtain ⟨rfl, rfl, q⟩ := yes hz
    refine ⟨.ref a, by simp [hi], rfl, rfl, dd, [(t.2.1, v)], v, rfl, hx, by simp [List.lookup], ?_⟩
    exact ⟨by simp [sizeLine_eq], fun p hp => by rw [← hD] at q; exact q p hp⟩
theorem toldU_gives {X : Cx} {Ng : List Str} {x a n q w0 : Str} {sg : Scope} {g : Addr} {cdg : Value} {j0 i : Nat} {ec : Nat} {p1 p2 p3 p4 p5 p8 : Pos} {h0 : ExceptHandler} {hs : List ExceptHandler} {l : List Tc}
    (hN : Ng.Nodup) (hi : Ng[i]? = some n) (hl : sg.names.lookup n = some .local) (hd : (n == ("__debug__" : Str)) = false) (hc : (n == ("__classdict__" : Str)) = false)
    (hT : ∀ (s : Shared) (H : Hp), HsU (cxOf C8.CX0 X.prog X.w X.K X.mg X.base Ng x sg g cdg X.A X.stack s H C8.E0).nox n (h0 :: hs) l) (h00 : ∀ f : Addr, (L2.start Ng [V.ref f])[0]? = some (some (V.ref f))) (hlen : ∀ f : Addr, (L2.start Ng [V.ref f]).length = Ng.length) :
    XS.Gives0 X Ng x sg g cdg [.Try [.Return (some (.Tuple [.Constant (.str w0) j0 p4, .Call (.Name a p1) [] [] p2] ec p5)) p3] (h0 :: hs) [] [] p8] a q (TTu X.K l w0) := by
  intro f c' s H Q tl act hcode h
  have il : i < Ng.length := (List.getElem?_eq_some_iff.mp hi).1
  refine ⟨_, pss_one (XS.ps_tryL (X := (cxOf C8.CX0 X.prog X.w X.K X.mg X.base Ng x sg g cdg X.A X.stack s H C8.E0).nox) (i := i) (n := n) (Wout := fun _ _ _ _ => False)
      (tb := fun W D σ H => ∃ Ech : XK, (∀ cls d σ' H', σ'.length = Ng.length → Ech cls d H' → W cls d σ' H') ∧ σ[0]? = some (some (.ref f)) ∧ H c' = some (CodeO c' q) ∧ tl Ech H fun v H' => ∀ p, H' p = none → D.rt (.ref p) (upd H' p (.tup [.str w0, v])))
      rfl rfl hN hi hl XS.takes0N (fun W pn xe tk _ => ?_) ((hT s H).ok hi hl hd hc)), ?_⟩
  · refine ⟨fun pins s' σ H' D I h' => ?_⟩
    obtain ⟨Ech, hW, h1, h2, h3⟩ := h'
    have hp := act (fun cls d σ H => σ.length = Ng.length → W cls d σ H) pn xe Ech p1 p2 (XS.Takes.len tk) fun cls d σ' H' z hh => hW cls d σ' H' hh z
    exact (pss_one (ps_ret (pos := p3) (pe_tup (x1 := ec) (pos := p5) (pa_cons pe_str (pa_cons hp pa_nil))))).run pins s' σ H' D I ⟨h1, h2, by
      exact (congrArg (tl Ech H') (funext fun v => funext fun H1 => propext ⟨fun z => ⟨by simp [sizeLine_eq], z⟩, fun z => z.2⟩)).mp h3⟩
  · exact ⟨_, fun cls d σ' H' hh z => by
      obtain ⟨C, dd, b, v, rfl, rfl, hx, pk⟩ := z
      exact pickU_was rfl (by rw [hh]; exact il) hx pk, h00 f, hcode, h⟩
end
/-! ### in the layer -/
section
variable {W : Wd} {H H' : Hp} {μ : Mu} {S : Sto}
theorem Le.grown {P : Addr} {q : Str} (G : Grown P q H H') (hP : ∃ ps, H P = some (.tbl ps)) : Le H μ H' μ := ⟨Nat.le_refl _, fun _ _ e => .inl e, fun b o e n t => ⟨G.keep b o (fun z => by
  obtain ⟨ps, hP⟩ := hP
  rw [z, hP] at e
  cases e
  exact t ps rfl) e, n⟩⟩
theorem RelS.grown {P : Addr} {q : Str} (s : RelS W H μ S) (hm : (P, q) ∈ W.lams) (hu : ∀ p ∈ W.lams, p.1 = P → p.2 = q) (G : Grown P q H H') : RelS W H' μ S := by
  obtain ⟨ps0, hP, hrest⟩ := s.lam _ hm
  have hP : H P = some (.tbl ps0) := hP
  have l : Le H μ H' μ := Le.grown G ⟨_, hP⟩
  have ne : ∀ {b vs}, H b = some (.lst vs) → b ≠ P := fun e z => by rw [z, hP] at e; cases e
  refine ⟨s.len, s.nd, fun n c o e1 e2 => ?_, fun n a e => ?_, fun T hT => ?_, fun p hp => ?_, s.dis⟩
  · have ok := s.cell n c o e1 e2
    cases c with
    | dead => trivial
    | lst ds =>
      obtain ⟨a, vs, e3, e4, r⟩ := ok
      exact ⟨a, vs, e3, G.keep a _ (ne e4) e4, RelDs.mono l s.is ds vs r⟩
  · obtain ⟨vs, e4⟩ := s.is n a e
    exact ⟨vs, G.keep a _ (ne e4) e4⟩
  · obtain ⟨ps, e, k⟩ := s.tab T hT
    exact ⟨ps, G.keep T _ (fun z => s.dis _ hm (z ▸ hT)) e, k⟩
  · by_cases z : p.1 = P
    · have := hu p hp z
      rw [z, this]
      exact G.tab
    · obtain ⟨ps, e, k1, k2⟩ := s.lam p hp
      refine ⟨ps, G.keep _ _ z e, k1, fun pos cv hc => ?_⟩
      obtain ⟨c, e1, e2⟩ := k2 pos cv hc
      exact ⟨c, e1, G.keep c _ (fun y => by rw [y, hP] at e2; unfold LamX.CodeO at e2; cases e2) e2⟩
end
theorem relDs2 {W : Wd} {H : Hp} {μ : Mu} {a b : D} {u v : V} (h1 : RelD W H μ a u) (h2 : RelD W H μ b v) : RelDs W H μ [a, b] [u, v] := by
  simp only [RelDs]
  exact ⟨_, _, rfl, h1, _, _, rfl, h2, rfl⟩
/-- told: the handlers' classes, fields, words; rs: the classes that may come -/
def pickD (b : Str) (x : D) (S : Sto) (C : Str) : List (Str × Str × Str) → Out Val
  | [] => .bad
  | t :: r => if C = t.1 then (if b = t.2.1 then .ok (.d (.tup [.str t.2.2, x])) S else .bad) else pickD b x S C r
def dTold (rs : List Str) (cl : List (Str × Str × Str)) (w0 : Str) (f : DEf) : DEf := fun env S => match f env S with
  | .ok (.d x) S1 => .ok (.d (.tup [.str w0, x])) S1
  | .exc ⟨C, [(b, x)]⟩ S1 => if C ∈ rs then pickD b x S1 C cl else .bad
  | _ => .bad
/-- what the clauses know of the classes -/
def ExmK (K : PySem.W.Frag) (rs : List Str) (cl : List (Str × Str × Str)) : Prop := ∀ C ∈ rs, ∀ t ∈ cl, PySem.W.exmOne K (.ref (He.ga K C)) (.ref (He.ga K t.1)) = some (decide (C = t.1))
def exmB (K : PySem.W.Frag) (rs : List Str) (cl : List (Str × Str × Str)) : Bool := rs.all fun C => cl.all fun t => decide (PySem.W.exmOne K (.ref (He.ga K C)) (.ref (He.ga K t.1)) = some (decide (C = t.1)))
theorem exmB_ok {K : PySem.W.Frag} {rs : List Str} {cl : List (Str × Str × Str)} (h : exmB K rs cl = true) : ExmK K rs cl := fun C hC t ht => by
  have h1 := List.all_eq_true.mp h C hC
  exact of_decide_eq_true (List.all_eq_true.mp h1 t ht)
theorem pick_rel {W : Wd} {E : XK} {K : PySem.W.Frag} {C b : Str} {x : D} {v : V} {H : Hp} {μ : Mu} {S : Sto} {Q : VK} : ∀ {cl : List (Str × Str × Str)}, (∀ t ∈ cl, PySem.W.exmOne K (.ref (He.ga K C)) (.ref (He.ga K t.1)) = some (decide (C = t.1))) → RelS W H μ S → RelD W H μ x v → Post W E H μ (pickD b x S C cl) (QV W Q) →
    pickU K (He.ga K C) b v H Q (cl.map fun t => (He.ga K t.1, t.2.1, t.2.2))
  | [], _, _, _, h => h
  | t :: r, hx, s, rx, h => by
    refine ⟨_, hx t List.mem_cons_self, fun hz => ?_, fun hz => ?_⟩
    · have e : C = t.1 := of_decide_eq_true hz
      unfold pickD at h
      rw [if_pos e] at h
      split at h
      · rename_i eb
        refine ⟨by rw [e], eb, fun p hp => ?_⟩
        obtain ⟨k, q⟩ := post_tup (ds := [.str t.2.2, x]) (vs := [.str t.2.2, v]) h s hp (relDs2 (by simp [RelD]) rx)
        exact k _ q
      · exact h.elim
    · have e : C ≠ t.1 := of_decide_eq_false hz
      unfold pickD at h
      rw [if_neg e] at h
      exact pick_rel (fun t' h' => hx t' (List.mem_cons_of_mem _ h')) s rx h
section
variable {W : Wd} {E : XK} {X : Cx}
theorem de_told {x a : Str} {g c P : Addr} {k : Nat} {pg : Arguments} {bg : List Stmt} {sg : Scope} {fd : FuncData} {Ng : List Str} {params : Arguments} {body : Expr} {scope : Scope} {p lpos pos : Pos} {rs : List Str} {cl : List (Str × Str × Str)} {w0 : Str} {f : DEf}
    (eK : X.K = W.K) (ca : ∀ s, W.ca s = He.ga W.K s) (hx : ExmK X.K rs cl) (hmT : (P, X.env.qual ++ "<lambda>") ∈ W.lams) (hu : ∀ p ∈ W.lams, p.1 = P → p.2 = X.env.qual ++ "<lambda>")
    (hg : Gl X x) (hm : X.mg x = some (.ref g)) (F : FunD X.K x x pg bg sg [] [] g fd) (hb : ∀ (s : Shared) (u : Value), BindsTo s fd ⟨[u], []⟩ [(a, u)]) (Sg : FnScope Ng [a] sg) (hNg : Ng[0]? = some a) (hva : Vis sg a)
    (hG : ∀ cdg, XS.Gives0 X Ng x sg g cdg bg a (X.env.qual ++ "<lambda>") (TTu X.K (cl.map fun t => (He.ga X.K t.1, t.2.1, t.2.2)) w0))
    (TB : LamX.TabB X.base X.mg c P) (hcode : X.env.code = .ref c) (hr : Room (k + 2) X.A) (hg0 : X.A.guards = some []) (L : LamX.LamS X.env.scope scope) (hdef : defaultsOf params X.env = ([], []))
    (hbind : ∀ (q : Str) (cl : List (Str × Addr)) (pm cv ctv : Value), bindArgs (PySem.W.kla_fn "<lambda>" q params body scope cl pm cv ctv) ⟨[], []⟩ = pure [])
    (hbody : ∀ (A : Around) (outer : List PySem.Env) (s : Shared) (H : Hp) (E : XK) (f' c' : Addr), Room k (A.deeper (LamX.lamEnv X scope s.heap.objs.size f' c')) → A.guards = some [] → DE W E (lcN X A outer s H E scope f' c') body f)
    (hdb : (x == ("__debug__" : Str)) = false := by decide) (hd : (a == ("__debug__" : Str)) = false := by decide) (hcd : (a == ("__classdict__" : Str)) = false := by decide) :
    DE W E X (.Call (.Name x p) [.Lambda params body scope lpos] [] pos) (dTold rs cl w0 f) :=
  (pe_lam0 (P := P) hg hm F hb Sg hNg hva hG TB hcode hr hg0 L hdef hbind (fun A outer s H E f' c' h1 h2 => hbody A outer s H E f' c' h1 h2) hdb hd hcd).imp fun σ H Q ⟨env, S, μ, hE, hS, hp⟩ => by
    refine ⟨hS.lam _ hmT, fun H1 G => ?_⟩
    have hS1 := hS.grown hmT hu G
    have l1 : Le H μ H1 μ := Le.grown G (by obtain ⟨ps, e, _⟩ := hS.lam _ hmT; exact ⟨ps, e⟩)
    refine ⟨env, S, μ, hE.mono l1 hS.is, hS1, ?_⟩
    have hp := hp.le l1
    unfold dTold at hp
    cases e : f env S with
    | bad => rw [e] at hp; exact hp
    | ok x S1 =>
      rw [e] at hp
      intro H2 μ2 l2 s2 v rv p hp0
      cases x with
      | r n => exact hp.elim
      | d x =>
        obtain ⟨k, q⟩ := post_tup (ds := [.str w0, x]) (vs := [.str w0, v]) (hp.le l2) s2 hp0 (relDs2 (by simp [RelD]) rv)
        exact k _ q
    | exc y S1 =>
      rw [e] at hp
      obtain ⟨C, fs⟩ := y
      match fs, hp with
      | [], hp => exact hp.elim
      | _ :: _ :: _, hp => exact hp.elim
      | [(b, x)], hp =>
        dsimp only at hp
        split at hp
        · rename_i hC
          intro H2 μ2 u dd l2 s2 rx
          obtain ⟨eu, d, gs, ed, hd1, hd2, rf⟩ := rx
          simp only [RelFs] at rf
          obtain ⟨v, r, eg, rv, er⟩ := rf
          subst er eg
          refine ⟨He.ga X.K C, d, b, v, by rw [eu, ca, eK], ed, hd2, pick_rel (hx C hC) s2 rv (hp.le l2)⟩
        · exact hp.elim
end
end Dn
set_option Elab.async false
set_option linter.all false
set_option maxRecDepth 100000
set_option maxHeartbeats 4000000
/-! a def that asks a lambda with one parameter: () if w(v) and f(v) else (t, v) -/
namespace Dn
open PySem PySem.Spec PyProof.Rows L2 GxR Gx Lx
/-- errors are not let -/
def noX {α : Type} (r : Out α) : Out α := match r with
  | .ok a S => .ok a S
  | _ => .bad
theorem Post.noX {α : Type} {W : Wd} {E E' : XK} {H : Hp} {μ : Mu} {r : Out α} {K : α → Sto → Hp → Mu → Prop} (h : Post W E H μ (noX r) K) : Post W E' H μ r K := by
  cases r with
  | ok a S => exact h
  | exc x S => exact h.elim
  | bad => exact h
def dNumErr (mw : Opn) (t : Str) (fe f : DEf) : DEf := fun env S => (fe env S).bind fun v S1 => match v with
  | .d x => (noX (dB (fun _ S => mw [.d x] S) env S1)).bind fun c S2 => if c = true then (noX (dB f (env ++ [some (.d x)]) S2)).bind fun d S3 => if d = true then .ok (.d (.tup [])) S3 else .ok (.d (.tup [.str t, x])) S3 else .ok (.d (.tup [.str t, x])) S2
  | .r _ => .bad
/-- what the def makes of it -/
def TTn (W : Wd) (mw : Opn) (t : Str) : V → (V → Hp → VK → Prop) → Hp → VK → Prop := fun v tl H Q => ∃ (x : D) (S : Sto) (μ : Mu), RelD W H μ x v ∧ RelS W H μ S ∧ Post W C8.E0 H μ (dB (fun _ S => mw [.d x] S) [] S) fun c S2 H2 μ2 =>
  if c = true then tl v H2 (fun r H3 => ∃ d, r = .bl d ∧ if d = true then ∀ p, H3 p = none → Q (.ref p) (upd H3 p (.tup [])) else ∀ p, H3 p = none → Q (.ref p) (upd H3 p (.tup [.str t, v]))) else ∀ p, H2 p = none → Q (.ref p) (upd H2 p (.tup [.str t, v]))
theorem TTn.code {W : Wd} {mw : Opn} {t q : Str} {c' : Addr} {H : Hp} {v : V} {tl : V → Hp → VK → Prop} {Q : VK} (hc : H c' = some (LamX.CodeO c' q)) (h : TTn W mw t v tl H Q) : TTn W mw t v (fun u H' Q' => H' c' = some (LamX.CodeO c' q) ∧ tl u H' Q') H Q := by
  obtain ⟨x, S, μ, rx, hS, hp⟩ := h
  refine ⟨x, S, μ, rx, hS, hp.imp fun c S2 H2 μ2 l2 s2 p2 => ?_⟩
  cases c with
  | true =>
    rw [if_pos rfl] at p2 ⊢
    exact ⟨(l2.keep c' _ hc (outM_of hS.is fun vs z => by rw [hc] at z; unfold LamX.CodeO at z; cases z) LamX.codeO_ne).1, p2⟩
  | false =>
    rw [if_neg Bool.false_ne_true] at p2 ⊢
    exact p2
section
variable {W : Wd} {E : XK} {X : Cx}
theorem numerr_gives {x a th wh q t : Str} {sg : Scope} {g : Addr} {cdg : Value} {k j n1 n2 : Nat} {mw : Opn} {q1 q2 q3 q4 q5 q6 q7 q8 q9 q10 q11 q12 q13 : Pos}
    (C : Callee X.prog X.w X.K X.mg X.base W k wh 1 mw) (hr : ∀ (s : Shared), Room k (X.A.deeper (envOfC x sg s.heap.objs.size g cdg))) (hg0 : X.A.guards = some []) (hgw : sg.names.lookup wh = some .globalImplicit) (lth : sg.names.lookup th = some .local) (la : sg.names.lookup a = some .local)
    (hne : th ≠ a) (hdw : (wh == ("__debug__" : Str)) = false) (hdt : (th == ("__debug__" : Str)) = false) (hct : (th == ("__classdict__" : Str)) = false) :
    GivesTo1 X [th, a] x sg g cdg [.Return (some (.IfExp (.BoolOp .And [.Call (.Name wh q1) [.Name th q2] [] q3, .Call (.Name a q4) [.Name th q5] [] q6] q7) (.Tuple [] n1 q8) (.Tuple [.Constant (.str t) j q9, .Name th q10] n2 q11) q12)) q13] a q (TTn W mw t) := by
  intro f c' s H Q v tl act hc h
  have hgl : Gl (cxOf C8.CX0 X.prog X.w X.K X.mg X.base [th, a] x sg g cdg X.A X.stack s H C8.E0) wh := hgw
  have pv : ∀ q, PE (cxOf C8.CX0 X.prog X.w X.K X.mg X.base [th, a] x sg g cdg X.A X.stack s H C8.E0) (.Name th q) (tVar 0) := fun q => pe_var (i := 0) rfl (.inl lth) hdt hct
  have dv0 : ∀ q, DE W C8.E0 (cxOf C8.CX0 X.prog X.w X.K X.mg X.base [th, a] x sg g cdg X.A X.stack s H C8.E0) (.Name th q) (dVar 0) := fun q => de_var (i := 0) rfl (.inl lth) hdt hct
  have wt := dt_val (W := W) (de_call (X := cxOf C8.CX0 X.prog X.w X.K X.mg X.base [th, a] x sg g cdg X.A X.stack s H C8.E0) (p := q1) (pos := q3) C (hr s) hg0 hgl (da_cons (dv0 q2) da_nil (by rfl)) hdw (by rfl) (by rfl))
  refine ⟨_, pss_one (ps_ret (pe_ifExp (PW.pt (pw_and wt (pw_and1 (pt_val (act (.Name th q5) (tVar 0) q4 q6 (pv q5) rfl))))) (pe_tup pa_nil) (pe_tup (pa_cons pe_str (pa_cons (pv q10) pa_nil))))), ?_⟩
  obtain ⟨x, S, μ, rx, hS, hp⟩ := TTn.code hc h
  refine ⟨[some (.d x), none], S, μ, ⟨rfl, fun i y e => ?_⟩, hS, ?_⟩
  · match i, e with
    | 0, e => cases e; exact ⟨v, rfl, rx⟩
    | 1, e => cases e
  · refine Post.imp (show Post W C8.E0 H μ (dB (fun _ S => mw [.d x] S) [] S) _ from hp) fun c S2 H2 μ2 l2 s2 p2 => ?_
    show if c = true then _ else _
    cases c with
    | true =>
      rw [if_pos rfl] at p2 ⊢
      refine ⟨rfl, v, rfl, ?_⟩
      obtain ⟨p2c, p2⟩ := p2
      refine ⟨p2c, ?_⟩
      refine (congrArg (tl v H2) (funext fun r => funext fun H3 => propext ⟨fun z => ?_, fun z => ?_⟩)).mp p2
      · obtain ⟨d, e, z⟩ := z
        refine ⟨d, e, ?_⟩
        cases d with
        | true => rw [if_pos rfl] at z ⊢; exact ⟨by simp [sizeLine_eq], z⟩
        | false => rw [if_neg Bool.false_ne_true] at z ⊢; exact ⟨v, rfl, by simp [sizeLine_eq], z⟩
      · obtain ⟨d, e, z⟩ := z
        refine ⟨d, e, ?_⟩
        cases d with
        | true => rw [if_pos rfl] at z ⊢; exact z.2
        | false =>
          rw [if_neg Bool.false_ne_true] at z ⊢
          obtain ⟨v', e', z⟩ := z
          cases e'
          exact z.2
    | false =>
      rw [if_neg Bool.false_ne_true] at p2 ⊢
      exact ⟨v, rfl, by simp [sizeLine_eq], p2⟩
theorem de_numErr {x a0 a n t : Str} {g c P : Addr} {k : Nat} {pg : Arguments} {bg : List Stmt} {sg : Scope} {fd : FuncData} {Ng : List Str} {params : Arguments} {body e : Expr} {scope : Scope} {p lpos pos : Pos} {mw : Opn} {fe f : DEf}
    (hmT : (P, X.env.qual ++ "<lambda>") ∈ W.lams) (hu : ∀ p ∈ W.lams, p.1 = P → p.2 = X.env.qual ++ "<lambda>")
    (hg : Gl X x) (hm : X.mg x = some (.ref g)) (F : FunD X.K x x pg bg sg [] [] g fd) (hb : ∀ (s : Shared) (u w : Value), BindsTo s fd ⟨[u, w], []⟩ [(a0, u), (a, w)]) (Sg : FnScope Ng [a0, a] sg) (hNg : Ng[1]? = some a) (hva : Vis sg a)
    (hG : ∀ cdg, GivesTo1 X Ng x sg g cdg bg a (X.env.qual ++ "<lambda>") (TTn W mw t))
    (TB : LamX.TabB X.base X.mg c P) (hcode : X.env.code = .ref c) (hr : Room (k + 2) X.A) (hg0 : X.A.guards = some []) (L : LamP X.env.scope X.N n scope) (hdef : defaultsOf params X.env = ([], []))
    (hbind : ∀ (q : Str) (cl : List (Str × Addr)) (pm cv ctv u : Value), bindArgs (PySem.W.kla_fn "<lambda>" q params body scope cl pm cv ctv) ⟨[u], []⟩ = pure [(n, u)])
    (he : DE W E X e fe)
    (hbody : ∀ (A : Around) (outer : List PySem.Env) (s : Shared) (H : Hp) (f' c' : Addr), Room k (A.deeper (LamX.lamEnv X scope s.heap.objs.size f' c')) → A.guards = some [] → DE W C8.E0 (lcx X n A outer s H C8.E0 scope f' c') body f)
    (hdb : (x == ("__debug__" : Str)) = false := by decide) (hd : (a == ("__debug__" : Str)) = false := by decide) (hcd : (a == ("__classdict__" : Str)) = false := by decide)
    (hs1 : starEach [e, .Lambda params body scope lpos] X.env = (false, eval e X.env) :: starEach [.Lambda params body scope lpos] X.env := by rfl) :
    DE W E X (.Call (.Name x p) [e, .Lambda params body scope lpos] [] pos) (dNumErr mw t fe f) :=
  (pe_lam1 (P := P) hg hm F hb Sg hNg hva hG TB hcode hr hg0 L hdef hbind he hbody hdb hd hcd hs1).imp fun σ H Q ⟨env, S, μ, hE, hS, hp⟩ => by
    refine ⟨env, S, μ, hE, hS, hp.bind.imp fun v S1 H1 μ1 l1 s1 p1 vv rv => ?_⟩
    cases v with
    | r m => exact p1.elim
    | d x =>
      refine ⟨s1.lam _ hmT, fun H2 G => ?_⟩
      have s2 := s1.grown hmT hu G
      have l2 : Le H1 μ1 H2 μ1 := Le.grown G (by obtain ⟨ps, e, _⟩ := s1.lam _ hmT; exact ⟨ps, e⟩)
      have rx : RelD W H2 μ1 x vv := RelD.mono l2 s1.is x vv rv
      have hE2 := (hE.mono l1 hS.is).mono l2 s1.is
      have p2 := Post.noX (E' := C8.E0) (Post.bind (p1.le l2))
      have tupE : ∀ {S3 : Sto} {H3 : Hp} {μ3 : Mu}, RelS W H3 μ3 S3 → Post W E H3 μ3 (.ok (.d (.tup [])) S3) (QV W Q) → ∀ p, H3 p = none → Q (.ref p) (upd H3 p (.tup [])) := fun s3 h p hp0 => by
        obtain ⟨k, q⟩ := post_tup (ds := []) (vs := []) h s3 hp0 (by simp [RelDs])
        exact k _ q
      have tup2 : ∀ {S3 : Sto} {H3 : Hp} {μ3 : Mu}, Le H2 μ1 H3 μ3 → RelS W H3 μ3 S3 → Post W E H3 μ3 (.ok (.d (.tup [.str t, x])) S3) (QV W Q) → ∀ p, H3 p = none → Q (.ref p) (upd H3 p (.tup [.str t, vv])) := fun l3 s3 h p hp0 => by
        obtain ⟨k, q⟩ := post_tup (ds := [.str t, x]) (vs := [.str t, vv]) h s3 hp0 (relDs2 (by simp [RelD]) (RelD.mono l3 s2.is x vv rx))
        exact k _ q
      refine ⟨x, S1, μ1, rx, s2, Post.imp (show Post W C8.E0 H2 μ1 (dB (fun _ S => mw [.d x] S) [] S1) _ from p2) fun b S3 H3 μ3 l3 s3 p3 => ?_⟩
      cases b with
      | true =>
        rw [if_pos rfl] at p3 ⊢
        have p4 := Post.noX (E' := C8.E0) (Post.bind p3)
        have hE3 := hE2.mono l3 s2.is
        have rx3 : RelD W H3 μ3 x vv := RelD.mono l3 s2.is x vv rx
        refine (?_ : tE W C8.E0 f (σ ++ [some vv]) H3 _)
        have hE4 : RelE W H3 μ3 (env ++ [some (.d x)]) (σ ++ [some vv]) := by
          refine ⟨by simp [hE3.1], fun i y e => ?_⟩
          by_cases hi : i < env.length
          · rw [List.getElem?_append_left hi] at e
            rw [List.getElem?_append_left (hE3.1 ▸ hi)]
            exact hE3.2 i y e
          · rw [List.getElem?_append_right (Nat.le_of_not_lt hi)] at e
            rw [List.getElem?_append_right (by rw [← hE3.1]; exact Nat.le_of_not_lt hi), ← hE3.1]
            cases hk : i - env.length with
            | zero => rw [hk] at e; simp at e; subst e; exact ⟨vv, rfl, rx3⟩
            | succ j => rw [hk] at e; simp at e
        exact tE_test (W := W) (E := C8.E0) (f := f) (σ ++ [some vv]) H3 (fun d H4 => if d = true then ∀ p, H4 p = none → Q (.ref p) (upd H4 p (.tup [])) else ∀ p, H4 p = none → Q (.ref p) (upd H4 p (.tup [.str t, vv])))
          ⟨_, S3, μ3, hE4, s3, p4.imp fun d S4 H4 μ4 l4 s4 p5 => by
            cases d with
            | true => rw [if_pos rfl] at p5; simp only [QB, if_true]; exact tupE s4 p5
            | false => rw [if_neg Bool.false_ne_true] at p5; simp only [QB, Bool.false_eq_true, if_false]; exact tup2 (l3.trans l4) s4 p5⟩
      | false =>
        rw [if_neg Bool.false_ne_true] at p3 ⊢
        exact tup2 l3 s3 p3
end
end Dn
set_option Elab.async false
set_option linter.all false
set_option maxRecDepth 100000
set_option maxHeartbeats 4000000
/-! texts in the layer: str(x), f-strings, join -/
namespace Dn
open PySem PySem.Spec PyProof.Rows L2 GxR Gx
section
variable {W : Wd} {E : XK} {X : Cx} {pos : Pos}
def bStr : Val → Sto → Out Val := fun x S => match x with
  | .d (.int i) => if i.natAbs.log2 < 1920 then .ok (.d (.str (toString i))) S else .bad
  | .d (.str a) => .ok (.d (.str a)) S
  | _ => .bad
def rStrA : List V → Hp → VK → Prop := fun xs H Q => (∃ i, xs = [.int i] ∧ i.natAbs.log2 < 1920 ∧ Q (.str (toString i)) H) ∨ ∃ a, xs = [.str a] ∧ Q (.str a) H
theorem call_strA : CallR X (.type "str") rStrA := fun pins s σ H xs us Q I r h => by
  rcases h with h | h
  · exact call_str_int pins s σ H xs us Q I r h
  · exact SkE.call_str_str pins s σ H xs us Q I r h
theorem dc_str : DCall W E rStrA (o1 bStr) := dcall1 fun x S H μ v Q s rv p => by
  unfold bStr at p
  split at p
  · rename_i i
    split at p
    · rename_i c
      exact .inl ⟨i, by rw [int_rel rv], c, p.at_ s _ (rel_str _)⟩
    · exact p.elim
  · rename_i a
    exact .inr ⟨a, by rw [str_rel rv], p.at_ s _ (rel_str _)⟩
  · exact p.elim
/-! ### f-strings -/
def dFmt (f : DEf) : DEf := fun env S => (f env S).bind fun x S1 => match x with
  | .d (.str y) => if y.length ≤ szL then .ok (.d (.str y)) S1 else .bad
  | .d (.int i) => if i.natAbs.log2 < 1920 then .ok (.d (.str (toString i))) S1 else .bad
  | _ => .bad
theorem de_fmt {e : Expr} {f : DEf} (he : DE W E X e f) : DE W E X (.FormattedValue e (-1) none pos) (dFmt f) := (pe_fmt he).imp fun σ H Q ⟨env, S, μ, hE, hS, hp⟩ => by
  refine ⟨env, S, μ, hE, hS, hp.bind.imp fun x S1 H1 μ1 l1 s1 p1 v rv => ?_⟩
  try dsimp only at p1
  split at p1
  · rename_i y
    split at p1
    · rename_i c
      exact .inl ⟨y, str_rel rv, by rw [szL_eq]; exact c, p1.at_ s1 _ (rel_str _)⟩
    · exact p1.elim
  · rename_i i
    split at p1
    · rename_i c
      exact .inr ⟨i, int_rel rv, c, p1.at_ s1 _ (rel_str _)⟩
    · exact p1.elim
  · exact p1.elim
def dJs : List DEf → Str → Env → Sto → Out Str
  | [], acc, _, S => .ok acc S
  | f :: fs, acc, env, S => (f env S).bind fun x S1 => match x with
    | .d (.str y) => if (acc ++ y).length ≤ szL then dJs fs (acc ++ y) env S1 else .bad
    | _ => .bad
def dJoined (fs : List DEf) : DEf := fun env S => (dJs fs Str.empty env S).bind fun y S1 => .ok (.d (.str y)) S1
inductive DJ (W : Wd) (E : XK) (X : Cx) : List Expr → List DEf → Prop where
  | nil : DJ W E X [] []
  | cons {e : Expr} {f : DEf} {es : List Expr} {fs : List DEf} (h : DE W E X e f) (r : DJ W E X es fs) : DJ W E X (e :: es) (f :: fs)
theorem DJ.pj {es : List Expr} {fs : List DEf} (h : DJ W E X es fs) : PJ X es (fs.map fun f => tE W E f) := by
  induction h with
  | nil => exact .nil
  | cons h r ih => exact .cons h ih
theorem tJs_of {env : Env} {σ : L2.St} {Q : Str → Hp → Prop} : ∀ {fs : List DEf} {acc : Str} {S : Sto} {H : Hp} {μ : Mu}, RelE W H μ env σ → RelS W H μ S → Post W E H μ (dJs fs acc env S) (fun y _ H' _ => Q y H') → tJs (fs.map fun f => tE W E f) acc σ H Q
  | [], acc, S, H, μ, hE, hS, hp => hp.at_ hS
  | f :: fs, acc, S, H, μ, hE, hS, hp => by
    refine ⟨env, S, μ, hE, hS, hp.bind.imp fun x S1 H1 μ1 l1 s1 p1 v rv => ?_⟩
    try dsimp only at p1
    split at p1
    · rename_i y
      split at p1
      · rename_i c
        exact ⟨y, str_rel rv, by rw [szL_eq]; exact c, tJs_of (hE.mono l1 hS.is) s1 p1⟩
      · exact p1.elim
    · exact p1.elim
theorem de_joined {v1 v2 : Expr} {rest : List Expr} {fs : List DEf} (h : DJ W E X (v1 :: v2 :: rest) fs) : DE W E X (.JoinedStr (v1 :: v2 :: rest) pos) (dJoined fs) := (pe_joined h.pj).imp fun σ H Q ⟨env, S, μ, hE, hS, hp⟩ =>
  tJs_of hE hS (Post.bind hp |>.imp fun y S1 H1 μ1 l1 s1 p1 => p1.at_ s1 _ (rel_str _))
/-! ### join -/
def txts : List D → Option (List Str)
  | [] => some []
  | .str y :: ds => (txts ds).map (y :: ·)
  | _ :: _ => none
theorem txts_rel {H : Hp} {μ : Mu} : ∀ {ds : List D} {ys : List Str} {vs : List V}, txts ds = some ys → RelDs W H μ ds vs → vs = ys.map V.str
  | [], ys, vs, h, r => by
    simp only [txts, Option.some.injEq] at h
    simp only [RelDs] at r
    subst h r
    rfl
  | d :: ds, ys, vs, h, r => by
    simp only [RelDs] at r
    obtain ⟨v, vr, rfl, rd, rr⟩ := r
    cases d with
    | str y =>
      simp only [txts, Option.map_eq_some_iff] at h
      obtain ⟨zs, hz, rfl⟩ := h
      simp only [RelD] at rd
      rw [rd, txts_rel hz rr]
      rfl
    | _ => simp [txts] at h
def joinC (a : Str) (ds : List D) (S : Sto) : Out Val := match txts ds with
  | some ys => if (ys.map (·.length)).sum + ys.length * a.length ≤ 16777216 then .ok (.d (.str (Txt.join a ys))) S else .bad
  | none => .bad
def joinV (a : Str) (y : Val) (S : Sto) : Out Val := match y with
  | .d (.lst ds) => joinC a ds S
  | .d (.tup ds) => joinC a ds S
  | _ => .bad
def dJoin (fo fe : DEf) : DEf := fun env S => (fo env S).bind fun x S1 => match x with
  | .d (.str a) => (fe env S1).bind fun y S2 => joinV a y S2
  | _ => .bad
theorem de_join {o e : Expr} {fo fe : DEf} {apos : Pos} (hK : X.K = W.K) (ho : DE W E X o fo) (he : DE W E X e fe) (hs : starEach [e] X.env = [(false, eval e X.env)] := by rfl) (hbase : attributeBase o "join" X.env (eval o X.env) = eval o X.env := by rfl) (hline : (apos.endLine == pos.line) = true := by rfl) :
    DE W E X (.Call (.Attribute o "join" apos) [e] [] pos) (dJoin fo fe) := (pe_join ho he hs hbase hline).imp fun σ H Q ⟨env, S, μ, hE, hS, hp⟩ => by
  refine ⟨env, S, μ, hE, hS, hp.bind.imp fun x S1 H1 μ1 l1 s1 p1 v rv => ?_⟩
  try dsimp only at p1
  split at p1
  · rename_i a
    refine ⟨⟨a, str_rel rv⟩, env, S1, μ1, hE.mono l1 hS.is, s1, p1.bind.imp fun y S2 H2 μ2 l2 s2 p2 u ru => ?_⟩
    have fin : ∀ {ds : List D} {vs : List V}, RelDs W H2 μ2 ds vs → Post W E H2 μ2 (joinC a ds S2) (QV W Q) → ∃ ys : List Str, vs = ys.map V.str ∧ (ys.map (·.length)).sum + ys.length * a.length ≤ 16777216 ∧ Q (.str (Txt.join a ys)) H2 := fun r p => by
      unfold joinC at p
      split at p
      · rename_i ys e0
        split at p
        · rename_i c
          exact ⟨ys, txts_rel e0 r, c, p.at_ s2 _ (rel_str _)⟩
        · exact p.elim
      · exact p.elim
    cases y with
    | r n => exact p2.elim
    | d y =>
      cases y with
      | lst ds =>
        have ru := ru
        simp only [RelV', RelD] at ru
        obtain ⟨b, vs, rfl, q, r⟩ := ru
        obtain ⟨ys, rfl, c, z⟩ := fin r p2
        exact ⟨a, b, ys, str_rel rv, rfl, .inl (hK ▸ q.sq (W := W)), c, z⟩
      | tup ds =>
        have ru := ru
        simp only [RelV', RelD] at ru
        obtain ⟨b, vs, rfl, q, r⟩ := ru
        obtain ⟨ys, rfl, c, z⟩ := fin r p2
        exact ⟨a, b, ys, str_rel rv, rfl, .inr (hK ▸ q), c, z⟩
      | _ => exact p2.elim
  · exact p1.elim
end
end Dn
set_option Elab.async false
set_option linter.all false
set_option maxRecDepth 100000
set_option maxHeartbeats 4000000
/-! defs that may raise, called by keywords; raise by an error's facts; what a context takes -/
namespace Dn
open PySem PySem.Spec PyProof.Rows L2 GxR Gx Lx
section
variable {P : Program} {w : World} {K : PySem.W.Frag} {mg : Str → Option Value} {base : Heap} {x qual : Str} {params : Arguments} {body : List Stmt} {scope : Scope} {kws : List (Str × V)} {q : Str × Option Str} {fd : FuncData}
structure CalleeKX (P : Program) (w : World) (K : PySem.W.Frag) (mg : Str → Option Value) (base : Heap) (W : Wd) (k : Nat) (x : Str) (n j : Nat) (ks : List Str) (pr : List Nat) (m : Opn) : Prop where
  ex : ∃ (fd : FuncData) (ps : List Str), ps.length = n ∧ FnX P w K mg base k (He.fAd K (x, none)) fd ps (spD W n m) ∧
    (∀ (s : Shared) (us ws : List Value), us.length = j → ws.length = ks.length → BindsTo s fd ⟨us, ks.zip ws⟩ (ps.zip (permL pr (us ++ ws)))) ∧ PySem.W.keepIn K (.ref (He.fAd K (x, none))) = true
  glo : mg x = some (.ref (He.fAd K (x, none)))
theorem CalleeKX.mono {W : Wd} {i k n j : Nat} {ks : List Str} {pr : List Nat} {m : Opn} (C : CalleeKX P w K mg base W i x n j ks pr m) (h : i ≤ k) : CalleeKX P w K mg base W k x n j ks pr m := by
  obtain ⟨⟨fd, ps, h1, h2, h3, h4⟩, g⟩ := C
  exact ⟨⟨fd, ps, h1, h2.mono h, h3, h4⟩, g⟩
theorem calleeKX_of {W : Wd} {ps : List Str} {k j : Nat} {m : Opn} {ks : List Str} {pr : List Nat} {dflt : List (Str × V)} (F : FunD K x x params body scope [] dflt (He.fAd K (x, none)) fd) (h : FnX P w K mg base k (He.fAd K (x, none)) fd ps (spD W ps.length m)) (g : mg x = some (.ref (He.fAd K (x, none))))
    (hb : ∀ (kV doc pm : Value) (an : Option Addr) (cdv ct : Value) (us ws : List Value), us.length = j → ws.length = ks.length → bindArgs (PySem.W.fnOf x x params body scope .none kV doc pm an cdv ct) ⟨us, ks.zip ws⟩ = pure (ps.zip (permL pr (us ++ ws)))) : CalleeKX P w K mg base W k x ps.length j ks pr m := by
  refine ⟨⟨fd, ps, rfl, h, fun s us ws h1 h2 => ?_, F.kp⟩, g⟩
  obtain ⟨oc, od, dV, kV, doc, pm, an, cdv, ct, osl, rfl, lk, hcd, hD, hK⟩ := F.ex
  rcases hD with ⟨_, rfl⟩ | ⟨e, _⟩
  · exact .of_eq (hb kV doc pm an cdv ct us ws h1 h2)
  · exact absurd rfl e
theorem de_callKX0 {W : Wd} {E : XK} {X : Cx} {k n l : Nat} {m : Opn} {p pos : Pos} {kws : List Keyword} {ks : List Str} {pr : List Nat} {Ks : DAf} (C : CalleeKX X.prog X.w X.K X.mg X.base W k x n 0 ks pr m) (hr : Room k X.A) (hG : X.A.guards = some []) (tk : L2N.Takes X fun cls d _ H => E cls d H) (hg : Gl X x)
    (hkw : DK W E X kws Ks) (hall : (backToKw pos (keywordEach kws X.env)).all (·.1.isSome) = true := by rfl) (hks : (backToKw pos (keywordEach kws X.env)).filterMap (·.1) = ks := by rfl) (hl : ks.length = l := by rfl)
    (hdb : (x == ("__debug__" : Str)) = false := by decide)
    (hpl : ((backTo pos (starEach [] X.env)).any (·.1) || (backToKw pos (keywordEach kws X.env)).any (·.1.isNone)) = false := by rfl) : DE W E X (.Call (.Name x p) [] kws pos) (dCallK n 0 l pr m dNil Ks) := by
  subst hl
  obtain ⟨⟨fd, ps, h1, h2, h3, h4⟩, g⟩ := C
  refine ⟨fun pins s σ H Q I h => wpAny_Call_Name_kw (ld_glob I hg g ?_ hdb)⟩
  have h' := tkw h
  refine PySem.W.callWith_KW0 (h₀ := X.base) (first := []) I.ok.mod.kin h4 hall ?_ hpl
  obtain ⟨env, S, μ, hE, hS, hp⟩ := h'
  have q := hp.at_ hS [] rfl
  refine thn (hkw.run pos pins s σ H _ I q) fun ws s2 ⟨zs, H2, I2, rz, l1, l2, q2⟩ => ⟨I2.kIn, ?_⟩
  rw [hks]
  exact runX h2 hr hG tk (h3 s2 [] ws rfl (by rw [← rz.length]; exact l2)) I2 (vals_perm (show Vals ([] ++ zs) ([] ++ ws) from by simpa using rz) pr) q2 rfl
end
theorem ds_raiseE {W : Wd} {E : XK} {X : Cx} {x b : Str} {e : Expr} {f : DEf} {p pos pos' : Pos} (G : EK.ErrK X.prog X.w X.K X.mg x b) (hr : Room 2 X.A) (hc : X.calm = true) (tk : L2N.Takes X fun cls d _ H => E cls d H) (hg : Gl X x) (hW : W.ca x = He.ga X.K x) (he : DE W E X e f)
    (hdb : (x == ("__debug__" : Str)) = false := by decide) (hs : starEach [e] X.env = (false, eval e X.env) :: starEach [] X.env := by rfl) : DS W E X (.Raise (some (.Call (.Name x p) [e] [] pos)) none pos') (dRaise x b f) := by
  obtain ⟨fd, F1, hb⟩ := G.F1 X.base 0
  exact ds_raise hc tk G.T G.iC G.tI F1 hr hb hg G.glo hW he hdb hs
theorem tabB_lam {base : Heap} {mg : Str → Option Value} {c P : Addr} (t : TabB base mg c P) : LamX.TabB base mg c P := ⟨t.1, t.2, t.3⟩
/-- no code object is the table of another one's -/
def disB (K : PySem.W.Frag) (ts ls : List He.Defn) : Bool := ls.all fun q => ts.all fun p => !decide ((He.cT K q).2 = (He.cT K p).2)
theorem disB_ok {K : PySem.W.Frag} {ts ls : List He.Defn} (h : disB K ts ls = true) : ∀ q ∈ ls, ∀ p ∈ ts, (He.cT K q).2 ≠ (He.cT K p).2 := fun q hq p hp e => by
  have h1 := List.all_eq_true.mp (List.all_eq_true.mp h q hq) p hp
  rw [decide_eq_true e] at h1
  cases h1
end Dn
set_option Elab.async false
set_option linter.all false
set_option maxRecDepth 100000
set_option maxHeartbeats 2000000
/-! tuples walked and taken apart while an error is handled -/
namespace Hx
open PySem PySem.Spec PyProof.Rows L2 HotX L2H
section
variable {prog : Program} {w : World} {A : Around} {E : Value → Shared → Prop} {s : Shared}
theorem hot_ne {x1 it t : Addr} {i : Nat} {h : Heap} (hot : HotAt A x1 h) (hit : IsTupIter h it t i) : x1 ≠ it := by
  rintro rfl
  obtain ⟨_, o, vs, e, d, c⟩ := hot
  obtain ⟨o2, e2, _, d2⟩ := hit
  rw [e] at e2
  cases e2
  rw [d] at d2
  cases d2
  simp at c
theorem tupEnd_hot {it t x1 : Addr} {i : Nat} {items : Array Value} {Q : Option Value → Shared → Prop} (hot : HotAt A x1 s.heap) (hit : IsTupIter s.heap it t i) (ht : IsTup s.heap t items) (hx : items[i]? = none)
    (hQ : ∀ h', Heap.ExtBut it s.heap h' → Q none { s with heap := h' }) : wpAny (model prog w) A (pyNext (.ref it)) Q E s := by
  have hne := hot_ne hot hit
  obtain ⟨hh, o1, vs1, h1, d1, c1⟩ := hot
  have typ := hit.typeIs
  obtain ⟨o, ho, hc, hd⟩ := hit
  obtain ⟨ol, hol, _, nl, hdl⟩ := ht
  unfold pyNext
  refine wpAny_bind (wpAny_attempt (wpAny_callSpecial?_slot (name := Str.ofString "__next__") typ slot_tupleiter_next
    (wpAny_call_entry slot_tupleiter_next typ entry_tupleiter_next ?_ (args_tupleiter_next _))))
  change wpAny _ _ (field (.ref it) 0 >>= _) _ _ s
  refine wpAny_bind (wpAny_field ho hd (x := .ref t) rfl ?_)
  change wpAny _ _ (if (Value.ref t == Value.none) = true then _ else _) _ _ s
  rw [if_neg (show ¬ ((Value.ref t == Value.none) = true) from Bool.false_ne_true)]
  change wpAny _ _ (field (.ref it) 1 >>= _) _ _ s
  refine wpAny_bind (wpAny_field ho hd (x := .int i 0) rfl ?_)
  change wpAny _ _ (seqItems? (.ref t) >>= _) _ _ s
  refine wpAny_bind (wpAny_seqItems hol hdl ?_)
  simp only [Int.toNat_natCast, hx]
  refine wpAny_bind (wpAny_rule (wpAny_bind (wpAny_setField ho hd (by simp) ?_)))
  change wpAny _ _ (newExc (.type "StopIteration") [] >>= _) _ _ _
  refine wpAny_bind ?_
  simp only [newExc, newTuple]
  refine wpAny_bind (wpAny_newObj_type ?_ (by size_fits))
  refine wpAny_bind (m := firstArgMember _ _) (wpAny_of_eq (a := Value.none) (by first | rfl | (simp only [firstArgMember]; rfl)) ?_)
  refine wpAny_newObj_type ?_ (by size_fits)
  have g1 : ∀ f : Obj → Obj, (s.heap.update it f).get? x1 = some o1 := fun f => by rw [Heap.get?_update_other _ _ (Ne.symm hne)]; exact h1
  refine raiseNew_hot ⟨hh, o1, vs1, Heap.get?_push_of_some _ (Heap.get?_push_of_some _ (g1 _)), d1, c1⟩ (Nat.ne_of_lt (Heap.lt_size (Heap.get?_push_of_some _ (g1 _)))) (Heap.get?_push_size _ rfl) rfl (by first | (simp; done) | (simp; omega) | (simp only [Array.size_append]; simp; omega)) ?_
  refine wpAny_bind (wpAny_isInstance (T := "StopIteration") (b := true) ⟨_, Heap.get?_update_self _ (Heap.get?_push_size _ rfl) rfl, rfl⟩ isSubtype_stop ?_)
  refine wpAny_pure (hQ _ ?_)
  intro b ob nb e
  have q1 : ∀ (f : Obj → Obj) (y : Obj), ((s.heap.update it f).push y).get? b = some ob := fun f y => Heap.get?_push_of_some _ (by rw [Heap.get?_update_other _ _ (Ne.symm nb)]; exact e)
  rw [Heap.get?_update_other _ _ (Nat.ne_of_gt (Heap.lt_size (q1 _ _)))]
  exact Heap.get?_push_of_some _ (q1 _ _)
theorem unpack_hot {t x1 : Addr} {items : Array Value} {Q : List Value → Shared → Prop} (hot : HotAt A x1 s.heap) (ht : IsTup s.heap t items)
    (hQ : ∀ h', Heap.ExtBut s.heap.objs.size s.heap h' → Q items.toList { s with heap := h' }) : wpAny (model prog w) A (unpackItems (.ref t) items.size none) Q E s := by
  have hlt : t ≠ s.heap.objs.size := by
    obtain ⟨o, ho, _⟩ := ht
    exact Nat.ne_of_lt (Heap.lt_size ho)
  unfold unpackItems
  refine wpAny_bind ?_
  unfold notIterableAtAll
  refine wpAny_bind (wpAny_specialOf ht.typeIs slot_tuple_iter.lookup (wpAny_pure ?_))
  simp only [Bool.false_eq_true, if_false]
  refine wpAny_bind (wpAny_holding (iter_tuple ht (wpAny_bind (wpAny_holding (draw_tuple hlt items.size 0 _ _ ⟨_, Heap.get?_push_size _ rfl, rfl, rfl⟩ (ht.push _) (by omega) fun h₁ hit₁ hs₁ => ?_)))))
  rw [show List.take items.size (List.drop 0 items.toList) = items.toList from by rw [List.drop_zero]; exact List.take_of_length_le (by simp), if_neg (by simp)]
  obtain ⟨hh, o1, vs1, h1, d1, c1⟩ := hot
  have hn1 : x1 ≠ s.heap.objs.size := Nat.ne_of_lt (Heap.lt_size h1)
  have hot1 : HotAt A x1 h₁ := ⟨hh, o1, vs1, hs₁.extBut x1 o1 hn1 (Heap.get?_push_of_some _ h1), d1, c1⟩
  refine wpAny_bind (wpAny_holding (tupEnd_hot hot1 hit₁ ((ht.push _).extBut hs₁.extBut hlt) (by simp) fun h₂ he₂ => ?_))
  simp only [Option.isSome_none, Bool.false_eq_true, if_false]
  exact wpAny_pure (hQ h₂ fun b o hb e => he₂ b o hb (hs₁.extBut b o hb (Heap.get?_push_of_some _ e)))
end
section
variable {X : Cx} {tg : Expr} {pos : Pos}
theorem turn_hot {P : Program} {w : World} {K : PySem.W.Frag} {tg : Expr} (a it : Addr) : TurnH P w K tg (Itt K a) [it] it (fun i h => IsTupIter h it a i) where
  mem := List.mem_singleton.mpr rfl
  obj := fun i h st b hb => by
    cases List.mem_singleton.mp hb
    obtain ⟨o, e, c, d⟩ := st
    exact ⟨o, e, fun v z => by rw [d] at z; cases z⟩
  keep := fun i h h' st k => by
    obtain ⟨o, e, c, d⟩ := st
    exact ⟨o, k it (List.mem_singleton.mpr rfl) o e, c, d⟩
  item := by
    intro X hP hw hK hc i pins s σ H E I hf st hg
    subst hP hw hK
    obtain ⟨xs, x, hq, hx⟩ := hg
    obtain ⟨its, rv, p, hz⟩ := I.tuple hq
    obtain ⟨u, hu, ru⟩ := rv.get hx
    obtain ⟨f0, f1, f2, f3, f4, f5⟩ := hf it (List.mem_singleton.mpr rfl)
    refine next_tuple_item st p (x := u) (by simpa using hu) fun h' st' sb => ?_
    have I1 : Inv X pins σ H { s with heap := h' } := I.turned (t' := s.toks) (fun b o hb e => (sb.2 b hb).trans e) f0 f1 f3 f4 f5
    obtain ⟨o, e, c, d⟩ := id st'
    exact ⟨u, rfl, go_of (s := { s with heap := h' }) e c d (by decide) ⟨x, H, I1, ru, ⟨rfl, fun ys hy => by rw [I.tuple_inj hy hq]; exact hx⟩, st', fun b hb => (hf b hb).1⟩⟩
  done := by
    intro X hP hw hK hc i pins s σ H E I hf st hg
    subst hP hw hK
    obtain ⟨xs, hq, hx⟩ := hg
    obtain ⟨its, rv, p, hz⟩ := I.tuple hq
    obtain ⟨f0, f1, f2, f3, f4, f5⟩ := hf it (List.mem_singleton.mpr rfl)
    have hl := rv.length
    obtain ⟨x1, hot⟩ := hc.at I
    exact tupEnd_hot hot st p (by simp; omega) fun h' eb => ⟨rfl, I.turned (t' := s.toks) (fun b o hb e => eb b o hb e) f0 f1 f3 f4 f5⟩
  self := fun _ _ _ _ _ st h => wpAny_pyIter_tupleiter st h
theorem piH_tup {l : Expr} {tl : TE} (hl : PE X l tl) : PIH X tg l (iTup X.K tl) := by
  refine ⟨fun pins s σ H R I h => thn (hl.run pins s σ H _ I h) fun v s1 ⟨x, H1, I1, r1, a, ex, ⟨xs, hq⟩, q⟩ => ?_⟩
  subst ex
  cases r1
  obtain ⟨its, rv, p, hz⟩ := I1.tuple hq
  refine iter_tuple p ⟨s1.heap.objs.size, [s1.heap.objs.size], _, _, H1, rfl, I1.kept (t' := s1.toks) fun b o e => Heap.get?_push_of_some _ e, turn_hot a _, ⟨_, Heap.get?_push_size _ rfl, rfl, rfl⟩, fun b hb => ?_, q⟩
  rw [List.mem_singleton.mp hb]
  exact I1.fpOk (Nat.le_refl _) (I1.hok.fresh (Nat.le_refl _))
theorem pgH_tup {es : List Expr} {k : Nat} {t : TGs} {n : Nat} (hc : HotC X) (h : PGs X es t)
    (hn : (assignEach es X.env).length = n := by rfl) (hst : (assignEach es X.env).findIdx? (·.1) = none := by rfl) : PG X (.Tuple es k pos) (gTup X.K n t) := by
  refine ⟨fun pins s σ H v u Q I r ⟨a, xs, e1, hq, hl, hw⟩ => ?_⟩
  subst e1
  cases r
  obtain ⟨its, rv, ht, hz⟩ := I.tuple hq
  obtain ⟨x1, hot⟩ := hc.at I
  rw [assign_Tuple]
  refine wpAny_bind (wpAny_standAt ?_)
  unfold unpack
  have hn' : (assignEach es X.env).length = its.toArray.size := by simp [hn, ← hl, rv.length]
  rw [hn', hst]
  refine wpAny_bind (wpAny_holding (unpack_hot hot ht fun h' hx => ?_))
  have I1 : Inv X pins σ H { s with heap := h' } := I.kept (t' := s.toks) fun b o e => hx b o (Nat.ne_of_lt (Heap.lt_size e)) e
  exact h.run pins _ σ H xs _ Q I1 (by simpa using rv) hw
end
end Hx
set_option Elab.async false
set_option linter.all false
set_option maxRecDepth 100000
set_option maxHeartbeats 2000000
/-! the error that is handled, as data: isinstance, its field; loops there -/
namespace Dn
open PySem PySem.Spec PyProof.Rows L2 GxR Gx HotX L2H Hx
structure HotW (W : Wd) (X : Cx) (a : Addr) (c : Str) (dd : Addr) (oe : Obj) : Prop where
  hot : W.hot = some (a, c, dd)
  pin : (a, oe) ∈ X.pn
  hz : Zc (.ref (W.ca c)) (some dd) oe
  hf : ∃ vs, oe.data = .fields vs
  hc : HotC X
section
variable {W : Wd} {E : XK} {X : Cx} {a dd : Addr} {c : Str} {oe : Obj} {H : Hp} {μ : Mu} {pos p : Pos} {e : Expr} {f : DEf}
theorem inst_hot {pins : List (Addr × Obj)} {σ : L2.St} {s : Shared} {gs : List (Str × V)} (h : HotW W X a c dd oe) (I : Inv X pins σ H s) (hx : H dd = some (.xd gs)) :
    ∃ (od : Obj) (mA : Str → Option Value), PySem.W.InstAt s.heap a oe (W.ca c) (some od) ∧ (∀ n : Str, PySem.W.lookIn n od = some (mA n)) ∧ ∀ n : Str, RelO (gs.lookup n) (mA n) := by
  obtain ⟨ha, _⟩ := I.pin (a, oe) (List.mem_append_left _ h.pin)
  obtain ⟨vs, hd⟩ := h.hf
  obtain ⟨mA, hns, hr⟩ := (show ObjOk X.prog X.w H s.heap dd (.xd gs) from I.hok dd _ hx)
  obtain ⟨od, ho, hl⟩ := lookIn_ns hns
  exact ⟨od, mA, ⟨ha, h.hz.1, by unfold PySem.W.notCls; rw [hd] <;> rfl, by rw [h.hz.2]; exact ho⟩, hl, hr⟩
def rIsH (K : PySem.W.Frag) (D a dd : Addr) : List V → Hp → VK → Prop := fun xs H Q => ∃ (cV : V) (cv : Value) (b : Bool) (gs : List (Str × V)), xs = [.ref a, cV] ∧ (∀ u, RelV cV u → u = cv) ∧ PySem.W.kitOne K (.ref D) cv = some b ∧ H dd = some (.xd gs) ∧ Q (.bl b) H
theorem call_isH (h : HotW W X a c dd oe) (T : ExcC X.K (W.ca c)) : CallR X (.builtin "isinstance") (rIsH X.K (W.ca c) a dd) := by
  intro pins s σ H xs us Q I r ⟨cV, cv, b, gs, ex, hcv, ek, hx, q⟩
  subst ex
  cases r with
  | cons rx rr =>
    cases rr with
    | cons rt rr =>
      cases rr
      cases rx
      cases hcv _ rt
      obtain ⟨od, mA, J, _, _⟩ := inst_hot h I hx
      obtain ⟨cd, hcd, _⟩ := PySem.W.any_some T.hd
      refine PySem.W.kia_one (PySem.W.kitx_exc (by rw [hcd]; rfl) T.hg T.hk T.hs T.ha T.hn T.ht T.hm) I.kIn J ek (fun z => nomatch z) fun tk => ⟨.bl b, H, I.kept (t' := tk) fun _ _ z => z, rfl, q⟩

def dIsE (k : Str → Option Bool) (f : DEf) : DEf := fun env S => (f env S).bind fun x S1 => match x with
  | .d (.obj c _) => (match k c with | some b => .ok (.d (.bl b)) S1 | none => .bad)
  | _ => .bad
theorem de_isE {t : Str} {cV : V} {cv : Value} {k : Str → Option Bool} {p2 : Pos} (h : HotW W X a c dd oe) (T : ExcC X.K (W.ca c)) (hk : ∀ b, k c = some b → PySem.W.kitOne X.K (.ref (W.ca c)) cv = some b) (hT : PE X (.Name t p2) (tC cV)) (hcV : ∀ u, RelV cV u → u = cv)
    (hg : Gl X "isinstance") (hm : X.mg "isinstance" = none) (ha : DE W E X e f)
    (he : starEach [e, .Name t p2] X.env = (false, eval e X.env) :: starEach [.Name t p2] X.env := by rfl) (hpl : (backTo pos (starEach [.Name t p2] X.env)).any (·.1) = false := by rfl) : DE W E X (.Call (.Name "isinstance" p) [e, .Name t p2] [] pos) (dIsE k f) := by
  refine (pe_callB (call_isH h T) hg hm boot_isinstance' (pa_cons ha (pa_cons hT pa_nil) he) (by decide) (by decide) he hpl).imp fun σ H Q ⟨env, S, μ, hE, hS, hp⟩ => ?_
  refine ⟨env, S, μ, hE, hS, hp.bind.imp fun x S1 H1 μ1 l1 s1 p1 v rv => ?_⟩
  split at p1
  · rename_i c' fs
    split at p1
    · rename_i b eb
      simp only [RelV', RelD] at rv
      obtain ⟨a', dx, gs, rfl, no, hx, hw, _⟩ := rv
      rw [h.hot] at hw
      cases hw
      exact ⟨cV, cv, b, gs, rfl, hcV, hk b eb, hx, p1.at_ s1 _ (rel_bl _)⟩
    · exact p1.elim
  · exact p1.elim
theorem relFs_lookup {n : Str} : ∀ {fs : List (Str × D)} {gs : List (Str × V)} {d : D}, RelFs W H μ fs gs → fs.lookup n = some d → ∃ v, gs.lookup n = some v ∧ RelD W H μ d v
  | [], _, _, _, e => by simp at e
  | (g, y) :: fs, gs, d, r, e => by
    simp only [RelFs] at r
    obtain ⟨v, rest, rfl, rd, rr⟩ := r
    rw [List.lookup_cons] at e ⊢
    split at e
    · cases e
      exact ⟨v, rfl, rd⟩
    · exact relFs_lookup rr e
def dXf (n : Str) (f : DEf) : DEf := fun env S => (f env S).bind fun x S1 => match x with
  | .d (.obj _ fs) => (match fs.lookup n with | some d => .ok (.d d) S1 | none => .bad)
  | _ => .bad
theorem de_xf {n : Str} (h : HotW W X a c dd oe) (T : XfC X.K (W.ca c)) (hno : PySem.W.findIn X.K (.ref (W.ca c)) n = some none) (ha : DE W E X e f) (hb : attributeBase e n X.env (eval e X.env) = eval e X.env := by rfl) : DE W E X (.Attribute e n pos) (dXf n f) := by
  refine ⟨fun pins s σ H Q I ⟨env, S, μ, hE, hS, hp⟩ => ?_⟩
  refine attr_of hb (thn (ha.run pins s σ H (fun v H1 => ∃ gs v2, v = .ref a ∧ H1 dd = some (.xd gs) ∧ gs.lookup n = some v2 ∧ Q v2 H1) I ⟨env, S, μ, hE, hS, ?_⟩) fun u s1 hh => ?_)
  · refine hp.bind.imp fun x S1 H1 μ1 l1 s1 p1 v rv => ?_
    split at p1
    · rename_i c' fs
      split at p1
      · rename_i d ed
        simp only [RelV', RelD] at rv
        obtain ⟨a', dx, gs, rfl, no, hx, hw, rf⟩ := rv
        rw [h.hot] at hw
        cases hw
        obtain ⟨v2, l2, r2⟩ := relFs_lookup rf ed
        exact ⟨gs, v2, rfl, hx, l2, p1.at_ s1 _ r2⟩
      · exact p1.elim
    · exact p1.elim
  · obtain ⟨x, H1, I1, rx, gs, v2, rfl, hx, l2, q⟩ := hh
    obtain rfl : u = Value.ref a := rx
    obtain ⟨od, mA, J, hl, hr⟩ := inst_hot h I1 hx
    obtain ⟨u2, hu, ru⟩ := RelO.some_of (v := v2) (o := mA n) (by rw [← l2]; exact hr n)
    exact HandSPX.exc_get I1.kIn J T.ga T.gg T.exC (PySem.W.findObj_own T.hdC hno rfl (by rw [hl, hu])) (handed_of ru) ⟨v2, H1, I1.tok _, ru, q⟩
/-! ### loops -/
abbrev DIH (W : Wd) (E : XK) (X : Cx) (tg iter : Expr) (f : DIf) : Prop := PIH X tg iter (tI W E f)
theorem PIH_imp {tg : Expr} {t t' : TI} (h : PIH X tg e t) (hi : ∀ σ H Q, t' σ H Q → t σ H Q) : PIH X tg e t' := ⟨fun pins s σ H Q I q => h.run pins s σ H Q I (hi σ H Q q)⟩
def iSeqT (x : Val) (S : Sto) : Out Itm := match seqT x with
  | some ds => .ok ⟨ds, []⟩ S
  | none => .bad
theorem di_tupH {tg : Expr} (hK : X.K = W.K) (hl : DE W E X e f) : DIH W E X tg e (fun env S => (f env S).bind iSeqT) := PIH_imp (piH_tup hl) fun σ H R ⟨env, S, μ, hE, hS, hp⟩ =>
  ⟨env, S, μ, hE, hS, hp.bind.imp fun x S1 H1 μ1 l1 s1 p1 v rv => by
    unfold iSeqT at p1
    split at p1
    · rename_i ds es
      obtain ⟨a, rfl, h⟩ := staysT s1 rv es
      obtain ⟨vs, q, _⟩ := h H1 μ1 .refl
      rw [hK]
      exact ⟨a, rfl, ⟨vs, q⟩, p1.at_ s1 _ (itt_ok h)⟩
    · exact p1.elim⟩
theorem ds_forH {tg iter : Expr} {body : List Stmt} {it : DIf} {g : DGf} {f : DSf} (hp : PassesOwn (model X.prog X.w) X.A X.env X.xe) (hc : HotC X) (hi : DIH W E X tg iter it) (hg : DG W E X tg g) (hb : DSs W E X body f)
    (hs : ∀ x, foldedSetIterable iter X.env x = pure x := by intro _; rfl) : DS W E X (.For tg iter body [] pos) (dFor it g f) :=
  (ps_forH hp hc hi hg hb hs).imp fun D σ H ⟨env, S, μ, hE, hS, hp⟩ => by
    refine ⟨env, S, μ, hE, hS, hp.bind.imp fun i S1 H1 μ1 l1 s1 p1 => ?_⟩
    have hE1 := hE.mono l1 hS.is
    intro J hJ
    refine ⟨fun t m σ' H' => m = i.ds.length - t ∧ t ≤ i.ds.length ∧ ∃ env' S' μ', Le H1 μ1 H' μ' ∧ RelE W H' μ' env' σ' ∧ RelS W H' μ' S' ∧ Post W E H' μ' (dLoop g f i.wt (i.ds.drop t) env' S') (QS W D),
      ⟨_, rfl, Nat.zero_le _, env, S1, μ1, .refl, hE1, s1, by simpa using p1⟩, ?_⟩
    rintro t m σ' H' ⟨rfl, ht, env', S', μ', l', hE', hS', hp'⟩
    by_cases hlt : t < i.ds.length
    · have hd : i.ds.drop t = i.ds[t] :: i.ds.drop (t + 1) := List.drop_eq_getElem_cons hlt
      rw [hd] at hp'
      unfold dLoop at hp'
      split at hp'
      case isFalse => exact hp'.elim
      rename_i hw'
      refine .inr ⟨hJ.go t H' μ' S' l' hS' hw' hlt, fun σ2 H2 => ∃ env2 S2 μ2, Le H1 μ1 H2 μ2 ∧ RelE W H2 μ2 env2 σ2 ∧ RelS W H2 μ2 S2 ∧ Post W E H2 μ2 (dLoop g f i.wt (i.ds.drop (t + 1)) env2 S2) (QS W D),
        fun σ2 H2 ⟨env2, S2, μ2, h1, h2, h3, h4⟩ => ⟨_, by omega, rfl, hlt, env2, S2, μ2, h1, h2, h3, h4⟩, fun x H2 y => ?_⟩
      obtain ⟨d, e1, r, l2, s2⟩ := hJ.yld t H' μ' S' x H2 l' hS' hw' hlt y
      rw [List.getElem?_eq_getElem hlt] at e1
      cases e1
      refine ⟨.d i.ds[t], env', S', μ', r, hE'.mono l2 hS'.is, s2, (hp'.le l2).bind.imp fun env3 S3 H3 μ3 l3 s3 p3 σ3 hE3 => ?_⟩
      refine ⟨env3, S3, μ3, hE3, s3, p3.bind.imp fun fl S4 H4 μ4 l4 s4 p4 => ?_⟩
      have lA := ((l'.trans l2).trans l3).trans l4
      cases fl with
      | nx e => exact fun σ4 hE4 => ⟨e, S4, μ4, lA, hE4, s4, p4⟩
      | cnt e => exact fun σ4 hE4 => ⟨e, S4, μ4, lA, hE4, s4, p4⟩
      | brk e => exact p4.at_ s4
      | ret x => exact p4.at_ s4
    · have e : t = i.ds.length := by omega
      subst e
      rw [List.drop_length] at hp'
      unfold dLoop at hp'
      split at hp'
      case isFalse => exact hp'.elim
      rename_i hw'
      exact .inl ⟨hJ.stop H' μ' S' l' hS' hw', hp'.at_ hS' σ' hE'⟩
theorem dgH_tup {es : List Expr} {k n : Nat} {gs : DGsf} (hK : X.K = W.K) (hc : HotC X) (h : DGs W E X es gs) (hn : (assignEach es X.env).length = n := by rfl) (hst : (assignEach es X.env).findIdx? (·.1) = none := by rfl) : DG W E X (.Tuple es k pos) (dgTup n gs) :=
  (pgH_tup hc h hn hst).imp fun v σ H Q ⟨x, env, S, μ, rv, hE, hS, hp⟩ => by
    unfold dgTup at hp
    split at hp
    · rename_i ds
      split at hp
      · rename_i hz
        obtain ⟨a, vs, rfl, q, r⟩ := seqT_rel rv rfl
        exact ⟨a, vs, rfl, hK ▸ q, by rw [← r.length]; exact hz, ds, env, S, μ, r, hE, hS, hp⟩
      · exact hp.elim
    · exact hp.elim
end
end Dn
set_option Elab.async false
set_option linter.all false
set_option maxRecDepth 100000
set_option maxHeartbeats 2000000
/-! a def that is handed the error while it is handled -/
namespace Dn
open PySem PySem.Spec PyProof.Rows L2 GxR Gx HotX L2H Hx
structure FnQ (P : Program) (w : World) (K : PySem.W.Frag) (mg : Str → Option Value) (base : Heap) (k : Nat) (f : Addr) (fd : FuncData) (ps : List Str) (sp : Addr × Obj → Sp) : Prop where
  len : ∀ p vs H Q E, sp p vs H Q E → vs.length = ps.length
  run : ∀ (A : Around) (outer : List PySem.Env) (s : Shared) (H : Hp) (args : Args) (us : List Value) (vs : List V) (Q : VK) (E : XK) (p : Addr × Obj), RoomH k A → A.guards = some [] → Hot1 A p → PinOk outer H s p → Env0 P w K mg base A outer s H →
    BindsTo s fd args (ps.zip us) → Vals vs us → sp p vs H Q E → codeAny (model P w) A (.call (.ref f) args) (CR (L2N.CX P w) outer P w H s Q E) s
theorem FnQ.mono {P : Program} {w : World} {K : PySem.W.Frag} {mg : Str → Option Value} {base : Heap} {j k : Nat} {f : Addr} {fd : FuncData} {ps : List Str} {sp : Addr × Obj → Sp} (F : FnQ P w K mg base j f fd ps sp) (h : j ≤ k) : FnQ P w K mg base k f fd ps sp :=
  ⟨F.len, fun A outer s H args us vs Q E p hr => F.run A outer s H args us vs Q E p (hr.mono h)⟩
theorem fnQ_of {P : Program} {w : World} {K : PySem.W.Frag} {mg : Str → Option Value} {base : Heap} {k : Nat} {f : Addr} {name qual : Str} {params : Arguments} {body : List Stmt} {scope : Scope} {dV kV doc pm cdv ct oc : Value} {an od : Option Addr}
    {osl : Array (Option Value)} {N ps : List Str} {sp : Addr × Obj → Sp} (lk : K.lookup f = some ⟨oc, od, .func (PySem.W.fnOf name qual params body scope dV kV doc pm an cdv ct), osl⟩) (hcd : PySem.W.codeIn K cdv qual = true) (S : FnScope N ps scope)
    (hl : ∀ p vs H Q E, sp p vs H Q E → vs.length = ps.length)
    (hb : ∀ (A : Around) (outer : List PySem.Env) (s : Shared) (H : Hp) (vs : List V) (Q : VK) (E : XK) (p : Addr × Obj), Hot1 A p → RoomH k (A.deeper (envOfC qual scope s.heap.objs.size f cdv)) → A.guards = some [] → sp p vs H Q E →
      ∃ t, PSs (cxH (L2N.CX P w) P w K mg base N qual scope f cdv A outer s H E p) body t ∧ t { nx := fun _ H' => Q .non H', rt := Q } (L2.start N vs) H) :
    FnQ P w K mg base (k + 1) f (PySem.W.fnOf name qual params body scope dV kV doc pm an cdv ct) ps sp where
  len := hl
  run := by
    intro A outer s0 H0 args us vs Q E p room hg hot pin en bd rel promise
    have there : K.In s0.heap := en.mod.kin.keeps fun b o q => (en.bs b o q).1
    have nolim : s0.heap.NoLimit := en.mod.nolimit.keeps fun b o q => (en.bs b o q).1
    obtain ⟨t, body_t, at_start⟩ := hb A outer s0 H0 vs Q E p hot (room.deeper _) hg promise
    refine codeAny_call_function room.depth (there _ _ lk) rfl S.co S.gen rfl (PySem.W.codeRec_of there hcd) (bd _ _ _ _ ?_)
    refine wpAny_newFunctionEnv_cells S.kind (fun y hy => ?_) fun env he s1 inC => ?_
    · obtain ⟨n, u⟩ := y
      exact (S.par n (List.of_mem_zip hy).1).imp id fun c => ⟨c, PySem.W.cellsFrom_some _ _ _ (.inl c)⟩
    · subst he
      have I1 : Inv (cxH (L2N.CX P w) P w K mg base N qual scope f cdv A outer s0 H0 E p) [] (L2.start N vs) H0 s1 := inv_startH S pin en (hl _ _ _ _ _ promise) rel inC
      refine ⟨nolim.keeps inC.toInCall.keep, codeAny_func (wpAny_mono (body_t.run [] s1 _ H0 _ I1 at_start) ?_ fun _ _ z => z)⟩
      intro fl s2 hs
      cases fl with
      | brk => obtain ⟨_, _, _, z⟩ := hs; exact z.elim
      | cont => obtain ⟨_, _, _, z⟩ := hs; exact z.elim
      | next => obtain ⟨_, H2, I2, z⟩ := hs; exact ⟨.non, H2, I2.os, I2.bare, I2.base, I2.hok, rfl, z⟩
      | ret u => obtain ⟨v, _, H2, I2, rv, z⟩ := hs; exact ⟨v, H2, I2.os, I2.bare, I2.base, I2.hok, rv, z⟩
/-- what such a def promises: its one argument is the error that is handled, one of the classes cls -/
def spQ (W : Wd) (cls : List Str) (n : Nat) (m : Opn) (p : Addr × Obj) : Sp := fun vs H Q E =>
  ∃ (c : Str) (dd : Addr), c ∈ cls ∧ Zc (.ref (W.ca c)) (some dd) p.2 ∧ (∃ fs, p.2.data = .fields fs) ∧ spD { W with hot := some (p.1, c, dd) } n m vs H Q E
section
variable {P : Program} {w : World} {K : PySem.W.Frag} {mg : Str → Option Value} {base : Heap} {x qual : Str} {params : Arguments} {body : List Stmt} {scope : Scope} {kws : List (Str × V)} {q : Str × Option Str} {fd : FuncData}
theorem fnQ_D {W : Wd} {cls : List Str} {N ps : List Str} {k : Nat} {f : DSf} (F : FunD K x qual params body scope [] kws (He.fAd K q) fd) (S : FnScope N ps scope)
    (hb : ∀ (A : Around) (outer : List PySem.Env) (s : Shared) (H : Hp) (E : XK) (p : Addr × Obj) (c : Str) (dd : Addr), c ∈ cls → RoomH k (A.deeper (envOfC qual scope s.heap.objs.size (He.fAd K q) (.ref (He.codeOf K q)))) → A.guards = some [] →
      HotW { W with hot := some (p.1, c, dd) } (cxH (L2N.CX P w) P w K mg base N qual scope (He.fAd K q) (.ref (He.codeOf K q)) A outer s H E p) p.1 c dd p.2 →
      DSs { W with hot := some (p.1, c, dd) } E (cxH (L2N.CX P w) P w K mg base N qual scope (He.fAd K q) (.ref (He.codeOf K q)) A outer s H E p) body f) : FnQ P w K mg base (k + 1) (He.fAd K q) fd ps (spQ W cls ps.length (dFn N.length f)) := by
  obtain ⟨oc, od, dV, kV, doc, pm, an, cdv, ct, osl, rfl, lk, hcd, _, _⟩ := F.ex
  obtain ⟨c, rfl⟩ := He.codeIn_ref hcd
  have hc : He.codeOf K q = c := He.codeOf_eq lk rfl
  rw [hc] at hb
  refine fnQ_of lk hcd S (fun p vs H Q E h => by obtain ⟨_, _, _, _, _, h⟩ := h; exact h.1) fun A outer s H vs Q E p hot hr hg ⟨cl, dd, hcl, hz, hf, hl, xs, S0, μ, hv, hS, hp⟩ => ⟨_, hb A outer s H E p cl dd hcl hr hg ⟨rfl, List.mem_singleton.mpr rfl, hz, hf, ⟨p, hot, List.mem_singleton.mpr rfl⟩⟩, ?_⟩
  exact ⟨_, S0, μ, start_rel (N := N) hv, hS, post_fn hS hp⟩
end
end Dn
set_option Elab.async false
set_option linter.all false
set_option maxRecDepth 100000
set_option maxHeartbeats 2000000
/-! with the handled error known, and without -/
namespace Dn
open PySem PySem.Spec PyProof.Rows L2 GxR Gx HotX L2H Hx
mutual
def noO : D → Bool
  | .tup ds => noOs ds
  | .lst ds => noOs ds
  | .con ds => noOs ds
  | .obj _ _ => false
  | _ => true
def noOs : List D → Bool
  | [] => true
  | d :: ds => noO d && noOs ds
end
section
variable {W : Wd} {h : Option (Addr × Str × Addr)} {H : Hp} {μ : Mu} {S : Sto}
mutual
theorem RelD.up (hw : W.hot = none) : ∀ {d : D} {v : V}, RelD W H μ d v → RelD { W with hot := h } H μ d v ∧ noO d = true
  | .non, v, r => by simp only [RelD] at r ⊢; exact ⟨r, rfl⟩
  | .bl b, v, r => by simp only [RelD] at r ⊢; exact ⟨r, rfl⟩
  | .int i, v, r => by simp only [RelD] at r ⊢; exact ⟨r, rfl⟩
  | .str x, v, r => by simp only [RelD] at r ⊢; exact ⟨r, rfl⟩
  | .tup ds, v, r => by
    simp only [RelD] at r ⊢
    obtain ⟨a, vs, e, q, r⟩ := r
    obtain ⟨r1, r2⟩ := RelDs.up hw r
    exact ⟨⟨a, vs, e, q, r1⟩, by simpa [noO] using r2⟩
  | .lst ds, v, r => by
    simp only [RelD] at r ⊢
    obtain ⟨a, vs, e, q, r⟩ := r
    obtain ⟨r1, r2⟩ := RelDs.up hw r
    exact ⟨⟨a, vs, e, q, r1⟩, by simpa [noO] using r2⟩
  | .con ds, v, r => by
    simp only [RelD] at r ⊢
    obtain ⟨a, vs, e, q, r⟩ := r
    obtain ⟨r1, r2⟩ := RelDs.up hw r
    exact ⟨⟨a, vs, e, q, r1⟩, by simpa [noO] using r2⟩
  | .dic, v, r => by simp only [RelD] at r ⊢; exact ⟨r, rfl⟩
  | .obj c fs, v, r => by
    simp only [RelD] at r
    obtain ⟨a, dx, gs, e, n, q, z, r⟩ := r
    rw [hw] at z
    cases z
theorem RelDs.up (hw : W.hot = none) : ∀ {ds : List D} {vs : List V}, RelDs W H μ ds vs → RelDs { W with hot := h } H μ ds vs ∧ noOs ds = true
  | [], vs, r => by simp only [RelDs] at r ⊢; exact ⟨r, rfl⟩
  | d :: ds, vs, r => by
    simp only [RelDs] at r ⊢
    obtain ⟨v, r0, e, r1, r2⟩ := r
    obtain ⟨p1, q1⟩ := RelD.up hw r1
    obtain ⟨p2, q2⟩ := RelDs.up hw r2
    exact ⟨⟨v, r0, e, p1, p2⟩, by simp [noOs, q1, q2]⟩
end
mutual
theorem RelD.down : ∀ {d : D} {v : V}, noO d = true → RelD { W with hot := h } H μ d v → RelD W H μ d v
  | .non, v, _, r => by simp only [RelD] at r ⊢; exact r
  | .bl b, v, _, r => by simp only [RelD] at r ⊢; exact r
  | .int i, v, _, r => by simp only [RelD] at r ⊢; exact r
  | .str x, v, _, r => by simp only [RelD] at r ⊢; exact r
  | .tup ds, v, n, r => by
    simp only [RelD] at r ⊢
    obtain ⟨a, vs, e, q, r⟩ := r
    exact ⟨a, vs, e, q, RelDs.down (by simpa [noO] using n) r⟩
  | .lst ds, v, n, r => by
    simp only [RelD] at r ⊢
    obtain ⟨a, vs, e, q, r⟩ := r
    exact ⟨a, vs, e, q, RelDs.down (by simpa [noO] using n) r⟩
  | .con ds, v, n, r => by
    simp only [RelD] at r ⊢
    obtain ⟨a, vs, e, q, r⟩ := r
    exact ⟨a, vs, e, q, RelDs.down (by simpa [noO] using n) r⟩
  | .dic, v, _, r => by simp only [RelD] at r ⊢; exact r
  | .obj c fs, v, n, r => by simp [noO] at n
theorem RelDs.down : ∀ {ds : List D} {vs : List V}, noOs ds = true → RelDs { W with hot := h } H μ ds vs → RelDs W H μ ds vs
  | [], vs, _, r => by simp only [RelDs] at r ⊢; exact r
  | d :: ds, vs, n, r => by
    simp only [RelDs] at r ⊢
    simp only [noOs, Bool.and_eq_true] at n
    obtain ⟨v, r0, e, r1, r2⟩ := r
    exact ⟨v, r0, e, RelD.down n.1 r1, RelDs.down n.2 r2⟩
end
def noC : Cell → Bool
  | .lst ds => noOs ds
  | .dead => true
def noS (S : Sto) : Bool := S.all noC
theorem RelS.up (hw : W.hot = none) (r : RelS W H μ S) : RelS { W with hot := h } H μ S := by
  have cell : ∀ (n : Nat) c o, S[n]? = some c → μ[n]? = some o → CellOk { W with hot := h } H μ c o := fun n c o e1 e2 => by
    have q := r.cell n c o e1 e2
    cases c with
    | dead => trivial
    | lst ds =>
      obtain ⟨a, vs, e, q1, q2⟩ := q
      exact ⟨a, vs, e, q1, (RelDs.up hw q2).1⟩
  exact { r with cell := cell }
theorem RelS.noS (hw : W.hot = none) (r : RelS W H μ S) : noS S = true := by
  refine List.all_eq_true.mpr fun c hc => ?_
  obtain ⟨n, e⟩ := List.mem_iff_getElem?.mp hc
  have hn : n < μ.length := by rw [← r.len]; exact (List.getElem?_eq_some_iff.mp e).1
  have q := r.cell n c _ e (List.getElem?_eq_getElem hn)
  cases c with
  | dead => rfl
  | lst ds =>
    obtain ⟨a, vs, _, _, q2⟩ := q
    exact (RelDs.up (h := none) hw q2).2
theorem RelS.down (n : Dn.noS S = true) (r : RelS { W with hot := h } H μ S) : RelS W H μ S := by
  have cell : ∀ (n : Nat) c o, S[n]? = some c → μ[n]? = some o → CellOk W H μ c o := fun m c o e1 e2 => by
    have q := r.cell m c o e1 e2
    have nc := List.all_eq_true.mp n c (List.mem_of_getElem? e1)
    cases c with
    | dead => trivial
    | lst ds =>
      obtain ⟨a, vs, e, q1, q2⟩ := q
      exact ⟨a, vs, e, q1, RelDs.down nc q2⟩
  exact ⟨r.len, r.nd, cell, r.is, r.tab, r.lam, r.dis⟩
end
end Dn
set_option Elab.async false
set_option linter.all false
set_option maxRecDepth 100000
set_option maxHeartbeats 4000000
/-! heard_of: try: act() / except X as n: return named(n) / return [..] -/
namespace Dn
open PySem PySem.Spec PyProof.Rows L2 GxR Gx HotX L2H Hx XS LamX
/-- a def that is handed the handled error, as its callers take it -/
structure CalleeQ (P : Program) (w : World) (K : PySem.W.Frag) (mg : Str → Option Value) (base : Heap) (W : Wd) (cls : List Str) (k : Nat) (x : Str) (m : Opn) : Prop where
  ex : ∃ (fd : FuncData) (ps : List Str), ps.length = 1 ∧ FnQ P w K mg base k (He.fAd K (x, none)) fd ps (spQ W cls 1 m) ∧ (∀ (s : Shared) (us : List Value), us.length = 1 → BindsTo s fd ⟨us, []⟩ (ps.zip us)) ∧ PySem.W.keepIn K (.ref (He.fAd K (x, none))) = true
  glo : mg x = some (.ref (He.fAd K (x, none)))
section
variable {X : Cx} {a : Addr} {o : Obj} {pn : List (Addr × Obj)} {W : Wd} {cls : List Str} {k i : Nat} {x n : Str} {m : Opn} {p q pos : Pos}
theorem pe_callQ (C : CalleeQ X.prog X.w X.K X.mg X.base W cls k x m) (hr : Room k X.A) (hG : X.A.guards = some []) {c : Value} {d : Option Addr} (hz : L2N.Zn c d o) (hf : ∃ vs, o.data = .fields vs) (hg : Gl X x) {te : TE} (he : PE (X.suite a ((a, o) :: pn)) (.Name n q) te)
    (hdb : (x == ("__debug__" : Str)) = false := by decide) : PE (X.suite a ((a, o) :: pn)) (.Call (.Name x p) [.Name n q] [] pos) (fun σ H Q => te σ H fun v H1 => spQ W cls 1 m (a, o) [v] H1 Q fun _ _ _ => False) := by
  obtain ⟨⟨fd, ps, h1, h2, h3, h4⟩, g⟩ := C
  have ha : PA (X.suite a ((a, o) :: pn)) [.Name n q] (tCons te tNil) := pa_cons he pa_nil
  refine ⟨fun pins s σ H Q I h => wpAny_Call_Name_kw (ld_glob I hg g ?_ hdb)⟩
  refine PySem.W.callWith_K (h₀ := X.base) I.ok.mod.kin h4 (thn (ha.run pos pins s σ H (fun vs H1 => spQ W cls 1 m (a, o) vs H1 Q fun _ _ _ => False) I h) fun us s1 ⟨vs, H1, I1, r, q1⟩ => ⟨I1.kIn, ?_⟩) (by rfl) (by rfl)
  have P1 := I1.pin (a, o) (List.mem_append_left _ List.mem_cons_self)
  have pin : PinOk X.stack H1 s1 (a, o) := ⟨P1.1, P1.2.1, fun hm => (List.mem_cons.mp (I1.stkSub a hm)).elim P1.2.2.1 P1.2.2.2.1, P1.2.2.2.2⟩
  obtain ⟨vs0, hv⟩ := hf
  have hot : Hot1 (X.suite a ((a, o) :: pn)).A (a, o) := ⟨rfl, vs0, hv, hz.2.2 vs0 hv⟩
  have lu : us.length = 1 := by rw [← r.length, h2.len _ _ _ _ _ q1, h1]
  refine wpAny_call (codeAny_mono (h2.run (X.suite a ((a, o) :: pn)).A X.stack s1 H1 ⟨us, []⟩ us vs Q (fun _ _ _ => False) (a, o) ⟨hr.dp, hr.un⟩ hG hot pin I1.env0 (h3 s1 us lu) r q1) fun res s2 hq => ?_)
  cases res with
  | error e => obtain ⟨_, _, _, _, _, _, _, _, _, _, _, _, z⟩ := hq; exact z.elim
  | ok fl =>
    cases fl with
    | ret u => exact I1.after hq
    | next => exact hq.elim
    | brk => exact hq.elim
    | cont => exact hq.elim
end
/-- what heard_of makes of a thunk -/
def THr (W : Wd) (cls : List Str) (m : Opn) (ch : Value) (ws : List V) : (XK → Hp → VK → Prop) → Hp → VK → Prop := fun tl H Q =>
  tl (fun c d H' => PySem.W.exmOne W.K c ch = some true ∧ ∀ a o, H' a = none → L2N.Zn c d o → (∃ vs, o.data = .fields vs) → spQ W cls 1 m (a, o) [.ref a] H' Q fun _ _ _ => False) H fun _ H' => ws.length ≤ sizeLine ∧ ∀ p, H' p = none → Q (.ref p) (upd H' p (.lst ws))
def suQ (W : Wd) (cls : List Str) (m : Opn) (i : Nat) : Addr → Value → Option Addr → TS := fun a c d => tRet fun σ H Q => σ[i]? = some (some (.ref a)) ∧ ∀ o, L2N.Zn c d o → (∃ vs, o.data = .fields vs) → spQ W cls 1 m (a, o) [.ref a] H Q fun _ _ _ => False
theorem heard_gives {X : Cx} {W : Wd} {cls : List Str} {m : Opn} {Ng : List Str} {x a n q w0 w1 eb f : Str} {sg : Scope} {g : Addr} {cdg ch : Value} {k j0 j1 i : Nat} {p1 p2 p3 p4 p5 p6 p8 p9 q1 q2 q3 q4 q5 q6 : Pos}
    (hK : X.K = W.K) (C : CalleeQ X.prog X.w X.K X.mg X.base W cls k f m) (hr : ∀ s : Shared, Room k (X.A.deeper (envOfC x sg s.heap.objs.size g cdg))) (hG : X.A.guards = some []) (hN : Ng.Nodup) (hi : Ng[i]? = some n) (hl : sg.names.lookup n = some .local) (hd : (n == ("__debug__" : Str)) = false)
    (hc : (n == ("__classdict__" : Str)) = false) (hf : (f == ("__debug__" : Str)) = false) (hsw : ∀ (e : Expr) (env : PySem.Env), swapsWith (.Call (.Name a p1) [] [] p2) none p3.line env = pure false)
    (hg : ∀ (s : Shared) (H : Hp), Gl (cxOf C8.CX0 X.prog X.w X.K X.mg X.base Ng x sg g cdg X.A X.stack s H C8.E0).nox f)
    (hT : ∀ (s : Shared) (H : Hp), Names (cxOf C8.CX0 X.prog X.w X.K X.mg X.base Ng x sg g cdg X.A X.stack s H C8.E0).nox eb ch)
    (h00 : ∀ f : Addr, (L2.start Ng [V.ref f])[0]? = some (some (V.ref f))) (hlen : ∀ f : Addr, (L2.start Ng [V.ref f]).length = Ng.length) :
    XS.Gives0 X Ng x sg g cdg [.Try [.Expr (.Call (.Name a p1) [] [] p2) p3] [.ExceptHandler (some (.Name eb q1)) (some n) [.Return (some (.Call (.Name f q2) [.Name n q3] [] q4)) q5] q6] [] [] p8,
      .Return (some (.List [.Constant (.str w0) j0 p4, .Constant (.str w1) j1 p9] p5)) p6] a q (THr W cls m ch [.str w0, .str w1]) := by
  intro fa c' s H Q tl act hcode h
  have il : i < Ng.length := (List.getElem?_eq_some_iff.mp hi).1
  have clause : HsL (cxOf C8.CX0 X.prog X.w X.K X.mg X.base Ng x sg g cdg X.A X.stack s H C8.E0).nox n [.ExceptHandler (some (.Name eb q1)) (some n) [.Return (some (.Call (.Name f q2) [.Name n q3] [] q4)) q5] q6] [(ch, suQ W cls m i)] := by
    refine .cons (hT s H) (fun b o c d pn hz hfd => ?_) .nil
    have v : PE ((cxOf C8.CX0 X.prog X.w X.K X.mg X.base Ng x sg g cdg X.A X.stack s H C8.E0).nox.suite b ((b, o) :: pn)) (.Name n q3) (tVar i) := pe_var hi (.inl hl) hd hc
    have call := pe_callQ (X := (cxOf C8.CX0 X.prog X.w X.K X.mg X.base Ng x sg g cdg X.A X.stack s H C8.E0).nox) (a := b) (o := o) (pn := pn) (pos := q4) (p := q2) (cls := cls) (m := m) C (hr s) hG hz hfd (hg s H) v hf
    refine pss_one (ps_ret ?_)
    refine ⟨fun pins s1 σ H1 Q1 I ⟨hs, z⟩ => call.run pins s1 σ H1 Q1 I ⟨_, hs, z o hz hfd⟩⟩
  refine ⟨_, pss_cons (XS.ps_tryL (X := (cxOf C8.CX0 X.prog X.w X.K X.mg X.base Ng x sg g cdg X.A X.stack s H C8.E0).nox) (i := i) (n := n) (Wout := fun _ _ _ _ => False)
      (tb := fun Wx D σ H => ∃ Ech : XK, (∀ cls d σ' H', σ'.length = Ng.length → Ech cls d H' → Wx cls d σ' H') ∧ σ[0]? = some (some (.ref fa)) ∧ H c' = some (CodeO c' q) ∧ tl Ech H fun _ H' => D.nx σ H')
      rfl rfl hN hi hl takes0N (fun Wx pn xe tk _ => ?_) clause) (pss_one (ps_ret (pe_lst (pa_cons pe_str (pa_cons pe_str pa_nil))))), ?_⟩
  · refine ⟨fun pins s' σ H' D I h' => ?_⟩
    obtain ⟨Ech, hW, h1, h2, h3⟩ := h'
    have hp := act (fun cls d σ H => σ.length = Ng.length → Wx cls d σ H) pn xe Ech p1 p2 (Takes.len tk) fun cls d σ' H' z hh => hW cls d σ' H' hh z
    exact (pss_one (ps_expr (pos := p3) hp (hsw (.Name a p1) _))).run pins s' σ H' D I ⟨h1, h2, h3⟩
  · refine ⟨_, fun cls d σ' H' hh z => ?_, h00 fa, hcode, h⟩
    obtain ⟨e1, z⟩ := z
    refine ⟨true, by rw [← hK] at e1; exact e1, fun _ b hb => ⟨by rw [List.getElem?_set_self (by rw [hh]; exact il)], fun o hz hfd => z b o hb hz hfd⟩, fun z => by cases z⟩
end Dn
set_option Elab.async false
set_option linter.all false
set_option maxRecDepth 100000
set_option maxHeartbeats 4000000
/-! heard_of(lambda: ..) in the layer -/
namespace Dn
open PySem PySem.Spec PyProof.Rows L2 GxR Gx Lx HotX L2H Hx
/-- the answer of the def that is handed the error: data, without the error itself -/
def hotAns (r : Out Val) : Out Val := match r with
  | .ok (.d y) S => if (noO y && noS S) = true then .ok (.d y) S else .bad
  | _ => .bad
def dHeard (cls : List Str) (m : Opn) (w0 w1 : Str) (f : DEf) : DEf := fun env S => match f env S with
  | .ok _ S1 => .ok (.d (.lst [.str w0, .str w1])) S1
  | .exc ⟨C, [(b, x)]⟩ S1 => if C ∈ cls then hotAns (m [.d (.obj C [(b, x)])] S1) else .bad
  | _ => .bad
section
variable {W : Wd} {E : XK} {X : Cx}
theorem de_heard {cls : List Str} {m : Opn} {w0 w1 x a : Str} {g c P : Addr} {ch : Value} {k : Nat} {pg : Arguments} {bg : List Stmt} {sg : Scope} {fd : FuncData} {Ng : List Str} {params : Arguments} {body : Expr} {scope : Scope} {p lpos pos : Pos} {f : DEf}
    (eK : X.K = W.K) (hot : W.hot = none) (ca : ∀ s, W.ca s = He.ga W.K s) (hx : ∀ C ∈ cls, PySem.W.exmOne W.K (.ref (He.ga W.K C)) ch = some true) (hmT : (P, X.env.qual ++ "<lambda>") ∈ W.lams) (hu : ∀ p ∈ W.lams, p.1 = P → p.2 = X.env.qual ++ "<lambda>")
    (hg : Gl X x) (hm : X.mg x = some (.ref g)) (F : FunD X.K x x pg bg sg [] [] g fd) (hb : ∀ (s : Shared) (u : Value), BindsTo s fd ⟨[u], []⟩ [(a, u)]) (Sg : FnScope Ng [a] sg) (hNg : Ng[0]? = some a) (hva : Vis sg a)
    (hG : ∀ cdg, XS.Gives0 X Ng x sg g cdg bg a (X.env.qual ++ "<lambda>") (THr W cls m ch [.str w0, .str w1]))
    (TB : LamX.TabB X.base X.mg c P) (hcode : X.env.code = .ref c) (hr : Room (k + 2) X.A) (hg0 : X.A.guards = some []) (L : LamX.LamS X.env.scope scope) (hdef : defaultsOf params X.env = ([], []))
    (hbind : ∀ (q : Str) (cl : List (Str × Addr)) (pm cv ctv : Value), bindArgs (PySem.W.kla_fn "<lambda>" q params body scope cl pm cv ctv) ⟨[], []⟩ = pure [])
    (hbody : ∀ (A : Around) (outer : List PySem.Env) (s : Shared) (H : Hp) (E : XK) (f' c' : Addr), Room k (A.deeper (LamX.lamEnv X scope s.heap.objs.size f' c')) → A.guards = some [] → DE W E (lcN X A outer s H E scope f' c') body f)
    (hdb : (x == ("__debug__" : Str)) = false := by decide) (hd : (a == ("__debug__" : Str)) = false := by decide) (hcd : (a == ("__classdict__" : Str)) = false := by decide) :
    DE W E X (.Call (.Name x p) [.Lambda params body scope lpos] [] pos) (dHeard cls m w0 w1 f) :=
  (pe_lam0 (P := P) hg hm F hb Sg hNg hva hG TB hcode hr hg0 L hdef hbind (fun A outer s H E f' c' h1 h2 => hbody A outer s H E f' c' h1 h2) hdb hd hcd).imp fun σ H Q ⟨env, S, μ, hE, hS, hp⟩ => by
    refine ⟨hS.lam _ hmT, fun H1 G => ?_⟩
    have hS1 := hS.grown hmT hu G
    have l1 : Le H μ H1 μ := Le.grown G (by obtain ⟨ps, e, _⟩ := hS.lam _ hmT; exact ⟨ps, e⟩)
    refine ⟨env, S, μ, hE.mono l1 hS.is, hS1, ?_⟩
    have hp := hp.le l1
    unfold dHeard at hp
    cases e : f env S with
    | bad => rw [e] at hp; exact hp
    | ok x S1 =>
      rw [e] at hp
      intro H2 μ2 l2 s2 v rv
      refine ⟨by simp [sizeLine_eq], fun p hp0 => ?_⟩
      obtain ⟨k, q⟩ := post_lst (ds := [.str w0, .str w1]) (vs := [.str w0, .str w1]) (hp.le l2) s2 hp0 (relDs2 (by simp [RelD]) (by simp [RelD]))
      exact k _ q
    | exc y S1 =>
      rw [e] at hp
      obtain ⟨C, fs⟩ := y
      match fs, hp with
      | [], hp => exact hp.elim
      | _ :: _ :: _, hp => exact hp.elim
      | [(b, x)], hp =>
        dsimp only at hp
        split at hp
        · rename_i hC
          intro H2 μ2 u dd l2 s2 rx
          obtain ⟨eu, d, gs, ed, hd1, hd2, rf⟩ := rx
          simp only [RelFs] at rf
          obtain ⟨v, r, eg, rv, er⟩ := rf
          subst er eg
          refine ⟨by rw [eu, ca]; exact hx C hC, fun a o ha hz hfd => ⟨C, d, hC, ⟨by rw [hz.1, eu], by rw [hz.2.1, ed]⟩, hfd, rfl, [.d (.obj C [(b, x)])], S1, μ2, ?_, s2.up hot, ?_⟩⟩
          · simp only [RelVs, RelV', RelD, RelFs]
            exact ⟨_, _, rfl, ⟨a, d, _, rfl, hd1, hd2, rfl, v, [], rfl, (RelD.up hot rv).1, rfl⟩, rfl⟩
          · unfold hotAns at hp
            cases em : m [.d (.obj C [(b, x)])] S1 with
            | bad => rw [em] at hp; exact hp
            | exc y S2 => rw [em] at hp; exact hp.elim
            | ok y S2 =>
              rw [em] at hp
              cases y with
              | r n => exact hp.elim
              | d y =>
                dsimp only at hp
                split at hp
                · rename_i hn
                  simp only [Bool.and_eq_true] at hn
                  intro H3 μ3 l3 s3 v3 rv3
                  exact hp H3 μ3 (l2.trans l3) (s3.down hn.2) v3 (RelD.down hn.1 rv3)
                · exact hp.elim
        · exact hp.elim
end
end Dn
set_option Elab.async false
set_option linter.all false
set_option maxRecDepth 100000
set_option maxHeartbeats 4000000
/-! what the head must say of the classes of errors that heard_of's named asks about -/
namespace Dn
open PySem PySem.Spec PyProof.Rows L2 GxR Gx Lx HotX L2H Hx
def excB (K : PySem.W.Frag) (D : Addr) : Bool :=
  He.eqO (PySem.W.findIn K (.ref D) "__getattribute__") (some (some (.builtin "BaseException.__getattribute__"))) && (He.eqO (PySem.W.findIn K (.ref D) "__getattr__") (some none) && (decide (PySem.W.subIn K (.ref D) (.type "BaseException") = some true) && (PySem.W.hasDictIn K D && (He.eqO (PySem.W.findIn K (.ref D) "__class__") (some (some (.builtin "object.__class__"))) &&
    (He.eqO (PySem.W.specialIn K (.builtin "object.__class__") "__get__") (some (some (.builtin "getset_descriptor.__get__"))) && (decide (PySem.W.takesIn K (.builtin "object.__class__") = some true) && decide (PySem.W.mroIn K D (.type "object") = some true)))))))
theorem excB_ok {K : PySem.W.Frag} {D : Addr} (h : excB K D = true) : ExcC K D := by
  unfold excB at h
  simp only [Bool.and_eq_true, decide_eq_true_eq] at h
  obtain ⟨h1, h2, h3, h4, h5, h6, h7, h8⟩ := h
  exact ⟨He.eqO_ok h1, He.eqO_ok h2, h3, h4, He.eqO_ok h5, He.eqO_ok h6, h7, h8⟩
/-- the builtin classes that are asked about, and the answer -/
def bltE : List (String × Bool) := [("ValueError", true), ("LookupError", false), ("ArithmeticError", false)]
def hotB (K : PySem.W.Frag) (cls own : List Str) (base : Str) : Bool :=
  He.eqO (PySem.W.nsIn K mainGlobals base) (some (some (.ref (He.ga K base)))) && (own.all (fun T => He.eqO (PySem.W.nsIn K mainGlobals T) (some (some (.ref (He.ga K T))))) && cls.all fun c =>
    excB K (He.ga K c) && (xfB K (He.ga K c) && (He.eqO (PySem.W.findIn K (.ref (He.ga K c)) "given") (some none) && (He.eqO (PySem.W.findIn K (.ref (He.ga K c)) "index") (some none) && (decide (PySem.W.exmOne K (.ref (He.ga K c)) (.ref (He.ga K base)) = some true) &&
      (own.all (fun T => decide (PySem.W.kitOne K (.ref (He.ga K c)) (.ref (He.ga K T)) = some (decide (c = T)))) && bltE.all fun t => decide (PySem.W.kitOne K (.ref (He.ga K c)) (.type t.1) = some t.2)))))))
structure HotK (K : PySem.W.Frag) (mg : Str → Option Value) (cls own : List Str) (base : Str) : Prop where
  gb : mg base = some (.ref (He.ga K base))
  go : ∀ T ∈ own, mg T = some (.ref (He.ga K T))
  ex : ∀ c ∈ cls, ExcC K (He.ga K c)
  xf : ∀ c ∈ cls, XfC K (He.ga K c)
  ng : ∀ c ∈ cls, PySem.W.findIn K (.ref (He.ga K c)) "given" = some none
  ni : ∀ c ∈ cls, PySem.W.findIn K (.ref (He.ga K c)) "index" = some none
  xm : ∀ c ∈ cls, PySem.W.exmOne K (.ref (He.ga K c)) (.ref (He.ga K base)) = some true
  kt : ∀ c ∈ cls, ∀ T ∈ own, PySem.W.kitOne K (.ref (He.ga K c)) (.ref (He.ga K T)) = some (decide (c = T))
  kb : ∀ c ∈ cls, ∀ t ∈ bltE, PySem.W.kitOne K (.ref (He.ga K c)) (.type t.1) = some t.2
theorem hotK_of {K : PySem.W.Frag} {mg : Str → Option Value} {h0 : Heap} {cls own : List Str} {base : Str} (X : K.In h0) (G : h0.Ns mainGlobals mg) (h : hotB K cls own base = true) : HotK K mg cls own base := by
  unfold hotB at h
  simp only [Bool.and_eq_true, List.all_eq_true, decide_eq_true_eq] at h
  obtain ⟨h1, h2, h3⟩ := h
  exact ⟨PySem.W.mg_of X G (He.eqO_ok h1), fun T hT => PySem.W.mg_of X G (He.eqO_ok (h2 T hT)), fun c hc => excB_ok (h3 c hc).1, fun c hc => xfB_ok (h3 c hc).2.1, fun c hc => He.eqO_ok (h3 c hc).2.2.1, fun c hc => He.eqO_ok (h3 c hc).2.2.2.1,
    fun c hc => (h3 c hc).2.2.2.2.1, fun c hc T hT => (h3 c hc).2.2.2.2.2.1 T hT, fun c hc t ht => (h3 c hc).2.2.2.2.2.2 t ht⟩
section
variable {W : Wd} {E : XK} {X : Cx} {a dd : Addr} {c : Str} {oe : Obj} {pos p q p2 : Pos} {e : Expr} {f : DEf} {cls own : List Str} {base : Str}
theorem pe_cls {T : Str} {u : Addr} (hg : Gl X T) (hm : X.mg T = some (.ref u)) (hdb : (T == ("__debug__" : Str)) = false := by decide) : PE X (.Name T p2) (tC (V.ref u)) :=
  ⟨fun pins s σ H Q I h => ld_glob I hg hm ⟨.ref u, H, I, rfl, h⟩ hdb⟩
theorem de_isOwn {T : Str} (hK : X.K = W.K) (ca : ∀ s, W.ca s = He.ga W.K s) (h : HotW W X a c dd oe) (G : HotK X.K X.mg cls own base) (hc : c ∈ cls) (hT : T ∈ own) (hg2 : Gl X T) (hg : Gl X "isinstance") (hm : X.mg "isinstance" = none) (ha : DE W E X e f)
    (hdb : (T == ("__debug__" : Str)) = false := by decide)
    (he : starEach [e, .Name T p2] X.env = (false, eval e X.env) :: starEach [.Name T p2] X.env := by rfl) (hpl : (backTo pos (starEach [.Name T p2] X.env)).any (·.1) = false := by rfl) : DE W E X (.Call (.Name "isinstance" p) [e, .Name T p2] [] pos) (dIsE (fun c => some (decide (c = T))) f) :=
  de_isE (cv := .ref (He.ga X.K T)) (cV := .ref (He.ga X.K T)) h (by rw [ca, ← hK]; exact G.ex c hc) (fun b hb => by cases hb; rw [ca, ← hK]; exact G.kt c hc T hT) (pe_cls hg2 (G.go T hT) hdb) (fun u r => r) hg hm ha he hpl
theorem de_isBlt {T : String} {b : Bool} (hK : X.K = W.K) (ca : ∀ s, W.ca s = He.ga W.K s) (h : HotW W X a c dd oe) (G : HotK X.K X.mg cls own base) (hc : c ∈ cls) (hT : (T, b) ∈ bltE) (hg2 : Gl X (Str.ofString T)) (hm2 : X.mg (Str.ofString T) = none) (hv : bootBuiltins (Str.ofString T) = some (.type T)) (hg : Gl X "isinstance") (hm : X.mg "isinstance" = none) (ha : DE W E X e f)
    (hnn : (Str.ofString T) ≠ "__name__" := by decide) (hdb : (Str.ofString T == ("__debug__" : Str)) = false := by decide)
    (he : starEach [e, .Name (Str.ofString T) p2] X.env = (false, eval e X.env) :: starEach [.Name (Str.ofString T) p2] X.env := by rfl) (hpl : (backTo pos (starEach [.Name (Str.ofString T) p2] X.env)).any (·.1) = false := by rfl) : DE W E X (.Call (.Name "isinstance" p) [e, .Name (Str.ofString T) p2] [] pos) (dIsE (fun _ => some b) f) :=
  de_isE (cv := .type T) (cV := .ty T) h (by rw [ca, ← hK]; exact G.ex c hc) (fun b' hb => by cases hb; rw [ca, ← hK]; exact G.kb c hc (T, b) hT) (pe_bltn hg2 hm2 hv rfl hnn hdb) (fun u r => r) hg hm ha he hpl
theorem de_given (hK : X.K = W.K) (ca : ∀ s, W.ca s = He.ga W.K s) (h : HotW W X a c dd oe) (G : HotK X.K X.mg cls own base) (hc : c ∈ cls) (ha : DE W E X e f) (hb : attributeBase e "given" X.env (eval e X.env) = eval e X.env := by rfl) : DE W E X (.Attribute e "given" pos) (dXf "given" f) :=
  de_xf h (by rw [ca, ← hK]; exact G.xf c hc) (by rw [ca, ← hK]; exact G.ng c hc) ha hb
theorem de_index (hK : X.K = W.K) (ca : ∀ s, W.ca s = He.ga W.K s) (h : HotW W X a c dd oe) (G : HotK X.K X.mg cls own base) (hc : c ∈ cls) (ha : DE W E X e f) (hb : attributeBase e "index" X.env (eval e X.env) = eval e X.env := by rfl) : DE W E X (.Attribute e "index" pos) (dXf "index" f) :=
  de_xf h (by rw [ca, ← hK]; exact G.xf c hc) (by rw [ca, ← hK]; exact G.ni c hc) ha hb
def diSeqT (f : DEf) : DIf := fun env S => (f env S).bind iSeqT
theorem di_tupT {tg : Expr} (hK : X.K = W.K) (hl : DE W E X e f) : DIH W E X tg e (diSeqT f) := di_tupH hK hl
theorem _root_.L2H.RoomH.units {k : Nat} {A : Around} (r : RoomH k A) : A.units + 64 < cLine := by
  have := r.un
  omega
theorem CalleeQ.mono {P : Program} {w : World} {K : PySem.W.Frag} {mg : Str → Option Value} {h0 : Heap} {W : Wd} {cls : List Str} {j k : Nat} {x : Str} {m : Opn} (C : CalleeQ P w K mg h0 W cls j x m) (h : j ≤ k) : CalleeQ P w K mg h0 W cls k x m := by
  obtain ⟨⟨fd, ps, h1, h2, h3, h4⟩, g⟩ := C
  exact ⟨⟨fd, ps, h1, h2.mono h, h3, h4⟩, g⟩
end
end Dn
set_option Elab.async false
set_option linter.all false
set_option maxRecDepth 100000
set_option maxHeartbeats 4000000
/-! t == () and t[:1] == ("stop",) for tuples that may hold an empty dict -/
namespace PySem.SeqAt
open PySem.Spec
open AutoSeq1 (wpAny_loadPart')
open MeetsSeq MeetsSeq2 MeetsSeq3 SeqRoads2
theorem str_eq_declines_dict (b : Str) (u : Tok) (l : Addr) (es : Array DictEntry) (ep : Nat)  :
    Meets (Builtin.«str.__eq__» ⟨[.str b u, .ref l], []⟩) (fun _ R s => s.heap.get? l = some { cls := .type "dict", data := .dict es ep } ∧ R (.ok (.ret .notImplemented)) s) :=
  .of_wp fun prog w A R s h => by obtain ⟨hp, g, d, tk, os⟩ := s; obtain ⟨hl, h⟩ := h; wp_walk using wpAny_loadPart' hl, wpAny_load hl; exact ⟨_, rfl, h⟩
theorem dict_eq_declines_str (b : Str) (u : Tok) (l : Addr) (es : Array DictEntry) (ep : Nat) :
    Meets (Builtin.«dict.__eq__» ⟨[.ref l, .str b u], []⟩) (fun _ R s => s.heap.get? l = some { cls := .type "dict", data := .dict es ep } ∧ R (.ok (.ret .notImplemented)) s) :=
  .of_wp fun prog w A R s h => by
    obtain ⟨hl, h⟩ := h
    have ht : s.TypeIs (.ref l) "dict" := ⟨_, hl, rfl⟩
    show wpAny _ _ (Builtin.Dict.dictSlotArgs "__eq__" ⟨[.ref l, .str b u], []⟩ >>= _) _ _ s
    refine wpAny_bind ?_
    unfold Builtin.Dict.dictSlotArgs
    refine wpAny_bind (wpAny_notOrdered_dict ht ?_)
    show wpAny _ _ (pure (Value.ref l, Value.str b u)) _ _ s
    refine wpAny_pure ?_
    refine wpAny_bind (wpAny_isInstance (T := "str") (typeIs_str s b u) PySem.F.sub_str_dict ?_)
    simp only [Bool.not_false, if_true]
    refine wpAny_bind (wpAny_rule ?_)
    exact wpAny_pure ⟨_, rfl, h⟩
theorem EqAt.dict_str {A : Around} {s : Shared} {l : Addr} {es : Array DictEntry} {ep : Nat} (b : Str) (u : Tok) (ho : s.heap.get? l = some { cls := .type "dict", data := .dict es ep }) (hu : A.units < cLine) : EqAt A s (.ref l) (.str b u) false := fun prog w E Q h => by
  unfold eqBool
  refine wpAny_holding ?_
  refine wpAny_ite_split (fun hab => absurd (eq_of_beq hab) nofun) (fun _ => ?_)
  refine wpAny_bind ?_
  exact rc_eq_decline_or (k := false) ⟨_, ho, rfl⟩ (typeIs_str s b u) (by decide) F.sub_str_dict F.slot_dict_eq F.slot_str_eq_refl
    (fun _ hq => call_meets F.slot_dict_eq ⟨_, ho, rfl⟩ F.entry_dict_eq (F.args_dict_eq_2 _ _) (dict_eq_declines_str b u l es ep) ⟨ho, hq⟩)
    (fun _ hq => call_meets F.slot_str_eq_refl (typeIs_str s b u) F.entry_str_eq (F.args_str_eq_2 _ _) (str_eq_declines_dict b u l es ep) ⟨ho, hq⟩)
    (fun _ hq => wpAny_of_eq (rfl : isSame (.ref l) (.str b u) = pure false) hq) (.inr hu) (wpAny_truthy_bool h)
end PySem.SeqAt
namespace Dn
open PySem PySem.Spec PyProof.Rows L2 GxR Gx Lx HotX L2H Hx
def oEqT (neg : Bool) : Op2 := fun x y S => match x, y with
  | .d (.tup ds), .d (.tup []) => .ok (.d (.bl (xor neg ds.isEmpty))) S
  | .d (.tup [.dic]), .d (.tup [.str _]) => .ok (.d (.bl neg)) S
  | _, _ => oEqB neg x y S
@[simp] theorem oEqT_nil (neg : Bool) (ds : List D) (S : Sto) : oEqT neg (.d (.tup ds)) (.d (.tup [])) S = .ok (.d (.bl (xor neg ds.isEmpty))) S := (rfl)
@[simp] theorem oEqT_dic (neg : Bool) (z : Str) (S : Sto) : oEqT neg (.d (.tup [.dic])) (.d (.tup [.str z])) S = .ok (.d (.bl neg)) S := (rfl)
def rEqT (neg : Bool) (K : PySem.W.Frag) : R2 := fun x y H Q => ∃ a b xs ys, x = .ref a ∧ y = .ref b ∧ SqT K H a xs ∧ SqT K H b ys ∧ ((ys = [] ∧ Q (.bl (xor neg xs.isEmpty)) H) ∨ ∃ p z, xs = [.ref p] ∧ H p = some (.dK []) ∧ ys = [.str z] ∧ Q (.bl neg) H)
section
variable {X : Cx} {W : Wd} {E : XK}
open PySem.SeqAt in
theorem items_eqT {pins : List (Addr × Obj)} {σ : L2.St} {H : Hp} {s : Shared} {xs ys : List V} {is js : List Value} (I : Inv X pins σ H s) (hu : X.A.units + 64 < cLine) (r1 : Vals xs is) (r2 : Vals ys js)
    (h : ys = [] ∨ ∃ p z, xs = [.ref p] ∧ H p = some (.dK []) ∧ ys = [.str z]) :
    ∃ e : Nat → Bool, (∀ j (h1 : j < is.toArray.size) (h2 : j < js.toArray.size), EqAt X.A.in1 s is.toArray[j] js.toArray[j] (e j)) ∧ ((List.range (min is.toArray.size js.toArray.size)).all e && is.toArray.size == js.toArray.size) = (ys.isEmpty && xs.isEmpty) := by
  rcases h with rfl | ⟨p, z, rfl, hp, rfl⟩
  · cases r2
    refine ⟨fun _ => false, fun j h1 h2 => by simp at h2, ?_⟩
    cases r1 <;> simp
  · cases r1 with
    | cons a1 b1 =>
      cases b1
      cases r2 with
      | cons a2 b2 =>
        cases b2
        cases a1
        obtain ⟨t, rfl⟩ := a2
        obtain ⟨_, _, vs, _, o, es, ep, ho, hx, hd, _⟩ := (show ObjOk X.prog X.w H s.heap p (.dK []) from I.hok p _ hp)
        have eo : o = { cls := .type "dict", data := .dict es ep } := by
          obtain ⟨cls, dict, data, slots⟩ := o
          obtain ⟨h1, h2, h3⟩ := hx
          simp only at h1 h2 h3 hd
          subst h1 h2 h3 hd
          rfl
        subst eo
        refine ⟨fun _ => false, fun j h1 h2 => ?_, by simp⟩
        have : j = 0 := by simpa using h1
        subst this
        exact EqAt.dict_str z t ho (by show X.A.units + 1 < cLine; omega)
theorem op_eqT0 (hu : X.A.units + 64 < cLine) : OpR X (compareOp .Eq) (rEqT false X.K) := by
  intro pins s σ H x y v u Q I rx ry h
  obtain ⟨a, b, xs, ys, rfl, rfl, h1, h2, h⟩ := h
  obtain rfl : v = Value.ref a := rx
  obtain rfl : u = Value.ref b := ry
  obtain ⟨is, r1, t1, _⟩ := I.tuple h1
  obtain ⟨js, r2, t2, _⟩ := I.tuple h2
  obtain ⟨e, he, hb⟩ := items_eqT I hu r1 r2 (h.imp (·.1) fun ⟨p, z, e1, e2, e3, _⟩ => ⟨p, z, e1, e2, e3⟩)
  refine SeqAt.eq_tupleAt t1 t2 (by omega) he ?_
  rw [hb]
  rcases h with ⟨rfl, q⟩ | ⟨p, z, rfl, _, rfl, q⟩
  · exact ⟨.bl _, H, I, rfl, by simpa using q⟩
  · exact ⟨.bl _, H, I, rfl, by simpa using q⟩
theorem op_neT0 (hu : X.A.units + 64 < cLine) : OpR X (compareOp .NotEq) (rEqT true X.K) := by
  intro pins s σ H x y v u Q I rx ry h
  obtain ⟨a, b, xs, ys, rfl, rfl, h1, h2, h⟩ := h
  obtain rfl : v = Value.ref a := rx
  obtain rfl : u = Value.ref b := ry
  obtain ⟨is, r1, t1, _⟩ := I.tuple h1
  obtain ⟨js, r2, t2, _⟩ := I.tuple h2
  obtain ⟨e, he, hb⟩ := items_eqT I hu r1 r2 (h.imp (·.1) fun ⟨p, z, e1, e2, e3, _⟩ => ⟨p, z, e1, e2, e3⟩)
  refine SeqAt.RcNeAt.tuples t1 t2 (by omega) he X.prog X.w _ _ ?_
  rw [hb]
  rcases h with ⟨rfl, q⟩ | ⟨p, z, rfl, _, rfl, q⟩
  · exact ⟨.bl _, H, I, rfl, by simpa using q⟩
  · exact ⟨.bl _, H, I, rfl, by simpa using q⟩
def rEqX (K : PySem.W.Frag) : R2 := fun x y H Q => rEqA K x y H Q ∨ rEqT false K x y H Q
def rNeX (K : PySem.W.Frag) : R2 := fun x y H Q => rNeA K x y H Q ∨ rEqT true K x y H Q
theorem op_eqT (hu : X.A.units + 64 < cLine) : OpR X (compareOp .Eq) (rEqX X.K) := (op_eqA hu).or (op_eqT0 hu)
theorem op_neT (hu : X.A.units + 64 < cLine) : OpR X (compareOp .NotEq) (rNeX X.K) := (op_neA hu).or (op_neT0 hu)
theorem dop_T {neg : Bool} {r : R2} (hb : DOp W E r (oEqB neg)) : DOp W E (fun x y H Q => r x y H Q ∨ rEqT neg W.K x y H Q) (oEqT neg) := by
  intro x y S H μ v w Q s rx ry h
  unfold oEqT at h
  split at h
  · rename_i ds
    obtain ⟨a, vs, rfl, q1, r1⟩ := seqT_rel rx rfl
    obtain ⟨b, ws, rfl, q2, r2⟩ := seqT_rel ry rfl
    simp only [RelDs] at r2
    subst r2
    refine .inr ⟨a, b, vs, [], rfl, rfl, q1, q2, .inl ⟨rfl, ?_⟩⟩
    have := h.at_ s _ (rel_bl _)
    have e : ds.isEmpty = vs.isEmpty := by
      have := r1.length
      cases ds <;> cases vs <;> simp_all
    rw [← e]
    exact this
  · rename_i z
    obtain ⟨a, vs, rfl, q1, r1⟩ := seqT_rel rx rfl
    obtain ⟨b, ws, rfl, q2, r2⟩ := seqT_rel ry rfl
    simp only [RelDs, RelD] at r1 r2
    obtain ⟨_, _, rfl, ⟨p, rfl, _, hp⟩, rfl⟩ := r1
    obtain ⟨_, _, rfl, rfl, rfl⟩ := r2
    exact .inr ⟨a, b, _, _, rfl, rfl, q1, q2, .inr ⟨p, z, rfl, hp, rfl, h.at_ s _ (rel_bl _)⟩⟩
  · exact .inl (hb x y S H μ v w Q s rx ry h)
theorem dop_eqT : DOp W E (rEqX W.K) (oEqT false) := dop_T dop_eq
theorem dop_neT : DOp W E (rNeX W.K) (oEqT true) := dop_T dop_ne
end
end Dn
set_option Elab.async false
set_option linter.all false
set_option maxRecDepth 100000
set_option maxHeartbeats 4000000
/-! ### zip over an ascii text and a sequence (after ZM) -/
namespace Zm
open PySem PySem.Spec PyProof.Rows L2 RZ
theorem sx {h h' : Heap} {i c : Addr} {x : Str} {tk : Tok} {k : Nat} (a : h.IsStrIter i "str_ascii_iterator" x tk k) (e : Heap.ExtBut c h h') (n : i ≠ c) : h'.IsStrIter i "str_ascii_iterator" x tk k := by
  obtain ⟨o, e1, r⟩ := a
  exact ⟨o, e i o n e1, r⟩
theorem ss {h h' : Heap} {i : Addr} {x : Str} {tk : Tok} {k : Nat} (a : h.IsStrIter i "str_ascii_iterator" x tk k) (e : ∀ o, h.get? i = some o → h'.get? i = some o) : h'.IsStrIter i "str_ascii_iterator" x tk k := by
  obtain ⟨o, e1, r⟩ := a
  exact ⟨o, e o e1, r⟩
section
variable {pg : Program} {w : World} {A : Around} {E : Value → Shared → Prop} {s : Shared} {u : Bool} {x : Str} {tk : Tok} {c0 : Nat}
variable {Z I O i j b : Addr} {k m : Nat} {ys : Array Value} {va vb y : Value}
theorem turnS {Q : Value → Shared → Prop} (D : ZipApart Z I O i j b b) (hz : IsZip s.heap Z I O .none) (hI : IsPair s.heap I (.ref i) (.ref j)) (hO : IsPair s.heap O va vb) (p1 : s.heap.IsStrIter i "str_ascii_iterator" x tk k) (p2 : At u s.heap j b m)
    (q2 : Sq u s.heap b ys) (e1 : x.cps[k]? = some c0) (e2 : ys[m]? = some y)
    (go : ∀ g, IsZip g Z I O (rawInt s.heap.objs.size) ∧ IsPair g O (.str ⟨#[c0]⟩ s.toks) y ∧ g.IsStrIter i "str_ascii_iterator" x tk (k + 1) ∧ At u g j b (m + 1) ∧ IsPair g s.heap.objs.size (.str ⟨#[c0]⟩ s.toks) y → Kept s.heap g Z O i j → Q (.ref s.heap.objs.size) { s with heap := g, toks := s.toks + 1 }) :
    wpAny (model pg w) A (Builtin.«zip.__next__» ⟨[.ref Z], []⟩) (fun f s' => ∃ v, f = .done (.ret v) ∧ Q v s') E s := by
  show wpAny _ _ (field (.ref Z) 2 >>= _) _ _ _; refine wpAny_bind (wpAny_field hz rfl (x := .bool false) rfl ?_)
  show wpAny _ _ (field (.ref Z) 3 >>= _) _ _ _; refine wpAny_bind (wpAny_field hz rfl (x := .ref I) rfl (wpAny_bind (wpAny_seqItems hI rfl ?_)))
  show wpAny _ _ (Builtin.SmallTypes.ownedTupleIsFree (.ref Z) >>= _) _ _ _; refine wpAny_bind ?_; unfold Builtin.SmallTypes.ownedTupleIsFree
  refine wpAny_bind (wpAny_field hz rfl (x := .none) rfl (wpAny_pure ?_)); simp only [if_true]
  refine wpAny_bind (wpAny_rule (wpAny_bind (wpAny_field hz rfl (x := .ref O) rfl (wpAny_bind (wpAny_setField_rec hz (by simp) fun g1 z1 k1 => ?_)))))
  replace z1 : IsZip g1 Z I O .ellipsis := z1
  refine wpAny_bind ?_; simp only [List.zipIdx_cons, List.zipIdx_nil, List.forIn_cons, List.forIn_nil]; refine wpAny_bind (wpAny_bind (wpAny_onRaise ?_))
  show wpAny _ _ (Builtin.SmallTypes.nextOf (.ref i) >>= _) _ _ _; refine wpAny_bind (wpAny_nextOf_ascii_item (sx p1 k1.extBut D.i1z) e1 fun g2 r1 k2 => wpAny_pure ?_)
  have o2 : IsPair g2 O va vb := k2.extBut _ _ D.TOi1 (k1.extBut _ _ D.TOz hO)
  refine wpAny_bind (wpAny_seqItems o2 rfl (wpAny_bind (wpAny_updateSeq_pair o2 fun g3 o3 k3 => ?_))); replace o3 : IsPair g3 O (.str ⟨#[c0]⟩ s.toks) vb := o3
  refine wpAny_bind (wpAny_letGo (wpAny_pure (wpAny_bind (wpAny_bind (wpAny_onRaise ?_)))))
  show wpAny _ _ (Builtin.SmallTypes.nextOf (.ref j) >>= _) _ _ _
  refine wpAny_bind (step (((p2.ext k1.extBut D.i2z).ext k2.extBut D.i12.symm).ext k3.extBut D.TOi2.symm) (((q2.ext k1.extBut D.l2z).ext k2.extBut D.l2i1).ext k3.extBut D.l2TO) e2 fun g4 r2 k4 => wpAny_pure ?_)
  have o4 : IsPair g4 O (.str ⟨#[c0]⟩ s.toks) vb := k4.extBut _ _ D.TOi2 o3
  refine wpAny_bind (wpAny_seqItems o4 rfl (wpAny_bind (wpAny_updateSeq_pair o4 fun g5 o5 k5 => ?_))); replace o5 : IsPair g5 O (.str ⟨#[c0]⟩ s.toks) y := o5
  refine wpAny_bind (wpAny_letGo (wpAny_pure (wpAny_pure (wpAny_bind (wpAny_seqItems o5 rfl (wpAny_bind (wpAny_newTuple ?_)))))))
  have sz : g5.objs.size = s.heap.objs.size := by rw [k5.1, k4.1, k3.1, k2.1, k1.1]
  have z5 : IsZip g5 Z I O .ellipsis := k5.extBut _ _ D.TOz.symm (k4.extBut _ _ D.i2z.symm (k3.extBut _ _ D.TOz.symm (k2.extBut _ _ D.i1z.symm z1)))
  have kp : Kept s.heap g5 Z O i j := fun c o n1 n2 n3 n4 e => k5.extBut _ _ n2 (k4.extBut _ _ n4 (k3.extBut _ _ n2 (k2.extBut _ _ n3 (k1.extBut _ _ n1 e))))
  have f1 : g5.IsStrIter i "str_ascii_iterator" x tk (k + 1) := sx (sx (sx r1 k3.extBut D.TOi1.symm) k4.extBut D.i12) k5.extBut D.TOi1.symm
  have f2 : At u g5 j b (m + 1) := r2.ext k5.extBut D.TOi2.symm
  show wpAny _ _ (Builtin.SmallTypes.ownedTupleHandOut (.ref Z) (.ref g5.objs.size) >>= _) _ _ _
  refine wpAny_bind ?_; unfold Builtin.SmallTypes.ownedTupleHandOut
  have z6 : IsZip (g5.push { cls := .type "tuple", data := .seq #[.str ⟨#[c0]⟩ s.toks, y] }) Z I O .ellipsis := Heap.get?_push_of_some _ z5
  refine wpAny_bind (wpAny_setField_rec z6 (by simp) fun g7 z7 k7 => ?_); replace z7 : IsZip g7 Z I O (rawInt g5.objs.size) := z7
  refine wpAny_setField_rec z7 (by simp) fun g8 z8 k8 => ?_; replace z8 : IsZip g8 Z I O (rawInt g5.objs.size) := z8
  have up : ∀ c o, c ≠ Z → g5.get? c = some o → g8.get? c = some o := fun c o n e => k8.extBut _ _ n (k7.extBut _ _ n (Heap.get?_push_of_some _ e))
  have nz : g5.objs.size ≠ Z := Nat.ne_of_gt (Heap.lt_size z5)
  have o8 : IsPair g8 g5.objs.size (.str ⟨#[c0]⟩ s.toks) y := k8.extBut _ _ nz (k7.extBut _ _ nz (Heap.get?_push_size _ rfl))
  rw [sz] at z8 o8
  refine wpAny_pure ⟨_, rfl, ?_⟩; show Q (.ref g5.objs.size) _; rw [sz]
  exact go g8 ⟨z8, up _ _ D.TOz o5, ss f1 fun o e => up _ o D.i1z e, f2.same fun o e => up _ o D.i2z e, o8⟩ fun c o n1 n2 n3 n4 e => up c o n1 (kp c o n1 n2 n3 n4 e)
theorem lastS {Q : Fin → Shared → Prop} (hh : A.handled = none) (D : ZipApart Z I O i j b b) (hz : IsZip s.heap Z I O .none) (hI : IsPair s.heap I (.ref i) (.ref j)) (hO : IsPair s.heap O va vb) (p1 : s.heap.IsStrIter i "str_ascii_iterator" x tk k) (p2 : At u s.heap j b m)
    (q2 : Sq u s.heap b ys) (no : x.cps[k]? = none ∨ ys[m]? = none) (go : ∀ g f t2, Kept s.heap g Z O i j → (∃ o, g.get? f = some o ∧ o.cls = .type "StopIteration") → E (.ref f) { s with heap := g, toks := t2 }) :
    wpAny (model pg w) A (Builtin.«zip.__next__» ⟨[.ref Z], []⟩) Q E s := by
  show wpAny _ _ (field (.ref Z) 2 >>= _) _ _ _; refine wpAny_bind (wpAny_field hz rfl (x := .bool false) rfl ?_)
  show wpAny _ _ (field (.ref Z) 3 >>= _) _ _ _; refine wpAny_bind (wpAny_field hz rfl (x := .ref I) rfl (wpAny_bind (wpAny_seqItems hI rfl ?_)))
  show wpAny _ _ (Builtin.SmallTypes.ownedTupleIsFree (.ref Z) >>= _) _ _ _; refine wpAny_bind ?_; unfold Builtin.SmallTypes.ownedTupleIsFree
  refine wpAny_bind (wpAny_field hz rfl (x := .none) rfl (wpAny_pure ?_)); simp only [if_true]
  refine wpAny_bind (wpAny_rule (wpAny_bind (wpAny_field hz rfl (x := .ref O) rfl (wpAny_bind (wpAny_setField_rec hz (by simp) fun g1 z1 k1 => ?_)))))
  replace z1 : IsZip g1 Z I O .ellipsis := z1
  refine wpAny_bind ?_; simp only [List.zipIdx_cons, List.zipIdx_nil, List.forIn_cons, List.forIn_nil]; refine wpAny_bind (wpAny_bind (wpAny_onRaise ?_))
  show wpAny _ _ (Builtin.SmallTypes.nextOf (.ref i) >>= _) _ _ _
  by_cases e1 : x.cps[k]? = none
  · refine wpAny_bind (wpAny_nextOf_ascii_end hh (sx p1 k1.extBut D.i1z) e1 fun g2 f k2 ⟨of, hf, cf⟩ => ?_)
    have z2 : IsZip g2 Z I O .ellipsis := k2 _ _ D.i1z.symm z1
    have fz : f ≠ Z := fun q => by subst q; rw [z2] at hf; cases hf; simp at cf
    exact wpAny_setField_rec z2 (by simp) fun g3 _ k3 => go g3 f _ (fun c o n1 _ n3 _ q => k3.extBut _ _ n1 (k2 _ _ n3 (k1.extBut _ _ n1 q))) ⟨of, k3.extBut _ _ fz hf, cf⟩
  · obtain ⟨c0, ex⟩ := Option.ne_none_iff_exists'.mp e1
    have e2 : ys[m]? = none := no.elim (fun q => absurd q e1) id
    refine wpAny_bind (wpAny_nextOf_ascii_item (sx p1 k1.extBut D.i1z) ex fun g2 r1 k2 => wpAny_pure ?_)
    have o2 : IsPair g2 O va vb := k2.extBut _ _ D.TOi1 (k1.extBut _ _ D.TOz hO)
    refine wpAny_bind (wpAny_seqItems o2 rfl (wpAny_bind (wpAny_updateSeq_pair o2 fun g3 o3 k3 => wpAny_bind (wpAny_letGo (wpAny_pure (wpAny_bind (wpAny_bind (wpAny_onRaise ?_))))))))
    show wpAny _ _ (Builtin.SmallTypes.nextOf (.ref j) >>= _) _ _ _
    refine wpAny_bind (over hh (((p2.ext k1.extBut D.i2z).ext k2.extBut D.i12.symm).ext k3.extBut D.TOi2.symm) (((q2.ext k1.extBut D.l2z).ext k2.extBut D.l2i1).ext k3.extBut D.l2TO) e2 fun g4 f k4 ⟨of, hf, cf⟩ => ?_)
    have z4 : IsZip g4 Z I O .ellipsis := k4 _ _ D.i2z.symm (k3.extBut _ _ D.TOz.symm (k2.extBut _ _ D.i1z.symm z1))
    have fz : f ≠ Z := fun q => by subst q; rw [z4] at hf; cases hf; simp at cf
    exact wpAny_setField_rec z4 (by simp) fun g5 _ k5 => go g5 f _ (fun c o n1 n2 n3 n4 q => k5.extBut _ _ n1 (k4 _ _ n4 (k3.extBut _ _ n2 (k2.extBut _ _ n3 (k1.extBut _ _ n1 q))))) ⟨of, k5.extBut _ _ fz hf, cf⟩
end
abbrev sO (x : Str) (tk : Tok) : Obj := { cls := .type "str_ascii_iterator", data := .fields #[.str x tk, .int 0 0] }
abbrev G1 (h : Heap) (x : Str) (tk : Tok) : Heap := h.push (sO x tk)
abbrev G2 (h : Heap) (x : Str) (tk : Tok) (u : Bool) (b : Addr) : Heap := (G1 h x tk).push (itO u b)
abbrev G3 (h : Heap) (x : Str) (tk : Tok) (u : Bool) (b : Addr) : Heap := (G2 h x tk u b).push { cls := .type "tuple", data := .seq #[.ref h.objs.size, .ref (G1 h x tk).objs.size] }
abbrev G4 (h : Heap) (x : Str) (tk : Tok) (u : Bool) (b : Addr) : Heap := (G3 h x tk u b).push { cls := .type "tuple", data := .seq #[.none, .none] }
abbrev G5 (h : Heap) (x : Str) (tk : Tok) (u : Bool) (b : Addr) : Heap := (G4 h x tk u b).push { cls := .type "zip", data := .fields #[.none, .bool false, .bool false, .ref (G2 h x tk u b).objs.size, .ref (G3 h x tk u b).objs.size] }
theorem madeS (x : Str) (tk : Tok) (ha : x.cps.all (· < 128) = true) (u : Bool) (b : Addr) (ys : Array Value) : Meets (Builtin.«zip.__new__» ⟨[.type "zip", .str x tk, .ref b], []⟩) (fun _ R s => True ∧ Sq u s.heap b ys ∧ R (.ok (.ret (.ref (G4 s.heap x tk u b).objs.size))) { s with heap := G5 s.heap x tk u b }) :=
  .of_wp fun pg w A R s h => by
    obtain ⟨hp, g, d, t0, os⟩ := s; obtain ⟨h1, h2, h⟩ := h
    have sub := sub_zip
    have s2 : Sq u (Shared.heap ⟨hp.push (sO x tk), g, d, t0, os⟩) b ys := h2.push _
    wp_walk using wpAny_pyIter_ascii ha, iter_seq s2
    exact ⟨_, rfl, h⟩
theorem zip_newS {pg : Program} {w : World} {A : Around} {E : Value → Shared → Prop} {s : Shared} {x : Str} {tk : Tok} {u : Bool} {b : Addr} {ys : Array Value} {Q : Value → Shared → Prop} (ha : x.cps.all (· < 128) = true) (q2 : Sq u s.heap b ys)
    (go : ∀ g N, N = s.heap.objs.size → IsZip g (N + 4) (N + 2) (N + 3) .none → IsPair g (N + 2) (.ref N) (.ref (N + 1)) → IsPair g (N + 3) .none .none → g.IsStrIter N "str_ascii_iterator" x tk 0 → At u g (N + 1) b 0 → (∀ c o, s.heap.get? c = some o → g.get? c = some o) → Q (.ref (N + 4)) { s with heap := g }) :
    wpAny (model pg w) A (call (.type "zip") [.str x tk, .ref b]) Q E s := by
  refine callType_new F.called_zip (by decide) (F.typeCall_zip_2 _ _) (F.newCall_zip_2 _ _) (fun z => F.args_object_init_3 z _ _) F.entry_zip_new (madeS x tk ha u b ys) ⟨trivial, q2, ?_⟩
  have n1 : (G1 s.heap x tk).objs.size = s.heap.objs.size + 1 := Heap.size_push ..
  have n2 : (G2 s.heap x tk u b).objs.size = s.heap.objs.size + 2 := by rw [Heap.size_push, n1]
  have n3 : (G3 s.heap x tk u b).objs.size = s.heap.objs.size + 3 := by rw [Heap.size_push, n2]
  have n4 : (G4 s.heap x tk u b).objs.size = s.heap.objs.size + 4 := by rw [Heap.size_push, n3]
  have o5 : (G5 s.heap x tk u b).get? (G4 s.heap x tk u b).objs.size = some _ := Heap.get?_push_size _ rfl
  have o4 : (G5 s.heap x tk u b).get? (G3 s.heap x tk u b).objs.size = some _ := Heap.get?_push_of_some _ (Heap.get?_push_size _ rfl)
  have o3 : (G5 s.heap x tk u b).get? (G2 s.heap x tk u b).objs.size = some _ := Heap.get?_push_of_some _ (Heap.get?_push_of_some _ (Heap.get?_push_size _ rfl))
  have o2 : (G5 s.heap x tk u b).get? (G1 s.heap x tk).objs.size = some (itO u b) := Heap.get?_push_of_some _ (Heap.get?_push_of_some _ (Heap.get?_push_of_some _ (Heap.get?_push_size _ rfl)))
  have o1 : (G5 s.heap x tk u b).get? s.heap.objs.size = some (sO x tk) := Heap.get?_push_of_some _ (Heap.get?_push_of_some _ (Heap.get?_push_of_some _ (Heap.get?_push_of_some _ (Heap.get?_push_size _ rfl))))
  show _ ∧ _
  rw [n2, n3, n4] at o5; rw [n1, n2] at o3; rw [n3] at o4; rw [n1] at o2; rw [n4]
  have at_ : ∀ (t : Bool) (h : Heap) (j l : Addr), h.get? j = some (itO t l) → At t h j l 0 := fun t h j l e => by
    cases t <;> exact ⟨_, e, rfl, rfl⟩
  exact ⟨⟨_, o5, rfl⟩, go _ _ rfl o5 o3 o4 ⟨_, o1, rfl, rfl⟩ (at_ _ _ _ _ o2) fun c o x => Heap.get?_push_of_some _ (Heap.get?_push_of_some _ (Heap.get?_push_of_some _ (Heap.get?_push_of_some _ (Heap.get?_push_of_some _ x))))⟩
end Zm
set_option Elab.async false
set_option linter.all false
set_option maxRecDepth 100000
set_option maxHeartbeats 4000000
/-! ### zip over an ascii text and a sequence, in the hand layer (after ZM) -/
namespace Zm
open PySem PySem.Spec PyProof.Rows L2 RZ
def ItS (x : Str) (u : Bool) (K : PySem.W.Frag) (b : Addr) : It where
  go := fun i H => ∃ (ys : List V) (c : Nat) (y : V), x.cps[i]? = some c ∧ SqA u K H b ys ∧ ys[i]? = some y
  yld := fun i H v H' => ∃ T c y, v = .ref T ∧ H T = none ∧ H' = upd H T (.tup [.str ⟨#[c]⟩, y]) ∧ x.cps[i]? = some c ∧ ∀ ys, SqA u K H b ys → ys[i]? = some y
  stop := fun i H => ∃ ys : List V, SqA u K H b ys ∧ (x.cps.size ≤ i ∨ ys.length ≤ i)
theorem turnS_ {P : Program} {w : World} {K : PySem.W.Frag} {elts : List Expr} {kk : Nat} {tpos : Pos} {x0 : Str} {tk : Tok} {u : Bool} {b Z I O i j : Addr} (D : ZipApart Z I O i j b b) :
    Turn P w K (.Tuple elts kk tpos) (ItS x0 u K b) [Z, I, O, i, j] Z (fun n h => IsZip h Z I O .none ∧ IsPair h I (.ref i) (.ref j) ∧ (∃ x y, IsPair h O x y) ∧ h.IsStrIter i "str_ascii_iterator" x0 tk n ∧ At u h j b n) where
  mem := List.mem_cons_self
  obj := fun n h ⟨hz, hI, ⟨x, y, hO⟩, p1, p2⟩ c hc => by
    simp only [List.mem_cons, List.not_mem_nil, or_false] at hc
    rcases hc with rfl | rfl | rfl | rfl | rfl
    · exact ⟨_, hz, fun _ z => nomatch z⟩
    · exact ⟨_, hI, fun _ z => nomatch z⟩
    · exact ⟨_, hO, fun _ z => nomatch z⟩
    · obtain ⟨o, e, _, d⟩ := p1
      exact ⟨o, e, fun v q => by rw [d] at q; cases q⟩
    · exact p2.ob
  keep := fun n h h' ⟨hz, hI, ⟨x, y, hO⟩, p1, p2⟩ k => ⟨k Z (by simp) _ hz, k I (by simp) _ hI, ⟨x, y, k O (by simp) _ hO⟩, ss p1 (k i (by simp)), p2.same (k j (by simp))⟩
  item := by
    intro X hP hw hK hc n pins s σ H E Iv hf ⟨hz, hI, ⟨x0, y0, hO⟩, p1, p2⟩ ⟨ys, c0, y, ex, qy, ey⟩
    subst hP hw hK
    obtain ⟨vs, ry, sy, _⟩ := seqI Iv qy
    obtain ⟨v2, ev2, rv2⟩ := ry.get ey
    have hT : s.TypeIs (.ref Z) "zip" := ⟨_, hz, rfl⟩
    have zl : Z < s.heap.objs.size := Heap.lt_size hz
    unfold pyNext
    refine wpAny_bind (wpAny_attempt (wpAny_callSpecial?_slot (name := Str.ofString "__next__") hT F.slot_zip_next (wpAny_call_entry F.slot_zip_next hT F.entry_zip_next
      (turnS D hz hI hO p1 p2 sy (y := v2) ex (by simpa using ev2) fun g ⟨gz, gO, g1, g2, gT⟩ kp => wpAny_pure ?_) (F.args_zip_next_1 _))))
    refine ⟨_, rfl, wpAny_letOwnedTupleGo_zip (s := { s with heap := g, toks := s.toks + 1 }) gz fun g' gz' sb => ?_⟩
    have kz : ∀ c o, c ≠ Z → g.get? c = some o → g'.get? c = some o := fun c o q e => (sb.2 c q).trans e
    have nx : s.heap.objs.size ≠ Z := Nat.ne_of_gt zl
    have new : ObjOk X.prog X.w (upd H s.heap.objs.size (.tup [.str ⟨#[c0]⟩, y])) g' s.heap.objs.size (.tup [.str ⟨#[c0]⟩, y]) := ⟨by show 2 ≤ sizeLine; decide, [.str ⟨#[c0]⟩ s.toks, v2], .cons ⟨_, rfl⟩ (.cons rv2 .nil), ⟨_, kz _ _ nx gT, rfl, _, rfl⟩⟩
    have outs : ∀ c o, c ∉ [Z, I, O, i, j] → s.heap.get? c = some o → g'.get? c = some o := fun c o q e => by
      simp only [List.mem_cons, List.not_mem_nil, or_false, not_or] at q
      exact kz c o q.1 (kp c o q.1 q.2.2.1 q.2.2.2.1 q.2.2.2.2 e)
    have I1 : Inv X pins σ (upd H s.heap.objs.size (.tup [.str ⟨#[c0]⟩, y])) { s with heap := g', toks := s.toks + 1 } := Iv.turnedNew (t' := s.toks + 1) (ch := [Z, I, O, i, j]) (fun c o q e => outs c o q e) hf (Nat.le_refl _) new
    refine ⟨.ref s.heap.objs.size, _, I1, rfl, ⟨_, c0, y, rfl, Iv.hok.fresh (Nat.le_refl _), rfl, ex, fun l hl => by rw [seq_inj Iv hl qy]; exact ey⟩, ?_, fun c hc => ?_⟩
    · exact ⟨gz', kz _ _ D.TIz (kp _ _ D.TIz D.TITO D.TIi1 D.TIi2 hI), ⟨_, v2, kz _ _ D.TOz gO⟩, ss g1 fun o e => kz _ o D.i1z e, g2.same fun o e => kz _ o D.i2z e⟩
    · have lt : c < s.heap.objs.size := by
        simp only [List.mem_cons, List.not_mem_nil, or_false] at hc
        rcases hc with rfl | rfl | rfl | rfl | rfl
        · exact zl
        · exact Heap.lt_size hI
        · exact Heap.lt_size hO
        · exact (let ⟨_, e, _⟩ := p1; Heap.lt_size e)
        · exact (let ⟨_, e, _⟩ := p2.ob; Heap.lt_size e)
      rw [upd_ne (Nat.ne_of_lt lt)]; exact (hf c hc).1
  done := by
    intro X hP hw hK hc n pins s σ H E Iv hf ⟨hz, hI, ⟨x0, y0, hO⟩, p1, p2⟩ ⟨ys, qy, no⟩
    subst hP hw hK
    obtain ⟨vs, ry, sy, _⟩ := seqI Iv qy
    have l2 := ry.length
    have hT : s.TypeIs (.ref Z) "zip" := ⟨_, hz, rfl⟩
    unfold pyNext
    refine wpAny_bind (wpAny_attempt (wpAny_callSpecial?_slot (name := Str.ofString "__next__") hT F.slot_zip_next (wpAny_call_entry F.slot_zip_next hT F.entry_zip_next
      (lastS (Iv.ok.hd hc) D hz hI hO p1 p2 sy (no.imp (fun q => Array.getElem?_eq_none q) fun q => by simp; omega) fun g f t2 kp ⟨o, ho, cl⟩ => ?_) (F.args_zip_next_1 _))))
    refine wpAny_bind (wpAny_isInstance (T := "StopIteration") (b := true) ⟨o, ho, cl⟩ isSubtype_stop (wpAny_pure ⟨rfl, Iv.turnedL (t' := t2) (ch := [Z, I, O, i, j]) (fun c o q e => ?_) hf⟩))
    simp only [List.mem_cons, List.not_mem_nil, or_false, not_or] at q
    exact kp c o q.1 q.2.2.1 q.2.2.2.1 q.2.2.2.2 e
  self := fun A n s Q E st h => wpAny_pyIter_zip st.1 h
def iMixS (K : PySem.W.Frag) (ta : TA) : TI := fun σ H R => ta σ H fun vs H1 => ∃ x u b ys, vs = [.str x, .ref b] ∧ x.cps.all (· < 128) = true ∧ SqA u K H1 b ys ∧ R (ItS x u K b) H1
theorem pi_mixS {X : Cx} {e e2 : Expr} {ta : TA} {p pos tpos : Pos} {elts : List Expr} {kk : Nat} (hg : Gl X "zip") (hm : X.mg "zip" = none) (ha : PA X [e, e2] ta)
    (hs : starEach [e, e2] X.env = (false, eval e X.env) :: starEach [e2] X.env := by rfl) (hl : (backTo pos (starEach [e2] X.env)).any (·.1) = false := by rfl) : PI X (.Tuple elts kk tpos) (.Call (.Name "zip" p) [e, e2] [] pos) (iMixS X.K ta) := by
  refine ⟨fun pins s σ H R Iv h => Call_ (ld_blt Iv hg hm PyProof.Rows.boot_zip (PyProof.Rows.callWith_type1 (thn (ha.run pos pins s σ H _ Iv h) fun us s1 ⟨vs, H1, I1, r1, q1⟩ => ?_) hs hl))⟩
  obtain ⟨x, u, b, ys, rfl, asc, qy, q⟩ := q1
  cases r1 with
  | cons r rr =>
    cases rr with
    | cons r' rr =>
      cases rr; cases r'
      obtain ⟨tk, rfl⟩ := r
      obtain ⟨_, _, sy, lb⟩ := seqI I1 qy
      refine zip_newS asc sy fun g N eN gz gI gO g1 g2 kp => wpAny_pyIter_zip gz ?_
      have fr : ∀ c, c ∈ [N + 4, N + 2, N + 3, N, N + 1] → FpOk X pins H1 c := fun c hc => by
        have le : s1.heap.objs.size ≤ c := by
          simp only [List.mem_cons, List.not_mem_nil, or_false] at hc
          rw [← eN]
          rcases hc with rfl | rfl | rfl | rfl | rfl <;> first | exact Nat.le_add_right _ _ | exact Nat.le_refl _
        exact I1.fpOk le (I1.hok.fresh le)
      exact ⟨N + 4, [N + 4, N + 2, N + 3, N, N + 1], _, _, H1, rfl, I1.kept (t' := s1.toks) kp, turnS_ (by rw [eN]; exact PySem.W.ktu_apart s1.heap.objs.size b b lb lb), ⟨gz, gI, ⟨_, _, gO⟩, g1, g2⟩, fr, q⟩
end Zm
set_option Elab.async false
set_option linter.all false
set_option maxRecDepth 100000
set_option maxHeartbeats 4000000
/-! ### zip whose first may be an ascii text -/
namespace Zm
open PySem PySem.Spec PyProof.Rows L2 RZ
def iMixO (K : PySem.W.Frag) (ta : TA) : TI := fun σ H R => ta σ H fun vs H1 => (∃ t u a b xs ys, vs = [.ref a, .ref b] ∧ SqA t K H1 a xs ∧ SqA u K H1 b ys ∧ R (ItM t u K a b) H1) ∨ ∃ x u b ys, vs = [.str x, .ref b] ∧ x.cps.all (· < 128) = true ∧ SqA u K H1 b ys ∧ R (ItS x u K b) H1
theorem pi_mixO {X : Cx} {e e2 : Expr} {ta : TA} {p pos tpos : Pos} {elts : List Expr} {kk : Nat} (hg : Gl X "zip") (hm : X.mg "zip" = none) (ha : PA X [e, e2] ta)
    (hs : starEach [e, e2] X.env = (false, eval e X.env) :: starEach [e2] X.env := by rfl) (hl : (backTo pos (starEach [e2] X.env)).any (·.1) = false := by rfl) : PI X (.Tuple elts kk tpos) (.Call (.Name "zip" p) [e, e2] [] pos) (iMixO X.K ta) := by
  refine ⟨fun pins s σ H R Iv h => Call_ (ld_blt Iv hg hm PyProof.Rows.boot_zip (PyProof.Rows.callWith_type1 (thn (ha.run pos pins s σ H _ Iv h) fun us s1 ⟨vs, H1, I1, r1, q1⟩ => ?_) hs hl))⟩
  rcases q1 with ⟨t, u, a, b, xs, ys, rfl, qx, qy, q⟩ | ⟨x, u, b, ys, rfl, asc, qy, q⟩
  · cases r1 with
    | cons r rr =>
      cases rr with
      | cons r' rr =>
        cases rr; cases r; cases r'
        obtain ⟨_, _, sx, la⟩ := seqI I1 qx
        obtain ⟨_, _, sy, lb⟩ := seqI I1 qy
        refine zip_new sx sy fun g N eN gz gI gO g1 g2 kp => wpAny_pyIter_zip gz ?_
        have fr : ∀ c, c ∈ [N + 4, N + 2, N + 3, N, N + 1] → FpOk X pins H1 c := fun c hc => by
          have le : s1.heap.objs.size ≤ c := by
            simp only [List.mem_cons, List.not_mem_nil, or_false] at hc
            rw [← eN]
            rcases hc with rfl | rfl | rfl | rfl | rfl <;> first | exact Nat.le_add_right _ _ | exact Nat.le_refl _
          exact I1.fpOk le (I1.hok.fresh le)
        exact ⟨N + 4, [N + 4, N + 2, N + 3, N, N + 1], _, _, H1, rfl, I1.kept (t' := s1.toks) kp, turnM (by rw [eN]; exact PySem.W.ktu_apart s1.heap.objs.size a b la lb), ⟨gz, gI, ⟨_, _, gO⟩, g1, g2⟩, fr, q⟩
  · cases r1 with
    | cons r rr =>
      cases rr with
      | cons r' rr =>
        cases rr; cases r'
        obtain ⟨tk, rfl⟩ := r
        obtain ⟨_, _, sy, lb⟩ := seqI I1 qy
        refine zip_newS asc sy fun g N eN gz gI gO g1 g2 kp => wpAny_pyIter_zip gz ?_
        have fr : ∀ c, c ∈ [N + 4, N + 2, N + 3, N, N + 1] → FpOk X pins H1 c := fun c hc => by
          have le : s1.heap.objs.size ≤ c := by
            simp only [List.mem_cons, List.not_mem_nil, or_false] at hc
            rw [← eN]
            rcases hc with rfl | rfl | rfl | rfl | rfl <;> first | exact Nat.le_add_right _ _ | exact Nat.le_refl _
          exact I1.fpOk le (I1.hok.fresh le)
        exact ⟨N + 4, [N + 4, N + 2, N + 3, N, N + 1], _, _, H1, rfl, I1.kept (t' := s1.toks) kp, turnS_ (by rw [eN]; exact PySem.W.ktu_apart s1.heap.objs.size b b lb lb), ⟨gz, gI, ⟨_, _, gO⟩, g1, g2⟩, fr, q⟩
end Zm
namespace Dn
open PySem PySem.Spec PyProof.Rows L2 GxR Gx Zm
/-- the letters of a text -/
def lets (x : Str) : List D := x.cps.toList.map fun c => .str ⟨#[c]⟩
def iMz (xs : List Val) (S : Sto) : Out Itm := match xs with
  | [.d (.str x), y] => (match seqK y S with
    | some es => if x.cps.all (· < 128) = true then .ok ⟨((lets x).zip es.2).map fun p => .tup [p.1, p.2], wtV y S⟩ S else .bad
    | none => .bad)
  | xs => iMx xs S
def diMz (As : DAf) : DIf := fun env S => (As env S).bind fun xs S1 => iMz xs S1
section
variable {W : Wd} {E : XK} {X : Cx} {H : Hp} {μ : Mu} {S : Sto} {tg : Expr} {pos : Pos}
theorem di_mz {a b : Expr} {As : DAf} {p tpos : Pos} {elts : List Expr} {kk : Nat} (hK : X.K = W.K) (hg : Gl X "zip") (hm : X.mg "zip" = none) (ha : DA W E X [a, b] As)
    (hs : starEach [a, b] X.env = (false, eval a X.env) :: starEach [b] X.env := by rfl) (hl : (backTo pos (starEach [b] X.env)).any (·.1) = false := by rfl) : DI W E X (.Tuple elts kk tpos) (.Call (.Name "zip" p) [a, b] [] pos) (diMz As) :=
  (pi_mixO hg hm ha hs hl).imp fun σ H R ⟨env, S, μ, hE, hS, hp⟩ => ⟨env, S, μ, hE, hS, hp.bind.imp fun xs S1 H1 μ1 l1 s1 p1 vs rvs => by
    unfold iMz at p1
    rw [hK]
    split at p1
    · rename_i x y
      obtain ⟨v, w, rfl, rv, rw'⟩ := rel_two rvs
      split at p1
      · rename_i es e2
        split at p1
        · rename_i asc
          obtain ⟨b, rfl, h2⟩ := staysK s1 rw' e2
          obtain ⟨ws, q2, _⟩ := h2 H1 μ1 S1 .refl s1 wtV_ok
          have hv : v = .str x := by simpa [RelV', RelD] using rv
          subst hv
          have ll : (lets x).length = x.cps.size := by simp [lets]
          refine .inr ⟨x, es.1, b, ws, rfl, asc, q2, p1.at_ s1 _ (pairs_ok rfl (fun i H' μ' S' l s w hi => ?_) (fun H' μ' S' l s w => ?_) fun i H' μ' S' v H2 l s w hi yy => ?_)⟩
          · obtain ⟨ws, q2, r2⟩ := h2 H' μ' S' l s w
            obtain ⟨w, e4, _⟩ := r2.get (List.getElem?_eq_getElem (Nat.lt_of_lt_of_le hi (Nat.min_le_right _ _)))
            have hx : i < x.cps.size := by rw [← ll]; exact Nat.lt_of_lt_of_le hi (Nat.min_le_left _ _)
            exact ⟨ws, x.cps[i], w, Array.getElem?_eq_getElem hx, q2, e4⟩
          · obtain ⟨ws, q2, r2⟩ := h2 H' μ' S' l s w
            exact ⟨ws, q2, by rw [← ll, ← r2.length]; omega⟩
          · obtain ⟨ws, q2, r2⟩ := h2 H' μ' S' l s w
            obtain ⟨T, c, y, rfl, hT, rfl, ec, ey⟩ := yy
            obtain ⟨w, e4, r4⟩ := r2.get (List.getElem?_eq_getElem (Nat.lt_of_lt_of_le hi (Nat.min_le_right _ _)))
            have e5 := (ey ws q2).symm.trans e4
            cases e5
            refine ⟨T, .str ⟨#[c]⟩, _, .str ⟨#[c]⟩, _, rfl, hT, rfl, ?_, List.getElem?_eq_getElem (Nat.lt_of_lt_of_le hi (Nat.min_le_right _ _)), by simp [RelD], r4⟩
            simp [lets, ec]
        · exact p1.elim
      · exact p1.elim
    · unfold iMx at p1
      split at p1
      · rename_i x y
        obtain ⟨v, w, rfl, rv, rw'⟩ := rel_two rvs
        split at p1
        · rename_i ds es e1 e2
          obtain ⟨a, rfl, h1⟩ := staysK s1 rv e1
          obtain ⟨b, rfl, h2⟩ := staysK s1 rw' e2
          obtain ⟨us, q1, _⟩ := h1 H1 μ1 S1 .refl s1 wtV_ok
          obtain ⟨ws, q2, _⟩ := h2 H1 μ1 S1 .refl s1 wtV_ok
          refine .inl ⟨ds.1, es.1, a, b, us, ws, rfl, q1, q2, p1.at_ s1 _ (pairs_ok rfl (fun i H' μ' S' l s w hi => ?_) (fun H' μ' S' l s w => ?_) fun i H' μ' S' v H2 l s w hi yy => ?_)⟩
          · rw [wtOk_app] at w
            obtain ⟨us, q1, r1⟩ := h1 H' μ' S' l s w.1
            obtain ⟨ws, q2, r2⟩ := h2 H' μ' S' l s w.2
            obtain ⟨u, e3, _⟩ := r1.get (List.getElem?_eq_getElem (Nat.lt_of_lt_of_le hi (Nat.min_le_left _ _)))
            obtain ⟨w, e4, _⟩ := r2.get (List.getElem?_eq_getElem (Nat.lt_of_lt_of_le hi (Nat.min_le_right _ _)))
            exact ⟨us, ws, u, w, q1, q2, e3, e4⟩
          · rw [wtOk_app] at w
            obtain ⟨us, q1, r1⟩ := h1 H' μ' S' l s w.1
            obtain ⟨ws, q2, r2⟩ := h2 H' μ' S' l s w.2
            exact ⟨us, ws, q1, q2, by rw [← r1.length, ← r2.length]; omega⟩
          · rw [wtOk_app] at w
            obtain ⟨us, q1, r1⟩ := h1 H' μ' S' l s w.1
            obtain ⟨ws, q2, r2⟩ := h2 H' μ' S' l s w.2
            have hd := List.getElem?_eq_getElem (Nat.lt_of_lt_of_le hi (Nat.min_le_left _ _))
            have he := List.getElem?_eq_getElem (Nat.lt_of_lt_of_le hi (Nat.min_le_right _ _))
            obtain ⟨u, e3, r3⟩ := r1.get hd
            obtain ⟨w, e4, r4⟩ := r2.get he
            obtain ⟨T, x, y, rfl, hT, rfl, f1, f2⟩ := yy
            have g1 := f1 us q1
            have g2 := f2 ws q2
            rw [e3] at g1; cases g1
            rw [e4] at g2; cases g2
            exact ⟨T, _, _, _, _, rfl, hT, rfl, hd, he, r3, r4⟩
        · exact p1.elim
      · exact p1.elim⟩
end
end Dn
set_option Elab.async false
set_option linter.all false
set_option maxRecDepth 100000
set_option maxHeartbeats 0
namespace Law
open PySem PySem.Spec PyProof.Rows L2 GxR Gx Dn
def top (i : Nat) : Stmt := PySem.Challenge.pw_safehelms_k38_machines_refused.main.body.getD i (.Pass ⟨0, 0, 0, 0⟩)
def tf : List He.Defn := [("run_program", none)]
def tl : List He.Defn := [("_law_right", none)]
abbrev WK (K : PySem.W.Frag) : Wd := { K := K, tabs := tf.map fun p => (He.cT K p).2, lams := [((He.cT K ("_law_right", none)).2, ("_law_right" ++ ".<locals>.") ++ "<lambda>")], ca := fun s => He.ga K s }
abbrev s__law_pull : Stmt := top 46
abbrev s__law_one : Stmt := top 47
abbrev s__law_named : Stmt := top 54
abbrev s__law_heard_of : Stmt := top 55
abbrev s__law_top : Stmt := top 49
abbrev s__law_word : Stmt := top 51
abbrev s__law_code : Stmt := top 58
abbrev s__law_row_of_words : Stmt := top 59
abbrev s__law_is_whole : Stmt := top 48
abbrev s__law_is_word : Stmt := top 50
abbrev s__law_is_line : Stmt := top 56
abbrev s__law_wrong_line : Stmt := top 57
abbrev s__law_cells_in : Stmt := top 60
abbrev s__law_due : Stmt := top 61
abbrev s__law_odd : Stmt := top 52
abbrev s__law_bent : Stmt := top 53
abbrev s_is_whole : Stmt := top 21
abbrev s_is_whole_from : Stmt := top 22
abbrev s_is_width : Stmt := top 32
abbrev s_check_width : Stmt := top 33
abbrev s_least_word : Stmt := top 28
abbrev s_wrapped_word : Stmt := top 31
abbrev s_wrapped : Stmt := top 38
abbrev s_head_of : Stmt := top 26
abbrev s_is_index : Stmt := top 23
abbrev s_greatest_word : Stmt := top 29
abbrev s_is_word : Stmt := top 30
abbrev s_is_program_row : Stmt := top 37
abbrev s_wrong_row : Stmt := top 36
abbrev s_check_words : Stmt := top 40
abbrev s_done : Stmt := top 43
abbrev s_ended : Stmt := top 42
abbrev s_is_tuple_of : Stmt := top 24
abbrev s_cells_named : Stmt := top 41
abbrev s_run_program : Stmt := top 39
abbrev s__law_right : Stmt := top 62
abbrev s__law_urn : Stmt := top 45
abbrev s_law : Stmt := top 63
abbrev rs__law_heard_of : List Str := ["InvalidCells", "InvalidNumber", "InvalidProgram"]
abbrev ow__law_heard_of : List Str := ["InvalidNumber", "InvalidController", "InvalidState", "InvalidForm", "InvalidMemory", "InvalidName", "InvalidLoop", "TooMany", "InvalidLot", "InvalidPlant", "InvalidReadings", "InvalidRows", "InvalidNumbers", "InvalidProgram", "InvalidCells", "InvalidText", "InvalidWrites", "InvalidRow"]
def tb_ROW_PARTS : Tb := [("put", ["cell", "word"]), ("copy", ["cell", "cell"]), ("add", ["cell", "cell", "cell"]), ("less", ["cell", "cell", "cell"]), ("times", ["cell", "cell", "word"]), ("jump", ["row"]), ("below", ["cell", "cell", "row"]), ("stop", [])]
/-- what the head tells -/
structure Gf (P : Program) (w : World) (K : PySem.W.Frag) (mg : Str → Option Value) (base : Heap) : Prop where
  e_InvalidCells : EK.ErrK P w K mg "InvalidCells" "index"
  e_InvalidNumber : EK.ErrK P w K mg "InvalidNumber" "given"
  e_InvalidProgram : EK.ErrK P w K mg "InvalidProgram" "index"
  x__law_heard_of : HotK K mg rs__law_heard_of ow__law_heard_of "HelmError"
  d_ROW_PARTS : GTab K w mg "ROW_PARTS" tb_ROW_PARTS
  b_ArithmeticError : mg "ArithmeticError" = none
  b_LookupError : mg "LookupError" = none
  b_ValueError : mg "ValueError" = none
  b_abs : mg "abs" = none
  b_all : mg "all" = none
  b_any : mg "any" = none
  b_bool : mg "bool" = none
  b_divmod : mg "divmod" = none
  b_enumerate : mg "enumerate" = none
  b_int : mg "int" = none
  b_isinstance : mg "isinstance" = none
  b_len : mg "len" = none
  b_list : mg "list" = none
  b_max : mg "max" = none
  b_min : mg "min" = none
  b_range : mg "range" = none
  b_repr : mg "repr" = none
  b_str : mg "str" = none
  b_tuple : mg "tuple" = none
  b_zip : mg "zip" = none
  t_run_program : TabB base mg (He.codeOf K ("run_program", none)) (He.tabOf K (He.codeOf K ("run_program", none)))
  t__law_right : TabB base mg (He.codeOf K ("_law_right", none)) (He.tabOf K (He.codeOf K ("_law_right", none)))
  f__law_pull : ∃ fd, FunD K "_law_pull" "_law_pull" (defArgs s__law_pull) (defBody s__law_pull) (defScope s__law_pull) [] [] (He.fAd K ("_law_pull", none)) fd
  f__law_one : ∃ fd, FunD K "_law_one" "_law_one" (defArgs s__law_one) (defBody s__law_one) (defScope s__law_one) [] [] (He.fAd K ("_law_one", none)) fd
  f__law_named : ∃ fd, FunD K "_law_named" "_law_named" (defArgs s__law_named) (defBody s__law_named) (defScope s__law_named) [] [] (He.fAd K ("_law_named", none)) fd
  f__law_heard_of : ∃ fd, FunD K "_law_heard_of" "_law_heard_of" (defArgs s__law_heard_of) (defBody s__law_heard_of) (defScope s__law_heard_of) [] [] (He.fAd K ("_law_heard_of", none)) fd
  f__law_top : ∃ fd, FunD K "_law_top" "_law_top" (defArgs s__law_top) (defBody s__law_top) (defScope s__law_top) [] [] (He.fAd K ("_law_top", none)) fd
  f__law_word : ∃ fd, FunD K "_law_word" "_law_word" (defArgs s__law_word) (defBody s__law_word) (defScope s__law_word) [] [] (He.fAd K ("_law_word", none)) fd
  f__law_code : ∃ fd, FunD K "_law_code" "_law_code" (defArgs s__law_code) (defBody s__law_code) (defScope s__law_code) [] [] (He.fAd K ("_law_code", none)) fd
  f__law_row_of_words : ∃ fd, FunD K "_law_row_of_words" "_law_row_of_words" (defArgs s__law_row_of_words) (defBody s__law_row_of_words) (defScope s__law_row_of_words) [] [] (He.fAd K ("_law_row_of_words", none)) fd
  f__law_is_whole : ∃ fd, FunD K "_law_is_whole" "_law_is_whole" (defArgs s__law_is_whole) (defBody s__law_is_whole) (defScope s__law_is_whole) [] [] (He.fAd K ("_law_is_whole", none)) fd
  f__law_is_word : ∃ fd, FunD K "_law_is_word" "_law_is_word" (defArgs s__law_is_word) (defBody s__law_is_word) (defScope s__law_is_word) [] [] (He.fAd K ("_law_is_word", none)) fd
  f__law_is_line : ∃ fd, FunD K "_law_is_line" "_law_is_line" (defArgs s__law_is_line) (defBody s__law_is_line) (defScope s__law_is_line) [] [] (He.fAd K ("_law_is_line", none)) fd
  f__law_wrong_line : ∃ fd, FunD K "_law_wrong_line" "_law_wrong_line" (defArgs s__law_wrong_line) (defBody s__law_wrong_line) (defScope s__law_wrong_line) [] [] (He.fAd K ("_law_wrong_line", none)) fd
  f__law_cells_in : ∃ fd, FunD K "_law_cells_in" "_law_cells_in" (defArgs s__law_cells_in) (defBody s__law_cells_in) (defScope s__law_cells_in) [] [] (He.fAd K ("_law_cells_in", none)) fd
  f__law_due : ∃ fd, FunD K "_law_due" "_law_due" (defArgs s__law_due) (defBody s__law_due) (defScope s__law_due) [] [] (He.fAd K ("_law_due", none)) fd
  f__law_odd : ∃ fd, FunD K "_law_odd" "_law_odd" (defArgs s__law_odd) (defBody s__law_odd) (defScope s__law_odd) [] [] (He.fAd K ("_law_odd", none)) fd
  f__law_bent : ∃ fd, FunD K "_law_bent" "_law_bent" (defArgs s__law_bent) (defBody s__law_bent) (defScope s__law_bent) [] [] (He.fAd K ("_law_bent", none)) fd
  f_is_whole : ∃ fd, FunD K "is_whole" "is_whole" (defArgs s_is_whole) (defBody s_is_whole) (defScope s_is_whole) [] [] (He.fAd K ("is_whole", none)) fd
  f_is_whole_from : ∃ fd, FunD K "is_whole_from" "is_whole_from" (defArgs s_is_whole_from) (defBody s_is_whole_from) (defScope s_is_whole_from) [] [] (He.fAd K ("is_whole_from", none)) fd
  f_is_width : ∃ fd, FunD K "is_width" "is_width" (defArgs s_is_width) (defBody s_is_width) (defScope s_is_width) [] [] (He.fAd K ("is_width", none)) fd
  f_check_width : ∃ fd, FunD K "check_width" "check_width" (defArgs s_check_width) (defBody s_check_width) (defScope s_check_width) [] [] (He.fAd K ("check_width", none)) fd
  f_least_word : ∃ fd, FunD K "least_word" "least_word" (defArgs s_least_word) (defBody s_least_word) (defScope s_least_word) [] [] (He.fAd K ("least_word", none)) fd
  f_wrapped_word : ∃ fd, FunD K "wrapped_word" "wrapped_word" (defArgs s_wrapped_word) (defBody s_wrapped_word) (defScope s_wrapped_word) [] [] (He.fAd K ("wrapped_word", none)) fd
  f_wrapped : ∃ fd, FunD K "wrapped" "wrapped" (defArgs s_wrapped) (defBody s_wrapped) (defScope s_wrapped) [] [] (He.fAd K ("wrapped", none)) fd
  f_head_of : ∃ fd, FunD K "head_of" "head_of" (defArgs s_head_of) (defBody s_head_of) (defScope s_head_of) [] [] (He.fAd K ("head_of", none)) fd
  f_is_index : ∃ fd, FunD K "is_index" "is_index" (defArgs s_is_index) (defBody s_is_index) (defScope s_is_index) [] [] (He.fAd K ("is_index", none)) fd
  f_greatest_word : ∃ fd, FunD K "greatest_word" "greatest_word" (defArgs s_greatest_word) (defBody s_greatest_word) (defScope s_greatest_word) [] [] (He.fAd K ("greatest_word", none)) fd
  f_is_word : ∃ fd, FunD K "is_word" "is_word" (defArgs s_is_word) (defBody s_is_word) (defScope s_is_word) [] [] (He.fAd K ("is_word", none)) fd
  f_is_program_row : ∃ fd, FunD K "is_program_row" "is_program_row" (defArgs s_is_program_row) (defBody s_is_program_row) (defScope s_is_program_row) [] [] (He.fAd K ("is_program_row", none)) fd
  f_wrong_row : ∃ fd, FunD K "wrong_row" "wrong_row" (defArgs s_wrong_row) (defBody s_wrong_row) (defScope s_wrong_row) [] [] (He.fAd K ("wrong_row", none)) fd
  f_check_words : ∃ fd, FunD K "check_words" "check_words" (defArgs s_check_words) (defBody s_check_words) (defScope s_check_words) [] [] (He.fAd K ("check_words", none)) fd
  f_done : ∃ fd, FunD K "done" "done" (defArgs s_done) (defBody s_done) (defScope s_done) [] [] (He.fAd K ("done", none)) fd
  f_ended : ∃ fd, FunD K "ended" "ended" (defArgs s_ended) (defBody s_ended) (defScope s_ended) [] [] (He.fAd K ("ended", none)) fd
  f_is_tuple_of : ∃ fd, FunD K "is_tuple_of" "is_tuple_of" (defArgs s_is_tuple_of) (defBody s_is_tuple_of) (defScope s_is_tuple_of) [] [] (He.fAd K ("is_tuple_of", none)) fd
  f_cells_named : ∃ fd, FunD K "cells_named" "cells_named" (defArgs s_cells_named) (defBody s_cells_named) (defScope s_cells_named) [] [] (He.fAd K ("cells_named", none)) fd
  f_run_program : ∃ fd, FunD K "run_program" "run_program" (defArgs s_run_program) (defBody s_run_program) (defScope s_run_program) [] [] (He.fAd K ("run_program", none)) fd
  f__law_right : ∃ fd, FunD K "_law_right" "_law_right" (defArgs s__law_right) (defBody s__law_right) (defScope s__law_right) [] [] (He.fAd K ("_law_right", none)) fd
  f__law_urn : ∃ fd, FunD K "_law_urn" "_law_urn" (defArgs s__law_urn) (defBody s__law_urn) (defScope s__law_urn) [] [] (He.fAd K ("_law_urn", none)) fd
  f_law : ∃ fd, FunD K "law" "law" (defArgs s_law) (defBody s_law) (defScope s_law) [] [] (He.fAd K ("law", none)) fd
  g__law_pull : mg "_law_pull" = some (.ref (He.fAd K ("_law_pull", none)))
  g__law_one : mg "_law_one" = some (.ref (He.fAd K ("_law_one", none)))
  g__law_named : mg "_law_named" = some (.ref (He.fAd K ("_law_named", none)))
  g__law_heard_of : mg "_law_heard_of" = some (.ref (He.fAd K ("_law_heard_of", none)))
  g__law_top : mg "_law_top" = some (.ref (He.fAd K ("_law_top", none)))
  g__law_word : mg "_law_word" = some (.ref (He.fAd K ("_law_word", none)))
  g__law_code : mg "_law_code" = some (.ref (He.fAd K ("_law_code", none)))
  g__law_row_of_words : mg "_law_row_of_words" = some (.ref (He.fAd K ("_law_row_of_words", none)))
  g__law_is_whole : mg "_law_is_whole" = some (.ref (He.fAd K ("_law_is_whole", none)))
  g__law_is_word : mg "_law_is_word" = some (.ref (He.fAd K ("_law_is_word", none)))
  g__law_is_line : mg "_law_is_line" = some (.ref (He.fAd K ("_law_is_line", none)))
  g__law_wrong_line : mg "_law_wrong_line" = some (.ref (He.fAd K ("_law_wrong_line", none)))
  g__law_cells_in : mg "_law_cells_in" = some (.ref (He.fAd K ("_law_cells_in", none)))
  g__law_due : mg "_law_due" = some (.ref (He.fAd K ("_law_due", none)))
  g__law_odd : mg "_law_odd" = some (.ref (He.fAd K ("_law_odd", none)))
  g__law_bent : mg "_law_bent" = some (.ref (He.fAd K ("_law_bent", none)))
  g_is_whole : mg "is_whole" = some (.ref (He.fAd K ("is_whole", none)))
  g_is_whole_from : mg "is_whole_from" = some (.ref (He.fAd K ("is_whole_from", none)))
  g_is_width : mg "is_width" = some (.ref (He.fAd K ("is_width", none)))
  g_check_width : mg "check_width" = some (.ref (He.fAd K ("check_width", none)))
  g_least_word : mg "least_word" = some (.ref (He.fAd K ("least_word", none)))
  g_wrapped_word : mg "wrapped_word" = some (.ref (He.fAd K ("wrapped_word", none)))
  g_wrapped : mg "wrapped" = some (.ref (He.fAd K ("wrapped", none)))
  g_head_of : mg "head_of" = some (.ref (He.fAd K ("head_of", none)))
  g_is_index : mg "is_index" = some (.ref (He.fAd K ("is_index", none)))
  g_greatest_word : mg "greatest_word" = some (.ref (He.fAd K ("greatest_word", none)))
  g_is_word : mg "is_word" = some (.ref (He.fAd K ("is_word", none)))
  g_is_program_row : mg "is_program_row" = some (.ref (He.fAd K ("is_program_row", none)))
  g_wrong_row : mg "wrong_row" = some (.ref (He.fAd K ("wrong_row", none)))
  g_check_words : mg "check_words" = some (.ref (He.fAd K ("check_words", none)))
  g_done : mg "done" = some (.ref (He.fAd K ("done", none)))
  g_ended : mg "ended" = some (.ref (He.fAd K ("ended", none)))
  g_is_tuple_of : mg "is_tuple_of" = some (.ref (He.fAd K ("is_tuple_of", none)))
  g_cells_named : mg "cells_named" = some (.ref (He.fAd K ("cells_named", none)))
  g_run_program : mg "run_program" = some (.ref (He.fAd K ("run_program", none)))
  g__law_right : mg "_law_right" = some (.ref (He.fAd K ("_law_right", none)))
  g__law_urn : mg "_law_urn" = some (.ref (He.fAd K ("_law_urn", none)))
  g_law : mg "law" = some (.ref (He.fAd K ("law", none)))
noncomputable def b__law_pull : DSf := (dSeq (dIfS (dB (dOp oGt (dOp oIx (dVar 0) (dC (.int 0))) (dC (.int 0))))
  (dSeq (dAsg (dCall (o2 bDivmodW) (dCons (dOp oIx (dVar 0) (dC (.int 0))) (dCons (dVar 1) dNil))) (dgTup 2 (dgCons (dgSub (dVar 0) (dC (.int 0))) (dgCons (dgName 3) dgNil))))
  (dRet (dVar 3))) dNext)
  (dSeq (dAsg (dOp oAdd (dOp oIx (dVar 0) (dC (.int 2))) (dC (.int 1))) (dgSub (dVar 0) (dC (.int 2))))
  (dSeq (dAsg (dOp oMod (dCall (o1 bInt) (dCons (dOp oAdd (dOp oAdd (dOp oMul (dOp oIx (dVar 0) (dC (.int 1))) (dC (.int 39373))) (dOp oMul (dOp oIx (dVar 0) (dC (.int 2))) (dC (.int 50021)))) (dC (.int 11))) dNil)) (dC (.int 2147483563))) (dgName 2))
  (dSeq (dAsg (dVar 2) (dgSub (dVar 0) (dC (.int 1))))
  (dRet (dOp oMod (dCall (o1 bInt) (dCons (dOp oDiv (dOp oMod (dCall (o1 bInt) (dCons (dOp oMul (dVar 2) (dOp oAdd (dOp oMod (dCall (o1 bInt) (dCons (dVar 2) dNil)) (dC (.int 6007))) (dC (.int 30011)))) dNil)) (dC (.int 21474835870))) (dC (.int 127))) dNil)) (dVar 1)))))))
noncomputable def m__law_pull : Opn := dFn 4 b__law_pull
noncomputable def b__law_one : DSf := (dRet (dOp oIx (dVar 1) (dCallN 2 m__law_pull (dCons (dVar 0) (dCons (dCall (o1 bLen) (dCons (dVar 1) dNil)) dNil)))))
noncomputable def m__law_one : Opn := dFn 2 b__law_one
noncomputable def b__law_named : DSf := (dSeq (dAsg (dCall oCell dNil) (dgName 1))
  (dSeq (dFor (diSeqT (dCall oTup (dCons (dCall oTup (dCons (dIsE (fun c => some (decide (c = "InvalidNumber"))) (dVar 0)) (dCons (dC (.str "number")) dNil))) (dCons (dCall oTup (dCons (dIsE (fun c => some (decide (c = "InvalidController"))) (dVar 0)) (dCons (dC (.str "controller")) dNil))) (dCons (dCall oTup (dCons (dIsE (fun c => some (decide (c = "InvalidState"))) (dVar 0)) (dCons (dC (.str "state")) dNil))) (dCons (dCall oTup (dCons (dIsE (fun c => some (decide (c = "InvalidForm"))) (dVar 0)) (dCons (dC (.str "form")) dNil))) (dCons (dCall oTup (dCons (dIsE (fun c => some (decide (c = "InvalidMemory"))) (dVar 0)) (dCons (dC (.str "memory")) dNil))) (dCons (dCall oTup (dCons (dIsE (fun c => some (decide (c = "InvalidName"))) (dVar 0)) (dCons (dC (.str "name")) dNil))) (dCons (dCall oTup (dCons (dIsE (fun c => some (decide (c = "InvalidLoop"))) (dVar 0)) (dCons (dC (.str "loop")) dNil))) (dCons (dCall oTup (dCons (dIsE (fun c => some (decide (c = "TooMany"))) (dVar 0)) (dCons (dC (.str "many")) dNil))) (dCons (dCall oTup (dCons (dIsE (fun c => some (decide (c = "InvalidLot"))) (dVar 0)) (dCons (dC (.str "lot")) dNil))) (dCons (dCall oTup (dCons (dIsE (fun c => some (decide (c = "InvalidPlant"))) (dVar 0)) (dCons (dC (.str "plant")) dNil))) dNil)))))))))))) (dgTup 2 (dgCons (dgName 2) (dgCons (dgName 3) dgNil)))
  (dIfS (dB (dVar 2))
  (dDrop (dMeth mAppend (dVar 1) (dCons (dCall oLst (dCons (dVar 3) (dCons (dCall (o1 bRepr) (dCons (dXf "given" (dVar 0)) dNil)) dNil))) dNil))) dNext))
  (dSeq (dFor (diSeqT (dCall oTup (dCons (dCall oTup (dCons (dIsE (fun c => some (decide (c = "InvalidReadings"))) (dVar 0)) (dCons (dC (.str "readings")) dNil))) (dCons (dCall oTup (dCons (dIsE (fun c => some (decide (c = "InvalidRows"))) (dVar 0)) (dCons (dC (.str "rows")) dNil))) (dCons (dCall oTup (dCons (dIsE (fun c => some (decide (c = "InvalidNumbers"))) (dVar 0)) (dCons (dC (.str "numbers")) dNil))) (dCons (dCall oTup (dCons (dIsE (fun c => some (decide (c = "InvalidProgram"))) (dVar 0)) (dCons (dC (.str "program")) dNil))) (dCons (dCall oTup (dCons (dIsE (fun c => some (decide (c = "InvalidCells"))) (dVar 0)) (dCons (dC (.str "cells")) dNil))) (dCons (dCall oTup (dCons (dIsE (fun c => some (decide (c = "InvalidText"))) (dVar 0)) (dCons (dC (.str "text")) dNil))) (dCons (dCall oTup (dCons (dIsE (fun c => some (decide (c = "InvalidWrites"))) (dVar 0)) (dCons (dC (.str "writes")) dNil))) (dCons (dCall oTup (dCons (dIsE (fun c => some (decide (c = "InvalidRow"))) (dVar 0)) (dCons (dC (.str "row")) dNil))) dNil)))))))))) (dgTup 2 (dgCons (dgName 2) (dgCons (dgName 3) dgNil)))
  (dIfS (dB (dVar 2))
  (dDrop (dMeth mAppend (dVar 1) (dCons (dCall oLst (dCons (dVar 3) (dCons (dCall (o1 bRepr) (dCons (dXf "index" (dVar 0)) dNil)) dNil))) dNil))) dNext))
  (dSeq (dIfS (dtOr (dB (dOp oNe (dCall (o1 bLen) (dCons (dVar 1) dNil)) (dC (.int 1)))) (dtOr (dtNot (dB (dIsE (fun _ => some true) (dVar 0)))) (dtOr (dB (dIsE (fun _ => some false) (dVar 0))) (dB (dIsE (fun _ => some false) (dVar 0))))))
  (dRet (dCall oLst (dCons (dC (.str "odd")) (dCons (dC (.str "")) dNil)))) dNext)
  (dRet (dOp oIx (dVar 1) (dC (.int 0))))))))
noncomputable def m__law_named : Opn := dFn 4 b__law_named
noncomputable def b__law_top : DSf := (dSeq (dAsg (dC (.int 1)) (dgName 1))
  (dSeq (dFor (diRng1 (dCons (dOp oSub (dVar 0) (dC (.int 1))) dNil)) (dgName 2)
  (dAsg (dOp oMul (dVar 1) (dC (.int 2))) (dgName 1)))
  (dRet (dVar 1))))
noncomputable def m__law_top : Opn := dFn 3 b__law_top
noncomputable def b__law_word : DSf := (dSeq (dAsg (dCallN 1 m__law_top (dCons (dVar 1) dNil)) (dgName 2))
  (dSeq (dAsg (dCall oTup (dCons (dC (.int 0)) (dCons (dC (.int 1)) (dCons (dC (.int 2)) (dCons (dC (.int 3)) (dCons (dUn oNeg (dC (.int 1))) (dCons (dUn oNeg (dC (.int 2))) (dCons (dC (.int 5)) (dCons (dC (.int 7)) (dCons (dOp oSub (dVar 2) (dC (.int 1))) (dCons (dUn oNeg (dVar 2)) (dCons (dOp oSub (dCallN 2 m__law_pull (dCons (dVar 0) (dCons (dOp oMul (dC (.int 2)) (dVar 2)) dNil))) (dVar 2)) (dCons (dOp oSub (dCallN 2 m__law_pull (dCons (dVar 0) (dCons (dC (.int 12)) dNil))) (dC (.int 4))) dNil))))))))))))) (dgName 3))
  (dRet (dCall (o2 bMax2) (dCons (dUn oNeg (dVar 2)) (dCons (dCall (o2 bMin2) (dCons (dOp oSub (dVar 2) (dC (.int 1))) (dCons (dCallN 2 m__law_one (dCons (dVar 0) (dCons (dVar 3) dNil))) dNil))) dNil))))))
noncomputable def m__law_word : Opn := dFn 4 b__law_word
noncomputable def b__law_code : DSf := (dSeq (dAsg (dCall oCell dNil) (dgName 4))
  (dSeq (dFor (diRng1 (dCons (dOp oSub (dVar 3) (dC (.int 1))) dNil)) (dgName 5)
  (dSeq (dPar3 8 9 10 (dCons (dCallN 2 m__law_pull (dCons (dVar 0) (dCons (dC (.int 9)) dNil))) (dCons (dCallN 2 m__law_pull (dCons (dVar 0) (dCons (dVar 2) dNil))) (dCons (dCallN 2 m__law_pull (dCons (dVar 0) (dCons (dVar 2) dNil))) dNil))))
  (dSeq (dPar 11 12 (dCons (dCallN 2 m__law_pull (dCons (dVar 0) (dCons (dVar 2) dNil))) (dCons (dOp oAdd (dOp oAdd (dVar 5) (dC (.int 1))) (dCallN 2 m__law_pull (dCons (dVar 0) (dCons (dCall (o2 bMin2) (dCons (dOp oSub (dOp oSub (dVar 3) (dC (.int 1))) (dVar 5)) (dCons (dC (.int 6)) dNil))) dNil)))) dNil)))
  (dSeq (dAsg (dCallN 2 m__law_word (dCons (dVar 0) (dCons (dVar 1) dNil))) (dgName 6))
  (dSeq (dAsg (dCall oTup (dCons (dCall oTup (dCons (dC (.str "put")) (dCons (dVar 9) (dCons (dVar 6) dNil)))) (dCons (dCall oTup (dCons (dC (.str "copy")) (dCons (dVar 9) (dCons (dVar 10) dNil)))) (dCons (dCall oTup (dCons (dC (.str "add")) (dCons (dVar 9) (dCons (dVar 10) (dCons (dVar 11) dNil))))) (dCons (dCall oTup (dCons (dC (.str "less")) (dCons (dVar 9) (dCons (dVar 10) (dCons (dVar 11) dNil))))) (dCons (dCall oTup (dCons (dC (.str "times")) (dCons (dVar 9) (dCons (dVar 10) (dCons (dVar 6) dNil))))) (dCons (dCall oTup (dCons (dC (.str "below")) (dCons (dVar 9) (dCons (dVar 10) (dCons (dVar 12) dNil))))) (dCons (dCall oTup (dCons (dC (.str "below")) (dCons (dVar 10) (dCons (dVar 11) (dCons (dVar 12) dNil))))) (dCons (dCall oTup (dCons (dC (.str "jump")) (dCons (dVar 12) dNil))) (dCons (dCall oTup (dCons (dC (.str "add")) (dCons (dVar 9) (dCons (dVar 9) (dCons (dVar 10) dNil))))) dNil)))))))))) (dgName 7))
  (dDrop (dMeth mAppend (dVar 4) (dCons (dOp oIx (dVar 7) (dVar 8)) dNil))))))))
  (dRet (dOp oAdd (dCall (o1 bTuple) (dCons (dVar 4) dNil)) (dCall oTup (dCons (dCall oTup (dCons (dC (.str "stop")) dNil)) dNil))))))
noncomputable def m__law_code : Opn := dFn 13 b__law_code
noncomputable def b__law_row_of_words : DSf := (dSeq (dAsg (dCall oCell dNil) (dgName 3))
  (dSeq (dFor (diRng1 (dCons (dVar 2) dNil)) (dgName 4)
  (dDrop (dMeth mAppend (dVar 3) (dCons (dCallN 2 m__law_word (dCons (dVar 0) (dCons (dVar 1) dNil))) dNil))))
  (dRet (dCall (o1 bTuple) (dCons (dVar 3) dNil)))))
noncomputable def m__law_row_of_words : Opn := dFn 5 b__law_row_of_words
noncomputable def b__law_is_whole : DSf := (dRet (dAnd (dUn (oIsi .int) (dVar 0)) (dNot (dUn (oIsi .bool) (dVar 0)))))
noncomputable def m__law_is_whole : Opn := dFn 1 b__law_is_whole
noncomputable def b__law_is_word : DSf := (dRet (dAnd (dCallN 1 m__law_is_whole (dCons (dVar 0) dNil)) (dChain oLe oLt (dUn oNeg (dCallN 1 m__law_top (dCons (dVar 1) dNil))) (dVar 0) (dCallN 1 m__law_top (dCons (dVar 1) dNil)))))
noncomputable def m__law_is_word : Opn := dFn 2 b__law_is_word
noncomputable def b__law_is_line : DSf := (dSeq (dIfS (dtOr (dtNot (dB (dUn (oIsi .tup) (dVar 0)))) (dtOr (dB (dOp (oEqT false) (dVar 0) (dCall oTup dNil))) (dtNot (dB (dUn (oIsi .str) (dOp oIx (dVar 0) (dC (.int 0))))))))
  (dRet (dC (.bl false))) dNext)
  (dSeq (dAsg (dCall oTup (dCons (dCall oTup (dCons (dC (.str "put")) (dCons (dC (.str "cw")) dNil))) (dCons (dCall oTup (dCons (dC (.str "copy")) (dCons (dC (.str "cc")) dNil))) (dCons (dCall oTup (dCons (dC (.str "add")) (dCons (dC (.str "ccc")) dNil))) (dCons (dCall oTup (dCons (dC (.str "less")) (dCons (dC (.str "ccc")) dNil))) (dCons (dCall oTup (dCons (dC (.str "times")) (dCons (dC (.str "ccw")) dNil))) (dCons (dCall oTup (dCons (dC (.str "jump")) (dCons (dC (.str "r")) dNil))) (dCons (dCall oTup (dCons (dC (.str "below")) (dCons (dC (.str "ccr")) dNil))) (dCons (dCall oTup (dCons (dC (.str "stop")) (dCons (dC (.str "")) dNil))) dNil))))))))) (dgName 4))
  (dSeq (dAsg (dLc (diSeq (dVar 4)) (dgName 8) (dB (dOp oEq (dOp oIx (dVar 8) (dC (.int 0))) (dOp oIx (dVar 0) (dC (.int 0))))) (dOp oIx (dVar 8) (dC (.int 1))) [8]) (dgName 5))
  (dSeq (dIfS (dtOr (dB (dOp oEq (dVar 5) (dCall oLst dNil))) (dB (dOp oNe (dCall (o1 bLen) (dCons (dVar 0) dNil)) (dOp oAdd (dCall (o1 bLen) (dCons (dOp oIx (dVar 5) (dC (.int 0))) dNil)) (dC (.int 1))))))
  (dRet (dC (.bl false))) dNext)
  (dSeq (dFor (diMz (dCons (dOp oIx (dVar 5) (dC (.int 0))) (dCons (dSl (dVar 0) (dO1 (dC (.int 1))) dO0) dNil))) (dgTup 2 (dgCons (dgName 6) (dgCons (dgName 7) dgNil)))
  (dSeq (dIfS (dtOr (dtNot (dB (dCallN 1 m__law_is_whole (dCons (dVar 7) dNil)))) (dtOr (dtAnd (dB (dOp oEq (dVar 6) (dC (.str "c")))) (dtNot (dB (dChain oLe oLt (dC (.int 0)) (dVar 7) (dC (.int 128)))))) (dtAnd (dB (dOp oEq (dVar 6) (dC (.str "r")))) (dtNot (dB (dChain oLt oLt (dVar 1) (dVar 7) (dVar 2)))))))
  (dRet (dC (.bl false))) dNext)
  (dIfS (dtAnd (dB (dOp oEq (dVar 6) (dC (.str "w")))) (dtNot (dB (dCallN 2 m__law_is_word (dCons (dVar 7) (dCons (dVar 3) dNil))))))
  (dRet (dC (.bl false))) dNext)))
  (dRet (dC (.bl true))))))))
noncomputable def m__law_is_line : Opn := dFn 9 b__law_is_line
noncomputable def b__law_wrong_line : DSf := (dSeq (dIfS (dtOr (dtNot (dB (dUn (oIsi .tup) (dVar 0)))) (dtNot (dB (dChain oLe oLe (dC (.int 1)) (dCall (o1 bLen) (dCons (dVar 0) dNil)) (dC (.int 2000))))))
  (dRet (dCall oTup (dCons (dC .non) dNil))) dNext)
  (dSeq (dFor (diRng1 (dCons (dCall (o1 bLen) (dCons (dVar 0) dNil)) dNil)) (dgName 2)
  (dSeq (dAsg (dAnd (dOp oEq (dVar 2) (dOp oSub (dCall (o1 bLen) (dCons (dVar 0) dNil)) (dC (.int 1)))) (dAnd (dUn (oIsi .tup) (dOp oIx (dVar 0) (dVar 2))) (dOp (oEqT true) (dSl (dOp oIx (dVar 0) (dVar 2)) dO0 (dO1 (dC (.int 1)))) (dCall oTup (dCons (dC (.str "stop")) dNil))))) (dgName 3))
  (dIfS (dtOr (dB (dVar 3)) (dtNot (dB (dCallN 4 m__law_is_line (dCons (dOp oIx (dVar 0) (dVar 2)) (dCons (dVar 2) (dCons (dCall (o1 bLen) (dCons (dVar 0) dNil)) (dCons (dVar 1) dNil))))))))
  (dRet (dCall oTup (dCons (dVar 2) dNil))) dNext)))
  (dRet (dCall oTup dNil))))
noncomputable def m__law_wrong_line : Opn := dFn 4 b__law_wrong_line
noncomputable def b__law_cells_in : DSf := (dSeq (dIfS (dB (dOp oIn (dOp oIx (dVar 0) (dC (.int 0))) (dCall oTup (dCons (dC (.str "jump")) (dCons (dC (.str "stop")) dNil)))))
  (dRet (dCall oTup dNil)) dNext)
  (dRet (dIf (dB (dOp oEq (dOp oIx (dVar 0) (dC (.int 0))) (dC (.str "put")))) (dSl (dVar 0) (dO1 (dC (.int 1))) (dO1 (dC (.int 2)))) (dIf (dB (dOp oIn (dOp oIx (dVar 0) (dC (.int 0))) (dCall oTup (dCons (dC (.str "copy")) (dCons (dC (.str "times")) (dCons (dC (.str "below")) dNil)))))) (dSl (dVar 0) (dO1 (dC (.int 1))) (dO1 (dC (.int 3)))) (dSl (dVar 0) (dO1 (dC (.int 1))) (dO1 (dC (.int 4))))))))
noncomputable def m__law_cells_in : Opn := dFn 1 b__law_cells_in
noncomputable def b__law_due : DSf := (dSeq (dAsg (dCallN 2 m__law_wrong_line (dCons (dVar 1) (dCons (dVar 0) dNil))) (dgName 3))
  (dSeq (dIfS (dB (dOp (oEqT true) (dVar 3) (dCall oTup dNil)))
  (dRet (dCall oLst (dCons (dC (.str "program")) (dCons (dCall (o1 bRepr) (dCons (dOp oIx (dVar 3) (dC (.int 0))) dNil)) dNil)))) dNext)
  (dSeq (dIfS (dtOr (dtNot (dB (dUn (oIsi .tup) (dVar 2)))) (dtNot (dB (dChain oLe oLe (dC (.int 1)) (dCall (o1 bLen) (dCons (dVar 2) dNil)) (dC (.int 128))))))
  (dRet (dCall oLst (dCons (dC (.str "cells")) (dCons (dC (.str "None")) dNil)))) dNext)
  (dSeq (dAsg (dLc (diRng1 (dCons (dCall (o1 bLen) (dCons (dVar 2) dNil)) dNil)) (dgName 5) (dtNot (dB (dCallN 2 m__law_is_word (dCons (dOp oIx (dVar 2) (dVar 5)) (dCons (dVar 0) dNil))))) (dVar 5) [5]) (dgName 4))
  (dSeq (dIfS (dB (dOp oNe (dVar 4) (dCall oLst dNil)))
  (dRet (dCall oLst (dCons (dC (.str "cells")) (dCons (dCall (o1 bRepr) (dCons (dOp oIx (dVar 4) (dC (.int 0))) dNil)) dNil)))) dNext)
  (dSeq (dAsg (dLc (diRng1 (dCons (dCall (o1 bLen) (dCons (dVar 1) dNil)) dNil)) (dgName 5) (dB (dCall (o1 bAny) (dCons (dLc (diSeq (dCallN 1 m__law_cells_in (dCons (dOp oIx (dVar 1) (dVar 5)) dNil))) (dgName 6) dYes (dOp oGe (dVar 6) (dCall (o1 bLen) (dCons (dVar 2) dNil))) [6]) dNil))) (dVar 5) [5]) (dgName 4))
  (dRet (dIf (dB (dOp oNe (dVar 4) (dCall oLst dNil))) (dCall oLst (dCons (dC (.str "program")) (dCons (dCall (o1 bRepr) (dCons (dOp oIx (dVar 4) (dC (.int 0))) dNil)) dNil))) (dCall oLst (dCons (dC (.str "let")) (dCons (dC (.str "")) dNil)))))))))))
noncomputable def m__law_due : Opn := dFn 7 b__law_due
noncomputable def b__law_odd : DSf := (dRet (dCallN 2 m__law_one (dCons (dVar 0) (dCons (dCall oTup (dCons (dC .non) (dCons (dC (.bl true)) (dCons (dC (.bl false)) (dCons (dC (.str "")) (dCons (dC (.str "out")) (dCons (dC (.str "add")) (dCons (dC (.str "level")) (dCons (dC (.str "t")) (dCons (dC (.int 0)) (dCons (dUn oNeg (dC (.int 1))) (dCons (dC (.int 1)) (dCons (dOp oPow (dC (.int 2)) (dC (.int 40))) (dCons (dCall oTup dNil) (dCons (dCall oLst dNil) (dCons (dC .dic) (dCons (dCall oTup (dCons (dC (.str "out")) (dCons (dC (.int 0)) dNil))) (dCons (dCall oTup (dCons (dC (.int 0)) dNil)) (dCons (dC (.str "Level")) (dCons (dC (.str "go")) (dCons (dCall oTup (dCons (dC (.str "go")) (dCons (dC (.str "fill")) dNil))) (dCons (dC (.str "abcdefghijklm")) (dCons (dCall oTup (dCons (dC (.str "times")) (dCons (dC (.int 0)) (dCons (dC (.int 0)) dNil)))) (dCons (dC (.int 3)) (dCons (dC (.str "end")) dNil))))))))))))))))))))))))) dNil))))
noncomputable def m__law_odd : Opn := dFn 1 b__law_odd
noncomputable def b__law_bent (m__law_bent : Nat → Opn) (n : Nat) : DSf := (dSeq (dAsg (dCallN 2 m__law_pull (dCons (dVar 0) (dCons (dC (.int 10)) dNil))) (dgName 3))
  (dSeq (dIfS (dtOr (dtNot (dB (dUn (oIsi .tup) (dVar 1)))) (dtOr (dB (dOp (oEqT false) (dVar 1) (dCall oTup dNil))) (dB (dOp oLt (dVar 2) (dC (.int 1))))))
  (dRet (dCallN 1 m__law_odd (dCons (dVar 0) dNil))) dNext)
  (dSeq (dAsg (dCallN 2 m__law_pull (dCons (dVar 0) (dCons (dCall (o1 bLen) (dCons (dVar 1) dNil)) dNil))) (dgName 4))
  (dSeq (dIfS (dB (dOp oEq (dVar 3) (dC (.int 0))))
  (dRet (dOp oAdd (dSl (dVar 1) dO0 (dO1 (dVar 4))) (dSl (dVar 1) (dO1 (dOp oAdd (dVar 4) (dC (.int 1)))) dO0))) dNext)
  (dSeq (dIfS (dB (dOp oEq (dVar 3) (dC (.int 1))))
  (dRet (dOp oAdd (dOp oAdd (dSl (dVar 1) dO0 (dO1 (dVar 4))) (dCall oTup (dCons (dOp oIx (dVar 1) (dVar 4)) dNil))) (dSl (dVar 1) (dO1 (dVar 4)) dO0))) dNext)
  (dSeq (dIfS (dB (dOp oEq (dVar 3) (dC (.int 2))))
  (dRet (dCall (o1 bList) (dCons (dVar 1) dNil))) dNext)
  (dSeq (dIfS (dB (dOp oEq (dVar 3) (dC (.int 3))))
  (dRet (dOp oAdd (dOp oAdd (dSl (dVar 1) dO0 (dO1 (dVar 4))) (dCall oTup (dCons (dCallN 1 m__law_odd (dCons (dVar 0) dNil)) dNil))) (dSl (dVar 1) (dO1 (dOp oAdd (dVar 4) (dC (.int 1)))) dO0))) dNext)
  (dRet (dOp oAdd (dOp oAdd (dSl (dVar 1) dO0 (dO1 (dVar 4))) (dCall oTup (dCons (dCallN 3 (m__law_bent n) (dCons (dVar 0) (dCons (dOp oIx (dVar 1) (dVar 4)) (dCons (dOp oSub (dVar 2) (dC (.int 1))) dNil)))) dNil))) (dSl (dVar 1) (dO1 (dOp oAdd (dVar 4) (dC (.int 1)))) dO0))))))))))
noncomputable def m__law_bent : Nat → Opn
  | 0 => fun _ _ => .bad
  | n + 1 => dFn 5 (b__law_bent (fun _ => m__law_bent n) n)
noncomputable def b_is_whole : DSf := (dRet (dAnd (dUn (oIsi .int) (dVar 0)) (dNot (dUn (oIsi .bool) (dVar 0)))))
noncomputable def m_is_whole : Opn := dFn 1 b_is_whole
noncomputable def b_is_whole_from : DSf := (dRet (dAnd (dCallN 1 m_is_whole (dCons (dVar 0) dNil)) (dChain oLe oLe (dVar 1) (dVar 0) (dVar 2))))
noncomputable def m_is_whole_from : Opn := dFn 3 b_is_whole_from
noncomputable def b_is_width : DSf := (dRet (dCallN 3 m_is_whole_from (dCons (dVar 0) (dCons (dC (.int 4)) (dCons (dC (.int 32)) dNil)))))
noncomputable def m_is_width : Opn := dFn 1 b_is_width
noncomputable def b_check_width : DSf := (dIfS (dtNot (dB (dCallN 1 m_is_width (dCons (dVar 0) dNil))))
  (dRaise "InvalidNumber" "given" (dVar 0)) dNext)
noncomputable def m_check_width : Opn := dFn 1 b_check_width
noncomputable def b_least_word : DSf := (dRet (dUn oNeg (dOp oShl (dC (.int 1)) (dOp oSub (dVar 0) (dC (.int 1))))))
noncomputable def m_least_word : Opn := dFn 1 b_least_word
noncomputable def b_wrapped_word : DSf := (dRet (dOp oAdd (dOp oMod (dOp oSub (dVar 1) (dCallN 1 m_least_word (dCons (dVar 0) dNil))) (dOp oShl (dC (.int 1)) (dVar 0))) (dCallN 1 m_least_word (dCons (dVar 0) dNil))))
noncomputable def m_wrapped_word : Opn := dFn 2 b_wrapped_word
noncomputable def b_wrapped : DSf := (dSeq (dDrop (dCallN 1 m_check_width (dCons (dVar 0) dNil)))
  (dSeq (dIfS (dtNot (dB (dCallN 1 m_is_whole (dCons (dVar 1) dNil))))
  (dRaise "InvalidNumber" "given" (dVar 1)) dNext)
  (dRet (dCallN 2 m_wrapped_word (dCons (dVar 0) (dCons (dVar 1) dNil))))))
noncomputable def m_wrapped : Opn := dFn 2 b_wrapped
noncomputable def b_head_of : DSf := (dSeq (dIfS (dtAnd (dB (dUn (oIsi .tup) (dVar 0))) (dtAnd (dB (dOp oGt (dCall (o1 bLen) (dCons (dVar 0) dNil)) (dC (.int 0)))) (dB (dUn (oIsi .str) (dOp oIx (dVar 0) (dC (.int 0)))))))
  (dRet (dOp oIx (dVar 0) (dC (.int 0)))) dNext)
  (dRet (dC .non)))
noncomputable def m_head_of : Opn := dFn 1 b_head_of
noncomputable def b_is_index : DSf := (dRet (dAnd (dCallN 1 m_is_whole (dCons (dVar 0) dNil)) (dChain oLe oLt (dC (.int 0)) (dVar 0) (dVar 1))))
noncomputable def m_is_index : Opn := dFn 2 b_is_index
noncomputable def b_greatest_word : DSf := (dRet (dOp oSub (dOp oShl (dC (.int 1)) (dOp oSub (dVar 0) (dC (.int 1)))) (dC (.int 1))))
noncomputable def m_greatest_word : Opn := dFn 1 b_greatest_word
noncomputable def b_is_word : DSf := (dRet (dCallN 3 m_is_whole_from (dCons (dVar 1) (dCons (dCallN 1 m_least_word (dCons (dVar 0) dNil)) (dCons (dCallN 1 m_greatest_word (dCons (dVar 0) dNil)) dNil)))))
noncomputable def m_is_word : Opn := dFn 2 b_is_word
noncomputable def b_is_program_row : DSf := (dSeq (dAsg (dGget tb_ROW_PARTS (dCallN 1 m_head_of (dCons (dVar 1) dNil))) (dgName 4))
  (dSeq (dIfS (dtOr (dB (dOp oIs (dVar 4) (dC .non))) (dB (dOp oNe (dCall (o1 bLen) (dCons (dVar 1) dNil)) (dOp oAdd (dCall (o1 bLen) (dCons (dVar 4) dNil)) (dC (.int 1))))))
  (dRet (dC (.bl false))) dNext)
  (dSeq (dFor (diMx (dCons (dVar 4) (dCons (dSl (dVar 1) (dO1 (dC (.int 1))) dO0) dNil))) (dgTup 2 (dgCons (dgName 5) (dgCons (dgName 6) dgNil)))
  (dSeq (dIfS (dtAnd (dB (dOp oEq (dVar 5) (dC (.str "cell")))) (dtNot (dB (dCallN 2 m_is_index (dCons (dVar 6) (dCons (dC (.int 128)) dNil))))))
  (dRet (dC (.bl false))) dNext)
  (dSeq (dIfS (dtAnd (dB (dOp oEq (dVar 5) (dC (.str "word")))) (dtNot (dB (dCallN 2 m_is_word (dCons (dVar 0) (dCons (dVar 6) dNil))))))
  (dRet (dC (.bl false))) dNext)
  (dIfS (dtAnd (dB (dOp oEq (dVar 5) (dC (.str "row")))) (dtNot (dtAnd (dB (dCallN 2 m_is_index (dCons (dVar 6) (dCons (dVar 3) dNil)))) (dB (dOp oGt (dVar 6) (dVar 2))))))
  (dRet (dC (.bl false))) dNext))))
  (dRet (dC (.bl true))))))
noncomputable def m_is_program_row : Opn := dFn 7 b_is_program_row
noncomputable def b_wrong_row : DSf := (dSeq (dFor (diEnum (dCons (dVar 1) dNil)) (dgTup 2 (dgCons (dgName 2) (dgCons (dgName 3) dgNil)))
  (dSeq (dIfS (dtNot (dB (dCallN 4 m_is_program_row (dCons (dVar 0) (dCons (dVar 3) (dCons (dVar 2) (dCons (dCall (o1 bLen) (dCons (dVar 1) dNil)) dNil)))))))
  (dRet (dVar 2)) dNext)
  (dIfS (dtAnd (dB (dOp oEq (dVar 2) (dOp oSub (dCall (o1 bLen) (dCons (dVar 1) dNil)) (dC (.int 1))))) (dB (dOp oNe (dOp oIx (dVar 3) (dC (.int 0))) (dC (.str "stop")))))
  (dRet (dVar 2)) dNext)))
  (dRet (dC .non)))
noncomputable def m_wrong_row : Opn := dFn 4 b_wrong_row
noncomputable def b_check_words : DSf := (dFor (diEnum (dCons (dVar 1) dNil)) (dgTup 2 (dgCons (dgName 2) (dgCons (dgName 3) dgNil)))
  (dIfS (dtNot (dB (dCallN 2 m_is_word (dCons (dVar 0) (dCons (dVar 3) dNil)))))
  (dRaise "InvalidCells" "index" (dVar 2)) dNext))
noncomputable def m_check_words : Opn := dFn 4 b_check_words
noncomputable def b_done : DSf := (dSeq (dAsg (dOp oIx (dVar 1) (dC (.int 0))) (dgName 4))
  (dSeq (dIfS (dB (dOp oEq (dVar 4) (dC (.str "jump"))))
  (dRet (dOp oIx (dVar 1) (dC (.int 1)))) dNext)
  (dSeq (dIfS (dB (dOp oEq (dVar 4) (dC (.str "below"))))
  (dRet (dIf (dB (dOp oLt (dOp oIx (dVar 3) (dOp oIx (dVar 1) (dC (.int 1)))) (dOp oIx (dVar 3) (dOp oIx (dVar 1) (dC (.int 2)))))) (dOp oIx (dVar 1) (dC (.int 3))) (dOp oAdd (dVar 2) (dC (.int 1))))) dNext)
  (dSeq (dIfS (dB (dOp oEq (dVar 4) (dC (.str "put"))))
  (dAsg (dOp oIx (dVar 1) (dC (.int 2))) (dgSub (dVar 3) (dOp oIx (dVar 1) (dC (.int 1))))) (dIfS (dB (dOp oEq (dVar 4) (dC (.str "copy"))))
  (dAsg (dOp oIx (dVar 3) (dOp oIx (dVar 1) (dC (.int 2)))) (dgSub (dVar 3) (dOp oIx (dVar 1) (dC (.int 1))))) (dIfS (dB (dOp oEq (dVar 4) (dC (.str "add"))))
  (dAsg (dCallN 2 m_wrapped_word (dCons (dVar 0) (dCons (dOp oAdd (dOp oIx (dVar 3) (dOp oIx (dVar 1) (dC (.int 2)))) (dOp oIx (dVar 3) (dOp oIx (dVar 1) (dC (.int 3))))) dNil))) (dgSub (dVar 3) (dOp oIx (dVar 1) (dC (.int 1))))) (dIfS (dB (dOp oEq (dVar 4) (dC (.str "less"))))
  (dAsg (dCallN 2 m_wrapped_word (dCons (dVar 0) (dCons (dOp oSub (dOp oIx (dVar 3) (dOp oIx (dVar 1) (dC (.int 2)))) (dOp oIx (dVar 3) (dOp oIx (dVar 1) (dC (.int 3))))) dNil))) (dgSub (dVar 3) (dOp oIx (dVar 1) (dC (.int 1))))) (dAsg (dCallN 2 m_wrapped_word (dCons (dVar 0) (dCons (dOp oMul (dOp oIx (dVar 3) (dOp oIx (dVar 1) (dC (.int 2)))) (dOp oIx (dVar 1) (dC (.int 3)))) dNil))) (dgSub (dVar 3) (dOp oIx (dVar 1) (dC (.int 1)))))))))
  (dRet (dOp oAdd (dVar 2) (dC (.int 1))))))))
noncomputable def m_done : Opn := dFn 5 b_done
noncomputable def b_ended : DSf := (dSeq (dAsg (dC (.int 0)) (dgName 3))
  (dSeq (dWhile (dB (dOp oNe (dOp oIx (dOp oIx (dVar 1) (dVar 3)) (dC (.int 0))) (dC (.str "stop"))))
  (dAsg (dCallN 4 m_done (dCons (dVar 0) (dCons (dOp oIx (dVar 1) (dVar 3)) (dCons (dVar 3) (dCons (dVar 2) dNil))))) (dgName 3)))
  (dRet (dCall (o1 bTuple) (dCons (dVar 2) dNil)))))
noncomputable def m_ended : Opn := dFn 4 b_ended
noncomputable def b_is_tuple_of : DSf := (dRet (dAnd (dUn (oIsi .tup) (dVar 0)) (dChain oLe oLe (dVar 1) (dCall (o1 bLen) (dCons (dVar 0) dNil)) (dVar 2))))
noncomputable def m_is_tuple_of : Opn := dFn 3 b_is_tuple_of
noncomputable def b_cells_named : DSf := (dRet (dLc (diMx (dCons (dGix tb_ROW_PARTS (dOp oIx (dVar 0) (dC (.int 0)))) (dCons (dSl (dVar 0) (dO1 (dC (.int 1))) dO0) dNil))) (dgTup 2 (dgCons (dgName 1) (dgCons (dgName 2) dgNil))) (dB (dOp oEq (dVar 1) (dC (.str "cell")))) (dVar 2) [1, 2]))
noncomputable def m_cells_named : Opn := dFn 3 b_cells_named
noncomputable def b_run_program : DSf := (dSeq (dDrop (dCallN 1 m_check_width (dCons (dVar 0) dNil)))
  (dSeq (dIfS (dtNot (dB (dCallN 3 m_is_tuple_of (dCons (dVar 1) (dCons (dC (.int 1)) (dCons (dC (.int 2000)) dNil))))))
  (dRaise "InvalidProgram" "index" (dC .non)) dNext)
  (dSeq (dAsg (dCallN 2 m_wrong_row (dCons (dVar 0) (dCons (dVar 1) dNil))) (dgName 3))
  (dSeq (dIfS (dB (dOp oIsNot (dVar 3) (dC .non)))
  (dRaise "InvalidProgram" "index" (dVar 3)) dNext)
  (dSeq (dIfS (dtNot (dB (dCallN 3 m_is_tuple_of (dCons (dVar 2) (dCons (dC (.int 1)) (dCons (dC (.int 128)) dNil))))))
  (dRaise "InvalidCells" "index" (dC .non)) dNext)
  (dSeq (dDrop (dCallN 2 m_check_words (dCons (dVar 0) (dCons (dVar 2) dNil))))
  (dSeq (dFor (diEnum (dCons (dVar 1) dNil)) (dgTup 2 (dgCons (dgName 4) (dgCons (dgName 5) dgNil)))
  (dIfS (dtNot (dB (dAllG (diSeq (dCallN 1 m_cells_named (dCons (dVar 5) dNil))) (dgName 6) (dOp oLt (dVar 6) (dCall (o1 bLen) (dCons (dVar 2) dNil))) [6])))
  (dRaise "InvalidProgram" "index" (dVar 4)) dNext))
  (dRet (dCallN 3 m_ended (dCons (dVar 0) (dCons (dVar 1) (dCons (dCall (o1 bListC) (dCons (dVar 2) dNil)) dNil))))))))))))
noncomputable def m_run_program : Opn := dFn 7 b_run_program
noncomputable def b__law_right : DSf := (dSeq (dAsg (dCallN 2 m__law_one (dCons (dVar 0) (dCons (dCall oTup (dCons (dC (.int 3)) (dCons (dC (.int 33)) (dCons (dC (.bl true)) (dCons (dC .non) (dCons (dC (.str "8")) (dCons (dCall oTup (dCons (dC (.int 8)) dNil)) (dCons (dUn oNeg (dC (.int 1))) (dCons (dOp oPow (dC (.int 10)) (dC (.int 20))) (dCons (dC (.int 0)) (dCons (dCall oLst dNil) dNil))))))))))) dNil))) (dgName 1))
  (dSeq (dAsg (dCallN 2 m__law_one (dCons (dVar 0) (dCons (dCall oTup (dCons (dC .non) (dCons (dC (.bl true)) (dCons (dC (.str "1")) (dCons (dCall oTup (dCons (dC (.int 1)) dNil)) (dCons (dC (.bl false)) (dCons (dCall oLst dNil) dNil))))))) dNil))) (dgName 2))
  (dSeq (dAsg (dCall oCell (dCons (dHeard rs__law_heard_of m__law_named "let" "" (dCallN 2 m_wrapped (dCons (dVar 1) (dCons (dVar 2) dNil)))) dNil)) (dgName 3))
  (dSeq (dDrop (dMeth mAppend (dVar 3) (dCons (dHeard rs__law_heard_of m__law_named "let" "" (dCallN 2 m_wrapped (dCons (dC (.int 8)) (dCons (dVar 2) dNil)))) dNil)))
  (dSeq (dDrop (dMeth mAppend (dVar 3) (dCons (dHeard rs__law_heard_of m__law_named "let" "" (dCallN 2 m_wrapped (dCons (dC (.int 8)) (dCons (dOp oPow (dC (.int 10)) (dC (.int 30))) dNil)))) dNil)))
  (dSeq (dDrop (dMeth mAppend (dVar 3) (dCons (dHeard rs__law_heard_of m__law_named "let" "" (dCallN 3 m_run_program (dCons (dVar 1) (dCons (dC .non) (dCons (dC .non) dNil))))) dNil)))
  (dSeq (dIfS (dB (dOp oNe (dVar 3) (dCall oLst (dCons (dCall oLst (dCons (dC (.str "number")) (dCons (dCall (o1 bRepr) (dCons (dVar 1) dNil)) dNil))) (dCons (dCall oLst (dCons (dC (.str "number")) (dCons (dCall (o1 bRepr) (dCons (dVar 2) dNil)) dNil))) (dCons (dCall oLst (dCons (dC (.str "let")) (dCons (dC (.str "")) dNil))) (dCons (dCall oLst (dCons (dC (.str "number")) (dCons (dCall (o1 bRepr) (dCons (dVar 1) dNil)) dNil))) dNil)))))))
  (dRet (dC (.bl false))) dNext)
  (dSeq (dFor (diRng1 (dCons (dC (.int 8)) dNil)) (dgName 4)
  (dSeq (dAsg (dCall oTup (dCons (dCallN 2 m__law_one (dCons (dVar 0) (dCons (dCall oTup (dCons (dC (.int 4)) (dCons (dC (.int 8)) (dCons (dC (.int 16)) (dCons (dC (.int 32)) dNil))))) dNil))) (dCons (dOp oAdd (dC (.int 1)) (dCallN 2 m__law_pull (dCons (dVar 0) (dCons (dC (.int 5)) dNil)))) dNil))) (dgTup 2 (dgCons (dgName 9) (dgCons (dgName 10) dgNil))))
  (dSeq (dAsg (dCallN 4 m__law_code (dCons (dVar 0) (dCons (dCallN 2 m__law_one (dCons (dVar 0) (dCons (dCall oTup (dCons (dVar 9) (dCons (dVar 9) (dCons (dCall (o2 bMin2) (dCons (dC (.int 32)) (dCons (dOp oAdd (dVar 9) (dC (.int 1))) dNil))) dNil)))) dNil))) (dCons (dVar 10) (dCons (dOp oAdd (dC (.int 1)) (dCallN 2 m__law_pull (dCons (dVar 0) (dCons (dC (.int 20)) dNil)))) dNil))))) (dgName 5))
  (dSeq (dAsg (dCallN 3 m__law_row_of_words (dCons (dVar 0) (dCons (dVar 9) (dCons (dCallN 2 m__law_one (dCons (dVar 0) (dCons (dCall oTup (dCons (dVar 10) (dCons (dVar 10) (dCons (dCall (o2 bMax2) (dCons (dC (.int 1)) (dCons (dOp oSub (dVar 10) (dC (.int 1))) dNil))) (dCons (dOp oAdd (dVar 10) (dC (.int 2))) dNil))))) dNil))) dNil)))) (dgName 6))
  (dSeq (dAsg (dCallN 2 m__law_pull (dCons (dVar 0) (dCons (dC (.int 5)) dNil))) (dgName 7))
  (dSeq (dIfS (dB (dOp oEq (dVar 7) (dC (.int 0))))
  (dAsg (dCallN 3 (m__law_bent 16) (dCons (dVar 0) (dCons (dVar 5) (dCons (dC (.int 3)) dNil)))) (dgName 5)) (dIfS (dB (dOp oEq (dVar 7) (dC (.int 1))))
  (dAsg (dCallN 2 m__law_one (dCons (dVar 0) (dCons (dCall oTup (dCons (dCall (o1 bList) (dCons (dVar 6) dNil)) (dCons (dCall oTup dNil) (dCons (dC .non) (dCons (dOp oAdd (dVar 6) (dCall oTup (dCons (dCallN 1 m__law_top (dCons (dVar 9) dNil)) dNil))) (dCons (dOp oMul (dCall oTup (dCons (dC (.int 0)) dNil)) (dC (.int 129))) (dCons (dOp oAdd (dCall oTup (dCons (dC (.bl true)) dNil)) (dVar 6)) (dCons (dC (.int 5)) dNil)))))))) dNil))) (dgName 6)) dNext))
  (dSeq (dAsg (dCallN 3 m__law_due (dCons (dVar 9) (dCons (dVar 5) (dCons (dVar 6) dNil)))) (dgName 8))
  (dIfS (dB (dOp oNe (dHeard rs__law_heard_of m__law_named "let" "" (dCallN 3 m_run_program (dCons (dVar 9) (dCons (dVar 5) (dCons (dVar 6) dNil))))) (dVar 8)))
  (dRet (dC (.bl false))) dNext))))))))
  (dRet (dC (.bl true)))))))))))
noncomputable def m__law_right : Opn := dFn 11 b__law_right
noncomputable def b__law_urn : DSf := (dSeq (dAsg (dIf (dB (dOp oLt (dVar 1) (dCall (o1 bLen) (dCons (dVar 0) dNil)))) (dCall (o1 bInt) (dCons (dOp oIx (dVar 0) (dVar 1)) dNil)) (dC (.int 0))) (dgName 2))
  (dSeq (dAsg (dOp oAdd (dC (.int 900007)) (dOp oMul (dC (.int 311)) (dVar 1))) (dgName 3))
  (dSeq (dFor (diSeq (dSl (dVar 0) dO0 (dO1 (dC (.int 11))))) (dgName 4)
  (dAsg (dOp oMod (dCall (o1 bInt) (dCons (dOp oAdd (dOp oAdd (dOp oMul (dVar 3) (dC (.int 60013))) (dOp oMod (dCall (o1 bInt) (dCons (dVar 4) dNil)) (dC (.int 2147483417)))) (dC (.int 17))) dNil)) (dC (.int 2147483563))) (dgName 3)))
  (dSeq (dAsg (dOp oMod (dCall (o1 bInt) (dCons (dOp oAdd (dOp oAdd (dOp oMul (dVar 3) (dC (.int 53))) (dOp oMul (dOp oMod (dCall (o1 bInt) (dCons (dVar 2) dNil)) (dC (.int 2147483417))) (dC (.int 20011)))) (dC (.int 5))) dNil)) (dC (.int 2147483563))) (dgName 3))
  (dRet (dCall oCell (dCons (dIf (dtOr (dB (dOp oLt (dVar 2) (dC (.int 0)))) (dB (dOp oGe (dVar 2) (dOp oPow (dC (.int 10)) (dC (.int 16)))))) (dCall (o1 bAbs) (dCons (dVar 2) dNil)) (dC (.int 0))) (dCons (dVar 3) (dCons (dC (.int 0)) dNil)))))))))
noncomputable def m__law_urn : Opn := dFn 5 b__law_urn
noncomputable def b_law : DSf := (dSeq (dFor (diRng1 (dCons (dCall (o2 bMax2) (dCons (dC (.int 1)) (dCons (dCall (o2 bMin2) (dCons (dCall (o1 bLen) (dCons (dVar 0) dNil)) (dCons (dC (.int 3)) dNil))) dNil))) dNil)) (dgName 1)
  (dIfS (dtNot (dB (dCallN 1 m__law_right (dCons (dCallN 2 m__law_urn (dCons (dVar 0) (dCons (dVar 1) dNil))) dNil))))
  (dRet (dC (.bl false))) dNext))
  (dRet (dC (.bl true))))
noncomputable def m_law : Opn := dFn 2 b_law
section
variable {P : Program} {w : World} {K : PySem.W.Frag} {mg : Str → Option Value} {base : Heap}
theorem S__law_heard_of : FnScope ["_law_act", "_law_e"] ["_law_act"] (defScope s__law_heard_of) := ⟨rfl, rfl, rfl, by decide +kernel, rfl, by decide +kernel, by decide +kernel⟩
theorem S__law_pull : FnScope ["_law_urn_here", "_law_top_here", "_law_seed", "_law_digit"] ["_law_urn_here", "_law_top_here"] (defScope s__law_pull) := ⟨rfl, rfl, rfl, by decide +kernel, rfl, by decide +kernel, by decide +kernel⟩
theorem fn__law_pull (G : Gf P w K mg base) : ∃ fd, FunD K "_law_pull" "_law_pull" (defArgs s__law_pull) (defBody s__law_pull) (defScope s__law_pull) [] [] (He.fAd K ("_law_pull", none)) fd ∧ FnG P w K mg base 1 (He.fAd K ("_law_pull", none)) fd ["_law_urn_here", "_law_top_here"] (spD (WK K) 2 m__law_pull) := by
  obtain ⟨fd, F⟩ := G.f__law_pull
  have S := S__law_pull
  have h := fn_D (P := P) (w := w) (mg := mg) (base := base) (W := WK K) (k := 0) (f := b__law_pull) F S
  have h2 : FnG P w K mg base 1 (He.fAd K ("_law_pull", none)) fd ["_law_urn_here", "_law_top_here"] (spD (WK K) 2 m__law_pull) := by
    refine h ?_
    intro A outer s H E hr hG
    exact (dss_cons (ds_if (dt_cmp op_gt dop_gt (de_ix rfl (dv 0) de_int (fun _ _ => rfl)) de_int (nomark _))
  (dss_cons (ds_asg (de_callB call_divmodW dc_divmodW rfl G.b_divmod boot_divmod' (da_cons (de_ix rfl (dv 0) de_int (fun _ _ => rfl)) (da_cons (dv 1) da_nil))) (dg_tup (n := 2) rfl rfl (dgs_cons (dg_sub (dv 0) de_int) (dgs_cons (dgn 3 S.nd) dgs_nil))))
  (dss_one (ds_ret (dv 3)))) dss_nil)
  (dss_cons (ds_asg (de_add rfl (de_ix rfl (dv 0) de_int (fun _ _ => rfl)) de_int) (dg_sub (dv 0) de_int))
  (dss_cons (dset 2 S.nd (de_mod (de_callTy call_int1 dc_int rfl G.b_int boot_int' (da_cons (de_add rfl (de_add rfl (de_mul rfl (de_ix rfl (dv 0) de_int (fun _ _ => rfl)) de_int) (de_mul rfl (de_ix rfl (dv 0) de_int (fun _ _ => rfl)) de_int)) de_int) da_nil)) de_int))
  (dss_cons (ds_asg (dv 2) (dg_sub (dv 0) de_int))
  (dss_one (ds_ret (de_mod (de_callTy call_int1 dc_int rfl G.b_int boot_int' (da_cons (de_div (de_mod (de_callTy call_int1 dc_int rfl G.b_int boot_int' (da_cons (de_mul rfl (dv 2) (de_add rfl (de_mod (de_callTy call_int1 dc_int rfl G.b_int boot_int' (da_cons (dv 2) da_nil)) de_int) de_int)) da_nil)) de_int) de_int) da_nil)) (dv 1))))))))
  exact ⟨fd, F, h2⟩
theorem ok__law_pull (G : Gf P w K mg base) : Callee P w K mg base (WK K) 1 "_law_pull" 2 m__law_pull := by
  obtain ⟨fd, F, h⟩ := fn__law_pull (P := P) (w := w) G
  exact callee_of (ps := ["_law_urn_here", "_law_top_here"]) F h G.g__law_pull fun _ _ _ _ _ _ us hl => match us, hl with | [_, _], _ => rfl
theorem S__law_one : FnScope ["_law_urn_here", "_law_some"] ["_law_urn_here", "_law_some"] (defScope s__law_one) := ⟨rfl, rfl, rfl, by decide +kernel, rfl, by decide +kernel, by decide +kernel⟩
theorem fn__law_one (G : Gf P w K mg base) : ∃ fd, FunD K "_law_one" "_law_one" (defArgs s__law_one) (defBody s__law_one) (defScope s__law_one) [] [] (He.fAd K ("_law_one", none)) fd ∧ FnG P w K mg base 2 (He.fAd K ("_law_one", none)) fd ["_law_urn_here", "_law_some"] (spD (WK K) 2 m__law_one) := by
  have C__law_pull := ok__law_pull (P := P) (w := w) G
  obtain ⟨fd, F⟩ := G.f__law_one
  have S := S__law_one
  have h := fn_D (P := P) (w := w) (mg := mg) (base := base) (W := WK K) (k := 1) (f := b__law_one) F S
  have h2 : FnG P w K mg base 2 (He.fAd K ("_law_one", none)) fd ["_law_urn_here", "_law_some"] (spD (WK K) 2 m__law_one) := by
    refine h ?_
    intro A outer s H E hr hG
    exact (dss_one (ds_ret (de_ix rfl (dv 1) (de_call (C__law_pull.mono (by decide)) hr hG rfl (da_cons (dv 0) (da_cons (de_callB call_len dc_len rfl G.b_len boot_len' (da_cons (dv 1) da_nil)) da_nil))) (fun _ _ => rfl))))
  exact ⟨fd, F, h2⟩
theorem ok__law_one (G : Gf P w K mg base) : Callee P w K mg base (WK K) 2 "_law_one" 2 m__law_one := by
  obtain ⟨fd, F, h⟩ := fn__law_one (P := P) (w := w) G
  exact callee_of (ps := ["_law_urn_here", "_law_some"]) F h G.g__law_one fun _ _ _ _ _ _ us hl => match us, hl with | [_, _], _ => rfl
theorem S__law_named : FnScope ["_law_e", "_law_some", "_law_good", "_law_word_here"] ["_law_e"] (defScope s__law_named) := ⟨rfl, rfl, rfl, by decide +kernel, rfl, by decide +kernel, by decide +kernel⟩
theorem ok__law_named (G : Gf P w K mg base) : CalleeQ P w K mg base (WK K) rs__law_heard_of 1 "_law_named" m__law_named := by
  obtain ⟨fd, F⟩ := G.f__law_named
  have S := S__law_named
  have h := fnQ_D (P := P) (w := w) (mg := mg) (base := base) (W := WK K) (cls := rs__law_heard_of) (k := 0) (f := b__law_named) F S
  have h2 : FnQ P w K mg base 1 (He.fAd K ("_law_named", none)) fd ["_law_e"] (spQ (WK K) rs__law_heard_of 1 m__law_named) := by
    refine h ?_
    intro A outer s H E p c dd hc hr hG hw
    exact (dss_cons (dset 1 S.nd (de_cell da_nil))
  (dss_cons (ds_forH (passes_of rfl) hw.hc (di_tupT rfl (de_tup (da_cons (de_tup (da_cons (de_isOwn rfl (fun _ => rfl) hw G.x__law_heard_of hc (by simp [ow__law_heard_of]) rfl rfl G.b_isinstance (dv 0)) (da_cons de_str da_nil))) (da_cons (de_tup (da_cons (de_isOwn rfl (fun _ => rfl) hw G.x__law_heard_of hc (by simp [ow__law_heard_of]) rfl rfl G.b_isinstance (dv 0)) (da_cons de_str da_nil))) (da_cons (de_tup (da_cons (de_isOwn rfl (fun _ => rfl) hw G.x__law_heard_of hc (by simp [ow__law_heard_of]) rfl rfl G.b_isinstance (dv 0)) (da_cons de_str da_nil))) (da_cons (de_tup (da_cons (de_isOwn rfl (fun _ => rfl) hw G.x__law_heard_of hc (by simp [ow__law_heard_of]) rfl rfl G.b_isinstance (dv 0)) (da_cons de_str da_nil))) (da_cons (de_tup (da_cons (de_isOwn rfl (fun _ => rfl) hw G.x__law_heard_of hc (by simp [ow__law_heard_of]) rfl rfl G.b_isinstance (dv 0)) (da_cons de_str da_nil))) (da_cons (de_tup (da_cons (de_isOwn rfl (fun _ => rfl) hw G.x__law_heard_of hc (by simp [ow__law_heard_of]) rfl rfl G.b_isinstance (dv 0)) (da_cons de_str da_nil))) (da_cons (de_tup (da_cons (de_isOwn rfl (fun _ => rfl) hw G.x__law_heard_of hc (by simp [ow__law_heard_of]) rfl rfl G.b_isinstance (dv 0)) (da_cons de_str da_nil))) (da_cons (de_tup (da_cons (de_isOwn rfl (fun _ => rfl) hw G.x__law_heard_of hc (by simp [ow__law_heard_of]) rfl rfl G.b_isinstance (dv 0)) (da_cons de_str da_nil))) (da_cons (de_tup (da_cons (de_isOwn rfl (fun _ => rfl) hw G.x__law_heard_of hc (by simp [ow__law_heard_of]) rfl rfl G.b_isinstance (dv 0)) (da_cons de_str da_nil))) (da_cons (de_tup (da_cons (de_isOwn rfl (fun _ => rfl) hw G.x__law_heard_of hc (by simp [ow__law_heard_of]) rfl rfl G.b_isinstance (dv 0)) (da_cons de_str da_nil))) da_nil)))))))))))) (dgH_tup (n := 2) rfl hw.hc (dgs_cons (dgn 2 S.nd) (dgs_cons (dgn 3 S.nd) dgs_nil)))
  (dss_one (ds_if (dt_val (dv 2))
  (dss_one (ds_expr (de_meth rfl PySem.F.slot_list_append PySem.F.type_list_append mt_append dm_append (dv 1) (da_cons (de_lst (da_cons (dv 3) (da_cons (de_callB (call_reprA hG hr.units) dc_repr rfl G.b_repr boot_repr' (da_cons (de_given rfl (fun _ => rfl) hw G.x__law_heard_of hc (dv 0)) da_nil)) da_nil))) da_nil)))) dss_nil)))
  (dss_cons (ds_forH (passes_of rfl) hw.hc (di_tupT rfl (de_tup (da_cons (de_tup (da_cons (de_isOwn rfl (fun _ => rfl) hw G.x__law_heard_of hc (by simp [ow__law_heard_of]) rfl rfl G.b_isinstance (dv 0)) (da_cons de_str da_nil))) (da_cons (de_tup (da_cons (de_isOwn rfl (fun _ => rfl) hw G.x__law_heard_of hc (by simp [ow__law_heard_of]) rfl rfl G.b_isinstance (dv 0)) (da_cons de_str da_nil))) (da_cons (de_tup (da_cons (de_isOwn rfl (fun _ => rfl) hw G.x__law_heard_of hc (by simp [ow__law_heard_of]) rfl rfl G.b_isinstance (dv 0)) (da_cons de_str da_nil))) (da_cons (de_tup (da_cons (de_isOwn rfl (fun _ => rfl) hw G.x__law_heard_of hc (by simp [ow__law_heard_of]) rfl rfl G.b_isinstance (dv 0)) (da_cons de_str da_nil))) (da_cons (de_tup (da_cons (de_isOwn rfl (fun _ => rfl) hw G.x__law_heard_of hc (by simp [ow__law_heard_of]) rfl rfl G.b_isinstance (dv 0)) (da_cons de_str da_nil))) (da_cons (de_tup (da_cons (de_isOwn rfl (fun _ => rfl) hw G.x__law_heard_of hc (by simp [ow__law_heard_of]) rfl rfl G.b_isinstance (dv 0)) (da_cons de_str da_nil))) (da_cons (de_tup (da_cons (de_isOwn rfl (fun _ => rfl) hw G.x__law_heard_of hc (by simp [ow__law_heard_of]) rfl rfl G.b_isinstance (dv 0)) (da_cons de_str da_nil))) (da_cons (de_tup (da_cons (de_isOwn rfl (fun _ => rfl) hw G.x__law_heard_of hc (by simp [ow__law_heard_of]) rfl rfl G.b_isinstance (dv 0)) (da_cons de_str da_nil))) da_nil)))))))))) (dgH_tup (n := 2) rfl hw.hc (dgs_cons (dgn 2 S.nd) (dgs_cons (dgn 3 S.nd) dgs_nil)))
  (dss_one (ds_if (dt_val (dv 2))
  (dss_one (ds_expr (de_meth rfl PySem.F.slot_list_append PySem.F.type_list_append mt_append dm_append (dv 1) (da_cons (de_lst (da_cons (dv 3) (da_cons (de_callB (call_reprA hG hr.units) dc_repr rfl G.b_repr boot_repr' (da_cons (de_index rfl (fun _ => rfl) hw G.x__law_heard_of hc (dv 0)) da_nil)) da_nil))) da_nil)))) dss_nil)))
  (dss_cons (ds_if (dt_w (dw_or (dt_cmp (op_neA hr.units) dop_ne (de_callB call_len dc_len rfl G.b_len boot_len' (da_cons (dv 1) da_nil)) de_int (nomark _)) (dw_or (dt_not (dt_val (de_isBlt (T := "ValueError") (b := true) rfl (fun _ => rfl) hw G.x__law_heard_of hc (by decide) rfl G.b_ValueError (by decide +kernel) rfl G.b_isinstance (dv 0)))) (dw_or (dt_val (de_isBlt (T := "LookupError") (b := false) rfl (fun _ => rfl) hw G.x__law_heard_of hc (by decide) rfl G.b_LookupError (by decide +kernel) rfl G.b_isinstance (dv 0))) (dw_or1 (dt_val (de_isBlt (T := "ArithmeticError") (b := false) rfl (fun _ => rfl) hw G.x__law_heard_of hc (by decide) rfl G.b_ArithmeticError (by decide +kernel) rfl G.b_isinstance (dv 0))))))))
  (dss_one (ds_ret (de_lst (da_cons de_str (da_cons de_str da_nil))))) dss_nil)
  (dss_one (ds_ret (de_ix rfl (dv 1) de_int (fun _ _ => rfl))))))))
  exact ⟨⟨fd, ["_law_e"], rfl, h2, fun s us hl => L2.FunD.bindsA (ps := ["_law_e"]) F (fun _ _ _ _ _ _ us hl => match us, hl with | [_], _ => rfl) s us hl, F.kp⟩, G.g__law_named⟩
theorem S__law_top : FnScope ["_law_width", "_law_found", "_law_turn"] ["_law_width"] (defScope s__law_top) := ⟨rfl, rfl, rfl, by decide +kernel, rfl, by decide +kernel, by decide +kernel⟩
theorem fn__law_top (G : Gf P w K mg base) : ∃ fd, FunD K "_law_top" "_law_top" (defArgs s__law_top) (defBody s__law_top) (defScope s__law_top) [] [] (He.fAd K ("_law_top", none)) fd ∧ FnG P w K mg base 1 (He.fAd K ("_law_top", none)) fd ["_law_width"] (spD (WK K) 1 m__law_top) := by
  obtain ⟨fd, F⟩ := G.f__law_top
  have S := S__law_top
  have h := fn_D (P := P) (w := w) (mg := mg) (base := base) (W := WK K) (k := 0) (f := b__law_top) F S
  have h2 : FnG P w K mg base 1 (He.fAd K ("_law_top", none)) fd ["_law_width"] (spD (WK K) 1 m__law_top) := by
    refine h ?_
    intro A outer s H E hr hG
    exact (dss_cons (dset 1 S.nd de_int)
  (dss_cons (ds_for .never rfl (di_rng1 rfl G.b_range (da_cons (de_sub (dv 0) de_int) da_nil)) (dgn 2 S.nd)
  (dss_one (dset 1 S.nd (de_mul rfl (dv 1) de_int))))
  (dss_one (ds_ret (dv 1)))))
  exact ⟨fd, F, h2⟩
theorem ok__law_top (G : Gf P w K mg base) : Callee P w K mg base (WK K) 1 "_law_top" 1 m__law_top := by
  obtain ⟨fd, F, h⟩ := fn__law_top (P := P) (w := w) G
  exact callee_of (ps := ["_law_width"]) F h G.g__law_top fun _ _ _ _ _ _ us hl => match us, hl with | [_], _ => rfl
theorem S__law_word : FnScope ["_law_urn_here", "_law_width", "_law_top_here", "_law_some"] ["_law_urn_here", "_law_width"] (defScope s__law_word) := ⟨rfl, rfl, rfl, by decide +kernel, rfl, by decide +kernel, by decide +kernel⟩
theorem fn__law_word (G : Gf P w K mg base) : ∃ fd, FunD K "_law_word" "_law_word" (defArgs s__law_word) (defBody s__law_word) (defScope s__law_word) [] [] (He.fAd K ("_law_word", none)) fd ∧ FnG P w K mg base 3 (He.fAd K ("_law_word", none)) fd ["_law_urn_here", "_law_width"] (spD (WK K) 2 m__law_word) := by
  have C__law_one := ok__law_one (P := P) (w := w) G
  have C__law_pull := ok__law_pull (P := P) (w := w) G
  have C__law_top := ok__law_top (P := P) (w := w) G
  obtain ⟨fd, F⟩ := G.f__law_word
  have S := S__law_word
  have h := fn_D (P := P) (w := w) (mg := mg) (base := base) (W := WK K) (k := 2) (f := b__law_word) F S
  have h2 : FnG P w K mg base 3 (He.fAd K ("_law_word", none)) fd ["_law_urn_here", "_law_width"] (spD (WK K) 2 m__law_word) := by
    refine h ?_
    intro A outer s H E hr hG
    exact (dss_cons (dset 2 S.nd (de_call (C__law_top.mono (by decide)) hr hG rfl (da_cons (dv 1) da_nil)))
  (dss_cons (dset 3 S.nd (de_tup (da_cons de_int (da_cons de_int (da_cons de_int (da_cons de_int (da_cons (de_neg de_int) (da_cons (de_neg de_int) (da_cons de_int (da_cons de_int (da_cons (de_sub (dv 2) de_int) (da_cons (de_neg (dv 2)) (da_cons (de_sub (de_call (C__law_pull.mono (by decide)) hr hG rfl (da_cons (dv 0) (da_cons (de_mul rfl de_int (dv 2)) da_nil))) (dv 2)) (da_cons (de_sub (de_call (C__law_pull.mono (by decide)) hr hG rfl (da_cons (dv 0) (da_cons de_int da_nil))) de_int) da_nil))))))))))))))
  (dss_one (ds_ret (de_callB (call_max2 rfl) dc_max2 rfl G.b_max boot_max' (da_cons (de_neg (dv 2)) (da_cons (de_callB (call_min2 rfl) dc_min2 rfl G.b_min boot_min' (da_cons (de_sub (dv 2) de_int) (da_cons (de_call (C__law_one.mono (by decide)) hr hG rfl (da_cons (dv 0) (da_cons (dv 3) da_nil))) da_nil))) da_nil)))))))
  exact ⟨fd, F, h2⟩
theorem ok__law_word (G : Gf P w K mg base) : Callee P w K mg base (WK K) 3 "_law_word" 2 m__law_word := by
  obtain ⟨fd, F, h⟩ := fn__law_word (P := P) (w := w) G
  exact callee_of (ps := ["_law_urn_here", "_law_width"]) F h G.g__law_word fun _ _ _ _ _ _ us hl => match us, hl with | [_, _], _ => rfl
theorem S__law_code : FnScope ["_law_urn_here", "_law_width", "_law_cells", "_law_rows", "_law_found", "_law_at", "_law_word_here", "_law_some", "_law_way", "_law_one_here", "_law_two", "_law_three", "_law_on"] ["_law_urn_here", "_law_width", "_law_cells", "_law_rows"] (defScope s__law_code) := ⟨rfl, rfl, rfl, by decide +kernel, rfl, by decide +kernel, by decide +kernel⟩
theorem fn__law_code (G : Gf P w K mg base) : ∃ fd, FunD K "_law_code" "_law_code" (defArgs s__law_code) (defBody s__law_code) (defScope s__law_code) [] [] (He.fAd K ("_law_code", none)) fd ∧ FnG P w K mg base 4 (He.fAd K ("_law_code", none)) fd ["_law_urn_here", "_law_width", "_law_cells", "_law_rows"] (spD (WK K) 4 m__law_code) := by
  have C__law_pull := ok__law_pull (P := P) (w := w) G
  have C__law_word := ok__law_word (P := P) (w := w) G
  obtain ⟨fd, F⟩ := G.f__law_code
  have S := S__law_code
  have h := fn_D (P := P) (w := w) (mg := mg) (base := base) (W := WK K) (k := 3) (f := b__law_code) F S
  have h2 : FnG P w K mg base 4 (He.fAd K ("_law_code", none)) fd ["_law_urn_here", "_law_width", "_law_cells", "_law_rows"] (spD (WK K) 4 m__law_code) := by
    refine h ?_
    intro A outer s H E hr hG
    exact (dss_cons (dset 4 S.nd (de_cell da_nil))
  (dss_cons (ds_for .never rfl (di_rng1 rfl G.b_range (da_cons (de_sub (dv 3) de_int) da_nil)) (dgn 5 S.nd)
  (dss_cons (ds_par3 (i := 8) (j := 9) (l := 10) rfl S.nd rfl rfl rfl (by decide) (by decide) (by decide) rfl rfl rfl (da_cons (de_call (C__law_pull.mono (by decide)) hr hG rfl (da_cons (dv 0) (da_cons de_int da_nil))) (da_cons (de_call (C__law_pull.mono (by decide)) hr hG rfl (da_cons (dv 0) (da_cons (dv 2) da_nil))) (da_cons (de_call (C__law_pull.mono (by decide)) hr hG rfl (da_cons (dv 0) (da_cons (dv 2) da_nil))) da_nil))) rfl)
  (dss_cons (ds_par (i := 11) (j := 12) rfl S.nd rfl rfl (by decide) rfl rfl (da_cons (de_call (C__law_pull.mono (by decide)) hr hG rfl (da_cons (dv 0) (da_cons (dv 2) da_nil))) (da_cons (de_add rfl (de_add rfl (dv 5) de_int) (de_call (C__law_pull.mono (by decide)) hr hG rfl (da_cons (dv 0) (da_cons (de_callB (call_min2 rfl) dc_min2 rfl G.b_min boot_min' (da_cons (de_sub (de_sub (dv 3) de_int) (dv 5)) (da_cons de_int da_nil))) da_nil)))) da_nil)) rfl)
  (dss_cons (dset 6 S.nd (de_call (C__law_word.mono (by decide)) hr hG rfl (da_cons (dv 0) (da_cons (dv 1) da_nil))))
  (dss_cons (dset 7 S.nd (de_tup (da_cons (de_tup (da_cons de_str (da_cons (dv 9) (da_cons (dv 6) da_nil)))) (da_cons (de_tup (da_cons de_str (da_cons (dv 9) (da_cons (dv 10) da_nil)))) (da_cons (de_tup (da_cons de_str (da_cons (dv 9) (da_cons (dv 10) (da_cons (dv 11) da_nil))))) (da_cons (de_tup (da_cons de_str (da_cons (dv 9) (da_cons (dv 10) (da_cons (dv 11) da_nil))))) (da_cons (de_tup (da_cons de_str (da_cons (dv 9) (da_cons (dv 10) (da_cons (dv 6) da_nil))))) (da_cons (de_tup (da_cons de_str (da_cons (dv 9) (da_cons (dv 10) (da_cons (dv 12) da_nil))))) (da_cons (de_tup (da_cons de_str (da_cons (dv 10) (da_cons (dv 11) (da_cons (dv 12) da_nil))))) (da_cons (de_tup (da_cons de_str (da_cons (dv 12) da_nil))) (da_cons (de_tup (da_cons de_str (da_cons (dv 9) (da_cons (dv 9) (da_cons (dv 10) da_nil))))) da_nil)))))))))))
  (dss_one (ds_expr (de_meth rfl PySem.F.slot_list_append PySem.F.type_list_append mt_append dm_append (dv 4) (da_cons (de_ix rfl (dv 7) (dv 8) (fun _ _ => rfl)) da_nil)))))))))
  (dss_one (ds_ret (de_add rfl (de_callTy call_tuple_of dc_tuple rfl G.b_tuple boot_tuple' (da_cons (dv 4) da_nil)) (de_tup (da_cons (de_tup (da_cons de_str da_nil)) da_nil)))))))
  exact ⟨fd, F, h2⟩
theorem ok__law_code (G : Gf P w K mg base) : Callee P w K mg base (WK K) 4 "_law_code" 4 m__law_code := by
  obtain ⟨fd, F, h⟩ := fn__law_code (P := P) (w := w) G
  exact callee_of (ps := ["_law_urn_here", "_law_width", "_law_cells", "_law_rows"]) F h G.g__law_code fun _ _ _ _ _ _ us hl => match us, hl with | [_, _, _, _], _ => rfl
theorem S__law_row_of_words : FnScope ["_law_urn_here", "_law_width", "_law_many", "_law_found", "_law_turn"] ["_law_urn_here", "_law_width", "_law_many"] (defScope s__law_row_of_words) := ⟨rfl, rfl, rfl, by decide +kernel, rfl, by decide +kernel, by decide +kernel⟩
theorem fn__law_row_of_words (G : Gf P w K mg base) : ∃ fd, FunD K "_law_row_of_words" "_law_row_of_words" (defArgs s__law_row_of_words) (defBody s__law_row_of_words) (defScope s__law_row_of_words) [] [] (He.fAd K ("_law_row_of_words", none)) fd ∧ FnG P w K mg base 4 (He.fAd K ("_law_row_of_words", none)) fd ["_law_urn_here", "_law_width", "_law_many"] (spD (WK K) 3 m__law_row_of_words) := by
  have C__law_word := ok__law_word (P := P) (w := w) G
  obtain ⟨fd, F⟩ := G.f__law_row_of_words
  have S := S__law_row_of_words
  have h := fn_D (P := P) (w := w) (mg := mg) (base := base) (W := WK K) (k := 3) (f := b__law_row_of_words) F S
  have h2 : FnG P w K mg base 4 (He.fAd K ("_law_row_of_words", none)) fd ["_law_urn_here", "_law_width", "_law_many"] (spD (WK K) 3 m__law_row_of_words) := by
    refine h ?_
    intro A outer s H E hr hG
    exact (dss_cons (dset 3 S.nd (de_cell da_nil))
  (dss_cons (ds_for .never rfl (di_rng1 rfl G.b_range (da_cons (dv 2) da_nil)) (dgn 4 S.nd)
  (dss_one (ds_expr (de_meth rfl PySem.F.slot_list_append PySem.F.type_list_append mt_append dm_append (dv 3) (da_cons (de_call (C__law_word.mono (by decide)) hr hG rfl (da_cons (dv 0) (da_cons (dv 1) da_nil))) da_nil)))))
  (dss_one (ds_ret (de_callTy call_tuple_of dc_tuple rfl G.b_tuple boot_tuple' (da_cons (dv 3) da_nil))))))
  exact ⟨fd, F, h2⟩
theorem ok__law_row_of_words (G : Gf P w K mg base) : Callee P w K mg base (WK K) 4 "_law_row_of_words" 3 m__law_row_of_words := by
  obtain ⟨fd, F, h⟩ := fn__law_row_of_words (P := P) (w := w) G
  exact callee_of (ps := ["_law_urn_here", "_law_width", "_law_many"]) F h G.g__law_row_of_words fun _ _ _ _ _ _ us hl => match us, hl with | [_, _, _], _ => rfl
theorem S__law_is_whole : FnScope ["_law_thing"] ["_law_thing"] (defScope s__law_is_whole) := ⟨rfl, rfl, rfl, by decide +kernel, rfl, by decide +kernel, by decide +kernel⟩
theorem fn__law_is_whole (G : Gf P w K mg base) : ∃ fd, FunD K "_law_is_whole" "_law_is_whole" (defArgs s__law_is_whole) (defBody s__law_is_whole) (defScope s__law_is_whole) [] [] (He.fAd K ("_law_is_whole", none)) fd ∧ FnG P w K mg base 1 (He.fAd K ("_law_is_whole", none)) fd ["_law_thing"] (spD (WK K) 1 m__law_is_whole) := by
  obtain ⟨fd, F⟩ := G.f__law_is_whole
  have S := S__law_is_whole
  have h := fn_D (P := P) (w := w) (mg := mg) (base := base) (W := WK K) (k := 0) (f := b__law_is_whole) F S
  have h2 : FnG P w K mg base 1 (He.fAd K ("_law_is_whole", none)) fd ["_law_thing"] (spD (WK K) 1 m__law_is_whole) := by
    refine h ?_
    intro A outer s H E hr hG
    exact (dss_one (ds_ret (de_and (de_isi .int rfl rfl G.b_isinstance rfl G.b_int (dv 0)) (de_one (de_not (de_isi .bool rfl rfl G.b_isinstance rfl G.b_bool (dv 0)))))))
  exact ⟨fd, F, h2⟩
theorem ok__law_is_whole (G : Gf P w K mg base) : Callee P w K mg base (WK K) 1 "_law_is_whole" 1 m__law_is_whole := by
  obtain ⟨fd, F, h⟩ := fn__law_is_whole (P := P) (w := w) G
  exact callee_of (ps := ["_law_thing"]) F h G.g__law_is_whole fun _ _ _ _ _ _ us hl => match us, hl with | [_], _ => rfl
theorem S__law_is_word : FnScope ["_law_thing", "_law_width"] ["_law_thing", "_law_width"] (defScope s__law_is_word) := ⟨rfl, rfl, rfl, by decide +kernel, rfl, by decide +kernel, by decide +kernel⟩
theorem fn__law_is_word (G : Gf P w K mg base) : ∃ fd, FunD K "_law_is_word" "_law_is_word" (defArgs s__law_is_word) (defBody s__law_is_word) (defScope s__law_is_word) [] [] (He.fAd K ("_law_is_word", none)) fd ∧ FnG P w K mg base 2 (He.fAd K ("_law_is_word", none)) fd ["_law_thing", "_law_width"] (spD (WK K) 2 m__law_is_word) := by
  have C__law_is_whole := ok__law_is_whole (P := P) (w := w) G
  have C__law_top := ok__law_top (P := P) (w := w) G
  obtain ⟨fd, F⟩ := G.f__law_is_word
  have S := S__law_is_word
  have h := fn_D (P := P) (w := w) (mg := mg) (base := base) (W := WK K) (k := 1) (f := b__law_is_word) F S
  have h2 : FnG P w K mg base 2 (He.fAd K ("_law_is_word", none)) fd ["_law_thing", "_law_width"] (spD (WK K) 2 m__law_is_word) := by
    refine h ?_
    intro A outer s H E hr hG
    exact (dss_one (ds_ret (de_and (de_call (C__law_is_whole.mono (by decide)) hr hG rfl (da_cons (dv 0) da_nil)) (de_one (de_chain op_le op_lt dop_le dop_lt (de_neg (de_call (C__law_top.mono (by decide)) hr hG rfl (da_cons (dv 1) da_nil))) (dv 0) (de_call (C__law_top.mono (by decide)) hr hG rfl (da_cons (dv 1) da_nil)))))))
  exact ⟨fd, F, h2⟩
theorem ok__law_is_word (G : Gf P w K mg base) : Callee P w K mg base (WK K) 2 "_law_is_word" 2 m__law_is_word := by
  obtain ⟨fd, F, h⟩ := fn__law_is_word (P := P) (w := w) G
  exact callee_of (ps := ["_law_thing", "_law_width"]) F h G.g__law_is_word fun _ _ _ _ _ _ us hl => match us, hl with | [_, _], _ => rfl
theorem S__law_is_line : FnScope ["_law_thing", "_law_at", "_law_many", "_law_width", "_law_sorts", "_law_found", "_law_sort", "_law_part", "_law_each"] ["_law_thing", "_law_at", "_law_many", "_law_width"] (defScope s__law_is_line) := ⟨rfl, rfl, rfl, by decide +kernel, rfl, by decide +kernel, by decide +kernel⟩
theorem fn__law_is_line (G : Gf P w K mg base) : ∃ fd, FunD K "_law_is_line" "_law_is_line" (defArgs s__law_is_line) (defBody s__law_is_line) (defScope s__law_is_line) [] [] (He.fAd K ("_law_is_line", none)) fd ∧ FnG P w K mg base 3 (He.fAd K ("_law_is_line", none)) fd ["_law_thing", "_law_at", "_law_many", "_law_width"] (spD (WK K) 4 m__law_is_line) := by
  have C__law_is_whole := ok__law_is_whole (P := P) (w := w) G
  have C__law_is_word := ok__law_is_word (P := P) (w := w) G
  obtain ⟨fd, F⟩ := G.f__law_is_line
  have S := S__law_is_line
  have h := fn_D (P := P) (w := w) (mg := mg) (base := base) (W := WK K) (k := 2) (f := b__law_is_line) F S
  have h2 : FnG P w K mg base 3 (He.fAd K ("_law_is_line", none)) fd ["_law_thing", "_law_at", "_law_many", "_law_width"] (spD (WK K) 4 m__law_is_line) := by
    refine h ?_
    intro A outer s H E hr hG
    exact (dss_cons (ds_if (dt_w (dw_or (dt_not (dt_val (de_isi .tup rfl rfl G.b_isinstance rfl G.b_tuple (dv 0)))) (dw_or (dt_cmp (op_eqT hr.units) dop_eqT (dv 0) (de_tup da_nil) (nomark _)) (dw_or1 (dt_not (dt_val (de_isi .str rfl rfl G.b_isinstance rfl G.b_str (de_ix rfl (dv 0) de_int (fun _ _ => rfl)))))))))
  (dss_one (ds_ret de_bl)) dss_nil)
  (dss_cons (dset 4 S.nd (de_tup (da_cons (de_tup (da_cons de_str (da_cons de_str da_nil))) (da_cons (de_tup (da_cons de_str (da_cons de_str da_nil))) (da_cons (de_tup (da_cons de_str (da_cons de_str da_nil))) (da_cons (de_tup (da_cons de_str (da_cons de_str da_nil))) (da_cons (de_tup (da_cons de_str (da_cons de_str da_nil))) (da_cons (de_tup (da_cons de_str (da_cons de_str da_nil))) (da_cons (de_tup (da_cons de_str (da_cons de_str da_nil))) (da_cons (de_tup (da_cons de_str (da_cons de_str da_nil))) da_nil))))))))))
  (dss_cons (ds_setLc (lc_rd (own := [("_law_each", 8)])) rfl S.nd rfl rfl (sw_true rfl rfl rfl rfl) (own := [("_law_each", 8)]) (di_seq rfl (dv 4)) (blkOk_by (by kernel_rfl)) (fun s H C cl fp => (dgwn 8 S.nd)) (fun s H C cl fp => (dts_one (dt_cmp (op_eqA hr.units) dop_eq (de_ix rfl (dv 8) de_int (fun _ _ => rfl)) (de_ix rfl (dv 0) de_int (fun _ _ => rfl)) (nomark _)))) (fun s H C cl fp => (de_ix rfl (dv 8) de_int (fun _ _ => rfl))))
  (dss_cons (ds_if (dt_w (dw_or (dt_cmp (op_eqA hr.units) dop_eq (dv 5) (de_lst da_nil) (nomark _)) (dw_or1 (dt_cmp (op_neA hr.units) dop_ne (de_callB call_len dc_len rfl G.b_len boot_len' (da_cons (dv 0) da_nil)) (de_add rfl (de_callB call_len dc_len rfl G.b_len boot_len' (da_cons (de_ix rfl (dv 5) de_int (fun _ _ => rfl)) da_nil)) de_int) (nomark _)))))
  (dss_one (ds_ret de_bl)) dss_nil)
  (dss_cons (ds_for .never rfl (di_mz rfl rfl G.b_zip (da_cons (de_ix rfl (dv 5) de_int (fun _ _ => rfl)) (da_cons (de_slice rfl (dv 0) (do_1 de_int) do_0) da_nil))) (dg_tup (n := 2) rfl rfl (dgs_cons (dgn 6 S.nd) (dgs_cons (dgn 7 S.nd) dgs_nil)))
  (dss_cons (ds_if (dt_w (dw_or (dt_not (dt_val (de_call (C__law_is_whole.mono (by decide)) hr hG rfl (da_cons (dv 7) da_nil)))) (dw_or (dt_w (dw_and (dt_cmp (op_eqA hr.units) dop_eq (dv 6) de_str (nomark _)) (dw_and1 (dt_not (dt_chain op_le op_lt dop_le dop_lt de_int (dv 7) de_int))))) (dw_or1 (dt_w (dw_and (dt_cmp (op_eqA hr.units) dop_eq (dv 6) de_str (nomark _)) (dw_and1 (dt_not (dt_chain op_lt op_lt dop_lt dop_lt (dv 1) (dv 7) (dv 2))))))))))
  (dss_one (ds_ret de_bl)) dss_nil)
  (dss_one (ds_if (dt_w (dw_and (dt_cmp (op_eqA hr.units) dop_eq (dv 6) de_str (nomark _)) (dw_and1 (dt_not (dt_val (de_call (C__law_is_word.mono (by decide)) hr hG rfl (da_cons (dv 7) (da_cons (dv 3) da_nil))))))))
  (dss_one (ds_ret de_bl)) dss_nil))))
  (dss_one (ds_ret de_bl)))))))
  exact ⟨fd, F, h2⟩
theorem ok__law_is_line (G : Gf P w K mg base) : Callee P w K mg base (WK K) 3 "_law_is_line" 4 m__law_is_line := by
  obtain ⟨fd, F, h⟩ := fn__law_is_line (P := P) (w := w) G
  exact callee_of (ps := ["_law_thing", "_law_at", "_law_many", "_law_width"]) F h G.g__law_is_line fun _ _ _ _ _ _ us hl => match us, hl with | [_, _, _, _], _ => rfl
theorem S__law_wrong_line : FnScope ["_law_thing", "_law_width", "_law_at", "_law_last"] ["_law_thing", "_law_width"] (defScope s__law_wrong_line) := ⟨rfl, rfl, rfl, by decide +kernel, rfl, by decide +kernel, by decide +kernel⟩
theorem fn__law_wrong_line (G : Gf P w K mg base) : ∃ fd, FunD K "_law_wrong_line" "_law_wrong_line" (defArgs s__law_wrong_line) (defBody s__law_wrong_line) (defScope s__law_wrong_line) [] [] (He.fAd K ("_law_wrong_line", none)) fd ∧ FnG P w K mg base 4 (He.fAd K ("_law_wrong_line", none)) fd ["_law_thing", "_law_width"] (spD (WK K) 2 m__law_wrong_line) := by
  have C__law_is_line := ok__law_is_line (P := P) (w := w) G
  obtain ⟨fd, F⟩ := G.f__law_wrong_line
  have S := S__law_wrong_line
  have h := fn_D (P := P) (w := w) (mg := mg) (base := base) (W := WK K) (k := 3) (f := b__law_wrong_line) F S
  have h2 : FnG P w K mg base 4 (He.fAd K ("_law_wrong_line", none)) fd ["_law_thing", "_law_width"] (spD (WK K) 2 m__law_wrong_line) := by
    refine h ?_
    intro A outer s H E hr hG
    exact (dss_cons (ds_if (dt_w (dw_or (dt_not (dt_val (de_isi .tup rfl rfl G.b_isinstance rfl G.b_tuple (dv 0)))) (dw_or1 (dt_not (dt_chain op_le op_le dop_le dop_le de_int (de_callB call_len dc_len rfl G.b_len boot_len' (da_cons (dv 0) da_nil)) de_int)))))
  (dss_one (ds_ret (de_tup (da_cons de_non da_nil)))) dss_nil)
  (dss_cons (ds_for .never rfl (di_rng1 rfl G.b_range (da_cons (de_callB call_len dc_len rfl G.b_len boot_len' (da_cons (dv 0) da_nil)) da_nil)) (dgn 2 S.nd)
  (dss_cons (dset 3 S.nd (de_and (de_cmp (op_eqA hr.units) dop_eq (dv 2) (de_sub (de_callB call_len dc_len rfl G.b_len boot_len' (da_cons (dv 0) da_nil)) de_int) (nomark _)) (de_and (de_isi .tup rfl rfl G.b_isinstance rfl G.b_tuple (de_ix rfl (dv 0) (dv 2) (fun _ _ => rfl))) (de_one (de_cmp (op_neT hr.units) dop_neT (de_slice rfl (de_ix rfl (dv 0) (dv 2) (fun _ _ => rfl)) do_0 (do_1 de_int)) (de_tup (da_cons de_str da_nil)) (nomark _))))))
  (dss_one (ds_if (dt_w (dw_or (dt_val (dv 3)) (dw_or1 (dt_not (dt_val (de_call (C__law_is_line.mono (by decide)) hr hG rfl (da_cons (de_ix rfl (dv 0) (dv 2) (fun _ _ => rfl)) (da_cons (dv 2) (da_cons (de_callB call_len dc_len rfl G.b_len boot_len' (da_cons (dv 0) da_nil)) (da_cons (dv 1) da_nil))))))))))
  (dss_one (ds_ret (de_tup (da_cons (dv 2) da_nil)))) dss_nil))))
  (dss_one (ds_ret (de_tup da_nil)))))
  exact ⟨fd, F, h2⟩
theorem ok__law_wrong_line (G : Gf P w K mg base) : Callee P w K mg base (WK K) 4 "_law_wrong_line" 2 m__law_wrong_line := by
  obtain ⟨fd, F, h⟩ := fn__law_wrong_line (P := P) (w := w) G
  exact callee_of (ps := ["_law_thing", "_law_width"]) F h G.g__law_wrong_line fun _ _ _ _ _ _ us hl => match us, hl with | [_, _], _ => rfl
theorem S__law_cells_in : FnScope ["_law_row"] ["_law_row"] (defScope s__law_cells_in) := ⟨rfl, rfl, rfl, by decide +kernel, rfl, by decide +kernel, by decide +kernel⟩
theorem fn__law_cells_in (G : Gf P w K mg base) : ∃ fd, FunD K "_law_cells_in" "_law_cells_in" (defArgs s__law_cells_in) (defBody s__law_cells_in) (defScope s__law_cells_in) [] [] (He.fAd K ("_law_cells_in", none)) fd ∧ FnG P w K mg base 1 (He.fAd K ("_law_cells_in", none)) fd ["_law_row"] (spD (WK K) 1 m__law_cells_in) := by
  obtain ⟨fd, F⟩ := G.f__law_cells_in
  have S := S__law_cells_in
  have h := fn_D (P := P) (w := w) (mg := mg) (base := base) (W := WK K) (k := 0) (f := b__law_cells_in) F S
  have h2 : FnG P w K mg base 1 (He.fAd K ("_law_cells_in", none)) fd ["_law_row"] (spD (WK K) 1 m__law_cells_in) := by
    refine h ?_
    intro A outer s H E hr hG
    exact (dss_cons (ds_if (dt_cmp op_in_seq (dop_inB false) (de_ix rfl (dv 0) de_int (fun _ _ => rfl)) (de_tup (da_cons de_str (da_cons de_str da_nil))) (by with_unfolding_all rfl))
  (dss_one (ds_ret (de_tup da_nil))) dss_nil)
  (dss_one (ds_ret (de_if (dt_cmp (op_eqA hr.units) dop_eq (de_ix rfl (dv 0) de_int (fun _ _ => rfl)) de_str (nomark _)) (de_slice rfl (dv 0) (do_1 de_int) (do_1 de_int)) (de_if (dt_cmp op_in_seq (dop_inB false) (de_ix rfl (dv 0) de_int (fun _ _ => rfl)) (de_tup (da_cons de_str (da_cons de_str (da_cons de_str da_nil)))) (by with_unfolding_all rfl)) (de_slice rfl (dv 0) (do_1 de_int) (do_1 de_int)) (de_slice rfl (dv 0) (do_1 de_int) (do_1 de_int)))))))
  exact ⟨fd, F, h2⟩
theorem ok__law_cells_in (G : Gf P w K mg base) : Callee P w K mg base (WK K) 1 "_law_cells_in" 1 m__law_cells_in := by
  obtain ⟨fd, F, h⟩ := fn__law_cells_in (P := P) (w := w) G
  exact callee_of (ps := ["_law_row"]) F h G.g__law_cells_in fun _ _ _ _ _ _ us hl => match us, hl with | [_], _ => rfl
theorem S__law_due : FnScope ["_law_width", "_law_code_here", "_law_cells", "_law_wrong", "_law_off", "_law_at", "_law_cell"] ["_law_width", "_law_code_here", "_law_cells"] (defScope s__law_due) := ⟨rfl, rfl, rfl, by decide +kernel, rfl, by decide +kernel, by decide +kernel⟩
theorem fn__law_due (G : Gf P w K mg base) : ∃ fd, FunD K "_law_due" "_law_due" (defArgs s__law_due) (defBody s__law_due) (defScope s__law_due) [] [] (He.fAd K ("_law_due", none)) fd ∧ FnG P w K mg base 5 (He.fAd K ("_law_due", none)) fd ["_law_width", "_law_code_here", "_law_cells"] (spD (WK K) 3 m__law_due) := by
  have C__law_cells_in := ok__law_cells_in (P := P) (w := w) G
  have C__law_is_word := ok__law_is_word (P := P) (w := w) G
  have C__law_wrong_line := ok__law_wrong_line (P := P) (w := w) G
  obtain ⟨fd, F⟩ := G.f__law_due
  have S := S__law_due
  have h := fn_D (P := P) (w := w) (mg := mg) (base := base) (W := WK K) (k := 4) (f := b__law_due) F S
  have h2 : FnG P w K mg base 5 (He.fAd K ("_law_due", none)) fd ["_law_width", "_law_code_here", "_law_cells"] (spD (WK K) 3 m__law_due) := by
    refine h ?_
    intro A outer s H E hr hG
    exact (dss_cons (dset 3 S.nd (de_call (C__law_wrong_line.mono (by decide)) hr hG rfl (da_cons (dv 1) (da_cons (dv 0) da_nil))))
  (dss_cons (ds_if (dt_cmp (op_neT hr.units) dop_neT (dv 3) (de_tup da_nil) (nomark _))
  (dss_one (ds_ret (de_lst (da_cons de_str (da_cons (de_callB (call_reprA hG hr.units) dc_repr rfl G.b_repr boot_repr' (da_cons (de_ix rfl (dv 3) de_int (fun _ _ => rfl)) da_nil)) da_nil))))) dss_nil)
  (dss_cons (ds_if (dt_w (dw_or (dt_not (dt_val (de_isi .tup rfl rfl G.b_isinstance rfl G.b_tuple (dv 2)))) (dw_or1 (dt_not (dt_chain op_le op_le dop_le dop_le de_int (de_callB call_len dc_len rfl G.b_len boot_len' (da_cons (dv 2) da_nil)) de_int)))))
  (dss_one (ds_ret (de_lst (da_cons de_str (da_cons de_str da_nil))))) dss_nil)
  (dss_cons (ds_setLc (lc_rd (own := [("_law_at", 5)])) rfl S.nd rfl rfl (sw_true rfl rfl rfl rfl) (own := [("_law_at", 5)]) (di_rng1 rfl G.b_range (da_cons (de_callB call_len dc_len rfl G.b_len boot_len' (da_cons (dv 2) da_nil)) da_nil)) (blkOk_by (by kernel_rfl)) (fun s H C cl fp => (dgwn 5 S.nd)) (fun s H C cl fp => (dts_one (dt_not (dt_val (de_call (C__law_is_word.mono (by decide)) hr hG rfl (da_cons (de_ix rfl (dv 2) (dv 5) (fun _ _ => rfl)) (da_cons (dv 0) da_nil))))))) (fun s H C cl fp => (dv 5)))
  (dss_cons (ds_if (dt_cmp (op_neA hr.units) dop_ne (dv 4) (de_lst da_nil) (nomark _))
  (dss_one (ds_ret (de_lst (da_cons de_str (da_cons (de_callB (call_reprA hG hr.units) dc_repr rfl G.b_repr boot_repr' (da_cons (de_ix rfl (dv 4) de_int (fun _ _ => rfl)) da_nil)) da_nil))))) dss_nil)
  (dss_cons (ds_setLc (lc_rd (own := [("_law_at", 5)])) rfl S.nd rfl rfl (sw_true rfl rfl rfl rfl) (own := [("_law_at", 5)]) (di_rng1 rfl G.b_range (da_cons (de_callB call_len dc_len rfl G.b_len boot_len' (da_cons (dv 1) da_nil)) da_nil)) (blkOk_by (by kernel_rfl)) (fun s H C cl fp => (dgwn 5 S.nd)) (fun s H C cl fp => (dts_one (dt_val (de_callB (cr_any rfl) dc_any rfl G.b_any boot_any' (da_cons (de_lc rfl S.nd (own := [("_law_cell", 6)]) (di_seq rfl (de_call (C__law_cells_in.mono (by decide)) hr hG rfl (da_cons (de_ix rfl (dv 1) (dv 5) (fun _ _ => rfl)) da_nil))) (blkOk_by (by kernel_rfl)) (fun s H C cl fp => (dgwn 6 S.nd)) (fun s H C cl fp => dts_nil) (fun s H C cl fp => (de_cmp op_ge dop_ge (dv 6) (de_callB call_len dc_len rfl G.b_len boot_len' (da_cons (dv 2) da_nil)) (nomark _)))) da_nil))))) (fun s H C cl fp => (dv 5)))
  (dss_one (ds_ret (de_if (dt_cmp (op_neA hr.units) dop_ne (dv 4) (de_lst da_nil) (nomark _)) (de_lst (da_cons de_str (da_cons (de_callB (call_reprA hG hr.units) dc_repr rfl G.b_repr boot_repr' (da_cons (de_ix rfl (dv 4) de_int (fun _ _ => rfl)) da_nil)) da_nil))) (de_lst (da_cons de_str (da_cons de_str da_nil))))))))))))
  exact ⟨fd, F, h2⟩
theorem ok__law_due (G : Gf P w K mg base) : Callee P w K mg base (WK K) 5 "_law_due" 3 m__law_due := by
  obtain ⟨fd, F, h⟩ := fn__law_due (P := P) (w := w) G
  exact callee_of (ps := ["_law_width", "_law_code_here", "_law_cells"]) F h G.g__law_due fun _ _ _ _ _ _ us hl => match us, hl with | [_, _, _], _ => rfl
theorem S__law_odd : FnScope ["_law_urn_here"] ["_law_urn_here"] (defScope s__law_odd) := ⟨rfl, rfl, rfl, by decide +kernel, rfl, by decide +kernel, by decide +kernel⟩
theorem fn__law_odd (G : Gf P w K mg base) : ∃ fd, FunD K "_law_odd" "_law_odd" (defArgs s__law_odd) (defBody s__law_odd) (defScope s__law_odd) [] [] (He.fAd K ("_law_odd", none)) fd ∧ FnG P w K mg base 3 (He.fAd K ("_law_odd", none)) fd ["_law_urn_here"] (spD (WK K) 1 m__law_odd) := by
  have C__law_one := ok__law_one (P := P) (w := w) G
  obtain ⟨fd, F⟩ := G.f__law_odd
  have S := S__law_odd
  have h := fn_D (P := P) (w := w) (mg := mg) (base := base) (W := WK K) (k := 2) (f := b__law_odd) F S
  have h2 : FnG P w K mg base 3 (He.fAd K ("_law_odd", none)) fd ["_law_urn_here"] (spD (WK K) 1 m__law_odd) := by
    refine h ?_
    intro A outer s H E hr hG
    exact (dss_one (ds_ret (de_call (C__law_one.mono (by decide)) hr hG rfl (da_cons (dv 0) (da_cons (de_tup (da_cons de_non (da_cons de_bl (da_cons de_bl (da_cons de_str (da_cons de_str (da_cons de_str (da_cons de_str (da_cons de_str (da_cons de_int (da_cons (de_neg de_int) (da_cons de_int (da_cons (de_pow de_int de_int) (da_cons (de_tup da_nil) (da_cons (de_lst da_nil) (da_cons de_dic (da_cons (de_tup (da_cons de_str (da_cons de_int da_nil))) (da_cons (de_tup (da_cons de_int da_nil)) (da_cons de_str (da_cons de_str (da_cons (de_tup (da_cons de_str (da_cons de_str da_nil))) (da_cons de_str (da_cons (de_tup (da_cons de_str (da_cons de_int (da_cons de_int da_nil)))) (da_cons de_int (da_cons de_str da_nil))))))))))))))))))))))))) da_nil)))))
  exact ⟨fd, F, h2⟩
theorem ok__law_odd (G : Gf P w K mg base) : Callee P w K mg base (WK K) 3 "_law_odd" 1 m__law_odd := by
  obtain ⟨fd, F, h⟩ := fn__law_odd (P := P) (w := w) G
  exact callee_of (ps := ["_law_urn_here"]) F h G.g__law_odd fun _ _ _ _ _ _ us hl => match us, hl with | [_], _ => rfl
theorem S__law_bent : FnScope ["_law_urn_here", "_law_thing", "_law_deep", "_law_way", "_law_at"] ["_law_urn_here", "_law_thing", "_law_deep"] (defScope s__law_bent) := ⟨rfl, rfl, rfl, by decide +kernel, rfl, by decide +kernel, by decide +kernel⟩
theorem ok__law_bent (G : Gf P w K mg base) : ∀ n, Callee P w K mg base (WK K) (3 + n) "_law_bent" 3 (m__law_bent n) := by
  have C__law_odd := ok__law_odd (P := P) (w := w) G
  have C__law_pull := ok__law_pull (P := P) (w := w) G
  obtain ⟨fd, F⟩ := G.f__law_bent
  have S := S__law_bent
  have bd : ∀ (kV doc pm : Value) (an : Option Addr) (cdv ct : Value) (us : List Value), us.length = (["_law_urn_here", "_law_thing", "_law_deep"] : List Str).length → bindArgs (PySem.W.fnOf "_law_bent" "_law_bent" (defArgs s__law_bent) (defBody s__law_bent) (defScope s__law_bent) .none kV doc pm an cdv ct) ⟨us, []⟩ = pure ((["_law_urn_here", "_law_thing", "_law_deep"] : List Str).zip us) := fun _ _ _ _ _ _ us hl => match us, hl with | [_, _, _], _ => rfl
  intro n
  induction n with
  | zero => exact callee_of (ps := ["_law_urn_here", "_law_thing", "_law_deep"]) F ⟨fun vs H Q E h => h.1, fun A outer s H args us vs Q E _ _ _ _ _ h => by obtain ⟨_, xs, S0, μ, _, _, z⟩ := h; exact z.elim⟩ G.g__law_bent bd
  | succ n ih =>
    have h := fn_D (P := P) (w := w) (mg := mg) (base := base) (W := WK K) (k := 3 + n) (f := b__law_bent (fun _ => m__law_bent n) n) F S
    have h2 : FnG P w K mg base (3 + n + 1) (He.fAd K ("_law_bent", none)) fd ["_law_urn_here", "_law_thing", "_law_deep"] (spD (WK K) 3 (m__law_bent (n + 1))) := by
      refine h ?_
      intro A outer s H E hr hG
      exact (dss_cons (dset 3 S.nd (de_call (C__law_pull.mono (by omega)) hr hG rfl (da_cons (dv 0) (da_cons de_int da_nil))))
  (dss_cons (ds_if (dt_w (dw_or (dt_not (dt_val (de_isi .tup rfl rfl G.b_isinstance rfl G.b_tuple (dv 1)))) (dw_or (dt_cmp (op_eqT hr.units) dop_eqT (dv 1) (de_tup da_nil) (nomark _)) (dw_or1 (dt_cmp op_lt dop_lt (dv 2) de_int (nomark _))))))
  (dss_one (ds_ret (de_call (C__law_odd.mono (by omega)) hr hG rfl (da_cons (dv 0) da_nil)))) dss_nil)
  (dss_cons (dset 4 S.nd (de_call (C__law_pull.mono (by omega)) hr hG rfl (da_cons (dv 0) (da_cons (de_callB call_len dc_len rfl G.b_len boot_len' (da_cons (dv 1) da_nil)) da_nil))))
  (dss_cons (ds_if (dt_cmp (op_eqA hr.units) dop_eq (dv 3) de_int (nomark _))
  (dss_one (ds_ret (de_add rfl (de_slice rfl (dv 1) do_0 (do_1 (dv 4))) (de_slice rfl (dv 1) (do_1 (de_add rfl (dv 4) de_int)) do_0)))) dss_nil)
  (dss_cons (ds_if (dt_cmp (op_eqA hr.units) dop_eq (dv 3) de_int (nomark _))
  (dss_one (ds_ret (de_add rfl (de_add rfl (de_slice rfl (dv 1) do_0 (do_1 (dv 4))) (de_tup (da_cons (de_ix rfl (dv 1) (dv 4) (fun _ _ => rfl)) da_nil))) (de_slice rfl (dv 1) (do_1 (dv 4)) do_0)))) dss_nil)
  (dss_cons (ds_if (dt_cmp (op_eqA hr.units) dop_eq (dv 3) de_int (nomark _))
  (dss_one (ds_ret (de_callTy call_list_of dc_list rfl G.b_list boot_list' (da_cons (dv 1) da_nil)))) dss_nil)
  (dss_cons (ds_if (dt_cmp (op_eqA hr.units) dop_eq (dv 3) de_int (nomark _))
  (dss_one (ds_ret (de_add rfl (de_add rfl (de_slice rfl (dv 1) do_0 (do_1 (dv 4))) (de_tup (da_cons (de_call (C__law_odd.mono (by omega)) hr hG rfl (da_cons (dv 0) da_nil)) da_nil))) (de_slice rfl (dv 1) (do_1 (de_add rfl (dv 4) de_int)) do_0)))) dss_nil)
  (dss_one (ds_ret (de_add rfl (de_add rfl (de_slice rfl (dv 1) do_0 (do_1 (dv 4))) (de_tup (da_cons (de_call (ih.mono (by omega)) hr hG rfl (da_cons (dv 0) (da_cons (de_ix rfl (dv 1) (dv 4) (fun _ _ => rfl)) (da_cons (de_sub (dv 2) de_int) da_nil)))) da_nil))) (de_slice rfl (dv 1) (do_1 (de_add rfl (dv 4) de_int)) do_0)))))))))))
    exact callee_of (ps := ["_law_urn_here", "_law_thing", "_law_deep"]) F h2 G.g__law_bent bd
theorem S_is_whole : FnScope ["value"] ["value"] (defScope s_is_whole) := ⟨rfl, rfl, rfl, by decide +kernel, rfl, by decide +kernel, by decide +kernel⟩
theorem fn_is_whole (G : Gf P w K mg base) : ∃ fd, FunD K "is_whole" "is_whole" (defArgs s_is_whole) (defBody s_is_whole) (defScope s_is_whole) [] [] (He.fAd K ("is_whole", none)) fd ∧ FnG P w K mg base 1 (He.fAd K ("is_whole", none)) fd ["value"] (spD (WK K) 1 m_is_whole) := by
  obtain ⟨fd, F⟩ := G.f_is_whole
  have S := S_is_whole
  have h := fn_D (P := P) (w := w) (mg := mg) (base := base) (W := WK K) (k := 0) (f := b_is_whole) F S
  have h2 : FnG P w K mg base 1 (He.fAd K ("is_whole", none)) fd ["value"] (spD (WK K) 1 m_is_whole) := by
    refine h ?_
    intro A outer s H E hr hG
    exact (dss_one (ds_ret (de_and (de_isi .int rfl rfl G.b_isinstance rfl G.b_int (dv 0)) (de_one (de_not (de_isi .bool rfl rfl G.b_isinstance rfl G.b_bool (dv 0)))))))
  exact ⟨fd, F, h2⟩
theorem ok_is_whole (G : Gf P w K mg base) : Callee P w K mg base (WK K) 1 "is_whole" 1 m_is_whole := by
  obtain ⟨fd, F, h⟩ := fn_is_whole (P := P) (w := w) G
  exact callee_of (ps := ["value"]) F h G.g_is_whole fun _ _ _ _ _ _ us hl => match us, hl with | [_], _ => rfl
theorem S_is_whole_from : FnScope ["value", "low", "high"] ["value", "low", "high"] (defScope s_is_whole_from) := ⟨rfl, rfl, rfl, by decide +kernel, rfl, by decide +kernel, by decide +kernel⟩
theorem fn_is_whole_from (G : Gf P w K mg base) : ∃ fd, FunD K "is_whole_from" "is_whole_from" (defArgs s_is_whole_from) (defBody s_is_whole_from) (defScope s_is_whole_from) [] [] (He.fAd K ("is_whole_from", none)) fd ∧ FnG P w K mg base 2 (He.fAd K ("is_whole_from", none)) fd ["value", "low", "high"] (spD (WK K) 3 m_is_whole_from) := by
  have C_is_whole := ok_is_whole (P := P) (w := w) G
  obtain ⟨fd, F⟩ := G.f_is_whole_from
  have S := S_is_whole_from
  have h := fn_D (P := P) (w := w) (mg := mg) (base := base) (W := WK K) (k := 1) (f := b_is_whole_from) F S
  have h2 : FnG P w K mg base 2 (He.fAd K ("is_whole_from", none)) fd ["value", "low", "high"] (spD (WK K) 3 m_is_whole_from) := by
    refine h ?_
    intro A outer s H E hr hG
    exact (dss_one (ds_ret (de_and (de_call (C_is_whole.mono (by decide)) hr hG rfl (da_cons (dv 0) da_nil)) (de_one (de_chain op_le op_le dop_le dop_le (dv 1) (dv 0) (dv 2))))))
  exact ⟨fd, F, h2⟩
theorem ok_is_whole_from (G : Gf P w K mg base) : Callee P w K mg base (WK K) 2 "is_whole_from" 3 m_is_whole_from := by
  obtain ⟨fd, F, h⟩ := fn_is_whole_from (P := P) (w := w) G
  exact callee_of (ps := ["value", "low", "high"]) F h G.g_is_whole_from fun _ _ _ _ _ _ us hl => match us, hl with | [_, _, _], _ => rfl
theorem S_is_width : FnScope ["value"] ["value"] (defScope s_is_width) := ⟨rfl, rfl, rfl, by decide +kernel, rfl, by decide +kernel, by decide +kernel⟩
theorem fn_is_width (G : Gf P w K mg base) : ∃ fd, FunD K "is_width" "is_width" (defArgs s_is_width) (defBody s_is_width) (defScope s_is_width) [] [] (He.fAd K ("is_width", none)) fd ∧ FnG P w K mg base 3 (He.fAd K ("is_width", none)) fd ["value"] (spD (WK K) 1 m_is_width) := by
  have C_is_whole_from := ok_is_whole_from (P := P) (w := w) G
  obtain ⟨fd, F⟩ := G.f_is_width
  have S := S_is_width
  have h := fn_D (P := P) (w := w) (mg := mg) (base := base) (W := WK K) (k := 2) (f := b_is_width) F S
  have h2 : FnG P w K mg base 3 (He.fAd K ("is_width", none)) fd ["value"] (spD (WK K) 1 m_is_width) := by
    refine h ?_
    intro A outer s H E hr hG
    exact (dss_one (ds_ret (de_call (C_is_whole_from.mono (by decide)) hr hG rfl (da_cons (dv 0) (da_cons de_int (da_cons de_int da_nil))))))
  exact ⟨fd, F, h2⟩
theorem ok_is_width (G : Gf P w K mg base) : Callee P w K mg base (WK K) 3 "is_width" 1 m_is_width := by
  obtain ⟨fd, F, h⟩ := fn_is_width (P := P) (w := w) G
  exact callee_of (ps := ["value"]) F h G.g_is_width fun _ _ _ _ _ _ us hl => match us, hl with | [_], _ => rfl
theorem S_check_width : FnScope ["width"] ["width"] (defScope s_check_width) := ⟨rfl, rfl, rfl, by decide +kernel, rfl, by decide +kernel, by decide +kernel⟩
theorem fn_check_width (G : Gf P w K mg base) : ∃ fd, FunD K "check_width" "check_width" (defArgs s_check_width) (defBody s_check_width) (defScope s_check_width) [] [] (He.fAd K ("check_width", none)) fd ∧ FnX P w K mg base 4 (He.fAd K ("check_width", none)) fd ["width"] (spD (WK K) 1 m_check_width) := by
  have C_is_width := ok_is_width (P := P) (w := w) G
  obtain ⟨fd, F⟩ := G.f_check_width
  have S := S_check_width
  have h := fn_DX (P := P) (w := w) (mg := mg) (base := base) (W := WK K) (k := 3) (f := b_check_width) F S
  have h2 : FnX P w K mg base 4 (He.fAd K ("check_width", none)) fd ["width"] (spD (WK K) 1 m_check_width) := by
    refine h ?_
    intro A outer s H E hr hG
    exact (dss_one (ds_if (dt_not (dt_val (de_call (C_is_width.mono (by decide)) hr hG rfl (da_cons (dv 0) da_nil))))
  (dss_one (ds_raiseE G.e_InvalidNumber (hr.mono (by decide)) rfl (L2N.takes_of rfl rfl rfl rfl) rfl rfl (dv 0))) dss_nil))
  exact ⟨fd, F, h2⟩
theorem ok_check_width (G : Gf P w K mg base) : CalleeX P w K mg base (WK K) 4 "check_width" 1 m_check_width := by
  obtain ⟨fd, F, h⟩ := fn_check_width (P := P) (w := w) G
  exact calleeX_of (ps := ["width"]) F h G.g_check_width fun _ _ _ _ _ _ us hl => match us, hl with | [_], _ => rfl
theorem S_least_word : FnScope ["width"] ["width"] (defScope s_least_word) := ⟨rfl, rfl, rfl, by decide +kernel, rfl, by decide +kernel, by decide +kernel⟩
theorem fn_least_word (G : Gf P w K mg base) : ∃ fd, FunD K "least_word" "least_word" (defArgs s_least_word) (defBody s_least_word) (defScope s_least_word) [] [] (He.fAd K ("least_word", none)) fd ∧ FnG P w K mg base 1 (He.fAd K ("least_word", none)) fd ["width"] (spD (WK K) 1 m_least_word) := by
  obtain ⟨fd, F⟩ := G.f_least_word
  have S := S_least_word
  have h := fn_D (P := P) (w := w) (mg := mg) (base := base) (W := WK K) (k := 0) (f := b_least_word) F S
  have h2 : FnG P w K mg base 1 (He.fAd K ("least_word", none)) fd ["width"] (spD (WK K) 1 m_least_word) := by
    refine h ?_
    intro A outer s H E hr hG
    exact (dss_one (ds_ret (de_neg (de_shl de_int (de_sub (dv 0) de_int)))))
  exact ⟨fd, F, h2⟩
theorem ok_least_word (G : Gf P w K mg base) : Callee P w K mg base (WK K) 1 "least_word" 1 m_least_word := by
  obtain ⟨fd, F, h⟩ := fn_least_word (P := P) (w := w) G
  exact callee_of (ps := ["width"]) F h G.g_least_word fun _ _ _ _ _ _ us hl => match us, hl with | [_], _ => rfl
theorem S_wrapped_word : FnScope ["width", "number"] ["width", "number"] (defScope s_wrapped_word) := ⟨rfl, rfl, rfl, by decide +kernel, rfl, by decide +kernel, by decide +kernel⟩
theorem fn_wrapped_word (G : Gf P w K mg base) : ∃ fd, FunD K "wrapped_word" "wrapped_word" (defArgs s_wrapped_word) (defBody s_wrapped_word) (defScope s_wrapped_word) [] [] (He.fAd K ("wrapped_word", none)) fd ∧ FnG P w K mg base 2 (He.fAd K ("wrapped_word", none)) fd ["width", "number"] (spD (WK K) 2 m_wrapped_word) := by
  have C_least_word := ok_least_word (P := P) (w := w) G
  obtain ⟨fd, F⟩ := G.f_wrapped_word
  have S := S_wrapped_word
  have h := fn_D (P := P) (w := w) (mg := mg) (base := base) (W := WK K) (k := 1) (f := b_wrapped_word) F S
  have h2 : FnG P w K mg base 2 (He.fAd K ("wrapped_word", none)) fd ["width", "number"] (spD (WK K) 2 m_wrapped_word) := by
    refine h ?_
    intro A outer s H E hr hG
    exact (dss_one (ds_ret (de_add rfl (de_mod (de_sub (dv 1) (de_call (C_least_word.mono (by decide)) hr hG rfl (da_cons (dv 0) da_nil))) (de_shl de_int (dv 0))) (de_call (C_least_word.mono (by decide)) hr hG rfl (da_cons (dv 0) da_nil)))))
  exact ⟨fd, F, h2⟩
theorem ok_wrapped_word (G : Gf P w K mg base) : Callee P w K mg base (WK K) 2 "wrapped_word" 2 m_wrapped_word := by
  obtain ⟨fd, F, h⟩ := fn_wrapped_word (P := P) (w := w) G
  exact callee_of (ps := ["width", "number"]) F h G.g_wrapped_word fun _ _ _ _ _ _ us hl => match us, hl with | [_, _], _ => rfl
theorem S_wrapped : FnScope ["width", "number"] ["width", "number"] (defScope s_wrapped) := ⟨rfl, rfl, rfl, by decide +kernel, rfl, by decide +kernel, by decide +kernel⟩
theorem fn_wrapped (G : Gf P w K mg base) : ∃ fd, FunD K "wrapped" "wrapped" (defArgs s_wrapped) (defBody s_wrapped) (defScope s_wrapped) [] [] (He.fAd K ("wrapped", none)) fd ∧ FnX P w K mg base 5 (He.fAd K ("wrapped", none)) fd ["width", "number"] (spD (WK K) 2 m_wrapped) := by
  have C_check_width := ok_check_width (P := P) (w := w) G
  have C_is_whole := ok_is_whole (P := P) (w := w) G
  have C_wrapped_word := ok_wrapped_word (P := P) (w := w) G
  obtain ⟨fd, F⟩ := G.f_wrapped
  have S := S_wrapped
  have h := fn_DX (P := P) (w := w) (mg := mg) (base := base) (W := WK K) (k := 4) (f := b_wrapped) F S
  have h2 : FnX P w K mg base 5 (He.fAd K ("wrapped", none)) fd ["width", "number"] (spD (WK K) 2 m_wrapped) := by
    refine h ?_
    intro A outer s H E hr hG
    exact (dss_cons (ds_expr (de_callX (C_check_width.mono (by decide)) hr hG (L2N.takes_of rfl rfl rfl rfl) rfl (da_cons (dv 0) da_nil)))
  (dss_cons (ds_if (dt_not (dt_val (de_call (C_is_whole.mono (by decide)) hr hG rfl (da_cons (dv 1) da_nil))))
  (dss_one (ds_raiseE G.e_InvalidNumber (hr.mono (by decide)) rfl (L2N.takes_of rfl rfl rfl rfl) rfl rfl (dv 1))) dss_nil)
  (dss_one (ds_ret (de_call (C_wrapped_word.mono (by decide)) hr hG rfl (da_cons (dv 0) (da_cons (dv 1) da_nil)))))))
  exact ⟨fd, F, h2⟩
theorem ok_wrapped (G : Gf P w K mg base) : CalleeX P w K mg base (WK K) 5 "wrapped" 2 m_wrapped := by
  obtain ⟨fd, F, h⟩ := fn_wrapped (P := P) (w := w) G
  exact calleeX_of (ps := ["width", "number"]) F h G.g_wrapped fun _ _ _ _ _ _ us hl => match us, hl with | [_, _], _ => rfl
theorem S_head_of : FnScope ["value"] ["value"] (defScope s_head_of) := ⟨rfl, rfl, rfl, by decide +kernel, rfl, by decide +kernel, by decide +kernel⟩
theorem fn_head_of (G : Gf P w K mg base) : ∃ fd, FunD K "head_of" "head_of" (defArgs s_head_of) (defBody s_head_of) (defScope s_head_of) [] [] (He.fAd K ("head_of", none)) fd ∧ FnG P w K mg base 1 (He.fAd K ("head_of", none)) fd ["value"] (spD (WK K) 1 m_head_of) := by
  obtain ⟨fd, F⟩ := G.f_head_of
  have S := S_head_of
  have h := fn_D (P := P) (w := w) (mg := mg) (base := base) (W := WK K) (k := 0) (f := b_head_of) F S
  have h2 : FnG P w K mg base 1 (He.fAd K ("head_of", none)) fd ["value"] (spD (WK K) 1 m_head_of) := by
    refine h ?_
    intro A outer s H E hr hG
    exact (dss_cons (ds_if (dt_w (dw_and (dt_val (de_isi .tup rfl rfl G.b_isinstance rfl G.b_tuple (dv 0))) (dw_and (dt_cmp op_gt dop_gt (de_callB call_len dc_len rfl G.b_len boot_len' (da_cons (dv 0) da_nil)) de_int (nomark _)) (dw_and1 (dt_val (de_isi .str rfl rfl G.b_isinstance rfl G.b_str (de_ix rfl (dv 0) de_int (fun _ _ => rfl))))))))
  (dss_one (ds_ret (de_ix rfl (dv 0) de_int (fun _ _ => rfl)))) dss_nil)
  (dss_one (ds_ret de_non)))
  exact ⟨fd, F, h2⟩
theorem ok_head_of (G : Gf P w K mg base) : Callee P w K mg base (WK K) 1 "head_of" 1 m_head_of := by
  obtain ⟨fd, F, h⟩ := fn_head_of (P := P) (w := w) G
  exact callee_of (ps := ["value"]) F h G.g_head_of fun _ _ _ _ _ _ us hl => match us, hl with | [_], _ => rfl
theorem S_is_index : FnScope ["value", "many"] ["value", "many"] (defScope s_is_index) := ⟨rfl, rfl, rfl, by decide +kernel, rfl, by decide +kernel, by decide +kernel⟩
theorem fn_is_index (G : Gf P w K mg base) : ∃ fd, FunD K "is_index" "is_index" (defArgs s_is_index) (defBody s_is_index) (defScope s_is_index) [] [] (He.fAd K ("is_index", none)) fd ∧ FnG P w K mg base 2 (He.fAd K ("is_index", none)) fd ["value", "many"] (spD (WK K) 2 m_is_index) := by
  have C_is_whole := ok_is_whole (P := P) (w := w) G
  obtain ⟨fd, F⟩ := G.f_is_index
  have S := S_is_index
  have h := fn_D (P := P) (w := w) (mg := mg) (base := base) (W := WK K) (k := 1) (f := b_is_index) F S
  have h2 : FnG P w K mg base 2 (He.fAd K ("is_index", none)) fd ["value", "many"] (spD (WK K) 2 m_is_index) := by
    refine h ?_
    intro A outer s H E hr hG
    exact (dss_one (ds_ret (de_and (de_call (C_is_whole.mono (by decide)) hr hG rfl (da_cons (dv 0) da_nil)) (de_one (de_chain op_le op_lt dop_le dop_lt de_int (dv 0) (dv 1))))))
  exact ⟨fd, F, h2⟩
theorem ok_is_index (G : Gf P w K mg base) : Callee P w K mg base (WK K) 2 "is_index" 2 m_is_index := by
  obtain ⟨fd, F, h⟩ := fn_is_index (P := P) (w := w) G
  exact callee_of (ps := ["value", "many"]) F h G.g_is_index fun _ _ _ _ _ _ us hl => match us, hl with | [_, _], _ => rfl
theorem S_greatest_word : FnScope ["width"] ["width"] (defScope s_greatest_word) := ⟨rfl, rfl, rfl, by decide +kernel, rfl, by decide +kernel, by decide +kernel⟩
theorem fn_greatest_word (G : Gf P w K mg base) : ∃ fd, FunD K "greatest_word" "greatest_word" (defArgs s_greatest_word) (defBody s_greatest_word) (defScope s_greatest_word) [] [] (He.fAd K ("greatest_word", none)) fd ∧ FnG P w K mg base 1 (He.fAd K ("greatest_word", none)) fd ["width"] (spD (WK K) 1 m_greatest_word) := by
  obtain ⟨fd, F⟩ := G.f_greatest_word
  have S := S_greatest_word
  have h := fn_D (P := P) (w := w) (mg := mg) (base := base) (W := WK K) (k := 0) (f := b_greatest_word) F S
  have h2 : FnG P w K mg base 1 (He.fAd K ("greatest_word", none)) fd ["width"] (spD (WK K) 1 m_greatest_word) := by
    refine h ?_
    intro A outer s H E hr hG
    exact (dss_one (ds_ret (de_sub (de_shl de_int (de_sub (dv 0) de_int)) de_int)))
  exact ⟨fd, F, h2⟩
theorem ok_greatest_word (G : Gf P w K mg base) : Callee P w K mg base (WK K) 1 "greatest_word" 1 m_greatest_word := by
  obtain ⟨fd, F, h⟩ := fn_greatest_word (P := P) (w := w) G
  exact callee_of (ps := ["width"]) F h G.g_greatest_word fun _ _ _ _ _ _ us hl => match us, hl with | [_], _ => rfl
theorem S_is_word : FnScope ["width", "value"] ["width", "value"] (defScope s_is_word) := ⟨rfl, rfl, rfl, by decide +kernel, rfl, by decide +kernel, by decide +kernel⟩
theorem fn_is_word (G : Gf P w K mg base) : ∃ fd, FunD K "is_word" "is_word" (defArgs s_is_word) (defBody s_is_word) (defScope s_is_word) [] [] (He.fAd K ("is_word", none)) fd ∧ FnG P w K mg base 3 (He.fAd K ("is_word", none)) fd ["width", "value"] (spD (WK K) 2 m_is_word) := by
  have C_greatest_word := ok_greatest_word (P := P) (w := w) G
  have C_is_whole_from := ok_is_whole_from (P := P) (w := w) G
  have C_least_word := ok_least_word (P := P) (w := w) G
  obtain ⟨fd, F⟩ := G.f_is_word
  have S := S_is_word
  have h := fn_D (P := P) (w := w) (mg := mg) (base := base) (W := WK K) (k := 2) (f := b_is_word) F S
  have h2 : FnG P w K mg base 3 (He.fAd K ("is_word", none)) fd ["width", "value"] (spD (WK K) 2 m_is_word) := by
    refine h ?_
    intro A outer s H E hr hG
    exact (dss_one (ds_ret (de_call (C_is_whole_from.mono (by decide)) hr hG rfl (da_cons (dv 1) (da_cons (de_call (C_least_word.mono (by decide)) hr hG rfl (da_cons (dv 0) da_nil)) (da_cons (de_call (C_greatest_word.mono (by decide)) hr hG rfl (da_cons (dv 0) da_nil)) da_nil))))))
  exact ⟨fd, F, h2⟩
theorem ok_is_word (G : Gf P w K mg base) : Callee P w K mg base (WK K) 3 "is_word" 2 m_is_word := by
  obtain ⟨fd, F, h⟩ := fn_is_word (P := P) (w := w) G
  exact callee_of (ps := ["width", "value"]) F h G.g_is_word fun _ _ _ _ _ _ us hl => match us, hl with | [_, _], _ => rfl
theorem S_is_program_row : FnScope ["width", "value", "index", "many", "parts", "kind", "part"] ["width", "value", "index", "many"] (defScope s_is_program_row) := ⟨rfl, rfl, rfl, by decide +kernel, rfl, by decide +kernel, by decide +kernel⟩
theorem fn_is_program_row (G : Gf P w K mg base) : ∃ fd, FunD K "is_program_row" "is_program_row" (defArgs s_is_program_row) (defBody s_is_program_row) (defScope s_is_program_row) [] [] (He.fAd K ("is_program_row", none)) fd ∧ FnG P w K mg base 4 (He.fAd K ("is_program_row", none)) fd ["width", "value", "index", "many"] (spD (WK K) 4 m_is_program_row) := by
  have C_head_of := ok_head_of (P := P) (w := w) G
  have C_is_index := ok_is_index (P := P) (w := w) G
  have C_is_word := ok_is_word (P := P) (w := w) G
  obtain ⟨fd, F⟩ := G.f_is_program_row
  have S := S_is_program_row
  have h := fn_D (P := P) (w := w) (mg := mg) (base := base) (W := WK K) (k := 3) (f := b_is_program_row) F S
  have h2 : FnG P w K mg base 4 (He.fAd K ("is_program_row", none)) fd ["width", "value", "index", "many"] (spD (WK K) 4 m_is_program_row) := by
    refine h ?_
    intro A outer s H E hr hG
    exact (dss_cons (dset 4 S.nd (de_gget rfl G.d_ROW_PARTS rfl (de_call (C_head_of.mono (by decide)) hr hG rfl (da_cons (dv 1) da_nil)) ⟨rfl, rfl, rfl, rfl⟩))
  (dss_cons (ds_if (dt_w (dw_or (dt_cmp op_isA dop_is (dv 4) de_non (nomark _)) (dw_or1 (dt_cmp (op_neA hr.units) dop_ne (de_callB call_len dc_len rfl G.b_len boot_len' (da_cons (dv 1) da_nil)) (de_add rfl (de_callB call_len dc_len rfl G.b_len boot_len' (da_cons (dv 4) da_nil)) de_int) (nomark _)))))
  (dss_one (ds_ret de_bl)) dss_nil)
  (dss_cons (ds_for .never rfl (di_mx rfl rfl G.b_zip (da_cons (dv 4) (da_cons (de_slice rfl (dv 1) (do_1 de_int) do_0) da_nil))) (dg_tup (n := 2) rfl rfl (dgs_cons (dgn 5 S.nd) (dgs_cons (dgn 6 S.nd) dgs_nil)))
  (dss_cons (ds_if (dt_w (dw_and (dt_cmp (op_eqA hr.units) dop_eq (dv 5) de_str (nomark _)) (dw_and1 (dt_not (dt_val (de_call (C_is_index.mono (by decide)) hr hG rfl (da_cons (dv 6) (da_cons de_int da_nil))))))))
  (dss_one (ds_ret de_bl)) dss_nil)
  (dss_cons (ds_if (dt_w (dw_and (dt_cmp (op_eqA hr.units) dop_eq (dv 5) de_str (nomark _)) (dw_and1 (dt_not (dt_val (de_call (C_is_word.mono (by decide)) hr hG rfl (da_cons (dv 0) (da_cons (dv 6) da_nil))))))))
  (dss_one (ds_ret de_bl)) dss_nil)
  (dss_one (ds_if (dt_w (dw_and (dt_cmp (op_eqA hr.units) dop_eq (dv 5) de_str (nomark _)) (dw_and1 (dt_not (dt_w (dw_and (dt_val (de_call (C_is_index.mono (by decide)) hr hG rfl (da_cons (dv 6) (da_cons (dv 3) da_nil)))) (dw_and1 (dt_cmp op_gt dop_gt (dv 6) (dv 2) (nomark _)))))))))
  (dss_one (ds_ret de_bl)) dss_nil)))))
  (dss_one (ds_ret de_bl)))))
  exact ⟨fd, F, h2⟩
theorem ok_is_program_row (G : Gf P w K mg base) : Callee P w K mg base (WK K) 4 "is_program_row" 4 m_is_program_row := by
  obtain ⟨fd, F, h⟩ := fn_is_program_row (P := P) (w := w) G
  exact callee_of (ps := ["width", "value", "index", "many"]) F h G.g_is_program_row fun _ _ _ _ _ _ us hl => match us, hl with | [_, _, _, _], _ => rfl
theorem S_wrong_row : FnScope ["width", "program", "index", "row"] ["width", "program"] (defScope s_wrong_row) := ⟨rfl, rfl, rfl, by decide +kernel, rfl, by decide +kernel, by decide +kernel⟩
theorem fn_wrong_row (G : Gf P w K mg base) : ∃ fd, FunD K "wrong_row" "wrong_row" (defArgs s_wrong_row) (defBody s_wrong_row) (defScope s_wrong_row) [] [] (He.fAd K ("wrong_row", none)) fd ∧ FnG P w K mg base 5 (He.fAd K ("wrong_row", none)) fd ["width", "program"] (spD (WK K) 2 m_wrong_row) := by
  have C_is_program_row := ok_is_program_row (P := P) (w := w) G
  obtain ⟨fd, F⟩ := G.f_wrong_row
  have S := S_wrong_row
  have h := fn_D (P := P) (w := w) (mg := mg) (base := base) (W := WK K) (k := 4) (f := b_wrong_row) F S
  have h2 : FnG P w K mg base 5 (He.fAd K ("wrong_row", none)) fd ["width", "program"] (spD (WK K) 2 m_wrong_row) := by
    refine h ?_
    intro A outer s H E hr hG
    exact (dss_cons (ds_for .never rfl (di_enum rfl rfl G.b_enumerate (da_cons (dv 1) da_nil)) (dg_tup (n := 2) rfl rfl (dgs_cons (dgn 2 S.nd) (dgs_cons (dgn 3 S.nd) dgs_nil)))
  (dss_cons (ds_if (dt_not (dt_val (de_call (C_is_program_row.mono (by decide)) hr hG rfl (da_cons (dv 0) (da_cons (dv 3) (da_cons (dv 2) (da_cons (de_callB call_len dc_len rfl G.b_len boot_len' (da_cons (dv 1) da_nil)) da_nil)))))))
  (dss_one (ds_ret (dv 2))) dss_nil)
  (dss_one (ds_if (dt_w (dw_and (dt_cmp (op_eqA hr.units) dop_eq (dv 2) (de_sub (de_callB call_len dc_len rfl G.b_len boot_len' (da_cons (dv 1) da_nil)) de_int) (nomark _)) (dw_and1 (dt_cmp (op_neA hr.units) dop_ne (de_ix rfl (dv 3) de_int (fun _ _ => rfl)) de_str (nomark _)))))
  (dss_one (ds_ret (dv 2))) dss_nil))))
  (dss_one (ds_ret de_non)))
  exact ⟨fd, F, h2⟩
theorem ok_wrong_row (G : Gf P w K mg base) : Callee P w K mg base (WK K) 5 "wrong_row" 2 m_wrong_row := by
  obtain ⟨fd, F, h⟩ := fn_wrong_row (P := P) (w := w) G
  exact callee_of (ps := ["width", "program"]) F h G.g_wrong_row fun _ _ _ _ _ _ us hl => match us, hl with | [_, _], _ => rfl
theorem S_check_words : FnScope ["width", "cells", "index", "word"] ["width", "cells"] (defScope s_check_words) := ⟨rfl, rfl, rfl, by decide +kernel, rfl, by decide +kernel, by decide +kernel⟩
theorem fn_check_words (G : Gf P w K mg base) : ∃ fd, FunD K "check_words" "check_words" (defArgs s_check_words) (defBody s_check_words) (defScope s_check_words) [] [] (He.fAd K ("check_words", none)) fd ∧ FnX P w K mg base 4 (He.fAd K ("check_words", none)) fd ["width", "cells"] (spD (WK K) 2 m_check_words) := by
  have C_is_word := ok_is_word (P := P) (w := w) G
  obtain ⟨fd, F⟩ := G.f_check_words
  have S := S_check_words
  have h := fn_DX (P := P) (w := w) (mg := mg) (base := base) (W := WK K) (k := 3) (f := b_check_words) F S
  have h2 : FnX P w K mg base 4 (He.fAd K ("check_words", none)) fd ["width", "cells"] (spD (WK K) 2 m_check_words) := by
    refine h ?_
    intro A outer s H E hr hG
    exact (dss_one (ds_for (passes_of rfl) rfl (di_enum rfl rfl G.b_enumerate (da_cons (dv 1) da_nil)) (dg_tup (n := 2) rfl rfl (dgs_cons (dgn 2 S.nd) (dgs_cons (dgn 3 S.nd) dgs_nil)))
  (dss_one (ds_if (dt_not (dt_val (de_call (C_is_word.mono (by decide)) hr hG rfl (da_cons (dv 0) (da_cons (dv 3) da_nil)))))
  (dss_one (ds_raiseE G.e_InvalidCells (hr.mono (by decide)) rfl (L2N.takes_of rfl rfl rfl rfl) rfl rfl (dv 2))) dss_nil))))
  exact ⟨fd, F, h2⟩
theorem ok_check_words (G : Gf P w K mg base) : CalleeX P w K mg base (WK K) 4 "check_words" 2 m_check_words := by
  obtain ⟨fd, F, h⟩ := fn_check_words (P := P) (w := w) G
  exact calleeX_of (ps := ["width", "cells"]) F h G.g_check_words fun _ _ _ _ _ _ us hl => match us, hl with | [_, _], _ => rfl
theorem S_done : FnScope ["width", "row", "at", "cells", "word"] ["width", "row", "at", "cells"] (defScope s_done) := ⟨rfl, rfl, rfl, by decide +kernel, rfl, by decide +kernel, by decide +kernel⟩
theorem fn_done (G : Gf P w K mg base) : ∃ fd, FunD K "done" "done" (defArgs s_done) (defBody s_done) (defScope s_done) [] [] (He.fAd K ("done", none)) fd ∧ FnG P w K mg base 3 (He.fAd K ("done", none)) fd ["width", "row", "at", "cells"] (spD (WK K) 4 m_done) := by
  have C_wrapped_word := ok_wrapped_word (P := P) (w := w) G
  obtain ⟨fd, F⟩ := G.f_done
  have S := S_done
  have h := fn_D (P := P) (w := w) (mg := mg) (base := base) (W := WK K) (k := 2) (f := b_done) F S
  have h2 : FnG P w K mg base 3 (He.fAd K ("done", none)) fd ["width", "row", "at", "cells"] (spD (WK K) 4 m_done) := by
    refine h ?_
    intro A outer s H E hr hG
    exact (dss_cons (dset 4 S.nd (de_ix rfl (dv 1) de_int (fun _ _ => rfl)))
  (dss_cons (ds_if (dt_cmp (op_eqA hr.units) dop_eq (dv 4) de_str (nomark _))
  (dss_one (ds_ret (de_ix rfl (dv 1) de_int (fun _ _ => rfl)))) dss_nil)
  (dss_cons (ds_if (dt_cmp (op_eqA hr.units) dop_eq (dv 4) de_str (nomark _))
  (dss_one (ds_ret (de_if (dt_cmp op_lt dop_lt (de_ix rfl (dv 3) (de_ix rfl (dv 1) de_int (fun _ _ => rfl)) (fun _ _ => rfl)) (de_ix rfl (dv 3) (de_ix rfl (dv 1) de_int (fun _ _ => rfl)) (fun _ _ => rfl)) (nomark _)) (de_ix rfl (dv 1) de_int (fun _ _ => rfl)) (de_add rfl (dv 2) de_int)))) dss_nil)
  (dss_cons (ds_if (dt_cmp (op_eqA hr.units) dop_eq (dv 4) de_str (nomark _))
  (dss_one (ds_asg (de_ix rfl (dv 1) de_int (fun _ _ => rfl)) (dg_sub (dv 3) (de_ix rfl (dv 1) de_int (fun _ _ => rfl))))) (dss_one (ds_if (dt_cmp (op_eqA hr.units) dop_eq (dv 4) de_str (nomark _))
  (dss_one (ds_asg (de_ix rfl (dv 3) (de_ix rfl (dv 1) de_int (fun _ _ => rfl)) (fun _ _ => rfl)) (dg_sub (dv 3) (de_ix rfl (dv 1) de_int (fun _ _ => rfl))))) (dss_one (ds_if (dt_cmp (op_eqA hr.units) dop_eq (dv 4) de_str (nomark _))
  (dss_one (ds_asg (de_call (C_wrapped_word.mono (by decide)) hr hG rfl (da_cons (dv 0) (da_cons (de_add rfl (de_ix rfl (dv 3) (de_ix rfl (dv 1) de_int (fun _ _ => rfl)) (fun _ _ => rfl)) (de_ix rfl (dv 3) (de_ix rfl (dv 1) de_int (fun _ _ => rfl)) (fun _ _ => rfl))) da_nil))) (dg_sub (dv 3) (de_ix rfl (dv 1) de_int (fun _ _ => rfl))))) (dss_one (ds_if (dt_cmp (op_eqA hr.units) dop_eq (dv 4) de_str (nomark _))
  (dss_one (ds_asg (de_call (C_wrapped_word.mono (by decide)) hr hG rfl (da_cons (dv 0) (da_cons (de_sub (de_ix rfl (dv 3) (de_ix rfl (dv 1) de_int (fun _ _ => rfl)) (fun _ _ => rfl)) (de_ix rfl (dv 3) (de_ix rfl (dv 1) de_int (fun _ _ => rfl)) (fun _ _ => rfl))) da_nil))) (dg_sub (dv 3) (de_ix rfl (dv 1) de_int (fun _ _ => rfl))))) (dss_one (ds_asg (de_call (C_wrapped_word.mono (by decide)) hr hG rfl (da_cons (dv 0) (da_cons (de_mul rfl (de_ix rfl (dv 3) (de_ix rfl (dv 1) de_int (fun _ _ => rfl)) (fun _ _ => rfl)) (de_ix rfl (dv 1) de_int (fun _ _ => rfl))) da_nil))) (dg_sub (dv 3) (de_ix rfl (dv 1) de_int (fun _ _ => rfl))))))))))))
  (dss_one (ds_ret (de_add rfl (dv 2) de_int)))))))
  exact ⟨fd, F, h2⟩
theorem ok_done (G : Gf P w K mg base) : Callee P w K mg base (WK K) 3 "done" 4 m_done := by
  obtain ⟨fd, F, h⟩ := fn_done (P := P) (w := w) G
  exact callee_of (ps := ["width", "row", "at", "cells"]) F h G.g_done fun _ _ _ _ _ _ us hl => match us, hl with | [_, _, _, _], _ => rfl
theorem S_ended : FnScope ["width", "program", "cells", "at"] ["width", "program", "cells"] (defScope s_ended) := ⟨rfl, rfl, rfl, by decide +kernel, rfl, by decide +kernel, by decide +kernel⟩
theorem fn_ended (G : Gf P w K mg base) : ∃ fd, FunD K "ended" "ended" (defArgs s_ended) (defBody s_ended) (defScope s_ended) [] [] (He.fAd K ("ended", none)) fd ∧ FnG P w K mg base 4 (He.fAd K ("ended", none)) fd ["width", "program", "cells"] (spD (WK K) 3 m_ended) := by
  have C_done := ok_done (P := P) (w := w) G
  obtain ⟨fd, F⟩ := G.f_ended
  have S := S_ended
  have h := fn_D (P := P) (w := w) (mg := mg) (base := base) (W := WK K) (k := 3) (f := b_ended) F S
  have h2 : FnG P w K mg base 4 (He.fAd K ("ended", none)) fd ["width", "program", "cells"] (spD (WK K) 3 m_ended) := by
    refine h ?_
    intro A outer s H E hr hG
    exact (dss_cons (dset 3 S.nd de_int)
  (dss_cons (ds_while .never (dt_cmp (op_neA hr.units) dop_ne (de_ix rfl (de_ix rfl (dv 1) (dv 3) (fun _ _ => rfl)) de_int (fun _ _ => rfl)) de_str (nomark _))
  (dss_one (dset 3 S.nd (de_call (C_done.mono (by decide)) hr hG rfl (da_cons (dv 0) (da_cons (de_ix rfl (dv 1) (dv 3) (fun _ _ => rfl)) (da_cons (dv 3) (da_cons (dv 2) da_nil))))))))
  (dss_one (ds_ret (de_callTy call_tuple_of dc_tuple rfl G.b_tuple boot_tuple' (da_cons (dv 2) da_nil))))))
  exact ⟨fd, F, h2⟩
theorem ok_ended (G : Gf P w K mg base) : Callee P w K mg base (WK K) 4 "ended" 3 m_ended := by
  obtain ⟨fd, F, h⟩ := fn_ended (P := P) (w := w) G
  exact callee_of (ps := ["width", "program", "cells"]) F h G.g_ended fun _ _ _ _ _ _ us hl => match us, hl with | [_, _, _], _ => rfl
theorem S_is_tuple_of : FnScope ["value", "least", "most"] ["value", "least", "most"] (defScope s_is_tuple_of) := ⟨rfl, rfl, rfl, by decide +kernel, rfl, by decide +kernel, by decide +kernel⟩
theorem fn_is_tuple_of (G : Gf P w K mg base) : ∃ fd, FunD K "is_tuple_of" "is_tuple_of" (defArgs s_is_tuple_of) (defBody s_is_tuple_of) (defScope s_is_tuple_of) [] [] (He.fAd K ("is_tuple_of", none)) fd ∧ FnG P w K mg base 1 (He.fAd K ("is_tuple_of", none)) fd ["value", "least", "most"] (spD (WK K) 3 m_is_tuple_of) := by
  obtain ⟨fd, F⟩ := G.f_is_tuple_of
  have S := S_is_tuple_of
  have h := fn_D (P := P) (w := w) (mg := mg) (base := base) (W := WK K) (k := 0) (f := b_is_tuple_of) F S
  have h2 : FnG P w K mg base 1 (He.fAd K ("is_tuple_of", none)) fd ["value", "least", "most"] (spD (WK K) 3 m_is_tuple_of) := by
    refine h ?_
    intro A outer s H E hr hG
    exact (dss_one (ds_ret (de_and (de_isi .tup rfl rfl G.b_isinstance rfl G.b_tuple (dv 0)) (de_one (de_chain op_le op_le dop_le dop_le (dv 1) (de_callB call_len dc_len rfl G.b_len boot_len' (da_cons (dv 0) da_nil)) (dv 2))))))
  exact ⟨fd, F, h2⟩
theorem ok_is_tuple_of (G : Gf P w K mg base) : Callee P w K mg base (WK K) 1 "is_tuple_of" 3 m_is_tuple_of := by
  obtain ⟨fd, F, h⟩ := fn_is_tuple_of (P := P) (w := w) G
  exact callee_of (ps := ["value", "least", "most"]) F h G.g_is_tuple_of fun _ _ _ _ _ _ us hl => match us, hl with | [_, _, _], _ => rfl
theorem S_cells_named : FnScope ["row", "kind", "part"] ["row"] (defScope s_cells_named) := ⟨rfl, rfl, rfl, by decide +kernel, rfl, by decide +kernel, by decide +kernel⟩
theorem fn_cells_named (G : Gf P w K mg base) : ∃ fd, FunD K "cells_named" "cells_named" (defArgs s_cells_named) (defBody s_cells_named) (defScope s_cells_named) [] [] (He.fAd K ("cells_named", none)) fd ∧ FnG P w K mg base 1 (He.fAd K ("cells_named", none)) fd ["row"] (spD (WK K) 1 m_cells_named) := by
  obtain ⟨fd, F⟩ := G.f_cells_named
  have S := S_cells_named
  have h := fn_D (P := P) (w := w) (mg := mg) (base := base) (W := WK K) (k := 0) (f := b_cells_named) F S
  have h2 : FnG P w K mg base 1 (He.fAd K ("cells_named", none)) fd ["row"] (spD (WK K) 1 m_cells_named) := by
    refine h ?_
    intro A outer s H E hr hG
    exact (dss_one (ds_ret (de_lc rfl S.nd (own := [("kind", 1), ("part", 2)]) (di_mx rfl rfl G.b_zip (da_cons (de_gix rfl G.d_ROW_PARTS rfl (de_ix rfl (dv 0) de_int (fun _ _ => rfl)) (fun _ _ => rfl)) (da_cons (de_slice rfl (dv 0) (do_1 de_int) do_0) da_nil))) (blkOk_by (by kernel_rfl)) (fun s H C cl fp => (dgw_tup (n := 2) rfl rfl (dgsw_cons (dgwn 1 S.nd) (dgsw_cons (dgwn 2 S.nd) dgsw_nil)))) (fun s H C cl fp => (dts_one (dt_cmp (op_eqA hr.units) dop_eq (dv 1) de_str (nomark _)))) (fun s H C cl fp => (dv 2)))))
  exact ⟨fd, F, h2⟩
theorem ok_cells_named (G : Gf P w K mg base) : Callee P w K mg base (WK K) 1 "cells_named" 1 m_cells_named := by
  obtain ⟨fd, F, h⟩ := fn_cells_named (P := P) (w := w) G
  exact callee_of (ps := ["row"]) F h G.g_cells_named fun _ _ _ _ _ _ us hl => match us, hl with | [_], _ => rfl
theorem S_run_program : FnScope ["width", "program", "cells", "wrong", "index", "row", "cell"] ["width", "program", "cells"] (defScope s_run_program) := ⟨rfl, rfl, rfl, by decide +kernel, rfl, by decide +kernel, by decide +kernel⟩
theorem fn_run_program (G : Gf P w K mg base) : ∃ fd, FunD K "run_program" "run_program" (defArgs s_run_program) (defBody s_run_program) (defScope s_run_program) [] [] (He.fAd K ("run_program", none)) fd ∧ FnX P w K mg base 6 (He.fAd K ("run_program", none)) fd ["width", "program", "cells"] (spD (WK K) 3 m_run_program) := by
  have C_cells_named := ok_cells_named (P := P) (w := w) G
  have C_check_width := ok_check_width (P := P) (w := w) G
  have C_check_words := ok_check_words (P := P) (w := w) G
  have C_ended := ok_ended (P := P) (w := w) G
  have C_is_tuple_of := ok_is_tuple_of (P := P) (w := w) G
  have C_wrong_row := ok_wrong_row (P := P) (w := w) G
  obtain ⟨fd, F⟩ := G.f_run_program
  have S := S_run_program
  have h := fn_DX (P := P) (w := w) (mg := mg) (base := base) (W := WK K) (k := 5) (f := b_run_program) F S
  have h2 : FnX P w K mg base 6 (He.fAd K ("run_program", none)) fd ["width", "program", "cells"] (spD (WK K) 3 m_run_program) := by
    refine h ?_
    intro A outer s H E hr hG
    exact (dss_cons (ds_expr (de_callX (C_check_width.mono (by decide)) hr hG (L2N.takes_of rfl rfl rfl rfl) rfl (da_cons (dv 0) da_nil)))
  (dss_cons (ds_if (dt_not (dt_val (de_call (C_is_tuple_of.mono (by decide)) hr hG rfl (da_cons (dv 1) (da_cons de_int (da_cons de_int da_nil))))))
  (dss_one (ds_raiseE G.e_InvalidProgram (hr.mono (by decide)) rfl (L2N.takes_of rfl rfl rfl rfl) rfl rfl de_non)) dss_nil)
  (dss_cons (dset 3 S.nd (de_call (C_wrong_row.mono (by decide)) hr hG rfl (da_cons (dv 0) (da_cons (dv 1) da_nil))))
  (dss_cons (ds_if (dt_cmp op_isNotA dop_isNot (dv 3) de_non (nomark _))
  (dss_one (ds_raiseE G.e_InvalidProgram (hr.mono (by decide)) rfl (L2N.takes_of rfl rfl rfl rfl) rfl rfl (dv 3))) dss_nil)
  (dss_cons (ds_if (dt_not (dt_val (de_call (C_is_tuple_of.mono (by decide)) hr hG rfl (da_cons (dv 2) (da_cons de_int (da_cons de_int da_nil))))))
  (dss_one (ds_raiseE G.e_InvalidCells (hr.mono (by decide)) rfl (L2N.takes_of rfl rfl rfl rfl) rfl rfl de_non)) dss_nil)
  (dss_cons (ds_expr (de_callX (C_check_words.mono (by decide)) hr hG (L2N.takes_of rfl rfl rfl rfl) rfl (da_cons (dv 0) (da_cons (dv 2) da_nil))))
  (dss_cons (ds_for (passes_of rfl) rfl (di_enum rfl rfl G.b_enumerate (da_cons (dv 1) da_nil)) (dg_tup (n := 2) rfl rfl (dgs_cons (dgn 4 S.nd) (dgs_cons (dgn 5 S.nd) dgs_nil)))
  (dss_one (ds_if (dt_not (dt_val (de_allG (k := 1) (own := [("cell", 6)]) (by exact hr) rfl S.nd rfl G.b_all (List.mem_map.mpr ⟨("run_program", none), by simp [tf], rfl⟩) G.t_run_program rfl (di_seq rfl (de_call (C_cells_named.mono (by decide)) hr hG rfl (da_cons (dv 5) da_nil))) (blkOk_by (by kernel_rfl)) rfl (by decide +kernel) rfl (fun s H C cl code fp pn => (dgwn 6 S.nd)) (fun s H C cl code fp pn hr' => (de_cmp op_lt dop_lt (dv 6) (de_callB call_len dc_len rfl G.b_len boot_len' (da_cons (dv 2) da_nil)) (nomark _))))))
  (dss_one (ds_raiseE G.e_InvalidProgram (hr.mono (by decide)) rfl (L2N.takes_of rfl rfl rfl rfl) rfl rfl (dv 4))) dss_nil)))
  (dss_one (ds_ret (de_call (C_ended.mono (by decide)) hr hG rfl (da_cons (dv 0) (da_cons (dv 1) (da_cons (de_callTy call_list_of dc_listC rfl G.b_list boot_list' (da_cons (dv 2) da_nil)) da_nil)))))))))))))
  exact ⟨fd, F, h2⟩
theorem ok_run_program (G : Gf P w K mg base) : CalleeX P w K mg base (WK K) 6 "run_program" 3 m_run_program := by
  obtain ⟨fd, F, h⟩ := fn_run_program (P := P) (w := w) G
  exact calleeX_of (ps := ["width", "program", "cells"]) F h G.g_run_program fun _ _ _ _ _ _ us hl => match us, hl with | [_, _, _], _ => rfl
theorem S__law_right : FnScope ["_law_urn_here", "_law_wrong", "_law_odd_here", "_law_told", "_law_turn", "_law_code_here", "_law_cells", "_law_way", "_law_due_here", "_law_width", "_law_many"] ["_law_urn_here"] (defScope s__law_right) := ⟨rfl, rfl, rfl, by decide +kernel, rfl, by decide +kernel, by decide +kernel⟩
theorem fn__law_right (G : Gf P w K mg base) : ∃ fd, FunD K "_law_right" "_law_right" (defArgs s__law_right) (defBody s__law_right) (defScope s__law_right) [] [] (He.fAd K ("_law_right", none)) fd ∧ FnG P w K mg base 21 (He.fAd K ("_law_right", none)) fd ["_law_urn_here"] (spD (WK K) 1 m__law_right) := by
  obtain ⟨fd__law_heard_of, F__law_heard_of⟩ := G.f__law_heard_of
  have C__law_bent := ok__law_bent (P := P) (w := w) G 16
  have C__law_code := ok__law_code (P := P) (w := w) G
  have C__law_due := ok__law_due (P := P) (w := w) G
  have C__law_named := ok__law_named (P := P) (w := w) G
  have C__law_one := ok__law_one (P := P) (w := w) G
  have C__law_pull := ok__law_pull (P := P) (w := w) G
  have C__law_row_of_words := ok__law_row_of_words (P := P) (w := w) G
  have C__law_top := ok__law_top (P := P) (w := w) G
  have C_run_program := ok_run_program (P := P) (w := w) G
  have C_wrapped := ok_wrapped (P := P) (w := w) G
  obtain ⟨fd, F⟩ := G.f__law_right
  have S := S__law_right
  have h := fn_D (P := P) (w := w) (mg := mg) (base := base) (W := WK K) (k := 20) (f := b__law_right) F S
  have h2 : FnG P w K mg base 21 (He.fAd K ("_law_right", none)) fd ["_law_urn_here"] (spD (WK K) 1 m__law_right) := by
    refine h ?_
    intro A outer s H E hr hG
    exact (dss_cons (dset 1 S.nd (de_call (C__law_one.mono (by decide)) hr hG rfl (da_cons (dv 0) (da_cons (de_tup (da_cons de_int (da_cons de_int (da_cons de_bl (da_cons de_non (da_cons de_str (da_cons (de_tup (da_cons de_int da_nil)) (da_cons (de_neg de_int) (da_cons (de_pow de_int de_int) (da_cons de_int (da_cons (de_lst da_nil) da_nil))))))))))) da_nil))))
  (dss_cons (dset 2 S.nd (de_call (C__law_one.mono (by decide)) hr hG rfl (da_cons (dv 0) (da_cons (de_tup (da_cons de_non (da_cons de_bl (da_cons de_str (da_cons (de_tup (da_cons de_int da_nil)) (da_cons de_bl (da_cons (de_lst da_nil) da_nil))))))) da_nil))))
  (dss_cons (dset 3 S.nd (de_cell (da_cons (de_heard (k := 18) rfl rfl (fun _ => rfl) G.x__law_heard_of.xm (List.mem_singleton.mpr rfl) (fun p hp _ => by have e := List.mem_singleton.mp hp; subst e; rfl) rfl G.g__law_heard_of F__law_heard_of (fun s u => (L2.FunD.bindsA (ps := ["_law_act"]) F__law_heard_of fun _ _ _ _ _ _ us hl => match us, hl with | [_], _ => rfl) s [u] rfl) S__law_heard_of rfl (.inl rfl) (fun cdg => heard_gives (k := 19) (i := 1) rfl (C__law_named.mono (by decide)) (fun s => L2.Room.deeper (by exact hr) _) hG S__law_heard_of.nd rfl rfl (by decide) (by decide) (by decide) (fun _ _ => rfl) (fun _ _ => rfl) (fun _ _ => ⟨rfl, by decide, .inl G.x__law_heard_of.gb⟩) (fun _ => rfl) (fun _ => rfl)) (tabB_lam G.t__law_right) rfl (by exact hr) hG (LamX.lamS_by (by kernel_rfl)) rfl (fun _ _ _ _ _ => rfl) (fun A outer s H E f c hr' hG => (de_callX (C_wrapped.mono (by decide)) hr' hG (L2N.takes_of rfl rfl rfl rfl) rfl (da_cons (dv 1) (da_cons (dv 2) da_nil))))) da_nil)))
  (dss_cons (ds_expr (de_meth rfl PySem.F.slot_list_append PySem.F.type_list_append mt_append dm_append (dv 3) (da_cons (de_heard (k := 18) rfl rfl (fun _ => rfl) G.x__law_heard_of.xm (List.mem_singleton.mpr rfl) (fun p hp _ => by have e := List.mem_singleton.mp hp; subst e; rfl) rfl G.g__law_heard_of F__law_heard_of (fun s u => (L2.FunD.bindsA (ps := ["_law_act"]) F__law_heard_of fun _ _ _ _ _ _ us hl => match us, hl with | [_], _ => rfl) s [u] rfl) S__law_heard_of rfl (.inl rfl) (fun cdg => heard_gives (k := 19) (i := 1) rfl (C__law_named.mono (by decide)) (fun s => L2.Room.deeper (by exact hr) _) hG S__law_heard_of.nd rfl rfl (by decide) (by decide) (by decide) (fun _ _ => rfl) (fun _ _ => rfl) (fun _ _ => ⟨rfl, by decide, .inl G.x__law_heard_of.gb⟩) (fun _ => rfl) (fun _ => rfl)) (tabB_lam G.t__law_right) rfl (by exact hr) hG (LamX.lamS_by (by kernel_rfl)) rfl (fun _ _ _ _ _ => rfl) (fun A outer s H E f c hr' hG => (de_callX (C_wrapped.mono (by decide)) hr' hG (L2N.takes_of rfl rfl rfl rfl) rfl (da_cons de_int (da_cons (dv 2) da_nil))))) da_nil)))
  (dss_cons (ds_expr (de_meth rfl PySem.F.slot_list_append PySem.F.type_list_append mt_append dm_append (dv 3) (da_cons (de_heard (k := 18) rfl rfl (fun _ => rfl) G.x__law_heard_of.xm (List.mem_singleton.mpr rfl) (fun p hp _ => by have e := List.mem_singleton.mp hp; subst e; rfl) rfl G.g__law_heard_of F__law_heard_of (fun s u => (L2.FunD.bindsA (ps := ["_law_act"]) F__law_heard_of fun _ _ _ _ _ _ us hl => match us, hl with | [_], _ => rfl) s [u] rfl) S__law_heard_of rfl (.inl rfl) (fun cdg => heard_gives (k := 19) (i := 1) rfl (C__law_named.mono (by decide)) (fun s => L2.Room.deeper (by exact hr) _) hG S__law_heard_of.nd rfl rfl (by decide) (by decide) (by decide) (fun _ _ => rfl) (fun _ _ => rfl) (fun _ _ => ⟨rfl, by decide, .inl G.x__law_heard_of.gb⟩) (fun _ => rfl) (fun _ => rfl)) (tabB_lam G.t__law_right) rfl (by exact hr) hG (LamX.lamS_by (by kernel_rfl)) rfl (fun _ _ _ _ _ => rfl) (fun A outer s H E f c hr' hG => (de_callX (C_wrapped.mono (by decide)) hr' hG (L2N.takes_of rfl rfl rfl rfl) rfl (da_cons de_int (da_cons (de_pow de_int de_int) da_nil))))) da_nil)))
  (dss_cons (ds_expr (de_meth rfl PySem.F.slot_list_append PySem.F.type_list_append mt_append dm_append (dv 3) (da_cons (de_heard (k := 18) rfl rfl (fun _ => rfl) G.x__law_heard_of.xm (List.mem_singleton.mpr rfl) (fun p hp _ => by have e := List.mem_singleton.mp hp; subst e; rfl) rfl G.g__law_heard_of F__law_heard_of (fun s u => (L2.FunD.bindsA (ps := ["_law_act"]) F__law_heard_of fun _ _ _ _ _ _ us hl => match us, hl with | [_], _ => rfl) s [u] rfl) S__law_heard_of rfl (.inl rfl) (fun cdg => heard_gives (k := 19) (i := 1) rfl (C__law_named.mono (by decide)) (fun s => L2.Room.deeper (by exact hr) _) hG S__law_heard_of.nd rfl rfl (by decide) (by decide) (by decide) (fun _ _ => rfl) (fun _ _ => rfl) (fun _ _ => ⟨rfl, by decide, .inl G.x__law_heard_of.gb⟩) (fun _ => rfl) (fun _ => rfl)) (tabB_lam G.t__law_right) rfl (by exact hr) hG (LamX.lamS_by (by kernel_rfl)) rfl (fun _ _ _ _ _ => rfl) (fun A outer s H E f c hr' hG => (de_callX (C_run_program.mono (by decide)) hr' hG (L2N.takes_of rfl rfl rfl rfl) rfl (da_cons (dv 1) (da_cons de_non (da_cons de_non da_nil)))))) da_nil)))
  (dss_cons (ds_if (dt_cmp (op_neA hr.units) dop_ne (dv 3) (de_lst (da_cons (de_lst (da_cons de_str (da_cons (de_callB (call_reprA hG hr.units) dc_repr rfl G.b_repr boot_repr' (da_cons (dv 1) da_nil)) da_nil))) (da_cons (de_lst (da_cons de_str (da_cons (de_callB (call_reprA hG hr.units) dc_repr rfl G.b_repr boot_repr' (da_cons (dv 2) da_nil)) da_nil))) (da_cons (de_lst (da_cons de_str (da_cons de_str da_nil))) (da_cons (de_lst (da_cons de_str (da_cons (de_callB (call_reprA hG hr.units) dc_repr rfl G.b_repr boot_repr' (da_cons (dv 1) da_nil)) da_nil))) da_nil))))) (nomark _))
  (dss_one (ds_ret de_bl)) dss_nil)
  (dss_cons (ds_for .never rfl (di_rng1 rfl G.b_range (da_cons de_int da_nil)) (dgn 4 S.nd)
  (dss_cons (ds_asg (de_tup (da_cons (de_call (C__law_one.mono (by decide)) hr hG rfl (da_cons (dv 0) (da_cons (de_tup (da_cons de_int (da_cons de_int (da_cons de_int (da_cons de_int da_nil))))) da_nil))) (da_cons (de_add rfl de_int (de_call (C__law_pull.mono (by decide)) hr hG rfl (da_cons (dv 0) (da_cons de_int da_nil)))) da_nil))) (dg_tup (n := 2) rfl rfl (dgs_cons (dgn 9 S.nd) (dgs_cons (dgn 10 S.nd) dgs_nil))))
  (dss_cons (dset 5 S.nd (de_call (C__law_code.mono (by decide)) hr hG rfl (da_cons (dv 0) (da_cons (de_call (C__law_one.mono (by decide)) hr hG rfl (da_cons (dv 0) (da_cons (de_tup (da_cons (dv 9) (da_cons (dv 9) (da_cons (de_callB (call_min2 rfl) dc_min2 rfl G.b_min boot_min' (da_cons de_int (da_cons (de_add rfl (dv 9) de_int) da_nil))) da_nil)))) da_nil))) (da_cons (dv 10) (da_cons (de_add rfl de_int (de_call (C__law_pull.mono (by decide)) hr hG rfl (da_cons (dv 0) (da_cons de_int da_nil)))) da_nil))))))
  (dss_cons (dset 6 S.nd (de_call (C__law_row_of_words.mono (by decide)) hr hG rfl (da_cons (dv 0) (da_cons (dv 9) (da_cons (de_call (C__law_one.mono (by decide)) hr hG rfl (da_cons (dv 0) (da_cons (de_tup (da_cons (dv 10) (da_cons (dv 10) (da_cons (de_callB (call_max2 rfl) dc_max2 rfl G.b_max boot_max' (da_cons de_int (da_cons (de_sub (dv 10) de_int) da_nil))) (da_cons (de_add rfl (dv 10) de_int) da_nil))))) da_nil))) da_nil)))))
  (dss_cons (dset 7 S.nd (de_call (C__law_pull.mono (by decide)) hr hG rfl (da_cons (dv 0) (da_cons de_int da_nil))))
  (dss_cons (ds_if (dt_cmp (op_eqA hr.units) dop_eq (dv 7) de_int (nomark _))
  (dss_one (dset 5 S.nd (de_call (C__law_bent.mono (by decide)) hr hG rfl (da_cons (dv 0) (da_cons (dv 5) (da_cons de_int da_nil)))))) (dss_one (ds_if (dt_cmp (op_eqA hr.units) dop_eq (dv 7) de_int (nomark _))
  (dss_one (dset 6 S.nd (de_call (C__law_one.mono (by decide)) hr hG rfl (da_cons (dv 0) (da_cons (de_tup (da_cons (de_callTy call_list_of dc_list rfl G.b_list boot_list' (da_cons (dv 6) da_nil)) (da_cons (de_tup da_nil) (da_cons de_non (da_cons (de_add rfl (dv 6) (de_tup (da_cons (de_call (C__law_top.mono (by decide)) hr hG rfl (da_cons (dv 9) da_nil)) da_nil))) (da_cons (de_mul rfl (de_tup (da_cons de_int da_nil)) de_int) (da_cons (de_add rfl (de_tup (da_cons de_bl da_nil)) (dv 6)) (da_cons de_int da_nil)))))))) da_nil))))) dss_nil)))
  (dss_cons (dset 8 S.nd (de_call (C__law_due.mono (by decide)) hr hG rfl (da_cons (dv 9) (da_cons (dv 5) (da_cons (dv 6) da_nil)))))
  (dss_one (ds_if (dt_cmp (op_neA hr.units) dop_ne (de_heard (k := 18) rfl rfl (fun _ => rfl) G.x__law_heard_of.xm (List.mem_singleton.mpr rfl) (fun p hp _ => by have e := List.mem_singleton.mp hp; subst e; rfl) rfl G.g__law_heard_of F__law_heard_of (fun s u => (L2.FunD.bindsA (ps := ["_law_act"]) F__law_heard_of fun _ _ _ _ _ _ us hl => match us, hl with | [_], _ => rfl) s [u] rfl) S__law_heard_of rfl (.inl rfl) (fun cdg => heard_gives (k := 19) (i := 1) rfl (C__law_named.mono (by decide)) (fun s => L2.Room.deeper (by exact hr) _) hG S__law_heard_of.nd rfl rfl (by decide) (by decide) (by decide) (fun _ _ => rfl) (fun _ _ => rfl) (fun _ _ => ⟨rfl, by decide, .inl G.x__law_heard_of.gb⟩) (fun _ => rfl) (fun _ => rfl)) (tabB_lam G.t__law_right) rfl (by exact hr) hG (LamX.lamS_by (by kernel_rfl)) rfl (fun _ _ _ _ _ => rfl) (fun A outer s H E f c hr' hG => (de_callX (C_run_program.mono (by decide)) hr' hG (L2N.takes_of rfl rfl rfl rfl) rfl (da_cons (dv 9) (da_cons (dv 5) (da_cons (dv 6) da_nil)))))) (dv 8) (nomark _))
  (dss_one (ds_ret de_bl)) dss_nil)))))))))
  (dss_one (ds_ret de_bl))))))))))
  exact ⟨fd, F, h2⟩
theorem ok__law_right (G : Gf P w K mg base) : Callee P w K mg base (WK K) 21 "_law_right" 1 m__law_right := by
  obtain ⟨fd, F, h⟩ := fn__law_right (P := P) (w := w) G
  exact callee_of (ps := ["_law_urn_here"]) F h G.g__law_right fun _ _ _ _ _ _ us hl => match us, hl with | [_], _ => rfl
theorem S__law_urn : FnScope ["_law_script", "_law_turn", "_law_own", "_law_seed", "_law_cell"] ["_law_script", "_law_turn"] (defScope s__law_urn) := ⟨rfl, rfl, rfl, by decide +kernel, rfl, by decide +kernel, by decide +kernel⟩
theorem fn__law_urn (G : Gf P w K mg base) : ∃ fd, FunD K "_law_urn" "_law_urn" (defArgs s__law_urn) (defBody s__law_urn) (defScope s__law_urn) [] [] (He.fAd K ("_law_urn", none)) fd ∧ FnG P w K mg base 1 (He.fAd K ("_law_urn", none)) fd ["_law_script", "_law_turn"] (spD (WK K) 2 m__law_urn) := by
  obtain ⟨fd, F⟩ := G.f__law_urn
  have S := S__law_urn
  have h := fn_D (P := P) (w := w) (mg := mg) (base := base) (W := WK K) (k := 0) (f := b__law_urn) F S
  have h2 : FnG P w K mg base 1 (He.fAd K ("_law_urn", none)) fd ["_law_script", "_law_turn"] (spD (WK K) 2 m__law_urn) := by
    refine h ?_
    intro A outer s H E hr hG
    exact (dss_cons (dset 2 S.nd (de_if (dt_cmp op_lt dop_lt (dv 1) (de_callB call_len dc_len rfl G.b_len boot_len' (da_cons (dv 0) da_nil)) (nomark _)) (de_callTy call_int1 dc_int rfl G.b_int boot_int' (da_cons (de_ix rfl (dv 0) (dv 1) (fun _ _ => rfl)) da_nil)) de_int))
  (dss_cons (dset 3 S.nd (de_add rfl de_int (de_mul rfl de_int (dv 1))))
  (dss_cons (ds_for .never rfl (di_seq rfl (de_slice rfl (dv 0) do_0 (do_1 de_int))) (dgn 4 S.nd)
  (dss_one (dset 3 S.nd (de_mod (de_callTy call_int1 dc_int rfl G.b_int boot_int' (da_cons (de_add rfl (de_add rfl (de_mul rfl (dv 3) de_int) (de_mod (de_callTy call_int1 dc_int rfl G.b_int boot_int' (da_cons (dv 4) da_nil)) de_int)) de_int) da_nil)) de_int))))
  (dss_cons (dset 3 S.nd (de_mod (de_callTy call_int1 dc_int rfl G.b_int boot_int' (da_cons (de_add rfl (de_add rfl (de_mul rfl (dv 3) de_int) (de_mul rfl (de_mod (de_callTy call_int1 dc_int rfl G.b_int boot_int' (da_cons (dv 2) da_nil)) de_int) de_int)) de_int) da_nil)) de_int))
  (dss_one (ds_ret (de_cell (da_cons (de_if (dt_w (dw_or (dt_cmp op_lt dop_lt (dv 2) de_int (nomark _)) (dw_or1 (dt_cmp op_ge dop_ge (dv 2) (de_pow de_int de_int) (nomark _))))) (de_callB call_abs dc_abs rfl G.b_abs boot_abs' (da_cons (dv 2) da_nil)) de_int) (da_cons (dv 3) (da_cons de_int da_nil))))))))))
  exact ⟨fd, F, h2⟩
theorem ok__law_urn (G : Gf P w K mg base) : Callee P w K mg base (WK K) 1 "_law_urn" 2 m__law_urn := by
  obtain ⟨fd, F, h⟩ := fn__law_urn (P := P) (w := w) G
  exact callee_of (ps := ["_law_script", "_law_turn"]) F h G.g__law_urn fun _ _ _ _ _ _ us hl => match us, hl with | [_, _], _ => rfl
theorem S_law : FnScope ["_law_script", "_law_turn"] ["_law_script"] (defScope s_law) := ⟨rfl, rfl, rfl, by decide +kernel, rfl, by decide +kernel, by decide +kernel⟩
theorem fn_law (G : Gf P w K mg base) : ∃ fd, FunD K "law" "law" (defArgs s_law) (defBody s_law) (defScope s_law) [] [] (He.fAd K ("law", none)) fd ∧ FnG P w K mg base 22 (He.fAd K ("law", none)) fd ["_law_script"] (spD (WK K) 1 m_law) := by
  have C__law_right := ok__law_right (P := P) (w := w) G
  have C__law_urn := ok__law_urn (P := P) (w := w) G
  obtain ⟨fd, F⟩ := G.f_law
  have S := S_law
  have h := fn_D (P := P) (w := w) (mg := mg) (base := base) (W := WK K) (k := 21) (f := b_law) F S
  have h2 : FnG P w K mg base 22 (He.fAd K ("law", none)) fd ["_law_script"] (spD (WK K) 1 m_law) := by
    refine h ?_
    intro A outer s H E hr hG
    exact (dss_cons (ds_for .never rfl (di_rng1 rfl G.b_range (da_cons (de_callB (call_max2 rfl) dc_max2 rfl G.b_max boot_max' (da_cons de_int (da_cons (de_callB (call_min2 rfl) dc_min2 rfl G.b_min boot_min' (da_cons (de_callB call_len dc_len rfl G.b_len boot_len' (da_cons (dv 0) da_nil)) (da_cons de_int da_nil))) da_nil))) da_nil)) (dgn 1 S.nd)
  (dss_one (ds_if (dt_not (dt_val (de_call (C__law_right.mono (by decide)) hr hG rfl (da_cons (de_call (C__law_urn.mono (by decide)) hr hG rfl (da_cons (dv 0) (da_cons (dv 1) da_nil))) da_nil))))
  (dss_one (ds_ret de_bl)) dss_nil)))
  (dss_one (ds_ret de_bl)))
  exact ⟨fd, F, h2⟩
theorem ok_law (G : Gf P w K mg base) : Callee P w K mg base (WK K) 22 "law" 1 m_law := by
  obtain ⟨fd, F, h⟩ := fn_law (P := P) (w := w) G
  exact callee_of (ps := ["_law_script"]) F h G.g_law fun _ _ _ _ _ _ us hl => match us, hl with | [_], _ => rfl
end
end Law
set_option Elab.async false
set_option linter.all false
set_option maxRecDepth 100000
set_option maxHeartbeats 1000000
namespace Law
open PySem PySem.Spec PyProof.Rows L2 GxR Gx Dn
/-- the well's three numbers -/
def wl (a b c : Int) : Cell := .lst [.int a, .int b, .int c]
structure WOk (t : Nat) (c : Cell) : Prop where
  ex : ∃ a b k : Int, c = wl a b k ∧ 0 ≤ a ∧ 0 ≤ b ∧ b < 2147483587 ∧ 0 ≤ k ∧ k ≤ t
theorem log2_mul {i j : Int} {n : Nat} (hi : i.natAbs < 2 ^ n) (hn : 0 < n) (h : n + j.natAbs.log2 < 1000001) : cMul i j = true := by
  have := PySem.Flt.log2_lt_of hn hi
  unfold cMul
  simp
  omega
theorem mod_pos {i j : Int} (h : 0 < j) : i.fmod j = i % j := Int.fmod_eq_emod_of_nonneg i (by omega)
theorem div_pos {i j : Int} (h : 0 < j) : i.fdiv j = i / j := Int.fdiv_eq_ediv_of_nonneg i (by omega)
theorem lt_pow {i : Int} {n : Nat} (h0 : 0 ≤ i) (h : i < 2 ^ n) : i.natAbs < 2 ^ n := by
  have : (i.natAbs : Int) = i := by omega
  have h2 : ((i.natAbs : Nat) : Int) < ((2 ^ n : Nat) : Int) := by rw [this]; push_cast; exact h
  exact_mod_cast h2
theorem cMul_of {i j : Int} (a b : Nat) (ha : 0 < a) (hb : 0 < b) (hi : i.natAbs < 2 ^ a) (hj : j.natAbs < 2 ^ b) (h : a + b ≤ 1000000) : cMul i j = true := by
  have x := PySem.Flt.log2_lt_of ha hi
  have y := PySem.Flt.log2_lt_of hb hj
  unfold cMul
  simp
  omega
theorem take_set {S : Sto} {n : Nat} {c : Cell} : List.take (List.length S) (List.set S n c) = List.set S n c := List.take_of_length_le (by simp)
/-! ### what the package's own looks say -/
def nob : D → Bool
  | .obj _ _ => false
  | _ => true
@[simp] theorem nob_int (i : Int) : nob (.int i) = true := rfl
@[simp] theorem nob_tup (ds : List D) : nob (.tup ds) = true := rfl
theorem gD_nob {b l : Nat} {d : D} (h : gD b l d = true) : nob d = true := by cases d <;> first | rfl | (simp [gD] at h)
theorem is_whole_eq {d : D} (S : Sto) (h : nob d = true) : m_is_whole [.d d] S = .ok (.d (.bl (wholeB d))) S := by
  refine ok_eq ?_
  unfold m_is_whole
  refine ok_fn ?_
  unfold b_is_whole
  cases d <;> simp [isi, wholeB]
  simp [nob] at h
theorem is_tuple_of_eq {d : D} {lo hi : Int} (S : Sto) (h : nob d = true) : m_is_tuple_of [.d d, .d (.int lo), .d (.int hi)] S = .ok (.d (.bl (tupB d lo hi))) S := by
  refine ok_eq ?_
  unfold m_is_tuple_of
  refine ok_fn ?_
  unfold b_is_tuple_of
  cases d <;> simp [isi, tupB]
  · split <;> rename_i c <;> simp [c]
  · simp [nob] at h
theorem is_whole_from_eq {d : D} {lo hi : Int} (S : Sto) (h : nob d = true) : m_is_whole_from [.d d, .d (.int lo), .d (.int hi)] S = .ok (.d (.bl (fromB d lo hi))) S := by
  refine ok_eq ?_
  unfold m_is_whole_from
  refine ok_fn ?_
  unfold b_is_whole_from
  cases d <;> simp [is_whole_eq, h, wholeB, fromB]
  split <;> rename_i c <;> simp [c]
theorem gD_pair {b l : Nat} {x y : D} (h : gD b l (.tup [x, y]) = true) : gD b l x = true ∧ gD b l y = true := by
  simp [gD, gDs] at h; exact h.2
theorem gD_items {b l : Nat} {ds : List D} (h : gD b l (.tup ds) = true) : ∀ d ∈ ds, gD b l d = true := by
  simp only [gD, Bool.and_eq_true] at h
  exact gDs_all.mp h.2
theorem fracB_else {ds : List D} (h : ds.length ≠ 2) : fracB (.tup ds) = false := by
  match ds, h with
  | [], _ => rfl
  | [x], _ => cases x <;> rfl
  | [x, y], h => exact absurd rfl h
  | x :: y :: z :: r, _ => cases x <;> cases y <;> rfl
theorem tup2 {ds : List D} : tupB (.tup ds) 2 2 = decide (ds.length = 2) := by
  simp only [tupB]
  rw [Bool.eq_iff_iff]
  simp
  omega
/-! ### the law's own looks -/
theorem cDiv_of {i j : Int} {b : Nat} (h0 : j ≠ 0) (hb : 0 < b) (h : j.natAbs < 2 ^ b) (h9 : b ≤ 9000) : cDiv i j = true := by
  have := PySem.Flt.log2_lt_of hb h
  unfold cDiv
  simp
  exact ⟨h0, by omega⟩
theorem l_is_whole_eq {d : D} (S : Sto) (h : nob d = true) : m__law_is_whole [.d d] S = .ok (.d (.bl (wholeB d))) S := by
  refine ok_eq ?_
  unfold m__law_is_whole
  refine ok_fn ?_
  unfold b__law_is_whole
  cases d <;> simp [isi, wholeB]
  simp [nob] at h
/-- in lowest terms: what taking the common part out leaves alone -/
theorem lowest {a b : Int} (hb : 0 < b) : (a / (Nat.gcd a.natAbs b.natAbs : Nat) = a ∧ b / (Nat.gcd a.natAbs b.natAbs : Nat) = b) ↔ Nat.gcd a.natAbs b.natAbs = 1 := by
  constructor
  · rintro ⟨_, h⟩
    have g0 : 0 < Nat.gcd a.natAbs b.natAbs := Nat.gcd_pos_of_pos_right _ (by omega)
    generalize Nat.gcd a.natAbs b.natAbs = g at h g0
    by_cases hg : g = 1
    · exact hg
    · exfalso
      have h2 : (2 : Int) ≤ g := by omega
      have h3 : b / (g : Int) * g ≤ b := Int.ediv_mul_le b (by omega)
      rw [h] at h3
      have h4 : b * 2 ≤ b * g := Int.mul_le_mul_of_nonneg_left h2 (by omega)
      omega
  · intro h
    rw [h]
    simp
theorem py_tup_ints {a b : Int} : D.py (.tup [.int a, .int b]) = some (.tuple [.int a, .int b]) := by simp [D.py, pys]
theorem blsOf_map (f : D → Bool) : ∀ ds : List D, blsOf (ds.map fun d => D.bl (f d)) = some (ds.map f)
  | [] => rfl
  | d :: ds => by simp [blsOf, blsOf_map f ds]
end Law
set_option Elab.async false
set_option linter.all false
set_option maxRecDepth 100000
set_option maxHeartbeats 2000000
namespace Law
open PySem PySem.Spec PyProof.Rows L2 GxR Gx Dn
/-! looks at charts -/
def idxB (d : D) (n : Int) : Bool := match d with
  | .int i => decide (0 ≤ i) && decide (i < n)
  | _ => false
def smallM (m z : Int) (d : D) : Bool := match d with
  | .tup [.int n, .tup ws] => decide (n = z) && lotB m (.tup [.int n, .tup ws])
  | _ => false
def startB (z p : Int) (d : D) : Bool := match d with
  | .tup [a, l] => idxB a p && smallM 40 z l
  | _ => false
def mapB (z w : Int) (d : D) : Bool := match d with
  | .tup ds => decide ((ds.length : Int) = z) && ds.all (wishB w)
  | _ => false
def caseB (z w p : Int) (d : D) : Bool := match d with
  | .tup [f, g, m, t] => idxB f p && idxB t p && (smallM 40 w g && mapB z w m)
  | _ => false
def lenB (d : D) (lo hi : Int) : Bool := tupB d lo hi
def chartB (d : D) : Bool := match d with
  | .tup [.int z, .int m, .tup st, .tup cs, .tup sf] => (decide (1 ≤ z) && decide (z ≤ 8)) && (decide (0 ≤ m) && decide (m ≤ 6)) && decide (z + m ≤ 12) && (tupB (.tup st) 1 12 && tupB (.tup cs) 0 120 && tupB (.tup sf) 1 12) &&
    (st.all (startB z sf.length) && cs.all (caseB z (z + m) sf.length) && sf.all (smallM 40 z))
  | _ => false
theorem lotB_inv {m : Int} {d : D} (h : lotB m d = true) : ∃ n ws, d = .tup [.int n, .tup ws] ∧ 1 ≤ n ∧ n ≤ 12 ∧ (ws.length : Int) ≤ m ∧ ws.all (wishB n) = true := by
  unfold lotB at h
  split at h
  · simp only [Bool.and_eq_true, decide_eq_true_eq] at h
    exact ⟨_, _, rfl, h.1.1.1, h.1.1.2, h.1.2, h.2⟩
  · cases h
theorem smallM_inv {m z : Int} {d : D} (h : smallM m z d = true) : ∃ ws, d = .tup [.int z, .tup ws] ∧ lotB m d = true := by
  unfold smallM at h
  split at h
  · simp only [Bool.and_eq_true, decide_eq_true_eq] at h
    obtain ⟨rfl, h2⟩ := h
    exact ⟨_, rfl, h2⟩
  · cases h
theorem is_index_eq {d : D} {n : Int} (S : Sto) (h : nob d = true) : m_is_index [.d d, .d (.int n)] S = .ok (.d (.bl (idxB d n))) S := by
  refine ok_eq ?_
  unfold m_is_index
  refine ok_fn ?_
  unfold b_is_index
  cases d <;> simp [is_whole_eq, h, wholeB, idxB]
  split <;> rename_i c <;> simp [c]
theorem tupN {ds : List D} {z : Int} : tupB (.tup ds) z z = decide ((ds.length : Int) = z) := by
  simp only [tupB]
  rw [Bool.eq_iff_iff]
  simp
  omega
/-- four, or not -/
theorem four_cases (ds : List D) : (∃ x y u v, ds = [x, y, u, v]) ∨ ds.length ≠ 4 := by
  match ds with
  | [] => exact .inr (by simp)
  | [x] => exact .inr (by simp)
  | [x, y] => exact .inr (by simp)
  | [x, y, u] => exact .inr (by simp)
  | [x, y, u, v] => exact .inl ⟨x, y, u, v, rfl⟩
  | x :: y :: u :: v :: w :: r => exact .inr (by simp)
theorem five_cases (ds : List D) : (∃ x y u v w, ds = [x, y, u, v, w]) ∨ ds.length ≠ 5 := by
  match ds with
  | [] => exact .inr (by simp)
  | [x] => exact .inr (by simp)
  | [x, y] => exact .inr (by simp)
  | [x, y, u] => exact .inr (by simp)
  | [x, y, u, v] => exact .inr (by simp)
  | [x, y, u, v, w] => exact .inl ⟨x, y, u, v, w, rfl⟩
  | x :: y :: u :: v :: w :: q :: r => exact .inr (by simp)
theorem caseB_else {ds : List D} {z w p : Int} (h : ds.length ≠ 4) : caseB z w p (.tup ds) = false := by
  match ds, h with
  | [], _ => rfl
  | [x], _ => rfl
  | [x, y], _ => rfl
  | [x, y, u], _ => rfl
  | [x, y, u, v], h => exact absurd rfl h
  | x :: y :: u :: v :: w :: r, _ => rfl
theorem chartB_else {ds : List D} (h : ds.length ≠ 5) : chartB (.tup ds) = false := by
  unfold chartB
  split
  · rename_i e
    cases e
    exact absurd rfl h
  · rfl
theorem fromB_inv {d : D} {lo hi : Int} (h : fromB d lo hi = true) : ∃ i : Int, d = .int i ∧ lo ≤ i ∧ i ≤ hi := by
  unfold fromB at h
  split at h
  · simp at h; exact ⟨_, rfl, h⟩
  · cases h
theorem tupB_inv {d : D} {lo hi : Int} (h : tupB d lo hi = true) : ∃ ds, d = .tup ds ∧ lo ≤ ds.length ∧ (ds.length : Int) ≤ hi := by
  unfold tupB at h
  split at h
  · simp at h; exact ⟨_, rfl, h⟩
  · cases h
theorem chartB_inv {x y u v w : D} (h : chartB (.tup [x, y, u, v, w]) = true) : ∃ (z m : Int) (st cs sf : List D), x = .int z ∧ y = .int m ∧ u = .tup st ∧ v = .tup cs ∧ w = .tup sf ∧ fromB x 1 8 = true ∧ fromB y 0 6 = true ∧ z + m ≤ 12 ∧
    tupB u 1 12 = true ∧ tupB v 0 120 = true ∧ tupB w 1 12 = true ∧ st.all (startB z sf.length) = true ∧ cs.all (caseB z (z + m) sf.length) = true ∧ sf.all (smallM 40 z) = true := by
  unfold chartB at h
  split at h
  · rename_i e
    cases e
    simp only [Bool.and_eq_true, decide_eq_true_eq] at h
    obtain ⟨⟨⟨⟨⟨h1, h2⟩, h3, h4⟩, h5⟩, ⟨h6, h7⟩, h8⟩, ⟨h9, h10⟩, h11⟩ := h
    exact ⟨_, _, _, _, _, rfl, rfl, rfl, rfl, rfl, by simp [fromB, h1, h2], by simp [fromB, h3, h4], h5, h6, h7, h8, h9, h10, h11⟩
  · cases h
theorem chartB_no {x y u v w : D} (h : ¬ (fromB x 1 8 = true ∧ fromB y 0 6 = true ∧ tupB u 1 12 = true ∧ tupB v 0 120 = true ∧ tupB w 1 12 = true)) : chartB (.tup [x, y, u, v, w]) = false := by
  by_cases r : chartB (.tup [x, y, u, v, w]) = true
  · obtain ⟨z, m, st, cs, sf, _, _, _, _, _, h1, h2, _, h3, h4, h5, _⟩ := chartB_inv r
    exact absurd ⟨h1, h2, h3, h4, h5⟩ h
  · simpa using r
end Law
set_option Elab.async false
set_option linter.all false
set_option maxRecDepth 100000
set_option maxHeartbeats 1000000
namespace Law
open PySem PySem.Spec PyProof.Rows L2 GxR Gx Dn
theorem WOk.mono {t t' : Nat} {c : Cell} (h : WOk t c) (l : t ≤ t') : WOk t' c := by
  obtain ⟨a, b, k, rfl, h1, h2, h3, h4, h5⟩ := h.ex
  exact ⟨a, b, k, rfl, h1, h2, h3, h4, by omega⟩
theorem atI_mem {α : Type} {xs : List α} {j : Int} (h0 : 0 ≤ j) (h1 : j < xs.length) : ∃ x, atI xs j = some x ∧ x ∈ xs := by
  obtain ⟨k, rfl⟩ := Int.eq_ofNat_of_zero_le h0
  rw [atI_cast]
  have h : k < xs.length := by omega
  exact ⟨xs[k], List.getElem?_eq_getElem h, List.getElem_mem h⟩
/-- a pair of small numbers -/
def numD (d : D) : Prop := ∃ a b : Int, d = .tup [.int a, .int b] ∧ a.natAbs < 64 ∧ b.natAbs < 64 ∧ 0 < b ∧ Nat.gcd a.natAbs b.natAbs = 1 ∧ b ∣ 12
theorem low_frac {i j : Int} (hj : 0 < j) : 0 < j / ((Nat.gcd i.natAbs j.natAbs : Nat) : Int) ∧ Nat.gcd (i / ((Nat.gcd i.natAbs j.natAbs : Nat) : Int)).natAbs (j / ((Nat.gcd i.natAbs j.natAbs : Nat) : Int)).natAbs = 1 := by
  have g0 : 0 < Int.gcd i j := Int.gcd_pos_of_ne_zero_right _ (by omega)
  exact ⟨Int.ediv_pos_of_pos_of_dvd hj (by omega) (Int.gcd_dvd_right ..), Int.gcd_ediv_gcd_ediv_gcd g0⟩
theorem numD_frac {d : D} (h : numD d) : fracB d = true := by
  obtain ⟨a, b, rfl, _, _, h1, h2, _⟩ := h
  simp [fracB, h1, h2]
theorem dvd_small {i j : Int} (h0 : 2 ≤ j) (h1 : j ≤ 4) : j / ((Nat.gcd i.natAbs j.natAbs : Nat) : Int) ∣ 12 := by
  have h : j ∣ 12 := by
    have : j = 2 ∨ j = 3 ∨ j = 4 := by omega
    rcases this with rfl | rfl | rfl <;> decide
  have g : ((Nat.gcd i.natAbs j.natAbs : Nat) : Int) ∣ j := Int.gcd_dvd_right ..
  exact Int.dvd_trans ⟨_, (Int.ediv_mul_cancel g).symm⟩ h
theorem div_small {a : Int} {g b : Nat} (h : a.natAbs < b) : (a / (g : Int)).natAbs < b := Nat.lt_of_le_of_lt (Int.natAbs_ediv_le_natAbs _ _) h
/-- drawn: a value with P, the well at n another -/
structure Dw (n : Nat) (S : Sto) (t : Nat) (P : D → Prop) (x : Val) (S' : Sto) : Prop where
  ex : ∃ d c', x = .d d ∧ P d ∧ S' = S.set n c' ∧ WOk t c'
def rowD (z : Nat) (d : D) : Prop := ∃ ds, d = .tup ds ∧ ds.length = z ∧ ∀ x ∈ ds, numD x
section
variable {n t : Nat} {S : Sto} {c : Cell}
theorem lt_of (hc : S[n]? = some c) : n < S.length := (List.getElem?_eq_some_iff.mp hc).1
theorem set_at (hc : S[n]? = some c) (d : Cell) : (S.set n d)[n]? = some d := List.getElem?_set_self (lt_of hc)
theorem set_same (hc : S[n]? = some c) : S.set n c = S := by
  apply List.ext_getElem?
  intro m
  by_cases hm : n = m
  · subst hm; rw [set_at hc, hc]
  · rw [List.getElem?_set_ne hm]
/-! a cell behind -/
theorem push_at {T : Sto} {L : Nat} (h : T.length = L) (d : Cell) : (T ++ [d])[L]? = some d := by subst h; simp
theorem push_in {T : Sto} {L m : Nat} (h : T.length = L) (hm : m < L) (d : Cell) : (T ++ [d])[m]? = T[m]? := List.getElem?_append_left (by omega)
theorem push_set {T : Sto} {L m : Nat} (h : T.length = L) (hm : m < L) (d e : Cell) : (T ++ [d]).set m e = T.set m e ++ [d] := by
  subst h; rw [List.set_append_left _ _ hm]
theorem push_put {T : Sto} {L : Nat} (h : T.length = L) (d e : Cell) : (T ++ [d]).set L e = T ++ [e] := by
  subst h; simp
theorem push_take {T : Sto} {L : Nat} (h : T.length = L) (R : Sto) : (T ++ R).take L = T := by
  subst h; simp
theorem cell_nil (env : Dn.Env) (S : Sto) : dCall oCell dNil env S = .ok (.r S.length) (S ++ [.lst []]) := (mkC_some [] S).trans (if_pos (show ([] : List D).length ≤ szL from Nat.zero_le _))
theorem asg_cell (i : Nat) (env : Dn.Env) (S : Sto) : dAsg (dCall oCell dNil) (dgName i) env S = .ok (.nx (env.set i (some (.r S.length)))) (S ++ [.lst []]) := by
  rw [dAsg_eq, cell_nil]
  rfl
theorem iRng1_sm {j : Int} (h : smallI j = true) (S : Sto) : iRng1 [.d (.int j)] S = .ok ⟨rngD 0 j.toNat, []⟩ S := by rw [iRng1_eq, h]; simp
end
end Law
set_option Elab.async false
set_option linter.all false
set_option maxRecDepth 100000
set_option maxHeartbeats 1000000
namespace Law
open PySem PySem.Spec PyProof.Rows L2 GxR Gx Dn
/-- ints below 2^b and tuples not longer than l, not deeper than h -/
def pD (b l : Nat) : Nat → D → Prop
  | 0, d => ∃ i : Int, d = .int i ∧ i.natAbs < 2 ^ b
  | h + 1, d => (∃ i : Int, d = .int i ∧ i.natAbs < 2 ^ b) ∨ ∃ ds, d = .tup ds ∧ ds.length ≤ l ∧ ∀ x ∈ ds, pD b l h x
theorem pD_int {b l : Nat} {i : Int} (hi : i.natAbs < 2 ^ b) : ∀ h, pD b l h (.int i)
  | 0 => ⟨i, rfl, hi⟩
  | h + 1 => .inl ⟨i, rfl, hi⟩
theorem pD_tup {b l h : Nat} {ds : List D} (hl : ds.length ≤ l) (hd : ∀ x ∈ ds, pD b l h x) : pD b l (h + 1) (.tup ds) := .inr ⟨ds, rfl, hl, hd⟩
theorem pD_up {b l : Nat} : ∀ {h : Nat} {d : D}, pD b l h d → pD b l (h + 1) d
  | 0, d, h => .inl h
  | h + 1, d, .inl e => .inl e
  | h + 1, d, .inr ⟨ds, e, hl, hx⟩ => .inr ⟨ds, e, hl, fun x m => pD_up (hx x m)⟩
theorem pD_le {b l h : Nat} {d : D} (p : pD b l h d) : ∀ k, pD b l (h + k) d
  | 0 => p
  | k + 1 => pD_up (pD_le p k)
theorem pD_wide {b l b' l' : Nat} (hb : b ≤ b') (hl : l ≤ l') : ∀ {h : Nat} {d : D}, pD b l h d → pD b' l' h d
  | 0, d, ⟨i, e, h⟩ => ⟨i, e, Nat.lt_of_lt_of_le h (Nat.pow_le_pow_right (by decide) hb)⟩
  | h + 1, d, .inl ⟨i, e, h'⟩ => .inl ⟨i, e, Nat.lt_of_lt_of_le h' (Nat.pow_le_pow_right (by decide) hb)⟩
  | h + 1, d, .inr ⟨ds, e, hl', hx⟩ => .inr ⟨ds, e, Nat.le_trans hl' hl, fun x m => pD_wide hb hl (hx x m)⟩
theorem pD_gD {b l : Nat} : ∀ {h : Nat} {d : D}, pD b l h d → gD b l d = true
  | 0, d, ⟨i, e, h⟩ => by subst e; simpa [gD] using h
  | h + 1, d, .inl ⟨i, e, h'⟩ => by subst e; simpa [gD] using h'
  | h + 1, d, .inr ⟨ds, e, hl, hx⟩ => by
    subst e
    simp only [gD, Bool.and_eq_true, decide_eq_true_eq]
    exact ⟨hl, gDs_all.mpr fun x m => pD_gD (hx x m)⟩
theorem pys_of {Q : PyData → Prop} : ∀ {ds : List D}, (∀ x ∈ ds, ∃ p, x.py = some p ∧ Q p) → ∃ ps, pys ds = some ps ∧ ps.length = ds.length ∧ ∀ p ∈ ps, Q p
  | [], _ => ⟨[], rfl, rfl, by simp⟩
  | d :: ds, h => by
    obtain ⟨p, e, q⟩ := h d List.mem_cons_self
    obtain ⟨ps, e2, l2, q2⟩ := pys_of fun x m => h x (List.mem_cons_of_mem _ m)
    refine ⟨p :: ps, by simp [pys, e, e2], by simp [l2], ?_⟩
    intro x hx
    simp at hx
    rcases hx with rfl | hx
    · exact q
    · exact q2 x hx
theorem can_all : ∀ {ps : List PyData}, (∀ p ∈ ps, p.canLay0 = true) → PyData.canLayAll0 ps = true
  | [], _ => by simp [PyData.canLayAll0]
  | p :: ps, h => by simp [PyData.canLayAll0, h p List.mem_cons_self, can_all fun x m => h x (List.mem_cons_of_mem _ m)]
theorem depth_all {k : Nat} : ∀ {ps : List PyData}, (∀ p ∈ ps, p.depth ≤ k) → PyData.depthAll ps ≤ k
  | [], _ => by simp [PyData.depthAll]
  | p :: ps, h => by
    have := h p List.mem_cons_self
    have := depth_all fun x m => h x (List.mem_cons_of_mem _ m)
    simp only [PyData.depthAll]
    omega
theorem pD_py {b l : Nat} : ∀ {h : Nat} {d : D}, pD b l h d → ∃ p, d.py = some p ∧ p.canLay0 = true ∧ p.depth ≤ h
  | 0, d, ⟨i, e, h⟩ => by subst e; exact ⟨.int i, by simp [D.py], by simp [PyData.canLay0], by simp [PyData.depth]⟩
  | h + 1, d, .inl ⟨i, e, h'⟩ => by subst e; exact ⟨.int i, by simp [D.py], by simp [PyData.canLay0], by simp [PyData.depth]⟩
  | h + 1, d, .inr ⟨ds, e, hl, hx⟩ => by
    subst e
    obtain ⟨ps, e2, l2, q⟩ := pys_of (Q := fun p => p.canLay0 = true ∧ p.depth ≤ h) fun x m => pD_py (hx x m)
    refine ⟨.tuple ps, by simp [D.py, e2], by simpa [PyData.canLay0] using can_all fun p m => (q p m).1, ?_⟩
    have := depth_all fun p m => (q p m).2
    simp only [PyData.depth]
    omega
theorem eqv_nil_t (ps : List PyData) : PyData.eqv (.tuple ps) (.tuple []) = decide (ps = []) := by cases ps <;> simp [PyData.eqv, PyData.eqvAll]
theorem eqv_nil_l (ps : List PyData) : PyData.eqv (.list ps) (.list []) = decide (ps = []) := by cases ps <;> simp [PyData.eqv, PyData.eqvAll]
/-- a tuple beside () -/
theorem ne_nil {neg : Bool} {b l h : Nat} {ds : List D} (hx : ∀ x ∈ ds, pD b l h x) (hh : h ≤ 60) (S : Sto) : oEqB neg (.d (.tup ds)) (.d (.tup [])) S = .ok (.d (.bl (xor neg (decide (ds = []))))) S := by
  obtain ⟨ps, e2, l2, q⟩ := pys_of (Q := fun p => p.canLay0 = true ∧ p.depth ≤ h) fun x m => pD_py (hx x m)
  have c := can_all fun p m => (q p m).1
  have dd := depth_all fun p m => (q p m).2
  have s1 : SeqAt.shaped (.tuple ps) = true := by simp [SeqAt.shaped, PyData.canLay0, c, PyData.depth]; omega
  have s2 : SeqAt.shaped (.tuple []) = true := by decide
  have en : (ps = []) = (ds = []) := propext (by rw [← List.length_eq_zero_iff, ← List.length_eq_zero_iff (l := ds), l2])
  simp only [oEqB, pyV, D.py, e2, pys, Option.map_some, s1, s2, Bool.and_self, if_true, eqv_nil_t, en]
/-- a place beside [] -/
theorem ne_cell {neg : Bool} {b l h L : Nat} {ds : List D} {S : Sto} (hL : S[L]? = some (.lst ds)) (hx : ∀ x ∈ ds, pD b l h x) (hh : h ≤ 60) : oEqB neg (.r L) (.d (.lst [])) S = .ok (.d (.bl (xor neg (decide (ds = []))))) S := by
  obtain ⟨ps, e2, l2, q⟩ := pys_of (Q := fun p => p.canLay0 = true ∧ p.depth ≤ h) fun x m => pD_py (hx x m)
  have c := can_all fun p m => (q p m).1
  have dd := depth_all fun p m => (q p m).2
  have s1 : SeqAt.shaped (.list ps) = true := by simp [SeqAt.shaped, PyData.canLay0, c, PyData.depth]; omega
  have s2 : SeqAt.shaped (.list []) = true := by decide
  have en : (ps = []) = (ds = []) := propext (by rw [← List.length_eq_zero_iff, ← List.length_eq_zero_iff (l := ds), l2])
  simp only [oEqB, pyV, hL, D.py, e2, pys, Option.map_some, s1, s2, Bool.and_self, if_true, eqv_nil_l, en]
theorem numD_pD {d : D} (h : numD d) : pD 8 102 1 d := by
  obtain ⟨a, b, rfl, ha, hb, _⟩ := h
  refine pD_tup (by simp) fun x hx => ?_
  simp at hx
  rcases hx with rfl | rfl
  · exact pD_int (by omega) 0
  · exact pD_int (by omega) 0
theorem rowD_pD {z : Nat} {d : D} (h : rowD z d) (hz : z ≤ 102) : pD 8 102 2 d := by
  obtain ⟨ds, rfl, hl, hx⟩ := h
  exact pD_tup (by omega) fun x m => numD_pD (hx x m)
def wishD (z : Nat) (d : D) : Prop := ∃ r f, d = .tup [r, f] ∧ rowD z r ∧ numD f
theorem wishD_pD {z : Nat} {d : D} (h : wishD z d) (hz : z ≤ 102) : pD 8 102 3 d := by
  obtain ⟨r, f, rfl, hr, hf⟩ := h
  refine pD_tup (by simp) fun x hx => ?_
  simp at hx
  rcases hx with rfl | rfl
  · exact rowD_pD hr hz
  · exact pD_up (numD_pD hf)
def lotD (z m : Nat) (d : D) : Prop := ∃ ws, d = .tup [.int z, .tup ws] ∧ ws.length ≤ m ∧ ∀ x ∈ ws, wishD z x
theorem lotD_pD {z m : Nat} {d : D} (h : lotD z m d) (hz : z ≤ 102) (hm : m ≤ 102) : pD 8 102 5 d := by
  obtain ⟨ws, rfl, hl, hx⟩ := h
  refine pD_tup (by simp) fun x hx' => ?_
  simp at hx'
  rcases hx' with rfl | rfl
  · exact pD_int (by simp; omega) 4
  · exact pD_tup (by omega) fun x m => wishD_pD (hx x m) hz
theorem rowD_row {z : Nat} {d : D} (h : rowD z d) : rowB z d = true := by
  obtain ⟨ds, rfl, hl, hx⟩ := h
  simp only [rowB, Bool.and_eq_true, decide_eq_true_eq, List.all_eq_true]
  exact ⟨by omega, fun x m => numD_frac (hx x m)⟩
theorem wishD_wish {z : Nat} {d : D} (h : wishD z d) : wishB z d = true := by
  obtain ⟨r, f, rfl, hr, hf⟩ := h
  simp [wishB, rowD_row hr, numD_frac hf]
theorem lotD_lot {z m : Nat} {d : D} {k : Int} (h : lotD z m d) (h0 : 1 ≤ z) (h1 : z ≤ 12) (hk : (m : Int) ≤ k) : lotB k d = true := by
  obtain ⟨ws, rfl, hl, hx⟩ := h
  simp only [lotB, Bool.and_eq_true, decide_eq_true_eq, List.all_eq_true]
  exact ⟨⟨⟨by omega, by omega⟩, by omega⟩, fun x m => wishD_wish (hx x m)⟩
section
variable {n t : Nat} {S : Sto} {c : Cell}
end
end Law
set_option Elab.async false
set_option linter.all false
set_option maxRecDepth 100000
set_option maxHeartbeats 2000000
namespace Law
open PySem PySem.Spec PyProof.Rows L2 GxR Gx Dn
theorem ok_lc2 {it : DIf} {g : DGf} {te : DEf} {vs : List Nat} {env : Dn.Env} {S S1 : Sto} {ds : List D} {f : D → D} {Q : Val → Sto → Prop} (hi : it env S = .ok ⟨ds, []⟩ S1) (hl : ds.length ≤ szL)
    (hf : ∀ d ∈ ds, ∀ c, Ok (g (.d d) (wipeE env vs) (S1 ++ [c])) fun env1 S2 => Ok (te env1 S2) fun z S3 => z = .d (f d) ∧ S3 = S1 ++ [c]) (q : Q (.d (.lst (ds.map f))) S1) : Ok (dLc it g dYes te vs env S) Q := by
  have e : dLc it g dYes te vs env S = dLc (fun _ T => .ok ⟨ds, []⟩ T) g dYes te vs env S1 := by
    unfold dLc
    rw [hi]
  rw [e]
  exact ok_lc (by rfl) hl hf q
theorem rng_mem {z : Nat} {d : D} (h : d ∈ rngD 0 z) : ∃ i : Int, d = .int i ∧ 0 ≤ i ∧ i < z := by
  simp [rngD] at h
  obtain ⟨i, hi, rfl⟩ := h
  exact ⟨_, rfl, by omega, by omega⟩
@[simp] theorem rng_len {z : Nat} : (rngD 0 z).length = z := by simp [rngD]
theorem sm_of {i : Int} (h0 : 0 ≤ i) (h : i < 1000000) : smallI i = true := by unfold smallI; simp; omega
section
variable {n t : Nat} {S : Sto} {c : Cell}
def unitF (way spot : Int) (d : D) : D := match d with
  | .int i => if i = spot then .tup [.int (1 - 2 * way), .int 1] else .tup [.int 0, .int 1]
  | _ => .non
def backF (d : D) : D := match d with
  | .tup [.int a, .int b] => .tup [.int (0 - a), .int b]
  | _ => .non
end
end Law
set_option Elab.async false
set_option linter.all false
set_option maxRecDepth 100000
set_option maxHeartbeats 2000000
namespace Law
open PySem PySem.Spec PyProof.Rows L2 GxR Gx Dn
theorem cutL_mem {α : Type} {xs : List α} {lo hi : Option Int} {x : α} (h : x ∈ cutL xs lo hi) : x ∈ xs := List.mem_of_mem_drop (List.mem_of_mem_take h)
theorem cutL_len {α : Type} {xs : List α} {lo hi : Option Int} : (cutL xs lo hi).length ≤ xs.length := by
  unfold cutL
  simp
  omega
def oddL : List D := [.non, .bl true, .bl false, .int 0, .int 1, .int (-1), .int 13, .int 10000000000000000000000000, .str "", .str "1", .tup [], .tup [.int 1], .tup [.int 0, .int 1], .tup [.int 1, .int 1], .tup [.int 2, .int 2], .tup [.int 0, .int 2], .tup [.int 1, .int 0],
  .tup [.int 1, .int (-1)], .tup [.bl true, .int 1], .tup [.int 1, .bl true], .tup [.int 1, .int 1, .int 1], .tup [.tup [.int 1, .int 1]], .lst [], .lst [.int 1, .int 1], .dic, .tup [.non, .int 1], .tup [.str "1", .int 1], .tup [.int 1, .tup []]]
section
variable {n t : Nat} {S : Sto} {c : Cell}
theorem odd_gD {d : D} (h : d ∈ oddL) : gD 90 3 d = true := gDs_all.mp (by decide +kernel : gDs 90 3 oddL = true) d h
theorem pow_up {b : Nat} : 2 ^ (b + 1) = 2 * 2 ^ b := by rw [Nat.pow_succ, Nat.mul_comm]
end
end Law
set_option Elab.async false
set_option linter.all false
set_option maxRecDepth 100000
set_option maxHeartbeats 2000000
namespace Law
open PySem PySem.Spec PyProof.Rows L2 GxR Gx Dn
/-- a comprehension whose items leave new places behind the list's -/
theorem ok_lcR {it : DIf} {g : DGf} {te : DEf} {vs : List Nat} {env : Dn.Env} {S : Sto} {ds : List D} {f : D → D} {Q : Val → Sto → Prop} (hi : it env S = .ok ⟨ds, []⟩ S) (hl : ds.length ≤ szL)
    (hf : ∀ d ∈ ds, ∀ c R, Ok (g (.d d) (wipeE env vs) (S ++ c :: R)) fun env1 S1 => Ok (te env1 S1) fun z S2 => ∃ R', z = .d (f d) ∧ S2 = S ++ c :: R') (q : Q (.d (.lst (ds.map f))) S) : Ok (dLc it g dYes te vs env S) Q := by
  have at_ : ∀ c R, (S ++ c :: R)[S.length]? = some c := fun c R => by simp
  have put : ∀ c c' R, (S ++ c :: R).set S.length c' = S ++ c' :: R := fun c c' R => by simp
  have key : ∀ (es acc : List D) (R : Sto), (∀ d ∈ es, d ∈ ds) → acc.length + es.length ≤ szL → ∃ R', lcLoop g dYes te [] (wipeE env vs) S.length es acc (S ++ .lst acc :: R) = .ok (acc ++ es.map f) (S ++ .lst (acc ++ es.map f) :: R') := by
    intro es
    induction es with
    | nil =>
      intro acc R _ _
      unfold lcLoop
      rw [if_pos ⟨wtOk_nil _, at_ _ _⟩]
      exact ⟨R, by simp⟩
    | cons d es ih =>
      intro acc R hm hz
      unfold lcLoop
      rw [if_pos (wtOk_nil _)]
      obtain ⟨env1, S1, e1, z, S2, e2, R', rfl, rfl⟩ := hf d (hm d List.mem_cons_self) (.lst acc) R
      rw [e1]
      simp only [Out.bind_ok, dYes, if_true, e2]
      rw [if_pos ⟨by simp at hz; omega, at_ _ _⟩, put]
      obtain ⟨R2, e3⟩ := ih (acc ++ [f d]) R' (fun x hx => hm x (List.mem_cons_of_mem _ hx)) (by simp at hz ⊢; omega)
      rw [e3]
      exact ⟨R2, by simp⟩
  unfold dLc
  rw [hi]
  simp only [Out.bind_ok]
  obtain ⟨R, e⟩ := key ds [] [] (fun _ h => h) (by simpa using hl)
  rw [e]
  simpa using q
theorem dFin_new {S : Sto} {c : Cell} : dFin S (.r S.length) (S ++ [c]) = .ok (.r S.length) (S ++ [c]) := by
  unfold dFin
  simp
/-- a new place -/
structure Nw (S : Sto) (P : Cell → Prop) (x : Val) (S' : Sto) : Prop where
  ex : ∃ c, x = .r S.length ∧ S' = S ++ [c] ∧ P c
end Law
set_option Elab.async false
set_option linter.all false
set_option maxRecDepth 100000
set_option maxHeartbeats 2000000
namespace Law
open PySem PySem.Spec PyProof.Rows L2 GxR Gx Dn
/-! fractions -/
def dq (q : Rat) : D := .tup [.int q.num, .int (q.den : Int)]
structure qb (k : Nat) (q : Rat) : Prop where
  n : q.num.natAbs < 2 ^ k
  d : q.den < 2 ^ k
theorem qb_pos {k : Nat} {q : Rat} (h : qb k q) : 0 < k := by
  cases k with
  | zero => have := h.d; have := q.den_pos; omega
  | succ k => omega
theorem qb_mono {k l : Nat} {q : Rat} (h : qb k q) (hl : k ≤ l) : qb l q :=
  ⟨Nat.lt_of_lt_of_le h.n (Nat.pow_le_pow_right (by decide) hl), Nat.lt_of_lt_of_le h.d (Nat.pow_le_pow_right (by decide) hl)⟩
theorem dq_divInt {i j : Int} (hj : 0 < j) : D.tup [.int (i / (Nat.gcd i.natAbs j.natAbs : Nat)), .int (j / (Nat.gcd i.natAbs j.natAbs : Nat))] = dq (Rat.divInt i j) := by
  have hs : j.sign = 1 := Int.sign_eq_one_of_pos hj
  have g : j.gcd i = Nat.gcd i.natAbs j.natAbs := Nat.gcd_comm ..
  have e1 : (Rat.divInt i j).num = i / (Nat.gcd i.natAbs j.natAbs : Nat) := by rw [Rat.num_divInt, hs, g, Int.one_mul]
  have e2 : ((Rat.divInt i j).den : Int) = j / (Nat.gcd i.natAbs j.natAbs : Nat) := by
    rw [Rat.den_divInt, if_neg (by omega), g]
    have : (j.natAbs : Int) = j := by omega
    rw [Int.natCast_ediv, this]
  unfold dq
  rw [e1, e2]
theorem qb_divInt {i j : Int} {k : Nat} (hj : 0 < j) (h1 : i.natAbs < 2 ^ k) (h2 : j.natAbs < 2 ^ k) : qb k (Rat.divInt i j) := by
  refine ⟨?_, ?_⟩
  · rw [Rat.num_divInt, Int.sign_eq_one_of_pos hj, Int.one_mul]
    exact div_small h1
  · rw [Rat.den_divInt, if_neg (by omega)]
    exact Nat.lt_of_le_of_lt (Nat.div_le_self _ _) h2
theorem add_divInt (p q : Rat) : p + q = Rat.divInt (p.num * q.den + q.num * p.den) ((p.den : Int) * (q.den : Int)) := by
  rw [Rat.add_def', ← Rat.divInt_ofNat, Int.natCast_mul]
theorem mul_divInt (p q : Rat) : p * q = Rat.divInt (p.num * q.num) ((p.den : Int) * (q.den : Int)) := by
  rw [Rat.mul_def', ← Rat.divInt_ofNat, Int.natCast_mul]
theorem natAbs_mul_lt {a b : Int} {k l : Nat} (ha : a.natAbs < 2 ^ k) (hb : b.natAbs < 2 ^ l) : (a * b).natAbs < 2 ^ (k + l) := by
  rw [Int.natAbs_mul, Nat.pow_add]
  exact Nat.mul_lt_mul'' ha hb
theorem natAbs_add_lt {a b : Int} {k : Nat} (ha : a.natAbs < 2 ^ k) (hb : b.natAbs < 2 ^ k) : (a + b).natAbs < 2 ^ (k + 1) := by
  rw [Nat.pow_succ]; omega
theorem den_lt {q : Rat} {k : Nat} (h : qb k q) : ((q.den : Int)).natAbs < 2 ^ k := by simpa using h.d
theorem den0 (q : Rat) : 0 < (q.den : Int) := by have := q.den_pos; omega
theorem pow_le {a b : Nat} (h : a ≤ b) : 2 ^ a ≤ 2 ^ b := Nat.pow_le_pow_right (by decide) h
theorem lt_up {x a b : Nat} (h : x < 2 ^ a) (hl : a ≤ b) : x < 2 ^ b := Nat.lt_of_lt_of_le h (pow_le hl)
theorem qb_add {p q : Rat} {a b : Nat} (hp : qb a p) (hq : qb b q) : qb (a + b + 1) (p + q) := by
  rw [add_divInt]
  refine qb_divInt (Int.mul_pos (den0 p) (den0 q)) (natAbs_add_lt (natAbs_mul_lt hp.n (den_lt hq)) ?_) (lt_up (natAbs_mul_lt (den_lt hp) (den_lt hq)) (by omega))
  rw [Nat.add_comm a b]
  exact natAbs_mul_lt hq.n (den_lt hp)
theorem qb_mul {p q : Rat} {a b : Nat} (hp : qb a p) (hq : qb b q) : qb (a + b) (p * q) := by
  rw [mul_divInt]
  exact qb_divInt (Int.mul_pos (den0 p) (den0 q)) (natAbs_mul_lt hp.n hq.n) (natAbs_mul_lt (den_lt hp) (den_lt hq))
theorem qb_neg {p : Rat} {a : Nat} (hp : qb a p) : qb a (-p) := ⟨by simpa using hp.n, by simpa using hp.d⟩
theorem qb_zero : qb 1 (0 : Rat) := ⟨by decide, by decide⟩
theorem dq_frac (q : Rat) : fracB (dq q) = true := by
  have := q.reduced
  have h := den0 q
  simp [dq, fracB]
  exact ⟨q.den_pos, this⟩
theorem frac_dq {d : D} (h : fracB d = true) : ∃ q : Rat, d = dq q := by
  unfold fracB at h
  split at h
  · rename_i a b
    simp at h
    obtain ⟨k, rfl⟩ := Int.eq_ofNat_of_zero_le (Int.le_of_lt h.1)
    exact ⟨⟨a, k, by omega, by simpa using h.2⟩, rfl⟩
  · cases h
theorem numD_dq {d : D} (h : numD d) : ∃ q : Rat, d = dq q ∧ qb 6 q := by
  obtain ⟨a, b, rfl, ha, hb, h0, hg⟩ := h
  obtain ⟨k, rfl⟩ := Int.eq_ofNat_of_zero_le (Int.le_of_lt h0)
  exact ⟨⟨a, k, by omega, by simpa using hg.1⟩, rfl, by simpa using ha, by simpa using hb⟩
theorem dq_inj {p q : Rat} (h : dq p = dq q) : p = q := by
  unfold dq at h
  simp at h
  exact Rat.ext h.1 (by omega)
/-! the law's sums -/
theorem cM {i j : Int} {a b : Nat} (hi : i.natAbs < 2 ^ a) (hj : j.natAbs < 2 ^ b) (h : a + b ≤ 999990) : cMul i j = true :=
  cMul_of (a + 1) (b + 1) (by omega) (by omega) (lt_up hi (by omega)) (lt_up hj (by omega)) (by omega)
def dotQ (l : List (Rat × Rat)) : Rat := l.foldl (fun a x => a + x.1 * x.2) 0
theorem dotQ_take {l : List (Rat × Rat)} {k : Nat} {x : Rat × Rat} (h : l[k]? = some x) : dotQ (l.take (k + 1)) = dotQ (l.take k) + x.1 * x.2 := by
  unfold dotQ
  rw [List.take_add_one, h, List.foldl_append]
  rfl
/-- the pairs of two rows, as zip tells them -/
def zipD (l : List (Rat × Rat)) : List D := l.map fun x => .tup [dq x.1, dq x.2]
theorem zip_eq (ps qs : List Rat) : ((ps.map dq).zip (qs.map dq)).map (fun p => D.tup [p.1, p.2]) = zipD (ps.zip qs) := by
  unfold zipD
  rw [List.zip_map, List.map_map]
  rfl
/-- what two rows are -/
inductive rows2 : D → D → List Rat → List Rat → Prop where
  | tt (ps qs : List Rat) : rows2 (.tup (ps.map dq)) (.tup (qs.map dq)) ps qs
  | ll (ps qs : List Rat) : rows2 (.lst (ps.map dq)) (.lst (qs.map dq)) ps qs
  | tl (ps qs : List Rat) : rows2 (.tup (ps.map dq)) (.lst (qs.map dq)) ps qs
theorem iZip_eq {x y : D} {ps qs : List Rat} (h : rows2 x y ps qs) (S : Sto) : Dn.iMx [.d x, .d y] S = .ok ⟨zipD (ps.zip qs), []⟩ S := by
  cases h <;> simp only [Dn.iMx, seqK, seqT, seqL, wtV, List.append_nil] <;> rw [zip_eq]
@[simp] theorem diMx_eq (As : DAf) (env : Dn.Env) (S : Sto) : diMx As env S = (As env S).bind fun xs S1 => Dn.iMx xs S1 := (rfl)
theorem dot_bound {l : List (Rat × Rat)} {k : Nat} (h : ∀ x ∈ l, qb k x.1 ∧ qb k x.2) : ∀ j, qb (1 + (2 * k + 2) * j) (dotQ (l.take j))
  | 0 => by simpa [dotQ] using qb_zero
  | j + 1 => by
    have ih := dot_bound h j
    cases e : l[j]? with
    | none =>
      have hl : l.length ≤ j := List.getElem?_eq_none_iff.mp e
      rw [List.take_of_length_le (by omega)]
      rw [List.take_of_length_le hl] at ih
      exact qb_mono ih (by rw [Nat.mul_add]; omega)
    | some x =>
      rw [dotQ_take e]
      have hx := h x (List.mem_of_getElem? e)
      exact qb_mono (qb_add ih (qb_mul hx.1 hx.2)) (by rw [Nat.mul_add]; omega)
/-! the program's sums -/
theorem step_div {t b f s u l : Int} (hb : 0 < b) (hu : 0 < u) (hl : 0 < l) : Rat.divInt (t * (u * l) + f * s * b) (b * (u * l)) = Rat.divInt t b + Rat.divInt f u * Rat.divInt s l := by
  have h1 : b ≠ 0 := by omega
  have h2 : u * l ≠ 0 := by have := Int.mul_pos hu hl; omega
  rw [Rat.divInt_mul_divInt, Rat.divInt_add_divInt _ _ h1 h2]
end Law
set_option Elab.async false
set_option linter.all false
set_option maxRecDepth 100000
set_option maxHeartbeats 2000000
namespace Law
open PySem PySem.Spec PyProof.Rows L2 GxR Gx Dn
/-! what can be shown as a text: h deep, m long -/
structure shl (h m : Nat) (d : D) : Prop where
  ex : ∃ p, d.py = some p ∧ p.showable = true ∧ p.hasDict = false ∧ p.depth ≤ h ∧ p.shown.length ≤ m
theorem shl_int {i : Int} {k : Nat} (h : i.natAbs < 2 ^ k) (h0 : 0 < k) (hk : k ≤ 1900) : shl 0 (k + 1) (.int i) := by
  have hl := PySem.Flt.log2_lt_of h0 h
  refine ⟨.int i, by simp [D.py], by simp only [PyData.showable, decide_eq_true_eq]; omega, by simp only [PyData.hasDict], by simp [PyData.depth], ?_⟩
  have q := int_text_length_le h0 hl
  simp only [PyData.shown]
  rw [PySem.ofString_length]
  exact q
theorem shl_bl (b : Bool) : shl 0 5 (.bl b) := by
  refine ⟨.bool b, by simp [D.py], by simp only [PyData.showable], by simp only [PyData.hasDict], by simp [PyData.depth], ?_⟩
  cases b <;> decide +kernel
theorem shown_all : ∀ {ps : List PyData} {m : Nat}, (∀ p ∈ ps, p.shown.length ≤ m) → (PyData.shownAll ps).length = ps.length ∧ piled (PyData.shownAll ps) ≤ ps.length * (m + 2)
  | [], m, _ => by simp [PyData.shownAll, piled]
  | p :: ps, m, h => by
    obtain ⟨h1, h2⟩ := shown_all fun x hx => h x (List.mem_cons_of_mem _ hx)
    have := h p List.mem_cons_self
    refine ⟨by simp [PyData.shownAll, h1], ?_⟩
    simp only [PyData.shownAll, piled_cons, List.length_cons, Nat.add_mul, Nat.one_mul]
    omega
theorem show_all : ∀ {ps : List PyData}, (∀ p ∈ ps, p.showable = true ∧ p.hasDict = false) → PyData.showableAll ps = true ∧ PyData.hasDictAll ps = false
  | [], _ => by simp [PyData.showableAll, PyData.hasDictAll]
  | p :: ps, h => by
    obtain ⟨h1, h2⟩ := show_all fun x hx => h x (List.mem_cons_of_mem _ hx)
    have := h p List.mem_cons_self
    simp [PyData.showableAll, PyData.hasDictAll, h1, h2, this.1, this.2]
theorem shl_tup {h m : Nat} {ds : List D} (hx : ∀ x ∈ ds, shl h m x) : shl (h + 1) (ds.length * (m + 2) + 3) (.tup ds) := by
  obtain ⟨ps, e, el, q⟩ := pys_of (Q := fun p => p.showable = true ∧ p.hasDict = false ∧ p.depth ≤ h ∧ p.shown.length ≤ m) fun x hm => (hx x hm).ex
  obtain ⟨s1, s2⟩ := show_all fun p hp => ⟨(q p hp).1, (q p hp).2.1⟩
  obtain ⟨l1, l2⟩ := shown_all fun p hp => (q p hp).2.2.2
  have dd := depth_all fun p hp => (q p hp).2.2.1
  refine ⟨.tuple ps, by simp [D.py, e], by simpa only [PyData.showable] using s1, by simpa only [PyData.hasDict] using s2, by simp only [PyData.depth]; omega, ?_⟩
  simp only [PyData.shown, tupleText]
  rw [strLen_append, strLen_append]
  have e1 : ((if (PyData.shownAll ps).length == 1 then ",)" else ")" : String) : Str).length ≤ 2 := by split <;> decide
  have e2 : ("(" : Str).length = 1 := rfl
  have e3 : (Str.join ", " (PyData.shownAll ps)).length ≤ piled (PyData.shownAll ps) := by
    by_cases z : PyData.shownAll ps = []
    · rw [z]; decide
    · have := join_length_add _ z
      omega
  rw [el] at l2
  omega
theorem shl_up {h m h' m' : Nat} {d : D} (p : shl h m d) (hh : h ≤ h') (hm : m ≤ m') : shl h' m' d :=
  let ⟨⟨q, a, b, c, e, f⟩⟩ := p; ⟨q, a, b, c, Nat.le_trans e hh, Nat.le_trans f hm⟩
theorem shl_pair {h m : Nat} {x y : D} (hx : shl h m x) (hy : shl h m y) : shl (h + 1) (2 * (m + 2) + 3) (.tup [x, y]) :=
  shl_tup (ds := [x, y]) fun z hz => by
    simp at hz
    rcases hz with rfl | rfl
    · exact hx
    · exact hy
/-- what repr tells -/
theorem repr_of {h m : Nat} {d : D} (p : shl h m d) (hh : h ≤ 30) (hm : m ≤ szL) : ∃ s : Str, ∀ S, bRepr (.d d) S = .ok (.d (.str s)) S := by
  obtain ⟨q, a, b, c, e, f⟩ := p.ex
  refine ⟨q.shown, fun S => ?_⟩
  unfold bRepr
  simp only [pyV, a]
  rw [if_pos ⟨b, c, Nat.le_trans e hh, Nat.le_trans f hm⟩]
theorem repr_bl (a : Bool) (S : Sto) : bRepr (.d (.bl a)) S = .ok (.d (.str (PyData.bool a).shown)) S := by
  have h : (PyData.bool a).showable = true ∧ (PyData.bool a).hasDict = false ∧ (PyData.bool a).depth ≤ 30 ∧ (PyData.bool a).shown.length ≤ szL := by
    cases a <;> decide +kernel
  unfold bRepr
  simp only [pyV, D.py]
  rw [if_pos h]
end Law
set_option Elab.async false
set_option linter.all false
set_option maxRecDepth 100000
set_option maxHeartbeats 2000000
namespace Law
open PySem PySem.Spec PyProof.Rows L2 GxR Gx Dn
/-! lots of fractions -/
abbrev Wish := List Rat × Rat
def drow (xs : List Rat) : D := .tup (xs.map dq)
def dwish (w : Wish) : D := .tup [drow w.1, dq w.2]
def dlot (z : Nat) (ws : List Wish) : D := .tup [.int z, .tup (ws.map dwish)]
def inside (ws : List Wish) (xs : List Rat) : Bool := ws.all fun w => decide (dotQ (w.1.zip xs) ≤ w.2)
/-- each number below 2^k, each row of z -/
structure wb (z k : Nat) (w : Wish) : Prop where
  l : w.1.length = z
  r : ∀ q ∈ w.1, qb k q
  b : qb k w.2
theorem row_of {z k : Nat} {P : D → Prop} (hP : ∀ d, P d → ∃ q, d = dq q ∧ qb k q) : ∀ {ds : List D}, (∀ x ∈ ds, P x) → ∃ qs : List Rat, ds = qs.map dq ∧ ∀ q ∈ qs, qb k q
  | [], _ => ⟨[], rfl, by simp⟩
  | d :: ds, h => by
    obtain ⟨q, rfl, hq⟩ := hP d (h d List.mem_cons_self)
    obtain ⟨qs, rfl, hqs⟩ := row_of (z := z) hP fun x m => h x (List.mem_cons_of_mem _ m)
    refine ⟨q :: qs, rfl, fun x hx => ?_⟩
    simp at hx
    rcases hx with rfl | hx
    · exact hq
    · exact hqs x hx
theorem rowD_of {z : Nat} {d : D} (h : rowD z d) : ∃ qs : List Rat, d = drow qs ∧ qs.length = z ∧ ∀ q ∈ qs, qb 6 q := by
  obtain ⟨ds, rfl, hl, hx⟩ := h
  obtain ⟨qs, rfl, hq⟩ := row_of (z := z) (fun d hd => numD_dq hd) hx
  exact ⟨qs, rfl, by simpa using hl, hq⟩
theorem wishD_of {z : Nat} {d : D} (h : wishD z d) : ∃ w : Wish, d = dwish w ∧ wb z 6 w := by
  obtain ⟨r, f, rfl, hr, hf⟩ := h
  obtain ⟨qs, rfl, hl, hq⟩ := rowD_of hr
  obtain ⟨b, rfl, hb⟩ := numD_dq hf
  exact ⟨(qs, b), rfl, hl, hq, hb⟩
theorem wishes_of {z : Nat} : ∀ {ds : List D}, (∀ x ∈ ds, wishD z x) → ∃ ws : List Wish, ds = ws.map dwish ∧ ∀ w ∈ ws, wb z 6 w
  | [], _ => ⟨[], rfl, by simp⟩
  | d :: ds, h => by
    obtain ⟨w, rfl, hw⟩ := wishD_of (h d List.mem_cons_self)
    obtain ⟨ws, rfl, hws⟩ := wishes_of fun x m => h x (List.mem_cons_of_mem _ m)
    refine ⟨w :: ws, rfl, fun x hx => ?_⟩
    simp at hx
    rcases hx with rfl | hx
    · exact hw
    · exact hws x hx
theorem lotD_of {z m : Nat} {d : D} (h : lotD z m d) : ∃ ws : List Wish, d = dlot z ws ∧ ws.length ≤ m ∧ ∀ w ∈ ws, wb z 6 w := by
  obtain ⟨ds, rfl, hl, hx⟩ := h
  obtain ⟨ws, rfl, hw⟩ := wishes_of hx
  exact ⟨ws, rfl, by simpa using hl, hw⟩
theorem drow_row {z : Nat} {xs : List Rat} (h : xs.length = z) : rowB z (drow xs) = true := by
  simp only [drow, rowB, Bool.and_eq_true, decide_eq_true_eq, List.all_eq_true, List.length_map]
  refine ⟨by omega, fun x hx => ?_⟩
  obtain ⟨q, _, rfl⟩ := List.mem_map.mp hx
  exact dq_frac q
theorem dwish_wish {z k : Nat} {w : Wish} (h : wb z k w) : wishB z (dwish w) = true := by
  simp [dwish, wishB, drow_row h.l, dq_frac]
theorem dlot_lot {z k : Nat} {ws : List Wish} {m : Int} (h : ∀ w ∈ ws, wb z k w) (h0 : 1 ≤ z) (h1 : z ≤ 12) (hm : (ws.length : Int) ≤ m) : lotB m (dlot z ws) = true := by
  simp only [dlot, lotB, Bool.and_eq_true, decide_eq_true_eq, List.all_eq_true, List.length_map]
  refine ⟨⟨⟨by omega, by omega⟩, hm⟩, fun x hx => ?_⟩
  obtain ⟨w, hw, rfl⟩ := List.mem_map.mp hx
  exact dwish_wish (h w hw)
theorem qb_gD {k l : Nat} {q : Rat} (h : qb k q) (hl : 2 ≤ l) : gD k l (dq q) = true := by
  have := h.n
  have := h.d
  simp [dq, gD, gDs, hl]
  exact ⟨h.n, h.d⟩
theorem drow_gD {k l : Nat} {xs : List Rat} (h : ∀ q ∈ xs, qb k q) (hx : xs.length ≤ l) (hl : 2 ≤ l) : gD k l (drow xs) = true := by
  simp only [drow, gD, Bool.and_eq_true, decide_eq_true_eq, List.length_map]
  refine ⟨hx, gDs_all.mpr fun d hd => ?_⟩
  obtain ⟨q, hq, rfl⟩ := List.mem_map.mp hd
  exact qb_gD (h q hq) hl
theorem dwish_gD {z k l : Nat} {w : Wish} (h : wb z k w) (hz : z ≤ l) (hl : 2 ≤ l) : gD k l (dwish w) = true := by
  have a := drow_gD h.r (by rw [h.l]; exact hz) hl
  have b := qb_gD h.b hl
  simp [dwish, gD, gDs, hl, a, b]
theorem dlot_gD {z k l : Nat} {ws : List Wish} (h : ∀ w ∈ ws, wb z k w) (hz : z ≤ l) (hw : ws.length ≤ l) (hl : 2 ≤ l) (hk : z < 2 ^ k) : gD k l (dlot z ws) = true := by
  have a : gDs k l (ws.map dwish) = true := gDs_all.mpr fun d hd => by
    obtain ⟨w, hw, rfl⟩ := List.mem_map.mp hd
    exact dwish_gD (h w hw) hz hl
  simp [dlot, gD, gDs, hl, hw, hk, a]
theorem dq_shl {k : Nat} {q : Rat} (h : qb k q) (hk : k ≤ 1900) : shl 1 (2 * (k + 3) + 3) (dq q) :=
  shl_pair (m := k + 1) (shl_int h.n (qb_pos h) hk) (shl_int (den_lt h) (qb_pos h) hk)
theorem drow_shl {k z : Nat} {xs : List Rat} (h : ∀ q ∈ xs, qb k q) (hk : k ≤ 1900) (hz : xs.length = z) : shl 2 (z * (2 * (k + 3) + 5) + 3) (drow xs) := by
  have s := shl_tup (ds := xs.map dq) (h := 1) (m := 2 * (k + 3) + 3) fun d hd => by
    obtain ⟨q, hq, rfl⟩ := List.mem_map.mp hd
    exact dq_shl (h q hq) hk
  rw [List.length_map, hz] at s
  exact s
theorem dwish_shl {k z : Nat} {w : Wish} (h : wb z k w) (hk : k ≤ 100) (hz : z ≤ 12) : shl 3 6000 (dwish w) := by
  have h1 := drow_shl h.r (by omega) h.l
  have e : z * (2 * (k + 3) + 5) ≤ 12 * (2 * (k + 3) + 5) := Nat.mul_le_mul_right _ hz
  exact shl_up (shl_pair (m := 2700) (shl_up h1 (Nat.le_refl _) (by omega)) (shl_up (dq_shl h.b (by omega)) (by decide) (by omega))) (Nat.le_refl _) (by decide)
theorem dlot_shl {k z : Nat} {ws : List Wish} (h : ∀ w ∈ ws, wb z k w) (hk : k ≤ 100) (hz : z ≤ 12) (hw : ws.length ≤ 60) : shl 5 800000 (dlot z ws) := by
  have s := shl_tup (ds := ws.map dwish) (h := 3) (m := 6000) fun d hd => by
    obtain ⟨w, hw, rfl⟩ := List.mem_map.mp hd
    exact dwish_shl (h w hw) hk hz
  rw [List.length_map] at s
  have i : shl 0 11 (.int (z : Int)) := shl_int (k := 10) (by simp; omega) (by decide) (by decide)
  have e : ws.length * (6000 + 2) ≤ 60 * 6002 := Nat.mul_le_mul_right _ hw
  exact shl_up (shl_pair (h := 4) (m := 370000) (shl_up i (by decide) (by decide)) (shl_up s (by decide) (by omega))) (by decide) (by decide)
/-! the program's looks and sums on lots -/
@[simp] theorem diEnum_eq (As : DAf) (env : Dn.Env) (S : Sto) : diEnum As env S = (As env S).bind fun xs S1 => Dn.iEnum xs S1 := (rfl)
@[simp] theorem iEnum_tup (ds : List D) (S : Sto) : Dn.iEnum [.d (.tup ds)] S = .ok ⟨enD ds, []⟩ S := (rfl)
theorem enD_at {ds : List D} {i : Nat} {d : D} (h : (enD ds)[i]? = some d) : ∃ x, ds[i]? = some x ∧ d = .tup [.int i, x] := by
  unfold enD at h
  rw [List.getElem?_map] at h
  obtain ⟨p, hp, rfl⟩ := Option.map_eq_some_iff.mp h
  rw [List.getElem?_zip_eq_some] at hp
  have hi : i < ds.length := (List.getElem?_eq_some_iff.mp hp.2).1
  rw [rng_at hi] at hp
  exact ⟨p.2, hp.2, by cases p; simp at hp ⊢; exact hp.1.symm⟩
@[simp] theorem enD_len {ds : List D} : (enD ds).length = ds.length := by simp [enD, rngD]
theorem zip_qb {xs ys : List Rat} {k : Nat} (h : ∀ q ∈ xs, qb k q) (h' : ∀ q ∈ ys, qb k q) : ∀ z ∈ xs.zip ys, qb k z.1 ∧ qb k z.2 := fun z hz => by
  have := List.of_mem_zip (a := z.1) (b := z.2) (by simpa using hz)
  exact ⟨h _ this.1, h' _ this.2⟩
theorem zip_le {xs ys : List Rat} {z : Nat} (h : xs.length = z) : (xs.zip ys).length ≤ z := by simp; omega
theorem ok_allM {α : Type} {it : DIf} {g : DGf} {te : DEf} {vs : List Nat} {env : Dn.Env} {S : Sto} {e : α → D} {ws : List α} {f : α → Bool} {Q : Val → Sto → Prop} (hi : it env S = .ok ⟨ws.map e, []⟩ S)
    (hf : ∀ w ∈ ws, Ok (g (.d (e w)) (wipeE env vs) S) fun env1 S1 => Ok (te env1 S1) fun z S2 => z = .d (.bl (f w)) ∧ S2 = S) (q : Q (.d (.bl (ws.all f))) S) : Ok (dAllG it g te vs env S) Q := by
  have key : ∀ (es : List α), (∀ d ∈ es, d ∈ ws) → allLoop g te [] (wipeE env vs) (es.map e) S = .ok (.d (.bl (es.all f))) S := by
    intro es
    induction es with
    | nil => intro _; simp only [List.map_nil]; unfold allLoop; rw [if_pos (wtOk_nil _)]; rfl
    | cons d es ih =>
      intro hm
      simp only [List.map_cons]
      unfold allLoop
      rw [if_pos (wtOk_nil _)]
      obtain ⟨env1, S1, e1, z, S2, e2, rfl, rfl⟩ := hf d (hm d List.mem_cons_self)
      rw [e1]
      simp only [Out.bind_ok, e2]
      cases hb : f d with
      | true => simp only [List.all_cons, hb, Bool.true_and]; exact ih fun x hx => hm x (List.mem_cons_of_mem _ hx)
      | false => simp [hb]
  unfold dAllG
  rw [hi]
  simp only [Out.bind_ok]
  rw [key ws fun _ h => h]
  exact ok_ok.mpr q
theorem ok_lcM {α : Type} {it : DIf} {g : DGf} {te : DEf} {vs : List Nat} {env : Dn.Env} {S : Sto} {e : α → D} {ws : List α} {f : α → D} {Q : Val → Sto → Prop} (hi : it env S = .ok ⟨ws.map e, []⟩ S) (hl : ws.length ≤ szL)
    (hf : ∀ w ∈ ws, ∀ c, Ok (g (.d (e w)) (wipeE env vs) (S ++ [c])) fun env1 S1 => Ok (te env1 S1) fun z S2 => z = .d (f w) ∧ S2 = S ++ [c]) (q : Q (.d (.lst (ws.map f))) S) : Ok (dLc it g dYes te vs env S) Q := by
  have key : ∀ (es : List α) (acc : List D), (∀ d ∈ es, d ∈ ws) → acc.length + es.length ≤ szL → lcLoop g dYes te [] (wipeE env vs) S.length (es.map e) acc (S ++ [.lst acc]) = .ok (acc ++ es.map f) (S ++ [.lst (acc ++ es.map f)]) := by
    intro es
    induction es with
    | nil =>
      intro acc _ _
      simp only [List.map_nil]
      unfold lcLoop
      rw [if_pos ⟨wtOk_nil _, by simp⟩]
      simp
    | cons d es ih =>
      intro acc hm hz
      simp only [List.map_cons]
      unfold lcLoop
      rw [if_pos (wtOk_nil _)]
      obtain ⟨env1, S1, e1, z, S2, e2, rfl, rfl⟩ := hf d (hm d List.mem_cons_self) (.lst acc)
      rw [e1]
      simp only [Out.bind_ok, dYes, if_true, e2]
      rw [if_pos ⟨by simp at hz; omega, by simp⟩]
      have e3 : (S ++ [Cell.lst acc]).set S.length (.lst (acc ++ [f d])) = S ++ [.lst (acc ++ [f d])] := by simp
      rw [e3, ih (acc ++ [f d]) (fun x hx => hm x (List.mem_cons_of_mem _ hx)) (by simp at hz ⊢; omega)]
      simp
  unfold dLc
  rw [hi]
  simp only [Out.bind_ok]
  rw [key ws [] (fun _ h => h) (by simpa using hl)]
  simpa using q
end Law
set_option Elab.async false
set_option linter.all false
set_option maxRecDepth 100000
set_option maxHeartbeats 4000000
namespace Law
open PySem PySem.Spec PyProof.Rows L2 GxR Gx Dn
/-! comprehensions with a test -/
theorem ok_lcF {α : Type} {it : DIf} {g : DGf} {tt : DTf} {te : DEf} {vs : List Nat} {env : Dn.Env} {S : Sto} {e : α → D} {xs : List α} {p : α → Bool} {f : α → D} {Q : Val → Sto → Prop} (hi : it env S = .ok ⟨xs.map e, []⟩ S) (hl : xs.length ≤ szL)
    (hf : ∀ x ∈ xs, ∀ c, Ok (g (.d (e x)) (wipeE env vs) (S ++ [c])) fun env1 S1 => Ok (tt env1 S1) fun b S2 => b = p x ∧ S2 = S ++ [c] ∧ (p x = true → Ok (te env1 S2) fun z S3 => z = .d (f x) ∧ S3 = S ++ [c])) (q : Q (.d (.lst ((xs.filter p).map f))) S) : Ok (dLc it g tt te vs env S) Q := by
  have key : ∀ (es : List α) (acc : List D), (∀ d ∈ es, d ∈ xs) → acc.length + es.length ≤ szL → lcLoop g tt te [] (wipeE env vs) S.length (es.map e) acc (S ++ [.lst acc]) = .ok (acc ++ (es.filter p).map f) (S ++ [.lst (acc ++ (es.filter p).map f)]) := by
    intro es
    induction es with
    | nil =>
      intro acc _ _
      simp only [List.map_nil]
      unfold lcLoop
      rw [if_pos ⟨wtOk_nil _, by simp⟩]
      simp
    | cons d es ih =>
      intro acc hm hz
      simp only [List.map_cons]
      unfold lcLoop
      rw [if_pos (wtOk_nil _)]
      obtain ⟨env1, S1, e1, b, S2, e2, rfl, rfl, h3⟩ := hf d (hm d List.mem_cons_self) (.lst acc)
      rw [e1]
      simp only [Out.bind_ok, e2]
      cases hp : p d with
      | false =>
        simp only [Bool.false_eq_true, if_false]
        rw [ih acc (fun x hx => hm x (List.mem_cons_of_mem _ hx)) (by simp at hz ⊢; omega)]
        simp [hp]
      | true =>
        obtain ⟨z, S3, e3, rfl, rfl⟩ := h3 hp
        simp only [if_true, e3, Out.bind_ok]
        rw [if_pos ⟨by simp at hz; omega, by simp⟩]
        have e4 : (S ++ [Cell.lst acc]).set S.length (.lst (acc ++ [f d])) = S ++ [.lst (acc ++ [f d])] := by simp
        rw [e4, ih (acc ++ [f d]) (fun x hx => hm x (List.mem_cons_of_mem _ hx)) (by simp at hz ⊢; omega)]
        simp [hp]
  unfold dLc
  rw [hi]
  simp only [Out.bind_ok]
  rw [key xs [] (fun _ h => h) (by simpa using hl)]
  simpa using q
end Law
set_option Elab.async false
set_option linter.all false
set_option maxRecDepth 100000
set_option maxHeartbeats 4000000
namespace Law
open PySem PySem.Spec PyProof.Rows L2 GxR Gx Dn
structure UOk (c : Cell) : Prop where
  ex : ∃ a b k : Int, c = wl a b k ∧ 0 ≤ a ∧ 0 ≤ b ∧ b < 2147483563 ∧ 0 ≤ k ∧ k < 2 ^ 200
/-- the third number of the urn grows by one a draw: t is how many draws were made at most -/
structure UT (t : Nat) (c : Cell) : Prop where
  ex : ∃ a b k : Int, c = wl a b k ∧ 0 ≤ a ∧ 0 ≤ b ∧ b < 2147483563 ∧ 0 ≤ k ∧ k ≤ t
theorem UT.mono {t t' : Nat} {c : Cell} (h : UT t c) (l : t ≤ t') : UT t' c := by
  obtain ⟨a, b, k, rfl, h1, h2, h3, h4, h5⟩ := h.ex
  exact ⟨a, b, k, rfl, h1, h2, h3, h4, by omega⟩
theorem log_of {m : Int} {b : Nat} (hm : 0 < m) (hb : 0 < b) (h : m < 2 ^ b) (h9 : b ≤ 9000) : m.natAbs.log2 < 9000 := by
  have := PySem.Flt.log2_lt_of hb (lt_pow (by omega) h)
  omega
theorem pull_spec {n : Nat} {S : Sto} {t : Nat} {c : Cell} {m : Int} (hc : S[n]? = some c) (hw : UT t c) (ht : t < 2 ^ 100) (hm : 0 < m) (hm2 : m < 2 ^ 40) :
    Ok (m__law_pull [.r n, .d (.int m)] S) fun x S' => ∃ (i : Int) (c' : Cell), x = .d (.int i) ∧ 0 ≤ i ∧ i < m ∧ S' = S.set n c' ∧ UT (t + 1) c' := by
  obtain ⟨a, b, k, rfl, ha, hb, hb2, hk, hkt⟩ := hw.ex
  have hn : n < S.length := (List.getElem?_eq_some_iff.mp hc).1
  have hk2 : k < 2 ^ 100 := by
    have h1 : ((t : Nat) : Int) < ((2 ^ 100 : Nat) : Int) := by exact_mod_cast ht
    have e : ((2 ^ 100 : Nat) : Int) = 2 ^ 100 := by decide
    omega
  have k1 : k + 1 < 2 ^ 101 := by
    have : (2 : Int) ^ 100 + 1 < 2 ^ 101 := by decide
    omega
  have c1 : cMul b 39373 = true := cMul_of 32 16 (by decide) (by decide) (by omega) (by decide) (by decide)
  have c2 : cMul (k + 1) 50021 = true := cMul_of 101 16 (by decide) (by decide) (lt_pow (by omega) k1) (by decide) (by decide)
  have hs : ∀ c : Cell, (S.set n c)[n]? = some c := fun c => List.getElem?_set_self hn
  generalize ex : (b * 39373 + (k + 1) * 50021 + 11) % 2147483563 = x
  have x0 : 0 ≤ x := by rw [← ex]; exact Int.emod_nonneg _ (by decide)
  have x1 : x < 2147483563 := by rw [← ex]; exact Int.emod_lt_of_pos _ (by decide)
  have y0 : 0 ≤ x % 6007 := Int.emod_nonneg _ (by decide)
  have y1 : x % 6007 < 6007 := Int.emod_lt_of_pos _ (by decide)
  have c3 : cMul x (x % 6007 + 30011) = true := cMul_of 32 17 (by decide) (by decide) (by omega) (by omega) (by decide)
  have cd : ∀ i : Int, cDiv i 127 = true := fun i => by unfold cDiv; decide
  have lg := log_of hm (by decide) hm2 (by decide)
  unfold m__law_pull
  refine ok_fn ?_
  unfold b__law_pull
  simp (maxSteps := 20000) [hc, wl, ixN, hs, c1, c2, c3, cd, take_set, List.set_set, mod_pos, div_pos, ex, hm, lg, Int.ne_of_gt hm]
  split
  · refine ⟨Int.emod_nonneg _ (by omega), Int.emod_lt_of_pos _ hm, _, rfl, ⟨_, _, _, rfl, Int.ediv_nonneg ha (by omega), hb, hb2, hk, by omega⟩⟩
  · exact ⟨Int.emod_nonneg _ (by omega), Int.emod_lt_of_pos _ hm, _, rfl, ⟨_, _, _, rfl, ha, x0, x1, by omega, by omega⟩⟩
/-- two to the w less one -/
def tw (w : Nat) : Int := 2 ^ (w - 1)
theorem tw_pos (w : Nat) : 0 < tw w := Int.pow_pos (by decide)
theorem tw_le {w : Nat} (h : w ≤ 32) : tw w ≤ 2 ^ 31 := by
  unfold tw
  exact_mod_cast (Nat.pow_le_pow_right (by decide) (by omega : w - 1 ≤ 31) : (2 : Nat) ^ (w - 1) ≤ 2 ^ 31)
theorem tw_two {w : Nat} (h : 1 ≤ w) : 2 * tw w = 2 ^ w := by
  unfold tw
  obtain ⟨k, rfl⟩ : ∃ k, w = k + 1 := ⟨w - 1, by omega⟩
  rw [Nat.add_sub_cancel, Int.pow_succ, Int.mul_comm]
theorem top_eq {w : Nat} (S : Sto) (h1 : 1 ≤ w) (h : w ≤ 32) : m__law_top [.d (.int w)] S = .ok (.d (.int (tw w))) S := by
  refine ok_eq ?_
  unfold m__law_top
  refine ok_fn ?_
  unfold b__law_top
  have sm : smallI ((w : Int) - 1) = true := by unfold smallI; simp; omega
  simp [sm]
  obtain ⟨I, hI⟩ : ∃ I : Nat → Dn.Env → Sto → Prop, ∀ k env S', I k env S' ↔ ∃ e3, env = [some (.d (.int w)), some (.d (.int (2 ^ k))), e3] ∧ S' = S := ⟨_, fun _ _ _ => Iff.rfl⟩
  refine ok_loop (I := I) ((hI _ _ _).mpr ⟨_, rfl, rfl⟩) (fun _ _ _ _ => wtOk_nil _) ?_ ?_
  · rintro k d env S' ed h
    obtain ⟨e3, rfl, rfl⟩ := (hI _ _ _).mp h
    have hk : k < 32 := by
      have := (List.getElem?_eq_some_iff.mp ed).1
      simp [rngD] at this
      omega
    have c1 : cMul (2 ^ k) 2 = true := cMul_of 33 2 (by decide) (by decide) (by
      have : ((2 : Int) ^ k).natAbs = 2 ^ k := by rw [Int.natAbs_pow]; rfl
      rw [this]
      exact Nat.pow_lt_pow_right (by decide) (by omega)) (by decide) (by decide)
    simp [c1]
    exact (hI _ _ _).mpr ⟨_, by rw [Int.pow_succ], rfl⟩
  · rintro env S' h
    obtain ⟨e3, rfl, rfl⟩ := (hI _ _ _).mp h
    simp [rngD, tw]
/-- the word -/
def wr (w : Nat) (n : Int) : Int := (n + tw w) % (2 * tw w) - tw w
theorem wr_bd (w : Nat) (n : Int) : -tw w ≤ wr w n ∧ wr w n < tw w := by
  have h := tw_pos w
  have h1 := Int.emod_nonneg (n + tw w) (by omega : 2 * tw w ≠ 0)
  have h2 := Int.emod_lt_of_pos (n + tw w) (by omega : 0 < 2 * tw w)
  unfold wr
  omega
theorem wr_wr (w : Nat) (n o : Int) : wr w (wr w n * o + o) = wr w (n * o + o) := by
  have e : ∃ q, wr w n = n + 2 * tw w * q := by
    have := Int.emod_def (n + tw w) (2 * tw w)
    exact ⟨-((n + tw w) / (2 * tw w)), by unfold wr; rw [this]; rw [Int.mul_neg]; omega⟩
  obtain ⟨q, e⟩ := e
  rw [e]
  unfold wr
  have : (n + 2 * tw w * q) * o + o + tw w = (n * o + o + tw w) + 2 * tw w * (q * o) := by
    rw [Int.add_mul, Int.mul_assoc (2 * tw w)]; omega
  rw [this, Int.add_mul_emod_self_left]
theorem shift_ok {w : Nat} (h : w ≤ 32) : cPow 1 w = true := by
  unfold cPow; simp; omega
theorem least_eq {w : Nat} (S : Sto) (h1 : 1 ≤ w) (h : w ≤ 32) : m_least_word [.d (.int w)] S = .ok (.d (.int (-tw w))) S := by
  refine ok_eq ?_
  unfold m_least_word
  refine ok_fn ?_
  unfold b_least_word
  have e : (w : Int) - 1 = ((w - 1 : Nat) : Int) := by omega
  have c1 := shift_ok (w := w - 1) (by omega)
  simp [e, c1, tw]
theorem wrapped_word_eq {w : Nat} {n : Int} (S : Sto) (h1 : 1 ≤ w) (h : w ≤ 32) : m_wrapped_word [.d (.int w), .d (.int n)] S = .ok (.d (.int (wr w n))) S := by
  refine ok_eq ?_
  unfold m_wrapped_word
  refine ok_fn ?_
  unfold b_wrapped_word
  have t0 := tw_pos w
  have c1 := shift_ok h
  have e2 := tw_two h1
  have p0 : (0 : Int) < 2 ^ w := by omega
  simp [least_eq _ h1 h, c1, mod_pos p0]
  refine ⟨by omega, ?_⟩
  rw [← e2]
  unfold wr
  omega
theorem is_width_eq {w : Nat} (S : Sto) (h1 : 4 ≤ w) (h : w ≤ 32) : m_is_width [.d (.int w)] S = .ok (.d (.bl true)) S := by
  refine ok_eq ?_
  unfold m_is_width
  refine ok_fn ?_
  unfold b_is_width
  have := is_whole_from_eq (d := .int w) (lo := 4) (hi := 32) S rfl
  simp [this, fromB]
  omega
theorem check_width_eq {w : Nat} (S : Sto) (h1 : 4 ≤ w) (h : w ≤ 32) : m_check_width [.d (.int w)] S = .ok (.d .non) S := by
  refine ok_eq ?_
  unfold m_check_width
  refine ok_fn ?_
  unfold b_check_width
  simp [is_width_eq S h1 h]
theorem greatest_eq {w : Nat} (S : Sto) (h1 : 1 ≤ w) (h : w ≤ 32) : m_greatest_word [.d (.int w)] S = .ok (.d (.int (tw w - 1))) S := by
  refine ok_eq ?_
  unfold m_greatest_word
  refine ok_fn ?_
  unfold b_greatest_word
  have e : (w : Int) - 1 = ((w - 1 : Nat) : Int) := by omega
  have c1 := shift_ok (w := w - 1) (by omega)
  simp [e, c1, tw]
theorem is_word_eq {w : Nat} {i : Int} (S : Sto) (h1 : 1 ≤ w) (h : w ≤ 32) (hi : -tw w ≤ i ∧ i < tw w) : m_is_word [.d (.int w), .d (.int i)] S = .ok (.d (.bl true)) S := by
  refine ok_eq ?_
  unfold m_is_word
  refine ok_fn ?_
  unfold b_is_word
  have := is_whole_from_eq (d := .int i) (lo := -tw w) (hi := tw w - 1) S rfl
  simp [least_eq _ h1 h, greatest_eq _ h1 h, this, fromB]
  omega
theorem shl_lst {h m : Nat} {ds : List D} (hx : ∀ x ∈ ds, shl h m x) : shl (h + 1) (ds.length * (m + 2) + 3) (.lst ds) := by
  obtain ⟨ps, e, el, q⟩ := pys_of (Q := fun p => p.showable = true ∧ p.hasDict = false ∧ p.depth ≤ h ∧ p.shown.length ≤ m) fun x hm => (hx x hm).ex
  obtain ⟨s1, s2⟩ := show_all fun p hp => ⟨(q p hp).1, (q p hp).2.1⟩
  obtain ⟨l1, l2⟩ := shown_all fun p hp => (q p hp).2.2.2
  have dd := depth_all fun p hp => (q p hp).2.2.1
  refine ⟨.list ps, by simp [D.py, e], by simpa only [PyData.showable] using s1, by simpa only [PyData.hasDict] using s2, by simp only [PyData.depth]; omega, ?_⟩
  simp only [PyData.shown]
  rw [listText_eq_join, strLen_append, strLen_append]
  have e1 : ("]" : Str).length = 1 := rfl
  have e2 : ("[" : Str).length = 1 := rfl
  have e3 : (Str.join ", " (PyData.shownAll ps)).length ≤ piled (PyData.shownAll ps) := by
    by_cases z : PyData.shownAll ps = []
    · rw [z]; decide
    · have := join_length_add _ z
      omega
  rw [el] at l2
  omega
structure Du (n : Nat) (S : Sto) (t : Nat) (P : D → Prop) (x : Val) (S' : Sto) : Prop where
  ex : ∃ d c', x = .d d ∧ P d ∧ S' = S.set n c' ∧ UT t c'
section
variable {n t : Nat} {S : Sto} {c : Cell}
theorem one_spec {ds : List D} (hc : S[n]? = some c) (hw : UT t c) (ht : t < 2 ^ 100) (h0 : 0 < ds.length) (hl : ds.length < 1000) : Ok (m__law_one [.r n, .d (.tup ds)] S) (Du n S (t + 1) (· ∈ ds)) := by
  unfold m__law_one
  refine ok_fn ?_
  unfold b__law_one
  simp
  refine (pull_spec hc hw ht (by omega) (by omega)).mono ?_
  rintro _ _ ⟨j, c2, rfl, j0, j1, rfl, w2⟩
  obtain ⟨x, e, hx⟩ := atI_mem (xs := ds) j0 j1
  simp [e, take_set]
  exact ⟨x, c2, rfl, hx, rfl, w2⟩
def wordD (w : Nat) (d : D) : Prop := ∃ i : Int, d = .int i ∧ -tw w ≤ i ∧ i < tw w
theorem word_spec {w : Nat} (hc : S[n]? = some c) (hw : UT t c) (ht : t < 2 ^ 99) (h1 : 1 ≤ w) (h : w ≤ 32) : Ok (m__law_word [.r n, .d (.int w)] S) (Du n S (t + 3) (wordD w)) := by
  have t0 := tw_pos w
  have t1 := tw_le h
  have c1 : cMul 2 (tw w) = true := cMul_of 2 33 (by decide) (by decide) (by decide) (by omega) (by decide)
  unfold m__law_word
  refine ok_fn ?_
  unfold b__law_word
  simp [top_eq S h1 h, c1]
  refine (pull_spec hc hw (by omega) (by omega) (by omega)).mono ?_
  rintro _ _ ⟨j, c2, rfl, j0, j1, rfl, w2⟩
  simp
  refine (pull_spec (set_at hc c2) w2 (by omega) (by omega) (by omega)).mono ?_
  rintro _ _ ⟨k, c3, rfl, k0, k1, rfl, w3⟩
  simp [szL]
  refine (one_spec (by simpa using set_at hc c3) w3 (by omega) (by simp) (by simp)).mono ?_
  rintro x S' ⟨d, c4, rfl, hd, rfl, w4⟩
  have hi : ∃ i : Int, d = .int i := by
    simp at hd
    rcases hd with rfl | rfl | rfl | rfl | rfl | rfl | rfl | rfl | rfl | rfl | rfl | rfl <;> exact ⟨_, rfl⟩
  obtain ⟨i, rfl⟩ := hi
  simp [take_set, List.set_set]
  refine ⟨_, c4, rfl, ⟨_, rfl, ?_⟩, rfl, w4⟩
  split <;> split <;> constructor <;> omega
theorem cMul_lt {i j : Int} (a b : Nat) (ha : 0 < a) (hb : 0 < b) (hi : -(2 ^ a) < i ∧ i < 2 ^ a) (hj : -(2 ^ b) < j ∧ j < 2 ^ b) (h : a + b ≤ 1000000) : cMul i j = true := by
  refine cMul_of a b ha hb ?_ ?_ h
  · have : (i.natAbs : Int) < 2 ^ a := by omega
    exact_mod_cast this
  · have : (j.natAbs : Int) < 2 ^ b := by omega
    exact_mod_cast this
theorem nat_lt {i : Int} {a : Nat} (hi : -(2 ^ a) < i ∧ i < 2 ^ a) : i.natAbs < 2 ^ a := by
  have : (i.natAbs : Int) < 2 ^ a := by omega
  exact_mod_cast this
end
theorem urn_spec {ns : List Int} {k : Nat} {S : Sto} (hk : k ≤ 2) (hl : ns.length ≤ 63) : Ok (m__law_urn [.d (.con (ns.map .int)), .d (.int k)] S) (Nw S (UT 0)) := by
  have c1 : cMul 311 k = true := cMul_of 10 8 (by decide) (by decide) (by decide) (by omega) (by decide)
  have cp : cPow 10 16 = true := by decide
  unfold m__law_urn
  refine ok_fn ?_
  unfold b__law_urn
  rw [dSeq_eq, ok_bind]
  obtain ⟨Q, hQ⟩ : ∃ Q : Dn.Fl → Sto → Prop, ∀ fl S2, Q fl S2 ↔ ∃ own : Int, fl = .nx [some (.d (.con (ns.map .int))), some (.d (.int k)), some (.d (.int own)), none, none] ∧ S2 = S := ⟨_, fun _ _ => Iff.rfl⟩
  refine Ok.mono (Q := Q) ?_ ?_
  · simp
    by_cases q : k < ns.length
    · obtain ⟨x, e, hx⟩ := atI_mem (xs := ns.map D.int) (j := (k : Int)) (by omega) (by simp; omega)
      obtain ⟨i, hi, rfl⟩ := List.mem_map.mp hx
      simp [q, e]
      exact (hQ _ _).mpr ⟨_, rfl, rfl⟩
    · simp [q]
      exact (hQ _ _).mpr ⟨_, rfl, rfl⟩
  · rintro fl S2 h
    obtain ⟨own, rfl, rfl⟩ := (hQ _ _).mp h
    simp [-dFor_eq, c1]
    rw [dFor_eq, ok_bind]
    simp
    obtain ⟨I, hI⟩ : ∃ I : Nat → Dn.Env → Sto → Prop, ∀ i env S', I i env S' ↔ ∃ (seed : Int) (e4 : Option Val), env = [some (.d (.con (ns.map .int))), some (.d (.int k)), some (.d (.int own)), some (.d (.int seed)), e4] ∧ S' = S2 ∧ 0 ≤ seed ∧ seed < 2147483563 := ⟨_, fun _ _ _ => Iff.rfl⟩
    refine ok_loop (I := I) ((hI _ _ _).mpr ⟨_, _, rfl, rfl, by omega, by omega⟩) (fun _ _ _ _ => wtOk_nil _) ?_ ?_
    · rintro i d env S' ed h
      obtain ⟨seed, e4, rfl, rfl, s0, s1⟩ := (hI _ _ _).mp h
      obtain ⟨z, hz, rfl⟩ := List.mem_map.mp (cutL_mem (List.mem_of_getElem? ed))
      have c2 : cMul seed 60013 = true := cMul_of 32 16 (by decide) (by decide) (by omega) (by decide) (by decide)
      simp [c2]
      refine (hI _ _ _).mpr ⟨_, _, rfl, rfl, ?_, ?_⟩
      · rw [mod_pos (by decide)]; exact Int.emod_nonneg _ (by decide)
      · rw [mod_pos (by decide)]; exact Int.emod_lt_of_pos _ (by decide)
    · rintro env S' h
      obtain ⟨seed, e4, rfl, rfl, s0, s1⟩ := (hI _ _ _).mp h
      have m0 : 0 ≤ own.fmod 2147483417 := by rw [mod_pos (by decide)]; exact Int.emod_nonneg _ (by decide)
      have m1 : own.fmod 2147483417 < 2147483417 := by rw [mod_pos (by decide)]; exact Int.emod_lt_of_pos _ (by decide)
      have c2 : cMul seed 53 = true := cMul_of 32 16 (by decide) (by decide) (by omega) (by decide) (by decide)
      have c3 : cMul (own.fmod 2147483417) 20011 = true := cMul_of 32 16 (by decide) (by decide) (by omega) (by decide) (by decide)
      have fin : ∀ a b : Int, 0 ≤ a → Ok (dFin S' (.r S'.length) (S' ++ [.lst [.int a, .int (b.fmod 2147483563), .int 0]])) (Nw S' (UT 0)) := fun a b ha => by
        rw [dFin_new, ok_ok]
        refine ⟨_, rfl, rfl, a, _, 0, rfl, ha, ?_, ?_, by decide, by decide⟩
        · rw [mod_pos (by decide)]; exact Int.emod_nonneg _ (by decide)
        · rw [mod_pos (by decide)]; exact Int.emod_lt_of_pos _ (by decide)
      simp [c2, c3, cp, szL]
      by_cases q1 : own < 0
      · simp [q1]
        exact fin _ _ (by omega)
      · by_cases q2 : 10000000000000000 ≤ own
        · simp [q1, q2]
          exact fin _ _ (by omega)
        · simp [q1, q2]
          exact fin _ _ (by omega)
end Law
set_option Elab.async false
set_option linter.all false
set_option maxRecDepth 100000
set_option maxHeartbeats 4000000
namespace Law
open PySem PySem.Spec PyProof.Rows L2 GxR Gx Dn
/-- a machine's row -/
inductive Rw where
  | put (t : Nat) (v : Int) | copy (t a : Nat) | add (t a b : Nat) | less (t a b : Nat) | times (t a : Nat) (v : Int) | jump (r : Nat) | below (a b r : Nat) | stop
def Rw.d : Rw → D
  | .put t v => .tup [.str "put", .int t, .int v]
  | .copy t a => .tup [.str "copy", .int t, .int a]
  | .add t a b => .tup [.str "add", .int t, .int a, .int b]
  | .less t a b => .tup [.str "less", .int t, .int a, .int b]
  | .times t a v => .tup [.str "times", .int t, .int a, .int v]
  | .jump r => .tup [.str "jump", .int r]
  | .below a b r => .tup [.str "below", .int a, .int b, .int r]
  | .stop => .tup [.str "stop"]
/-- right as the row k of n, over m cells -/
def Rw.ok (w k n m : Nat) : Rw → Prop
  | .put t v => t < m ∧ -tw w ≤ v ∧ v < tw w
  | .copy t a => t < m ∧ a < m
  | .add t a b => t < m ∧ a < m ∧ b < m
  | .less t a b => t < m ∧ a < m ∧ b < m
  | .times t a v => t < m ∧ a < m ∧ -tw w ≤ v ∧ v < tw w
  | .jump r => k < r ∧ r < n
  | .below a b r => a < m ∧ b < m ∧ k < r ∧ r < n
  | .stop => True
@[simp] theorem dLoop_nil (g : DGf) (body : DSf) (env : Dn.Env) (S : Sto) : dLoop g body [] [] env S = .ok (.nx env) S := by
  unfold dLoop
  rw [if_pos (wtOk_nil _)]
def goOn (k : Dn.Env → Sto → Out Dn.Fl) (fl : Dn.Fl) (S : Sto) : Out Dn.Fl := match fl with
  | .nx e => k e S
  | .cnt e => k e S
  | .brk e => .ok (.nx e) S
  | .ret x => .ok (.ret x) S
@[simp] theorem goOn_nx (k : Dn.Env → Sto → Out Dn.Fl) (e : Dn.Env) (S : Sto) : goOn k (.nx e) S = k e S := (rfl)
@[simp] theorem goOn_ret (k : Dn.Env → Sto → Out Dn.Fl) (e : Val) (S : Sto) : goOn k (.ret e) S = .ok (.ret e) S := (rfl)
theorem dLoop_cons (g : DGf) (body : DSf) (d : D) (ds : List D) (env : Dn.Env) (S : Sto) : dLoop g body [] (d :: ds) env S = (g (.d d) env S).bind fun env1 S1 => (body env1 S1).bind (goOn (dLoop g body [] ds)) := by
  conv => lhs; unfold dLoop
  rw [if_pos (wtOk_nil _)]
  congr 1
def getT (o : Option (List Str)) (S : Sto) : Out Val := match o with
  | some xs => .ok (.d (.tup (xs.map .str))) S
  | none => .bad
@[simp] theorem getT_some (xs : List Str) (S : Sto) : getT (some xs) S = .ok (.d (.tup (xs.map .str))) S := (rfl)
def getTv (tb : Tb) (y : Val) (S : Sto) : Out Val := match y with
  | .d (.str z) => getT (tb.lookup z) S
  | _ => .bad
@[simp] theorem getTv_str (tb : Tb) (z : Str) (S : Sto) : getTv tb (.d (.str z)) S = getT (tb.lookup z) S := (rfl)
@[simp] theorem dGix_eq (tb : Tb) (F : DEf) (env : Dn.Env) (S : Sto) : dGix tb F env S = (F env S).bind (getTv tb) := by
  unfold dGix
  congr 1
def getT2 (o : Option (List Str)) (S : Sto) : Out Val := match o with
  | some xs => .ok (.d (.tup (xs.map .str))) S
  | none => .ok (.d .non) S
@[simp] theorem getT2_some (xs : List Str) (S : Sto) : getT2 (some xs) S = .ok (.d (.tup (xs.map .str))) S := (rfl)
def getTv2 (tb : Tb) (y : Val) (S : Sto) : Out Val := match y with
  | .d (.str z) => getT2 (tb.lookup z) S
  | .d .non => .ok (.d .non) S
  | _ => .bad
@[simp] theorem getTv2_str (tb : Tb) (z : Str) (S : Sto) : getTv2 tb (.d (.str z)) S = getT2 (tb.lookup z) S := (rfl)
@[simp] theorem getTv2_non (tb : Tb) (S : Sto) : getTv2 tb (.d .non) S = .ok (.d .non) S := (rfl)
@[simp] theorem dGget_eq (tb : Tb) (F : DEf) (env : Dn.Env) (S : Sto) : dGget tb F env S = (F env S).bind (getTv2 tb) := by
  unfold dGget
  congr 1
@[simp] theorem iMx_tt (xs ys : List D) (S : Sto) : Dn.iMx [.d (.tup xs), .d (.tup ys)] S = .ok ⟨(xs.zip ys).map fun p => .tup [p.1, p.2], []⟩ S := (rfl)
theorem head_of_eq {z : Str} {ds : List D} (S : Sto) : m_head_of [.d (.tup (.str z :: ds))] S = .ok (.d (.str z)) S := by
  refine ok_eq ?_
  unfold m_head_of
  refine ok_fn ?_
  unfold b_head_of
  simp [isi]
theorem lk_put : tb_ROW_PARTS.lookup ("put" : Str) = some (["cell", "word"] : List Str) := by decide +kernel
theorem lk_copy : tb_ROW_PARTS.lookup ("copy" : Str) = some (["cell", "cell"] : List Str) := by decide +kernel
theorem lk_add : tb_ROW_PARTS.lookup ("add" : Str) = some (["cell", "cell", "cell"] : List Str) := by decide +kernel
theorem lk_less : tb_ROW_PARTS.lookup ("less" : Str) = some (["cell", "cell", "cell"] : List Str) := by decide +kernel
theorem lk_times : tb_ROW_PARTS.lookup ("times" : Str) = some (["cell", "cell", "word"] : List Str) := by decide +kernel
theorem lk_jump : tb_ROW_PARTS.lookup ("jump" : Str) = some (["row"] : List Str) := by decide +kernel
theorem lk_below : tb_ROW_PARTS.lookup ("below" : Str) = some (["cell", "cell", "row"] : List Str) := by decide +kernel
theorem lk_stop : tb_ROW_PARTS.lookup ("stop" : Str) = some ([] : List Str) := by decide +kernel
theorem snc : ("cell" : Str) ≠ "word" ∧ ("cell" : Str) ≠ "row" ∧ ("word" : Str) ≠ "cell" ∧ ("word" : Str) ≠ "row" ∧ ("row" : Str) ≠ "cell" ∧ ("row" : Str) ≠ "word" := by decide +kernel
theorem snn : ("put" : Str) ≠ "copy" ∧ ("put" : Str) ≠ "add" ∧ ("put" : Str) ≠ "less" ∧ ("put" : Str) ≠ "times" ∧ ("put" : Str) ≠ "jump" ∧ ("put" : Str) ≠ "below" ∧ ("put" : Str) ≠ "stop" ∧ ("copy" : Str) ≠ "put" ∧ ("copy" : Str) ≠ "add" ∧ ("copy" : Str) ≠ "less" ∧ ("copy" : Str) ≠ "times" ∧ ("copy" : Str) ≠ "jump" ∧ ("copy" : Str) ≠ "below" ∧ ("copy" : Str) ≠ "stop" ∧ ("add" : Str) ≠ "put" ∧ ("add" : Str) ≠ "copy" ∧ ("add" : Str) ≠ "less" ∧ ("add" : Str) ≠ "times" ∧ ("add" : Str) ≠ "jump" ∧ ("add" : Str) ≠ "below" ∧ ("add" : Str) ≠ "stop" ∧ ("less" : Str) ≠ "put" ∧ ("less" : Str) ≠ "copy" ∧ ("less" : Str) ≠ "add" ∧ ("less" : Str) ≠ "times" ∧ ("less" : Str) ≠ "jump" ∧ ("less" : Str) ≠ "below" ∧ ("less" : Str) ≠ "stop" ∧ ("times" : Str) ≠ "put" ∧ ("times" : Str) ≠ "copy" ∧ ("times" : Str) ≠ "add" ∧ ("times" : Str) ≠ "less" ∧ ("times" : Str) ≠ "jump" ∧ ("times" : Str) ≠ "below" ∧ ("times" : Str) ≠ "stop" ∧ ("jump" : Str) ≠ "put" ∧ ("jump" : Str) ≠ "copy" ∧ ("jump" : Str) ≠ "add" ∧ ("jump" : Str) ≠ "less" ∧ ("jump" : Str) ≠ "times" ∧ ("jump" : Str) ≠ "below" ∧ ("jump" : Str) ≠ "stop" ∧ ("below" : Str) ≠ "put" ∧ ("below" : Str) ≠ "copy" ∧ ("below" : Str) ≠ "add" ∧ ("below" : Str) ≠ "less" ∧ ("below" : Str) ≠ "times" ∧ ("below" : Str) ≠ "jump" ∧ ("below" : Str) ≠ "stop" ∧ ("stop" : Str) ≠ "put" ∧ ("stop" : Str) ≠ "copy" ∧ ("stop" : Str) ≠ "add" ∧ ("stop" : Str) ≠ "less" ∧ ("stop" : Str) ≠ "times" ∧ ("stop" : Str) ≠ "jump" ∧ ("stop" : Str) ≠ "below" := by and_intros <;> decide +kernel
@[simp] theorem isNon_tup (ds : List D) : Dn.isNon (.tup ds) = false := (rfl)
theorem sx1 : HT.sIx 1 0 (some 1) = 1 ∧ HT.sIx 1 1 none = 1 := by decide
theorem sx2 : HT.sIx 2 0 (some 1) = 1 ∧ HT.sIx 2 2 none = 2 := by decide
theorem sx3 : HT.sIx 3 0 (some 1) = 1 ∧ HT.sIx 3 3 none = 3 := by decide
theorem sx4 : HT.sIx 4 0 (some 1) = 1 ∧ HT.sIx 4 4 none = 4 := by decide
theorem idx_eq {t : Nat} {n : Int} (S : Sto) (h : (t : Int) < n) : m_is_index [.d (.int t), .d (.int n)] S = .ok (.d (.bl true)) S := by
  rw [is_index_eq S rfl]
  simp [idxB, h]
theorem is_program_row_eq {w k n m : Nat} {r : Rw} (S : Sto) (h1 : 1 ≤ w) (h : w ≤ 32) (hr : r.ok w k n m) (hm : m ≤ 128) : m_is_program_row [.d (.int w), .d r.d, .d (.int k), .d (.int n)] S = .ok (.d (.bl true)) S := by
  have ix : ∀ (t : Nat) (S : Sto), t < m → m_is_index [.d (.int t), .d (.int 128)] S = .ok (.d (.bl true)) S := fun t S ht => idx_eq S (by omega)
  have ixn : ∀ (t : Nat) (S : Sto), t < n → m_is_index [.d (.int t), .d (.int n)] S = .ok (.d (.bl true)) S := fun t S ht => idx_eq S (by omega)
  refine ok_eq ?_
  unfold m_is_program_row
  refine ok_fn ?_
  unfold b_is_program_row
  cases r with
  | put t v =>
    simp only [Rw.ok] at hr
    simp [Rw.d, head_of_eq, lk_put, dLoop_cons, ix _ _ hr.1, is_word_eq _ h1 h hr.2, cutL, sx1, sx2, sx3, sx4, snc]
  | copy t a =>
    simp only [Rw.ok] at hr
    simp [Rw.d, head_of_eq, lk_copy, dLoop_cons, ix _ _ hr.1, ix _ _ hr.2, cutL, sx1, sx2, sx3, sx4, snc]
  | add t a b =>
    simp only [Rw.ok] at hr
    simp [Rw.d, head_of_eq, lk_add, dLoop_cons, ix _ _ hr.1, ix _ _ hr.2.1, ix _ _ hr.2.2, cutL, sx1, sx2, sx3, sx4, snc]
  | less t a b =>
    simp only [Rw.ok] at hr
    simp [Rw.d, head_of_eq, lk_less, dLoop_cons, ix _ _ hr.1, ix _ _ hr.2.1, ix _ _ hr.2.2, cutL, sx1, sx2, sx3, sx4, snc]
  | times t a v =>
    simp only [Rw.ok] at hr
    simp [Rw.d, head_of_eq, lk_times, dLoop_cons, ix _ _ hr.1, ix _ _ hr.2.1, is_word_eq _ h1 h hr.2.2, cutL, sx1, sx2, sx3, sx4, snc]
  | jump r =>
    simp only [Rw.ok] at hr
    simp [Rw.d, head_of_eq, lk_jump, dLoop_cons, ixn _ _ hr.2, hr.1, cutL, sx1, sx2, sx3, sx4, snc]
  | below a b r =>
    simp only [Rw.ok] at hr
    simp [Rw.d, head_of_eq, lk_below, dLoop_cons, ix _ _ hr.1, ix _ _ hr.2.1, ixn _ _ hr.2.2.2, hr.2.2.1, cutL, sx1, sx2, sx3, sx4, snc]
  | stop =>
    simp [Rw.d, head_of_eq, lk_stop, dLoop_cons, cutL, sx1, sx2, sx3, sx4, snc]
end Law
set_option Elab.async false
set_option linter.all false
set_option maxRecDepth 100000
set_option maxHeartbeats 4000000
namespace Law
open PySem PySem.Spec PyProof.Rows L2 GxR Gx Dn
def Rw.nm : Rw → Str
  | .put _ _ => "put" | .copy _ _ => "copy" | .add _ _ _ => "add" | .less _ _ _ => "less" | .times _ _ _ => "times" | .jump _ => "jump" | .below _ _ _ => "below" | .stop => "stop"
def Rw.args : Rw → List D
  | .put t v => [.int t, .int v]
  | .copy t a => [.int t, .int a]
  | .add t a b => [.int t, .int a, .int b]
  | .less t a b => [.int t, .int a, .int b]
  | .times t a v => [.int t, .int a, .int v]
  | .jump r => [.int r]
  | .below a b r => [.int a, .int b, .int r]
  | .stop => []
def Rw.parts : Rw → List Str
  | .put _ _ => ["cell", "word"] | .copy _ _ => ["cell", "cell"] | .add _ _ _ => ["cell", "cell", "cell"] | .less _ _ _ => ["cell", "cell", "cell"] | .times _ _ _ => ["cell", "cell", "word"] | .jump _ => ["row"] | .below _ _ _ => ["cell", "cell", "row"] | .stop => []
def Rw.cells : Rw → List Nat
  | .put t _ => [t] | .copy t a => [t, a] | .add t a b => [t, a, b] | .less t a b => [t, a, b] | .times t a _ => [t, a] | .jump _ => [] | .below a b _ => [a, b] | .stop => []
theorem Rw.d_eq (r : Rw) : r.d = .tup (.str r.nm :: r.args) := by cases r <;> rfl
theorem Rw.lk (r : Rw) : tb_ROW_PARTS.lookup r.nm = some r.parts := by
  cases r
  · exact lk_put
  · exact lk_copy
  · exact lk_add
  · exact lk_less
  · exact lk_times
  · exact lk_jump
  · exact lk_below
  · exact lk_stop
theorem Rw.nm_stop {r : Rw} : r.nm = "stop" ↔ r = .stop := by cases r <;> simp [Rw.nm, snn]
structure CodeOk (w m : Nat) (rs : List Rw) : Prop where
  pos : 0 < rs.length
  len : rs.length ≤ 100
  each : ∀ (k : Nat) (r : Rw), rs[k]? = some r → r.ok w k rs.length m
  last : rs[rs.length - 1]? = some .stop
  cm : m ≤ 128
  c0 : 1 ≤ m
def code (rs : List Rw) : D := .tup (rs.map Rw.d)
def cellsD (cs : List Int) : D := .tup (cs.map .int)
def Words (w : Nat) (cs : List Int) : Prop := ∀ x ∈ cs, -tw w ≤ x ∧ x < tw w
section
variable {w m : Nat} {rs : List Rw} {cs : List Int}
theorem wrong_row_eq (S : Sto) (h1 : 1 ≤ w) (h : w ≤ 32) (c : CodeOk w m rs) : m_wrong_row [.d (.int w), .d (code rs)] S = .ok (.d .non) S := by
  refine ok_eq ?_
  unfold m_wrong_row
  refine ok_fn ?_
  unfold b_wrong_row
  simp [code]
  obtain ⟨I, hI⟩ : ∃ I : Nat → Dn.Env → Sto → Prop, ∀ j env S', I j env S' ↔ ∃ e2 e3, env = [some (.d (.int w)), some (.d (.tup (rs.map Rw.d))), e2, e3] ∧ S' = S := ⟨_, fun _ _ _ => Iff.rfl⟩
  refine ok_loop (I := I) ((hI _ _ _).mpr ⟨none, none, rfl, rfl⟩) (fun _ _ _ _ => wtOk_nil _) ?_ ?_
  · rintro j d env S' ed h'
    obtain ⟨e2, e3, rfl, rfl⟩ := (hI _ _ _).mp h'
    obtain ⟨x, ex, rfl⟩ := enD_at ed
    rw [List.getElem?_map] at ex
    obtain ⟨r, er, rfl⟩ := Option.map_eq_some_iff.mp ex
    simp [is_program_row_eq (n := rs.length) S' h1 h (c.each j r er) c.cm]
    have fin : I (j + 1) [some (.d (.int w)), some (.d (.tup (rs.map Rw.d))), some (.d (.int j)), some (.d r.d)] S' := (hI _ _ _).mpr ⟨_, _, rfl, rfl⟩
    by_cases q : (j : Int) = (rs.length : Int) - 1
    · have hj : j = rs.length - 1 := by have := c.pos; omega
      have e := c.last
      rw [← hj, er] at e
      cases e
      simp [q, Rw.d]
      simpa [q, Rw.d] using fin
    · simp [q]
      exact fin
  · rintro env S' h'
    obtain ⟨e2, e3, rfl, rfl⟩ := (hI _ _ _).mp h'
    simp
theorem check_words_eq (S : Sto) (h1 : 1 ≤ w) (h : w ≤ 32) (hc : Words w cs) : m_check_words [.d (.int w), .d (cellsD cs)] S = .ok (.d .non) S := by
  refine ok_eq ?_
  unfold m_check_words
  refine ok_fn ?_
  unfold b_check_words
  simp [cellsD]
  obtain ⟨I, hI⟩ : ∃ I : Nat → Dn.Env → Sto → Prop, ∀ j env S', I j env S' ↔ ∃ e2 e3, env = [some (.d (.int w)), some (.d (.tup (cs.map .int))), e2, e3] ∧ S' = S := ⟨_, fun _ _ _ => Iff.rfl⟩
  refine ok_loop (I := I) ((hI _ _ _).mpr ⟨none, none, rfl, rfl⟩) (fun _ _ _ _ => wtOk_nil _) ?_ ?_
  · rintro j d env S' ed h'
    obtain ⟨e2, e3, rfl, rfl⟩ := (hI _ _ _).mp h'
    obtain ⟨x, ex, rfl⟩ := enD_at ed
    rw [List.getElem?_map] at ex
    obtain ⟨i, ei, rfl⟩ := Option.map_eq_some_iff.mp ex
    simp [is_word_eq _ h1 h (hc i (List.mem_of_getElem? ei))]
    exact (hI _ _ _).mpr ⟨_, _, rfl, rfl⟩
  · rintro env S' h'
    obtain ⟨e2, e3, rfl, rfl⟩ := (hI _ _ _).mp h'
    simp
theorem cells_named_eq (S : Sto) (r : Rw) : m_cells_named [.d r.d] S = .ok (.d (.lst (r.cells.map fun c : Nat => D.int c))) S := by
  refine ok_eq ?_
  unfold m_cells_named
  refine ok_fn ?_
  unfold b_cells_named
  rw [Rw.d_eq]
  have hp : r.parts.length ≤ 3 := by cases r <;> simp [Rw.parts]
  have ha : r.args.length ≤ 3 := by cases r <;> simp [Rw.args]
  have hit : (diMx (dCons (dGix tb_ROW_PARTS (dOp oIx (dVar 0) (dC (.int 0)))) (dCons (dSl (dVar 0) (dO1 (dC (.int 1))) dO0) dNil))) [some (.d (.tup (.str r.nm :: r.args))), none, none] S = .ok ⟨(r.parts.zip r.args).map (fun p => D.tup [.str p.1, p.2]), []⟩ S := by
    have e : cutL (D.str r.nm :: r.args) (some 1) none = r.args := by
      cases r <;> simp [Rw.args, cutL, sx1, sx2, sx3, sx4]
    simp [Rw.lk, e, List.zip_map_left, Function.comp_def]
  simp only [List.map_cons, List.map_nil, List.length_cons, List.length_nil]
  rw [dRet_eq, ok_bind]
  refine ok_lcF (α := Str × D) (e := fun p => .tup [.str p.1, p.2]) (xs := r.parts.zip r.args) (p := fun p => decide (p.1 = "cell")) (f := (·.2)) hit (by simp [szL]; omega) ?_ ?_
  · rintro ⟨a, b⟩ hx c
    simp [wipeE]
  · simp
    cases r <;> simp [Rw.parts, Rw.args, Rw.cells, snc]
end
end Law
set_option Elab.async false
set_option linter.all false
set_option maxRecDepth 100000
set_option maxHeartbeats 4000000
namespace Law
open PySem PySem.Spec PyProof.Rows L2 GxR Gx Dn
def Rw.step (w at_ : Nat) (cs : List Int) : Rw → Nat × List Int
  | .put t v => (at_ + 1, cs.set t v)
  | .copy t a => (at_ + 1, cs.set t (cs.getD a 0))
  | .add t a b => (at_ + 1, cs.set t (wr w (cs.getD a 0 + cs.getD b 0)))
  | .less t a b => (at_ + 1, cs.set t (wr w (cs.getD a 0 - cs.getD b 0)))
  | .times t a v => (at_ + 1, cs.set t (wr w (cs.getD a 0 * v)))
  | .jump r => (r, cs)
  | .below a b r => (if cs.getD a 0 < cs.getD b 0 then r else at_ + 1, cs)
  | .stop => (at_, cs)
inductive Run (w : Nat) (rs : List Rw) : Nat → List Int → List Int → Prop where
  | stop {at_ : Nat} {cs : List Int} (h : rs[at_]? = some .stop) : Run w rs at_ cs cs
  | go {at_ : Nat} {cs fin : List Int} {r : Rw} (h : rs[at_]? = some r) (n : r ≠ .stop) (t : Run w rs (r.step w at_ cs).1 (r.step w at_ cs).2 fin) : Run w rs at_ cs fin
section
variable {w m k n : Nat} {rs : List Rw} {cs fin : List Int} {r : Rw} {S : Sto} {L : Nat}
theorem getD_in {cs : List Int} {a : Nat} (h : a < cs.length) : cs.getD a 0 ∈ cs := by
  rw [List.getD_eq_getElem?_getD, List.getElem?_eq_getElem h]
  exact List.getElem_mem h
theorem words_set {t : Nat} {v : Int} (hc : Words w cs) (hv : -tw w ≤ v ∧ v < tw w) : Words w (cs.set t v) := fun x hx => by
  rcases List.mem_or_eq_of_mem_set hx with q | q
  · exact hc x q
  · rw [q]; exact hv
theorem step_ok (hr : r.ok w k n m) (hl : cs.length = m) (hc : Words w cs) : (r.step w k cs).2.length = m ∧ Words w (r.step w k cs).2 := by
  cases r <;> simp only [Rw.ok, Rw.step] at hr ⊢
  · exact ⟨by simp [hl], words_set hc hr.2⟩
  · exact ⟨by simp [hl], words_set hc (hc _ (getD_in (by omega)))⟩
  · exact ⟨by simp [hl], words_set hc (wr_bd _ _)⟩
  · exact ⟨by simp [hl], words_set hc (wr_bd _ _)⟩
  · exact ⟨by simp [hl], words_set hc (wr_bd _ _)⟩
  · exact ⟨hl, hc⟩
  · exact ⟨hl, hc⟩
  · exact ⟨hl, hc⟩
theorem step_at (c : CodeOk w m rs) (h : rs[k]? = some r) (ne : r ≠ .stop) : k < (r.step w k cs).1 ∧ (r.step w k cs).1 < rs.length := by
  have hk : k < rs.length := (List.getElem?_eq_some_iff.mp h).1
  have hk2 : k + 1 < rs.length := by
    by_cases q : k = rs.length - 1
    · have e := c.last
      rw [← q, h] at e
      cases e
      exact (ne rfl).elim
    · omega
  have hr := c.each k r h
  cases r <;> simp only [Rw.ok, Rw.step] at hr ⊢
  · omega
  · omega
  · omega
  · omega
  · omega
  · omega
  · split <;> omega
  · exact (ne rfl).elim
theorem run_ex (c : CodeOk w m rs) : ∀ (d k : Nat) (cs : List Int), rs.length - k ≤ d → k < rs.length → cs.length = m → Words w cs → ∃ fin, Run w rs k cs fin ∧ fin.length = m ∧ Words w fin
  | 0, k, cs, hd, hk, _, _ => by omega
  | d + 1, k, cs, hd, hk, hl, hc => by
    have e : rs[k]? = some rs[k] := List.getElem?_eq_getElem hk
    generalize rs[k] = r at e
    by_cases q : r = .stop
    · subst q
      exact ⟨cs, .stop e, hl, hc⟩
    · have a := step_at (cs := cs) c e q
      have b := step_ok (c.each k r e) hl hc
      obtain ⟨fin, h1, h2⟩ := run_ex c d _ _ (by omega) a.2 b.1 b.2
      exact ⟨fin, .go e q h1, h2⟩
theorem at_cells {a : Nat} (h : a < cs.length) : atI (cs.map D.int) (a : Int) = some (.int (cs.getD a 0)) := by
  rw [atI_cast, List.getElem?_map, List.getElem?_eq_getElem h, List.getD_eq_getElem?_getD, List.getElem?_eq_getElem h]
  rfl
theorem ix_cells {t : Nat} (h : t < cs.length) : ixN cs.length (t : Int) = some t := by
  unfold ixN
  rw [if_pos (by omega), if_pos (by omega)]
  rfl
theorem done_eq (h1 : 1 ≤ w) (h : w ≤ 32) (hS : S[L]? = some (.lst (cs.map .int))) (hr : r.ok w k n m) (hl : cs.length = m) (hc : Words w cs) (ne : r ≠ .stop) :
    Ok (m_done [.d (.int w), .d r.d, .d (.int k), .r L] S) fun x S' => x = .d (.int (r.step w k cs).1) ∧ S' = S.set L (.lst ((r.step w k cs).2.map .int)) := by
  have t1 := tw_le h
  unfold m_done
  refine ok_fn ?_
  unfold b_done
  cases r with
  | put t v =>
    simp only [Rw.ok, Rw.step] at hr ⊢
    simp [Rw.d, snn, hS, ix_cells (cs := cs) (by omega : t < cs.length), take_set, List.map_set]
  | copy t a =>
    simp only [Rw.ok, Rw.step] at hr ⊢
    simp [Rw.d, snn, hS, ix_cells (cs := cs) (by omega : t < cs.length), at_cells (cs := cs) (by omega : a < cs.length), take_set, List.map_set]
  | add t a b =>
    simp only [Rw.ok, Rw.step] at hr ⊢
    simp [Rw.d, snn, hS, ix_cells (cs := cs) (by omega : t < cs.length), at_cells (cs := cs) (by omega : a < cs.length), at_cells (cs := cs) (by omega : b < cs.length), wrapped_word_eq _ h1 h, take_set, List.map_set]
  | less t a b =>
    simp only [Rw.ok, Rw.step] at hr ⊢
    simp [Rw.d, snn, hS, ix_cells (cs := cs) (by omega : t < cs.length), at_cells (cs := cs) (by omega : a < cs.length), at_cells (cs := cs) (by omega : b < cs.length), wrapped_word_eq _ h1 h, take_set, List.map_set]
  | times t a v =>
    simp only [Rw.ok, Rw.step] at hr ⊢
    have ha := hc _ (getD_in (cs := cs) (by omega : a < cs.length))
    have c1 : cMul (cs.getD a 0) v = true := cMul_lt 33 33 (by decide) (by decide) (by omega) (by omega) (by decide)
    rw [List.getD_eq_getElem?_getD] at c1
    simp [Rw.d, snn, hS, ix_cells (cs := cs) (by omega : t < cs.length), at_cells (cs := cs) (by omega : a < cs.length), wrapped_word_eq _ h1 h, take_set, List.map_set, c1]
  | jump r =>
    simp only [Rw.ok, Rw.step] at hr ⊢
    simp [Rw.d, snn, set_same hS]
  | below a b r =>
    simp only [Rw.ok, Rw.step] at hr ⊢
    simp [Rw.d, snn, hS, at_cells (cs := cs) (by omega : a < cs.length), at_cells (cs := cs) (by omega : b < cs.length), set_same hS]
    split <;> simp_all
  | stop => exact (ne rfl).elim
end
end Law
set_option Elab.async false
set_option linter.all false
set_option maxRecDepth 100000
set_option maxHeartbeats 4000000
namespace Law
open PySem PySem.Spec PyProof.Rows L2 GxR Gx Dn
section
variable {w m k n : Nat} {rs : List Rw} {cs fin : List Int} {r : Rw} {S : Sto} {L : Nat}
theorem ix_head (S : Sto) (r : Rw) : oIx (.d r.d) (.d (.int 0)) S = .ok (.d (.str r.nm)) S := by rw [Rw.d_eq]; simp
theorem code_at (h : rs[k]? = some r) : atI (rs.map Rw.d) (k : Int) = some r.d := by rw [atI_cast, List.getElem?_map, h]; rfl
theorem ended_eq (h1 : 1 ≤ w) (h : w ≤ 32) (c : CodeOk w m rs) (hS : S[L]? = some (.lst (cs.map .int))) (hl : cs.length = m) (hc : Words w cs) (run : Run w rs 0 cs fin) :
    Ok (m_ended [.d (.int w), .d (code rs), .r L] S) fun x S' => x = .d (cellsD fin) ∧ ∃ c', S' = S.set L c' := by
  unfold m_ended
  refine ok_fn ?_
  unfold b_ended
  simp [code]
  obtain ⟨I, hI⟩ : ∃ I : Nat → Dn.Env → Sto → Prop, ∀ nn env S', I nn env S' ↔ ∃ (at_ : Nat) (cs' : List Int), env = [some (.d (.int w)), some (.d (.tup (rs.map Rw.d))), some (.r L), some (.d (.int at_))] ∧ S' = S.set L (.lst (cs'.map .int)) ∧ cs'.length = m ∧ Words w cs' ∧ Run w rs at_ cs' fin ∧ nn = rs.length - at_ := ⟨_, fun _ _ _ => Iff.rfl⟩
  refine ok_while I rs.length ((hI _ _ _).mpr ⟨0, cs, rfl, by rw [set_same hS], hl, hc, run, by omega⟩) ?_
  rintro nn env S' h'
  obtain ⟨at_, cs', rfl, rfl, hl', hc', run', rfl⟩ := (hI _ _ _).mp h'
  cases run' with
  | stop e =>
    simp [code_at e, ix_head, Rw.nm, set_at hS, cellsD, take_set]
    exact ⟨_, rfl⟩
  | @go _ _ _ r e ne t =>
    have a := step_at (cs := cs') c e ne
    have b := step_ok (c.each _ r e) hl' hc'
    simp [code_at e, ix_head, Rw.nm_stop, ne]
    refine (done_eq (k := at_) h1 h (set_at hS _) (c.each _ r e) hl' hc' ne).mono ?_
    rintro _ _ ⟨rfl, rfl⟩
    simp
    exact ⟨_, by omega, (hI _ _ _).mpr ⟨_, _, rfl, by simp, b.1, b.2, t, rfl⟩⟩
end
end Law
set_option Elab.async false
set_option linter.all false
set_option maxRecDepth 100000
set_option maxHeartbeats 4000000
namespace Law
open PySem PySem.Spec PyProof.Rows L2 GxR Gx Dn
section
variable {w m k n : Nat} {rs : List Rw} {cs fin : List Int} {r : Rw} {S : Sto} {L : Nat}
theorem cells_lt (hr : r.ok w k n m) : ∀ c ∈ r.cells, c < m := by
  cases r <;> simp only [Rw.ok, Rw.cells] at hr ⊢ <;> simp <;> omega
@[simp] theorem bListC_tup (ds : List D) (S : Sto) : bListC (.d (.tup ds)) S = .ok (.r S.length) (S ++ [.lst ds]) := (rfl)
theorem run_program_eq (h1 : 4 ≤ w) (h : w ≤ 32) (c : CodeOk w m rs) (hl : cs.length = m) (hc : Words w cs) (run : Run w rs 0 cs fin) : m_run_program [.d (.int w), .d (code rs), .d (cellsD cs)] S = .ok (.d (cellsD fin)) S := by
  have tc : ∀ S : Sto, m_is_tuple_of [.d (code rs), .d (.int 1), .d (.int 2000)] S = .ok (.d (.bl true)) S := fun S => by
    rw [is_tuple_of_eq S rfl]
    have := c.pos
    have := c.len
    simp [tupB, code]
    omega
  have tl : ∀ S : Sto, m_is_tuple_of [.d (cellsD cs), .d (.int 1), .d (.int 128)] S = .ok (.d (.bl true)) S := fun S => by
    rw [is_tuple_of_eq S rfl]
    have := c.c0
    have := c.cm
    simp [tupB, cellsD]
    omega
  refine ok_eq ?_
  unfold m_run_program
  refine ok_fn ?_
  unfold b_run_program
  simp [check_width_eq S h1 h, tc, wrong_row_eq _ (by omega) h c, tl, check_words_eq _ (by omega) h hc]
  have ec : iEnum [.d (code rs)] S = .ok ⟨enD (rs.map Rw.d), []⟩ S := rfl
  simp [Dn.isNon, ec]
  obtain ⟨I, hI⟩ : ∃ I : Nat → Dn.Env → Sto → Prop, ∀ j env S', I j env S' ↔ ∃ e3 e4 e5 e6, env = [some (.d (.int w)), some (.d (code rs)), some (.d (cellsD cs)), e3, e4, e5, e6] ∧ S' = S := ⟨_, fun _ _ _ => Iff.rfl⟩
  refine ok_loop (I := I) ((hI _ _ _).mpr ⟨_, _, _, _, rfl, rfl⟩) (fun _ _ _ _ => wtOk_nil _) ?_ ?_
  · rintro j d env S' ed h'
    obtain ⟨e3, e4, e5, e6, rfl, rfl⟩ := (hI _ _ _).mp h'
    obtain ⟨x, ex, rfl⟩ := enD_at ed
    rw [List.getElem?_map] at ex
    obtain ⟨r, er, rfl⟩ := Option.map_eq_some_iff.mp ex
    have lt := cells_lt (c.each j r er)
    simp
    refine ok_allG (f := fun d => match d with | .int i => decide (i < (m : Int)) | _ => false) (ds := r.cells.map fun c : Nat => D.int c) ?_ ?_ ?_
    · simp [cells_named_eq]
    · intro d hd
      obtain ⟨c', hc', rfl⟩ := List.mem_map.mp hd
      simp [wipeE, cellsD, hl]
    · have al : ((r.cells.map fun c : Nat => D.int c).all fun d => match d with | .int i => decide (i < (m : Int)) | _ => false) = true := by
        simp only [List.all_eq_true]
        intro d hd
        obtain ⟨c', hc', rfl⟩ := List.mem_map.mp hd
        have := lt c' hc'
        simp
        omega
      rw [al]
      simp
      exact (hI _ _ _).mpr ⟨_, _, _, _, rfl, rfl⟩
  · rintro env S' h'
    obtain ⟨e3, e4, e5, e6, rfl, rfl⟩ := (hI _ _ _).mp h'
    have el : ∀ S : Sto, bListC (.d (cellsD cs)) S = .ok (.r S.length) (S ++ [.lst (cs.map .int)]) := fun S => rfl
    simp [el]
    refine (ended_eq (L := S'.length) (by omega) h c (by simp) hl hc run).mono ?_
    rintro _ _ ⟨rfl, c', rfl⟩
    simp
theorem in_al (neg : Bool) (s : Str) (S : Sto) : oInB neg (.d (.str s)) (.d (.tup [.str "add", .str "less"])) S = .ok (.d (.bl (xor neg (decide (s = "add") || decide (s = "less"))))) S := by
  unfold oInB
  have e : ∀ a : Str, (a == s) = decide (s = a) := fun a => by
    rw [Bool.eq_iff_iff]
    simp
    exact eq_comm
  simp [seqA, flatD, eqF]
  rw [e, e]
theorem al2 {x y : D} : atI [x, y] (-1) = some y := rfl
theorem al3 {x y z : D} : atI [x, y, z] (-1) = some z := rfl
theorem al4 {x y z u : D} : atI [x, y, z, u] (-1) = some u := rfl
end
end Law
set_option Elab.async false
set_option linter.all false
set_option maxRecDepth 100000
set_option maxHeartbeats 4000000
namespace Law
open PySem PySem.Spec PyProof.Rows L2 GxR Gx Dn
structure CodeR (w m k n t : Nat) (S : Sto) (x : Val) (S' : Sto) : Prop where
  ex : ∃ rs c', x = .d (code rs) ∧ CodeOk w m rs ∧ rs.length = k ∧ S' = S.set n c' ∧ UT t c'
structure WordsR (w m n t : Nat) (S : Sto) (x : Val) (S' : Sto) : Prop where
  ex : ∃ cs c', x = .d (cellsD cs) ∧ Words w cs ∧ cs.length = m ∧ S' = S.set n c' ∧ UT t c'
section
variable {w m k n t : Nat} {rs : List Rw} {cs fin : List Int} {r : Rw} {S : Sto} {L : Nat} {c : Cell}
theorem upto_nat {j : Int} {m : Nat} (h0 : 0 ≤ j) (h1 : j < m) : ∃ a : Nat, j = a ∧ a < m := ⟨j.toNat, by omega, by omega⟩
/-- the rows that the law draws, but the last -/
def Rows (w n m : Nat) (rs : List Rw) : Prop := ∀ k r, rs[k]? = some r → Rw.ok w k n m r
theorem rows_add {r : Rw} (h : Rows w n m rs) (hr : Rw.ok w rs.length n m r) : Rows w n m (rs ++ [r]) := fun k x hx => by
  by_cases q : k < rs.length
  · rw [List.getElem?_append_left q] at hx
    exact h k x hx
  · rw [List.getElem?_append_right (by omega)] at hx
    cases e : k - rs.length with
    | zero =>
      rw [e] at hx
      simp at hx
      subst hx
      have : k = rs.length := by omega
      subst this
      exact hr
    | succ j => rw [e] at hx; simp at hx
theorem code_spec (hc : S[n]? = some c) (hw : UT t c) (ht : t < 2 ^ 95) (h1 : 1 ≤ w) (h : w ≤ 32) (m1 : 1 ≤ m) (m2 : m ≤ 8) (k1 : 1 ≤ k) (k2 : k ≤ 100) :
    Ok (m__law_code [.r n, .d (.int w), .d (.int m), .d (.int k)] S) (CodeR w m k n (t + 10 * k) S) := by
  have hn := lt_of hc
  unfold m__law_code
  refine ok_fn ?_
  unfold b__law_code
  have sm : smallI ((k : Int) - 1) = true := sm_of (by omega) (by omega)
  simp [sm, szL]
  obtain ⟨I, hI⟩ : ∃ I : Nat → Dn.Env → Sto → Prop, ∀ j env S', I j env S' ↔ ∃ (rs : List Rw) (c' : Cell) (e5 e6 e7 e8 e9 e10 e11 e12 : Option Val), env = [some (.r n), some (.d (.int w)), some (.d (.int m)), some (.d (.int k)), some (.r S.length), e5, e6, e7, e8, e9, e10, e11, e12] ∧ S' = S.set n c' ++ [.lst (rs.map Rw.d)] ∧ UT (t + 10 * j) c' ∧ Rows w k m rs ∧ rs.length = j := ⟨_, fun _ _ _ => Iff.rfl⟩
  refine ok_loop (I := I) ((hI _ _ _).mpr ⟨[], c, _, _, _, _, _, _, _, _, rfl, by rw [set_same hc]; rfl, hw, fun k r hr => by simp at hr, rfl⟩) (fun _ _ _ _ => wtOk_nil _) ?_ ?_
  · rintro j d env S' ed h'
    obtain ⟨rs, c1, e5, e6, e7, e8, e9, e10, e11, e12, rfl, rfl, w1, hrs, hj⟩ := (hI _ _ _).mp h'
    have hjk : j + 1 < k := by
      have := (List.getElem?_eq_some_iff.mp ed).1
      simp [rngD] at this
      omega
    have e : d = .int j := by
      simp [rngD] at ed
      rw [List.getElem?_range (by omega)] at ed
      obtain ⟨a, ea, rfl⟩ := ed
      cases ea
      rfl
    subst e
    have at_ : ∀ c : Cell, (S.set n c ++ [Cell.lst (rs.map Rw.d)])[n]? = some c := fun c => by
      rw [List.getElem?_append_left (by simpa using hn)]
      exact set_at hc c
    have st : ∀ a b : Cell, (S.set n a ++ [Cell.lst (rs.map Rw.d)]).set n b = S.set n b ++ [Cell.lst (rs.map Rw.d)] := fun a b => by
      rw [List.set_append_left _ _ (by simpa using hn), List.set_set]
    simp
    refine (pull_spec (at_ c1) w1 (by omega) (by omega) (by omega)).mono ?_
    rintro _ _ ⟨way, c2, rfl, y0, y1, rfl, w2⟩
    rw [st]
    try simp
    refine (pull_spec (at_ c2) w2 (by omega) (by omega) (by omega)).mono ?_
    rintro _ _ ⟨a1, c3, rfl, a10, a11, rfl, w3⟩
    rw [st]
    try simp
    refine (pull_spec (at_ c3) w3 (by omega) (by omega) (by omega)).mono ?_
    rintro _ _ ⟨a2, c4, rfl, a20, a21, rfl, w4⟩
    rw [st]
    try simp
    refine (pull_spec (at_ c4) w4 (by omega) (by omega) (by omega)).mono ?_
    rintro _ _ ⟨a3, c5, rfl, a30, a31, rfl, w5⟩
    rw [st]
    try simp
    refine (pull_spec (at_ c5) w5 (by omega) (by split <;> omega) (by split <;> omega)).mono ?_
    rintro _ _ ⟨on, c6, rfl, on0, on1, rfl, w6⟩
    rw [st]
    try simp
    refine (word_spec (at_ c6) w6 (by omega) h1 h).mono ?_
    rintro _ _ ⟨d7, c7, rfl, ⟨v, rfl, hv⟩, rfl, w7⟩
    rw [st]
    obtain ⟨a1, rfl, b1⟩ := upto_nat a10 a11
    obtain ⟨a2, rfl, b2⟩ := upto_nat a20 a21
    obtain ⟨a3, rfl, b3⟩ := upto_nat a30 a31
    obtain ⟨o, eo, bo1, bo2⟩ : ∃ o : Nat, (j : Int) + 1 + on = o ∧ j < o ∧ o < k := ⟨((j : Int) + 1 + on).toNat, by omega, by omega, by split at on1 <;> omega⟩
    simp [szL, eo]
    obtain ⟨r, er, hr⟩ : ∃ r : Rw, atI [D.tup [.str "put", .int a1, .int v], .tup [.str "copy", .int a1, .int a2], .tup [.str "add", .int a1, .int a2, .int a3], .tup [.str "less", .int a1, .int a2, .int a3], .tup [.str "times", .int a1, .int a2, .int v], .tup [.str "below", .int a1, .int a2, .int o], .tup [.str "below", .int a2, .int a3, .int o], .tup [.str "jump", .int o], .tup [.str "add", .int a1, .int a1, .int a2]] way = some r.d ∧ Rw.ok w j k m r := by
      obtain ⟨y, rfl, hy⟩ := upto_nat (m := 9) y0 (by omega)
      rw [atI_cast]
      match y, hy with
      | 0, _ => exact ⟨.put a1 v, rfl, b1, hv.1, hv.2⟩
      | 1, _ => exact ⟨.copy a1 a2, rfl, b1, b2⟩
      | 2, _ => exact ⟨.add a1 a2 a3, rfl, b1, b2, b3⟩
      | 3, _ => exact ⟨.less a1 a2 a3, rfl, b1, b2, b3⟩
      | 4, _ => exact ⟨.times a1 a2 v, rfl, b1, b2, hv.1, hv.2⟩
      | 5, _ => exact ⟨.below a1 a2 o, rfl, b1, b2, bo1, bo2⟩
      | 6, _ => exact ⟨.below a2 a3 o, rfl, b2, b3, bo1, bo2⟩
      | 7, _ => exact ⟨.jump o, rfl, bo1, bo2⟩
      | 8, _ => exact ⟨.add a1 a1 a2, rfl, b1, b1, b2⟩
    subst hj
    simp [er]
    refine ⟨by unfold szL; omega, ?_⟩
    exact (hI _ _ _).mpr ⟨rs ++ [r], c7, _, _, _, _, _, _, _, _, rfl, by simp, w7.mono (by omega), rows_add hrs hr, by simp⟩
  · rintro env S' h'
    obtain ⟨rs, c1, e5, e6, e7, e8, e9, e10, e11, e12, rfl, rfl, w1, hrs, hj⟩ := (hI _ _ _).mp h'
    have hlen : rs.length + 1 = k := by
      simp [rngD] at hj
      omega
    simp [szL]
    refine ⟨by omega, ?_⟩
    have hj2 : (rngD 0 (k - 1)).length = k - 1 := by simp [rngD]
    refine ⟨rs ++ [.stop], c1, by simp [code, Rw.d], ⟨by simp, by simp; omega, ?_, by simp, by omega, m1⟩, by simp; omega, by simp, w1.mono (by simp [rngD]; omega)⟩
    have e : (rs ++ [Rw.stop]).length = k := by simp; omega
    rw [e]
    exact rows_add hrs trivial
theorem words_spec (hc : S[n]? = some c) (hw : UT t c) (ht : t < 2 ^ 95) (h1 : 1 ≤ w) (h : w ≤ 32) (m2 : m ≤ 8) :
    Ok (m__law_row_of_words [.r n, .d (.int w), .d (.int m)] S) (WordsR w m n (t + 3 * m) S) := by
  have hn := lt_of hc
  unfold m__law_row_of_words
  refine ok_fn ?_
  unfold b__law_row_of_words
  have sm : smallI (m : Int) = true := sm_of (by omega) (by omega)
  simp [sm, szL]
  obtain ⟨I, hI⟩ : ∃ I : Nat → Dn.Env → Sto → Prop, ∀ j env S', I j env S' ↔ ∃ (cs : List Int) (c' : Cell) (e4 : Option Val), env = [some (.r n), some (.d (.int w)), some (.d (.int m)), some (.r S.length), e4] ∧ S' = S.set n c' ++ [.lst (cs.map .int)] ∧ UT (t + 3 * j) c' ∧ Words w cs ∧ cs.length = j := ⟨_, fun _ _ _ => Iff.rfl⟩
  refine ok_loop (I := I) ((hI _ _ _).mpr ⟨[], c, _, rfl, by rw [set_same hc]; rfl, hw, fun x hx => by simp at hx, rfl⟩) (fun _ _ _ _ => wtOk_nil _) ?_ ?_
  · rintro j d env S' ed h'
    obtain ⟨cs, c1, e4, rfl, rfl, w1, hcs, hj⟩ := (hI _ _ _).mp h'
    have hjm : j < m := by
      have := (List.getElem?_eq_some_iff.mp ed).1
      simpa [rngD] using this
    have at_ : ∀ c : Cell, (S.set n c ++ [Cell.lst (cs.map D.int)])[n]? = some c := fun c => by
      rw [List.getElem?_append_left (by simpa using hn)]
      exact set_at hc c
    have st : ∀ a b : Cell, (S.set n a ++ [Cell.lst (cs.map D.int)]).set n b = S.set n b ++ [Cell.lst (cs.map D.int)] := fun a b => by
      rw [List.set_append_left _ _ (by simpa using hn), List.set_set]
    simp
    refine (word_spec (at_ c1) w1 (by omega) h1 h).mono ?_
    rintro _ _ ⟨d7, c7, rfl, ⟨v, rfl, hv⟩, rfl, w7⟩
    rw [st]
    simp [szL]
    refine ⟨by omega, ?_⟩
    refine (hI _ _ _).mpr ⟨cs ++ [v], c7, _, rfl, by simp, w7.mono (by omega), fun x hx => ?_, by simp [hj]⟩
    rcases List.mem_append.mp hx with q | q
    · exact hcs x q
    · simp at q; rw [q]; exact hv
  · rintro env S' h'
    obtain ⟨cs, c1, e4, rfl, rfl, w1, hcs, hj⟩ := (hI _ _ _).mp h'
    simp
    have hl : cs.length = m := by simpa [rngD] using hj
    exact ⟨cs, c1, rfl, hcs, hl, by simp, w1.mono (by simp [rngD])⟩
end
end Law
set_option Elab.async false
set_option linter.all false
set_option maxRecDepth 100000
set_option maxHeartbeats 4000000
namespace Law
open PySem PySem.Spec PyProof.Rows L2 GxR Gx Dn
/-- a loop that ends with False at the first that isn't right -/
theorem look_loop {g : DGf} {body : DSf} {ok : D → Bool} {S : Sto} (K : Dn.Env → Prop) : ∀ {ds : List D} {env : Dn.Env}, K env →
    (∀ d ∈ ds, ∀ env, K env → ∃ e1, g (.d d) env S = .ok e1 S ∧ (ok d = true → ∃ e2, body e1 S = .ok (.nx e2) S ∧ K e2) ∧ (ok d = false → body e1 S = .ok (.ret (.d (.bl false))) S)) →
    (ds.all ok = true → ∃ e2, K e2 ∧ dLoop g body [] ds env S = .ok (.nx e2) S) ∧ (ds.all ok = false → dLoop g body [] ds env S = .ok (.ret (.d (.bl false))) S)
  | [], env, h0, _ => ⟨fun _ => ⟨env, h0, by simp⟩, fun h => by simp at h⟩
  | d :: ds, env, h0, hs => by
    obtain ⟨e1, q1, yes, no⟩ := hs d List.mem_cons_self env h0
    rw [dLoop_cons, q1]
    cases e : ok d
    · refine ⟨fun h => by simp [e] at h, fun _ => ?_⟩
      simp [no e]
    · obtain ⟨e2, q2, k2⟩ := yes e
      obtain ⟨a, b⟩ := look_loop K (ds := ds) k2 fun d hd => hs d (List.mem_cons_of_mem _ hd)
      simp only [Out.bind_ok, q2, goOn_nx, List.all_cons, e, Bool.true_and]
      exact ⟨a, b⟩
/-- the word ahead of a row -/
def headD : D → D
  | .tup (.str z :: _) => .str z
  | _ => .non
theorem head_of_any {d : D} (S : Sto) (h : nob d = true) (hs : ∀ ds, d = .tup ds → ∀ x ∈ ds, nob x = true) : m_head_of [.d d] S = .ok (.d (headD d)) S := by
  refine ok_eq ?_
  unfold m_head_of
  refine ok_fn ?_
  unfold b_head_of
  cases d with
  | obj c fs => simp [nob] at h
  | tup ds =>
    cases ds with
    | nil => simp [isi, headD]
    | cons x ds =>
      have hx := hs _ rfl x List.mem_cons_self
      cases x with
      | obj c fs => simp [nob] at hx
      | _ => simp [isi, headD]
  | _ => simp [isi, headD]
theorem is_word_any {w : Nat} {d : D} (S : Sto) (h1 : 1 ≤ w) (h : w ≤ 32) (hd : nob d = true) : m_is_word [.d (.int w), .d d] S = .ok (.d (.bl (fromB d (-tw w) (tw w - 1)))) S := by
  refine ok_eq ?_
  unfold m_is_word
  refine ok_fn ?_
  unfold b_is_word
  simp [least_eq _ h1 h, greatest_eq _ h1 h, is_whole_from_eq _ hd]
def gtD (k : Nat) : D → Bool
  | .int i => decide ((k : Int) < i)
  | _ => false
/-- a part of a row is of its kind -/
def kindB (w k n : Nat) (s : Str) (x : D) : Bool := (if s = "cell" then idxB x 128 else true) && ((if s = "word" then fromB x (-tw w) (tw w - 1) else true) && (if s = "row" then idxB x n && gtD k x else true))
/-- right as the row k of n -/
def lineB (w k n : Nat) : D → Bool
  | .tup (.str z :: ps) => match tb_ROW_PARTS.lookup z with
    | some ks => decide (ps.length = ks.length) && (ks.zip ps).all fun p => kindB w k n p.1 p.2
    | none => false
  | _ => false
theorem idx_int {x : D} {n : Int} (h : idxB x n = true) : ∃ i, x = .int i := by
  cases x <;> simp [idxB] at h
  exact ⟨_, rfl⟩
theorem cut_one (x : D) (ps : List D) (h : ps.length ≤ 1000) : cutL (x :: ps) (some 1) none = ps := by
  unfold cutL HT.sIx
  simp
def pairB (w k n : Nat) : D → Bool
  | .tup [.str s, x] => kindB w k n s x
  | _ => false
theorem is_program_row_any {w k n : Nat} {d : D} (S : Sto) (h1 : 1 ≤ w) (h : w ≤ 32) (hd : nob d = true) (hs : ∀ ds, d = .tup ds → ds.length ≤ 1000 ∧ ∀ x ∈ ds, nob x = true) :
    m_is_program_row [.d (.int w), .d d, .d (.int k), .d (.int n)] S = .ok (.d (.bl (lineB w k n d))) S := by
  have hh := fun T => head_of_any T hd fun ds e => (hs ds e).2
  have other : headD d = .non → m_is_program_row [.d (.int w), .d d, .d (.int k), .d (.int n)] S = .ok (.d (.bl false)) S := fun e => by
    refine ok_eq ?_
    unfold m_is_program_row
    refine ok_fn ?_
    unfold b_is_program_row
    simp [hh, e, show Dn.isNon .non = true from rfl]
  by_cases c : ∃ z ps, d = .tup (.str z :: ps)
  · obtain ⟨z, ps, rfl⟩ := c
    obtain ⟨hl, hx⟩ := hs _ rfl
    cases e : tb_ROW_PARTS.lookup z with
    | none =>
      refine ok_eq ?_
      unfold m_is_program_row
      refine ok_fn ?_
      unfold b_is_program_row
      simp [hh, headD, e, getT2, lineB, show Dn.isNon .non = true from rfl]
    | some ks =>
      refine ok_eq ?_
      unfold m_is_program_row
      refine ok_fn ?_
      unfold b_is_program_row
      simp [hh, headD, e, lineB]
      by_cases hn : ps.length = ks.length
      · have hn2 : (ps.length : Int) = (ks.length : Int) := by omega
        have lp : ps.length ≤ 1000 := by simp at hl; omega
        have lz : ps.length ≤ szL := by rw [szL]; omega
        simp [hn2, hn, cut_one _ _ lp]
        have ez : List.map (fun p : D × D => D.tup [p.1, p.2]) ((List.map D.str ks).zip ps) = (ks.zip ps).map fun p => D.tup [.str p.1, p.2] := by
          rw [List.zip_map_left, List.map_map]
          rfl
        rw [ez]
        have nps : ∀ q ∈ ks.zip ps, nob q.2 = true := fun q hq => hx _ (List.mem_cons_of_mem _ (List.of_mem_zip (a := q.1) (b := q.2) hq).2)
        have main := look_loop (S := S) (ok := pairB w k n) (g := dgTup 2 (dgCons (dgName 5) (dgCons (dgName 6) dgNil)))
          (body := dSeq (dIfS (dtAnd (dB (dOp oEq (dVar 5) (dC (.str "cell")))) (dtNot (dB (dCallN 2 m_is_index (dCons (dVar 6) (dCons (dC (.int 128)) dNil)))))) (dRet (dC (.bl false))) dNext)
            (dSeq (dIfS (dtAnd (dB (dOp oEq (dVar 5) (dC (.str "word")))) (dtNot (dB (dCallN 2 m_is_word (dCons (dVar 0) (dCons (dVar 6) dNil)))))) (dRet (dC (.bl false))) dNext)
              (dIfS (dtAnd (dB (dOp oEq (dVar 5) (dC (.str "row")))) (dtNot (dtAnd (dB (dCallN 2 m_is_index (dCons (dVar 6) (dCons (dVar 3) dNil)))) (dB (dOp oGt (dVar 6) (dVar 2)))))) (dRet (dC (.bl false))) dNext)))
          (fun env => ∃ e5 e6, env = [some (.d (.int w)), some (.d (.tup (.str z :: ps))), some (.d (.int k)), some (.d (.int n)), some (.d (.tup (ks.map .str))), e5, e6])
          (ds := (ks.zip ps).map fun p => D.tup [.str p.1, p.2]) ⟨none, none, rfl⟩ (fun d hd env hK => ?_)
        · have ea : ((ks.zip ps).map fun p => D.tup [.str p.1, p.2]).all (pairB w k n) = (ks.zip ps).all fun p => kindB w k n p.1 p.2 := by
            rw [List.all_map]
            rfl
          rw [ea] at main
          cases q : (ks.zip ps).all fun p => kindB w k n p.1 p.2
          · rw [main.2 q]
            simp
          · obtain ⟨e2, ⟨e5, e6, rfl⟩, m⟩ := main.1 q
            rw [m]
            simp
        · obtain ⟨e5, e6, rfl⟩ := hK
          obtain ⟨⟨y, x⟩, hq, rfl⟩ := List.mem_map.mp hd
          have nx : nob x = true := nps _ hq
          refine ⟨[some (.d (.int w)), some (.d (.tup (.str z :: ps))), some (.d (.int k)), some (.d (.int n)), some (.d (.tup (ks.map .str))), some (.d (.str y)), some (.d x)], by simp, fun ok => ⟨_, ?_, some (.d (.str y)), some (.d x), rfl⟩, fun no => ?_⟩
          · simp only [pairB, kindB, Bool.and_eq_true] at ok
            obtain ⟨o1, o2, o3⟩ := ok
            have i1 := fun T (n : Int) => is_index_eq (n := n) T nx
            have i2 := fun T => is_word_any (w := w) T h1 h nx
            by_cases c3 : y = "row"
            · subst c3
              simp at o3
              obtain ⟨i, rfl⟩ := idx_int o3.1
              have := o3.2
              simp [gtD] at this
              simp [i1, o3.1, this, snc]
            · by_cases c1 : y = "cell"
              · subst c1
                simp at o1
                simp [i1, o1, snc]
              · by_cases c2 : y = "word"
                · subst c2
                  simp at o2
                  simp [i2, o2, snc]
                · simp [c1, c2, c3]
          · simp only [pairB, kindB] at no
            have i1 := fun T (n : Int) => is_index_eq (n := n) T nx
            have i2 := fun T => is_word_any (w := w) T h1 h nx
            by_cases c3 : y = "row"
            · subst c3
              simp [snc] at no
              cases o : idxB x n
              · simp [i1, o, snc]
              · obtain ⟨i, rfl⟩ := idx_int o
                have := no o
                simp [gtD] at this
                simp [i1, o, snc]
                omega
            · by_cases c1 : y = "cell"
              · subst c1
                simp [snc] at no
                simp [i1, no, snc]
              · by_cases c2 : y = "word"
                · subst c2
                  simp [snc] at no
                  simp [i2, no, snc]
                · simp [c1, c2, c3] at no
      · have hn2 : ¬ (ps.length : Int) = (ks.length : Int) := by omega
        simp [hn2, hn]
  · have e1 : headD d = .non := by
      unfold headD
      split
      · exact absurd ⟨_, _, rfl⟩ c
      · rfl
    have e2 : lineB w k n d = false := by
      unfold lineB
      split
      · exact absurd ⟨_, _, rfl⟩ c
      · rfl
    rw [e2]
    exact other e1
end Law
set_option Elab.async false
set_option linter.all false
set_option maxRecDepth 100000
set_option maxHeartbeats 4000000
namespace Law
open PySem PySem.Spec PyProof.Rows L2 GxR Gx Dn
/-- data that can be compared -/
def pyD (d : D) : Prop := ∃ p, d.py = some p ∧ p.canLay0 = true ∧ p.depth ≤ 40
theorem tup_nil {neg : Bool} {ds : List D} (hx : ∀ x ∈ ds, pyD x) (S : Sto) : oEqB neg (.d (.tup ds)) (.d (.tup [])) S = .ok (.d (.bl (xor neg (decide (ds = []))))) S := by
  obtain ⟨ps, e2, l2, q⟩ := pys_of (Q := fun p => p.canLay0 = true ∧ p.depth ≤ 40) hx
  have c := can_all fun p m => (q p m).1
  have d := depth_all fun p m => (q p m).2
  have s1 : SeqAt.shaped (.tuple ps) = true := by simp [SeqAt.shaped, PyData.canLay0, PyData.depth, c]; omega
  have s2 : SeqAt.shaped (.tuple []) = true := by decide
  have en : (ps = []) = (ds = []) := propext (by rw [← List.length_eq_zero_iff, l2, List.length_eq_zero_iff])
  simp only [oEqB, pyV, D.py, e2, pys, Option.map_some, s1, s2, Bool.and_self, if_true, eqv_nil_t, en]
theorem l_is_word_any {w : Nat} {d : D} (S : Sto) (h1 : 1 ≤ w) (h : w ≤ 32) (hd : nob d = true) : m__law_is_word [.d d, .d (.int w)] S = .ok (.d (.bl (fromB d (-tw w) (tw w - 1)))) S := by
  have t1 := tw_le h
  have t2 := tw_pos w
  have iw := fun T => l_is_whole_eq T hd
  refine ok_eq ?_
  unfold m__law_is_word
  refine ok_fn ?_
  unfold b__law_is_word
  cases d with
  | int i =>
    simp [iw, wholeB, top_eq _ h1 h, fromB]
    split <;> rename_i c <;> simp [c] <;> omega
  | obj c fs => simp [nob] at hd
  | _ => simp [iw, wholeB, fromB]
/-- the law's rows: word, letters -/
def tbL : List (Str × Str) := [("put", "cw"), ("copy", "cc"), ("add", "ccc"), ("less", "ccc"), ("times", "ccw"), ("jump", "r"), ("below", "ccr"), ("stop", "")]
def kindL (w k n : Nat) (s x : D) : Bool := match s with
  | .str s => wholeB x && ((if s = "c" then idxB x 128 else true) && ((if s = "r" then idxB x n && gtD k x else true) && (if s = "w" then fromB x (-tw w) (tw w - 1) else true)))
  | _ => false
def pairL (w k n : Nat) : D → Bool
  | .tup [s, x] => kindL w k n s x
  | _ => false
/-- what the law's look says of a row whose letters are t -/
def partsL (w k n : Nat) (t : Str) (ps : List D) : Bool := decide (ps.length = t.length) && ((lets t).zip ps).all fun p => kindL w k n p.1 p.2
theorem crw : ("c" : Str) ≠ "r" ∧ ("c" : Str) ≠ "w" ∧ ("r" : Str) ≠ "c" ∧ ("r" : Str) ≠ "w" ∧ ("w" : Str) ≠ "c" ∧ ("w" : Str) ≠ "r" := by decide +kernel
theorem lets_c (t : Str) : ∀ d ∈ lets t, ∃ s, d = .str s := fun d hd => by
  obtain ⟨c, _, rfl⟩ := List.mem_map.mp hd
  exact ⟨_, rfl⟩
theorem line_loop {w k n : Nat} {t z : Str} {ps : List D} {e4 : Option Val} (S : Sto) (h1 : 1 ≤ w) (h : w ≤ 32) (hx : ∀ x ∈ ps, nob x = true) :
    ∃ r, dLoop (dgTup 2 (dgCons (dgName 6) (dgCons (dgName 7) dgNil)))
      (dSeq (dIfS (dtOr (dtNot (dB (dCallN 1 m__law_is_whole (dCons (dVar 7) dNil)))) (dtOr (dtAnd (dB (dOp oEq (dVar 6) (dC (.str "c")))) (dtNot (dB (dChain oLe oLt (dC (.int 0)) (dVar 7) (dC (.int 128)))))) (dtAnd (dB (dOp oEq (dVar 6) (dC (.str "r")))) (dtNot (dB (dChain oLt oLt (dVar 1) (dVar 7) (dVar 2))))))) (dRet (dC (.bl false))) dNext)
        (dIfS (dtAnd (dB (dOp oEq (dVar 6) (dC (.str "w")))) (dtNot (dB (dCallN 2 m__law_is_word (dCons (dVar 7) (dCons (dVar 3) dNil)))))) (dRet (dC (.bl false))) dNext))
      [] (((lets t).zip ps).map fun p => D.tup [p.1, p.2]) [some (.d (.tup (.str z :: ps))), some (.d (.int k)), some (.d (.int n)), some (.d (.int w)), e4, some (.d (.lst [.str t])), none, none, none] S = .ok r S ∧
      (if (((lets t).zip ps).all fun p => kindL w k n p.1 p.2) = true then ∃ e, r = .nx e else r = .ret (.d (.bl false))) := by
  have main := look_loop (S := S) (ok := pairL w k n) (g := dgTup 2 (dgCons (dgName 6) (dgCons (dgName 7) dgNil)))
    (body := dSeq (dIfS (dtOr (dtNot (dB (dCallN 1 m__law_is_whole (dCons (dVar 7) dNil)))) (dtOr (dtAnd (dB (dOp oEq (dVar 6) (dC (.str "c")))) (dtNot (dB (dChain oLe oLt (dC (.int 0)) (dVar 7) (dC (.int 128)))))) (dtAnd (dB (dOp oEq (dVar 6) (dC (.str "r")))) (dtNot (dB (dChain oLt oLt (dVar 1) (dVar 7) (dVar 2))))))) (dRet (dC (.bl false))) dNext)
        (dIfS (dtAnd (dB (dOp oEq (dVar 6) (dC (.str "w")))) (dtNot (dB (dCallN 2 m__law_is_word (dCons (dVar 7) (dCons (dVar 3) dNil)))))) (dRet (dC (.bl false))) dNext))
    (fun env => ∃ e6 e7, env = [some (.d (.tup (.str z :: ps))), some (.d (.int k)), some (.d (.int n)), some (.d (.int w)), e4, some (.d (.lst [.str t])), e6, e7, none])
    (ds := ((lets t).zip ps).map fun p => D.tup [p.1, p.2]) ⟨none, none, rfl⟩ (fun d hd env hK => ?_)
  · have ea : (((lets t).zip ps).map fun p => D.tup [p.1, p.2]).all (pairL w k n) = ((lets t).zip ps).all fun p => kindL w k n p.1 p.2 := by
      rw [List.all_map]
      rfl
    rw [ea] at main
    cases q : ((lets t).zip ps).all fun p => kindL w k n p.1 p.2
    · exact ⟨_, main.2 q, by simp⟩
    · obtain ⟨e2, _, m⟩ := main.1 q
      exact ⟨_, m, by simp⟩
  · obtain ⟨e6, e7, rfl⟩ := hK
    obtain ⟨⟨y, x⟩, hq, rfl⟩ := List.mem_map.mp hd
    have nx : nob x = true := hx _ (List.of_mem_zip hq).2
    obtain ⟨y, rfl⟩ := lets_c t _ (List.of_mem_zip hq).1
    have iw := fun T => l_is_whole_eq T nx
    have i2 := fun T => l_is_word_any (w := w) T h1 h nx
    refine ⟨[some (.d (.tup (.str z :: ps))), some (.d (.int k)), some (.d (.int n)), some (.d (.int w)), e4, some (.d (.lst [.str t])), some (.d (.str y)), some (.d x), none], by simp, fun ok => ⟨_, ?_, some (.d (.str y)), some (.d x), rfl⟩, fun no => ?_⟩
    · simp only [pairL, kindL, Bool.and_eq_true] at ok
      obtain ⟨o0, o1, o2, o3⟩ := ok
      have ei : ∃ i, x = .int i := by cases x <;> simp [wholeB] at o0; exact ⟨_, rfl⟩
      obtain ⟨i, rfl⟩ := ei
      by_cases c1 : y = "c"
      · subst c1
        simp [idxB] at o1
        simp [iw, wholeB, o1, crw]
      · by_cases c2 : y = "r"
        · subst c2
          simp [idxB, gtD] at o2
          simp [iw, wholeB, o2, crw]
        · by_cases c3 : y = "w"
          · subst c3
            simp at o3
            simp [iw, i2, wholeB, o3, crw]
          · simp [iw, wholeB, c1, c2, c3]
    · simp only [pairL, kindL] at no
      cases ow : wholeB x
      · simp [iw, ow]
      · have ei : ∃ i, x = .int i := by cases x <;> simp [wholeB] at ow; exact ⟨_, rfl⟩
        obtain ⟨i, rfl⟩ := ei
        by_cases c1 : y = "c"
        · subst c1
          simp [idxB, crw, wholeB] at no
          by_cases z0 : 0 ≤ i
          · have z1 : ¬ i < 128 := by have := no z0; omega
            simp [iw, wholeB, crw, z0, z1]
          · simp [iw, wholeB, crw, z0]
        · by_cases c2 : y = "r"
          · subst c2
            simp [idxB, gtD, crw, wholeB] at no
            by_cases z0 : (k : Int) < i
            · have z1 : ¬ i < (n : Int) := fun q => by have := no (by omega) q; omega
              simp [iw, wholeB, crw, z0, z1]
            · simp [iw, wholeB, crw, z0]
          · by_cases c3 : y = "w"
            · subst c3
              simp [crw, wholeB] at no
              simp [iw, i2, wholeB, no, crw]
            · simp [c1, c2, c3, wholeB] at no
end Law
set_option Elab.async false
set_option linter.all false
set_option maxRecDepth 100000
set_option maxHeartbeats 4000000
namespace Law
open PySem PySem.Spec PyProof.Rows L2 GxR Gx Dn
theorem lst_nilP {ds : List D} (hx : ∀ x ∈ ds, pyD x) (S : Sto) : oEqB false (.d (.lst ds)) (.d (.lst [])) S = .ok (.d (.bl (decide (ds = [])))) S := by
  obtain ⟨ps, e2, l2, q⟩ := pys_of (Q := fun p => p.canLay0 = true ∧ p.depth ≤ 40) hx
  have c := can_all fun p m => (q p m).1
  have d := depth_all fun p m => (q p m).2
  have s1 : SeqAt.shaped (.list ps) = true := by simp [SeqAt.shaped, PyData.canLay0, PyData.depth, c]; omega
  have s2 : SeqAt.shaped (.list []) = true := by decide
  have en : (ps = []) = (ds = []) := propext (by rw [← List.length_eq_zero_iff, l2, List.length_eq_zero_iff])
  simp only [oEqB, pyV, D.py, e2, pys, Option.map_some, s1, s2, Bool.and_self, if_true, eqv_nil_l, en]
  simp
def foundS (z : Str) : List Str := (tbL.filter fun q => decide (q.1 = z)).map fun q => q.2
def optL (o : Option Str) : List Str := match o with | some t => [t] | none => []
theorem found_s (z : Str) : foundS z = optL (tbL.lookup z) := by
  unfold foundS tbL
  by_cases c1 : z = "put"
  · subst c1; decide +kernel
  by_cases c2 : z = "copy"
  · subst c2; decide +kernel
  by_cases c3 : z = "add"
  · subst c3; decide +kernel
  by_cases c4 : z = "less"
  · subst c4; decide +kernel
  by_cases c5 : z = "times"
  · subst c5; decide +kernel
  by_cases c6 : z = "jump"
  · subst c6; decide +kernel
  by_cases c7 : z = "below"
  · subst c7; decide +kernel
  by_cases c8 : z = "stop"
  · subst c8; decide +kernel
  have f : ∀ a b : Str, ¬ a = b → (a == b) = false := fun a b h => by simpa using h
  simp [optL, List.lookup, f, c1, c2, c3, c4, c5, c6, c7, c8, Ne.symm c1, Ne.symm c2, Ne.symm c3, Ne.symm c4, Ne.symm c5, Ne.symm c6, Ne.symm c7, Ne.symm c8]
theorem tbL_ok {z t : Str} (h : tbL.lookup z = some t) : t.cps.all (· < 128) = true ∧ t.length ≤ 3 ∧ pyD (.str t) := by
  have m : t ∈ tbL.map (·.2) := by
    unfold tbL at h ⊢
    simp only [List.lookup] at h
    repeat' split at h
    all_goals first | (cases h; simp; done) | cases h
  have k : (tbL.map (·.2)).all (fun t => t.cps.all (· < 128) && decide (t.length ≤ 3) && PyData.strOk t) = true := by decide +kernel
  have q := List.all_eq_true.mp k t m
  simp only [Bool.and_eq_true, decide_eq_true_eq] at q
  exact ⟨q.1.1, q.1.2, .str t, by simp [D.py], by simpa [PyData.canLay0] using q.2, by simp [PyData.depth]⟩
theorem lets_len {t : Str} : (lets t).length = t.length := by simp [lets, Str.length]
def lineL (w k n : Nat) (d : D) : Bool := match d with
  | .tup (.str z :: ps) => match tbL.lookup z with
    | some t => partsL w k n t ps
    | none => false
  | _ => false
@[simp] theorem bLen_strV (t : Str) (S : Sto) : bLen (.d (.str t)) S = if t.length ≤ szL then .ok (.d (.int (t.length : Nat))) S else .bad := (rfl)
theorem diMz_eq (As : DAf) (env : Dn.Env) (S : Sto) : diMz As env S = (As env S).bind fun xs S1 => iMz xs S1 := (rfl)
theorem iMz_tt (t : Str) (ys : List D) (S : Sto) (h : t.cps.all (· < 128) = true) : iMz [.d (.str t), .d (.tup ys)] S = .ok ⟨((lets t).zip ys).map fun p => .tup [p.1, p.2], []⟩ S := by
  unfold iMz
  simp only [seqK, seqT]
  rw [if_pos h]
  rfl
theorem is_line_row {w k n : Nat} {z : Str} {ps : List D} (S : Sto) (h1 : 1 ≤ w) (h : w ≤ 32) (hl : ps.length ≤ 900) (hx : ∀ x ∈ ps, nob x = true) :
    m__law_is_line [.d (.tup (.str z :: ps)), .d (.int k), .d (.int n), .d (.int w)] S = .ok (.d (.bl (lineL w k n (.tup (.str z :: ps))))) S := by
  have k2 : 2 ≤ szL := by rw [szL]; omega
  have k8 : 8 ≤ szL := by rw [szL]; omega
  refine ok_eq ?_
  unfold m__law_is_line
  refine ok_fn ?_
  unfold b__law_is_line
  simp [isi, k2, k8]
  refine ok_lcF (e := fun q : Str × Str => D.tup [.str q.1, .str q.2]) (xs := tbL) (p := fun q => decide (q.1 = z)) (f := fun q => .str q.2) (by simp [tbL]) (by simp [tbL, szL]) (fun q hq c => ?_) ?_
  · simp [wipeE]
  · have e1 : (tbL.filter fun q => decide (q.1 = z)).map (fun q => D.str q.2) = (optL (tbL.lookup z)).map D.str := by
      rw [← found_s, foundS, List.map_map]
      rfl
    rw [e1]
    cases e : tbL.lookup z with
    | none =>
      have n0 := fun T : Sto => lst_nilP (ds := []) (by simp) T
      simp [optL, lineL, e, n0, szL]
    | some t =>
      obtain ⟨asc, l3, pt⟩ := tbL_ok e
      have n1 := fun T : Sto => lst_nilP (ds := [.str t]) (by simpa using pt) T
      have l4 : t.length ≤ szL := by rw [szL]; omega
      simp [optL, lineL, e, n1, l4]
      by_cases hn : ps.length = t.length
      · have hn2 : (ps.length : Int) = (t.length : Int) := by omega
        obtain ⟨r, q1, q2⟩ := line_loop (k := k) (n := n) (t := t) (z := z) (e4 := some (.d (.tup [.tup [.str "put", .str "cw"], .tup [.str "copy", .str "cc"], .tup [.str "add", .str "ccc"], .tup [.str "less", .str "ccc"], .tup [.str "times", .str "ccw"], .tup [.str "jump", .str "r"], .tup [.str "below", .str "ccr"], .tup [.str "stop", .str ""]]))) S h1 h hx
        simp [hn2, hn, diMz_eq, cut_one _ _ (show ps.length ≤ 1000 by omega), iMz_tt _ _ _ asc, q1, partsL]
        split at q2
        · rename_i qa
          obtain ⟨e, rfl⟩ := q2
          simp
          simpa using qa
        · rename_i qa
          subst q2
          simp
          simpa using qa
      · have hn2 : ¬ (ps.length : Int) = (t.length : Int) := by omega
        simp [hn2, hn, partsL]
end Law
set_option Elab.async false
set_option linter.all false
set_option maxRecDepth 100000
set_option maxHeartbeats 4000000
namespace Law
open PySem PySem.Spec PyProof.Rows L2 GxR Gx Dn
/-- a letter's kind -/
def kn (c : Nat) : Str := if c = 99 then "cell" else if c = 119 then "word" else "row"
theorem lk_both (z : Str) : tb_ROW_PARTS.lookup z = (tbL.lookup z).map fun t => t.cps.toList.map kn := by
  by_cases c1 : z = "put"
  · subst c1; decide +kernel
  by_cases c2 : z = "copy"
  · subst c2; decide +kernel
  by_cases c3 : z = "add"
  · subst c3; decide +kernel
  by_cases c4 : z = "less"
  · subst c4; decide +kernel
  by_cases c5 : z = "times"
  · subst c5; decide +kernel
  by_cases c6 : z = "jump"
  · subst c6; decide +kernel
  by_cases c7 : z = "below"
  · subst c7; decide +kernel
  by_cases c8 : z = "stop"
  · subst c8; decide +kernel
  have f : ∀ a b : Str, ¬ a = b → (a == b) = false := fun a b h => by simpa using h
  simp [tbL, tb_ROW_PARTS, List.lookup, f, c1, c2, c3, c4, c5, c6, c7, c8]
theorem tbL_cps {z t : Str} (h : tbL.lookup z = some t) : ∀ c ∈ t.cps.toList, c = 99 ∨ c = 119 ∨ c = 114 := by
  have m : t ∈ tbL.map (·.2) := by
    unfold tbL at h ⊢
    simp only [List.lookup] at h
    repeat' split at h
    all_goals first | (cases h; simp; done) | cases h
  have k : (tbL.map (·.2)).all (fun t => t.cps.toList.all fun c => decide (c = 99) || (decide (c = 119) || decide (c = 114))) = true := by decide +kernel
  have q := List.all_eq_true.mp k t m
  intro c hc
  have := List.all_eq_true.mp q c hc
  simpa using this
theorem idx_whole {x : D} {n : Int} (h : idxB x n = true) : wholeB x = true := by cases x <;> simp [idxB] at h; rfl
theorem from_whole {x : D} {a b : Int} (h : fromB x a b = true) : wholeB x = true := by cases x <;> simp [fromB] at h; rfl
theorem and_whole {x : D} {b : Bool} (h : b = true → wholeB x = true) : (wholeB x && b) = b := by
  cases b
  · simp
  · simp [h rfl]
theorem kind_both {w k n c : Nat} {x : D} (hc : c = 99 ∨ c = 119 ∨ c = 114) : kindL w k n (.str ⟨#[c]⟩) x = kindB w k n (kn c) x := by
  have l1 : (⟨#[99]⟩ : Str) = "c" := by decide +kernel
  have l2 : (⟨#[119]⟩ : Str) = "w" := by decide +kernel
  have l3 : (⟨#[114]⟩ : Str) = "r" := by decide +kernel
  have k1 : kn 99 = "cell" := by decide +kernel
  have k2 : kn 119 = "word" := by decide +kernel
  have k3 : kn 114 = "row" := by decide +kernel
  rcases hc with rfl | rfl | rfl
  · rw [l1, k1]
    simp only [kindL, kindB]
    simp [crw, snc]
    exact idx_whole
  · rw [l2, k2]
    simp only [kindL, kindB]
    simp [crw, snc]
    exact from_whole
  · rw [l3, k3]
    simp only [kindL, kindB]
    simp [crw, snc]
    exact fun h _ => idx_whole h
theorem line_both (w k n : Nat) (d : D) : lineL w k n d = lineB w k n d := by
  by_cases c : ∃ z ps, d = .tup (.str z :: ps)
  · obtain ⟨z, ps, rfl⟩ := c
    simp only [lineL, lineB, lk_both]
    cases e : tbL.lookup z with
    | none => rfl
    | some t =>
      have cp := tbL_cps e
      simp only [Option.map_some, partsL]
      have el : t.length = (t.cps.toList.map kn).length := by simp [Str.length]
      rw [el]
      congr 1
      have : ∀ (cs : List Nat) (ps : List D), (∀ c ∈ cs, c = 99 ∨ c = 119 ∨ c = 114) → (((cs.map fun c => D.str ⟨#[c]⟩).zip ps).all fun p => kindL w k n p.1 p.2) = ((cs.map kn).zip ps).all fun p => kindB w k n p.1 p.2 := by
        intro cs
        induction cs with
        | nil => intro ps _; simp
        | cons c cs ih =>
          intro ps h
          cases ps with
          | nil => simp
          | cons x ps =>
            simp only [List.map_cons, List.zip_cons_cons, List.all_cons]
            rw [kind_both (h c List.mem_cons_self), ih ps fun c hc => h c (List.mem_cons_of_mem _ hc)]
      exact this _ _ cp
  · have e1 : lineL w k n d = false := by
      unfold lineL
      split
      · exact absurd ⟨_, _, rfl⟩ c
      · rfl
    have e2 : lineB w k n d = false := by
      unfold lineB
      split
      · exact absurd ⟨_, _, rfl⟩ c
      · rfl
    rw [e1, e2]
/-- a value at hand: no error in it, data that can be compared, or an empty dict -/
structure okD (d : D) : Prop where
  n : nob d = true
  p : pyD d ∨ d = .dic
structure okR (d : D) : Prop where
  n : nob d = true
  t : ∀ ds, d = .tup ds → ds.length ≤ 900 ∧ ∀ x ∈ ds, okD x
theorem is_line_any {w k n : Nat} {d : D} (S : Sto) (h1 : 1 ≤ w) (h : w ≤ 32) (r : okR d) : m__law_is_line [.d d, .d (.int k), .d (.int n), .d (.int w)] S = .ok (.d (.bl (lineB w k n d))) S := by
  by_cases c : ∃ z ps, d = .tup (.str z :: ps)
  · obtain ⟨z, ps, rfl⟩ := c
    obtain ⟨hl, hx⟩ := r.t _ rfl
    rw [← line_both]
    exact is_line_row S h1 h (by simp at hl; omega) (fun x hm => (hx x (List.mem_cons_of_mem _ hm)).n)
  · have e2 : lineB w k n d = false := by
      unfold lineB
      split
      · exact absurd ⟨_, _, rfl⟩ c
      · rfl
    rw [e2]
    have nd := r.n
    refine ok_eq ?_
    unfold m__law_is_line
    refine ok_fn ?_
    unfold b__law_is_line
    cases d with
    | obj c fs => simp [nob] at nd
    | tup ds =>
      obtain ⟨hl, hx⟩ := r.t _ rfl
      cases ds with
      | nil => simp [isi, szL]
      | cons x ps =>
        have nx := (hx x List.mem_cons_self).n
        cases x with
        | str z => exact absurd ⟨_, _, rfl⟩ c
        | obj c fs => simp [nob] at nx
        | _ => simp [isi, szL]
    | _ => simp [isi]
theorem is_row_any {w k n : Nat} {d : D} (S : Sto) (h1 : 1 ≤ w) (h : w ≤ 32) (r : okR d) : m_is_program_row [.d (.int w), .d d, .d (.int k), .d (.int n)] S = .ok (.d (.bl (lineB w k n d))) S :=
  is_program_row_any S h1 h r.n fun ds e => ⟨by have := (r.t ds e).1; omega, fun x hx => ((r.t ds e).2 x hx).n⟩
end Law
set_option Elab.async false
set_option linter.all false
set_option maxRecDepth 100000
set_option maxHeartbeats 4000000
namespace Law
open PySem PySem.Spec PyProof.Rows L2 GxR Gx Dn
/-- the first that is bad, from j on -/
def firstB (bad : Nat → D → Bool) : Nat → List D → Option Nat
  | _, [] => none
  | j, d :: ds => if bad j d = true then some j else firstB bad (j + 1) ds
/-- items with their numbers, by any view of both -/
def itm (f : Nat → D → D) : Nat → List D → List D
  | _, [] => []
  | j, d :: ds => f j d :: itm f (j + 1) ds
theorem find_loop {g : DGf} {body : DSf} {bad : Nat → D → Bool} {f : Nat → D → D} {res : Nat → Val} {S : Sto} (K : Dn.Env → Prop) : ∀ {ds : List D} {j : Nat} {env : Dn.Env}, K env →
    (∀ i d, ds[i]? = some d → ∀ env, K env → ∃ e1, g (.d (f (j + i) d)) env S = .ok e1 S ∧ (bad (j + i) d = false → ∃ e2, body e1 S = .ok (.nx e2) S ∧ K e2) ∧ (bad (j + i) d = true → body e1 S = .ok (.ret (res (j + i))) S)) →
    match firstB bad j ds with
    | some i => dLoop g body [] (itm f j ds) env S = .ok (.ret (res i)) S
    | none => ∃ e2, K e2 ∧ dLoop g body [] (itm f j ds) env S = .ok (.nx e2) S
  | [], j, env, h0, _ => ⟨env, h0, by simp [itm]⟩
  | d :: ds, j, env, h0, hs => by
    obtain ⟨e1, q1, good, no⟩ := hs 0 d rfl env h0
    simp only [Nat.add_zero] at q1 good no
    cases e : bad j d
    · obtain ⟨e2, q2, k2⟩ := good e
      have ih := find_loop K (ds := ds) (j := j + 1) k2 fun i d' hd env hk => by
        have := hs (i + 1) d' (by simpa using hd) env hk
        rw [show j + (i + 1) = j + 1 + i by omega] at this
        exact this
      simp only [firstB, e, itm, dLoop_cons, q1, Out.bind_ok, q2, goOn_nx]
      exact ih
    · simp [firstB, e, itm, dLoop_cons, q1, no e]
theorem enD_itm (ds : List D) : enD ds = itm (fun j d => .tup [.int (j : Nat), d]) 0 ds := by
  have key : ∀ (ds : List D) (j : Nat), itm (fun j d => .tup [.int (j : Nat), d]) j ds = (ds.zipIdx j).map fun p => D.tup [.int (p.2 : Nat), p.1] := by
    intro ds
    induction ds with
    | nil => intro j; rfl
    | cons d ds ih => intro j; simp [itm, ih]
  rw [key]
  unfold enD rngD
  exact List.ext_getElem (by simp) fun i h1 h2 => by simp
theorem rng_itm (ds : List D) : rngD 0 ds.length = itm (fun j _ => .int (j : Nat)) 0 ds := by
  have key : ∀ (ds : List D) (j : Nat), itm (fun j _ => .int (j : Nat)) j ds = (List.range' j ds.length).map fun i : Nat => D.int (i : Nat) := by
    intro ds
    induction ds with
    | nil => intro j; rfl
    | cons d ds ih => intro j; simp [itm, ih, List.range'_succ]
  rw [key]
  unfold rngD
  exact List.ext_getElem (by simp) fun i h1 h2 => by simp
def stopB : D → Bool
  | .tup (.str z :: _) => decide (z = "stop")
  | _ => false
/-- wrong as the row i of n -/
def badR (w n i : Nat) (d : D) : Bool := !lineB w i n d || (decide (i + 1 = n) && !stopB d)
theorem line_head {w k n : Nat} {d : D} (h : lineB w k n d = true) : ∃ z ps, d = .tup (.str z :: ps) := by
  unfold lineB at h
  split at h
  · exact ⟨_, _, rfl⟩
  · cases h
theorem wrong_row_any {w : Nat} {ds : List D} (S : Sto) (h1 : 1 ≤ w) (h : w ≤ 32) (hl : ds.length ≤ 2000) (r : ∀ x ∈ ds, okR x) :
    m_wrong_row [.d (.int w), .d (.tup ds)] S = .ok (.d (match firstB (badR w ds.length) 0 ds with | some i => .int (i : Nat) | none => .non)) S := by
  refine ok_eq ?_
  unfold m_wrong_row
  refine ok_fn ?_
  unfold b_wrong_row
  simp
  rw [enD_itm]
  have main := find_loop (S := S) (bad := badR w ds.length) (f := fun j d => .tup [.int (j : Nat), d]) (res := fun i => .d (.int (i : Nat))) (g := dgTup 2 (dgCons (dgName 2) (dgCons (dgName 3) dgNil)))
    (body := dSeq (dIfS (dtNot (dB (dCallN 4 m_is_program_row (dCons (dVar 0) (dCons (dVar 3) (dCons (dVar 2) (dCons (dCall (o1 bLen) (dCons (dVar 1) dNil)) dNil))))))) (dRet (dVar 2)) dNext)
      (dIfS (dtAnd (dB (dOp oEq (dVar 2) (dOp oSub (dCall (o1 bLen) (dCons (dVar 1) dNil)) (dC (.int 1))))) (dB (dOp oNe (dOp oIx (dVar 3) (dC (.int 0))) (dC (.str "stop"))))) (dRet (dVar 2)) dNext))
    (fun env => ∃ e2 e3, env = [some (.d (.int w)), some (.d (.tup ds)), e2, e3]) (ds := ds) (j := 0) ⟨none, none, rfl⟩ (fun i d hd env hK => ?_)
  · split at main
    · rename_i e
      rw [main]
      simp
    · rename_i e
      obtain ⟨e2, _, m⟩ := main
      rw [m]
      simp
  · obtain ⟨e2, e3, rfl⟩ := hK
    have ro := r d (List.mem_of_getElem? hd)
    have hi := (List.getElem?_eq_some_iff.mp hd).1
    have ir := fun T => is_row_any (k := i) (n := ds.length) T h1 h ro
    simp only [Nat.zero_add]
    refine ⟨[some (.d (.int w)), some (.d (.tup ds)), some (.d (.int (i : Nat))), some (.d d)], by simp, fun good => ⟨_, ?_, some (.d (.int (i : Nat))), some (.d d), rfl⟩, fun bad => ?_⟩
    · simp only [badR, Bool.or_eq_false_iff, Bool.not_eq_false'] at good
      obtain ⟨z, ps, rfl⟩ := line_head good.1
      have e1 : ((i : Int) = (ds.length : Int) - 1) ↔ i + 1 = ds.length := by omega
      have g2 := good.2
      simp [stopB] at g2
      simp [ir, good.1, e1]
      by_cases c : i + 1 = ds.length
      · simp [c, g2 c]
      · simp [c]
    · cases q : lineB w i ds.length d
      · simp [ir, q]
      · obtain ⟨z, ps, rfl⟩ := line_head q
        simp [badR, q, stopB] at bad
        have e1 : ((i : Int) = (ds.length : Int) - 1) ↔ i + 1 = ds.length := by omega
        simp [ir, q, e1, bad]
end Law
set_option Elab.async false
set_option linter.all false
set_option maxRecDepth 100000
set_option maxHeartbeats 4000000
namespace Law
open PySem PySem.Spec PyProof.Rows L2 GxR Gx Dn
theorem oEqT_py {neg : Bool} {x : D} {z : Str} {S : Sto} {p : PyData} (h : x.py = some p) : oEqT neg (.d (.tup [x])) (.d (.tup [.str z])) S = oEqB neg (.d (.tup [x])) (.d (.tup [.str z])) S := by
  cases x <;> first | rfl | simp [D.py] at h
/-- the first of a row is no stop: some truth, the right one for a row that begins with a text -/
theorem head_ne {ds : List D} (hl : ds.length ≤ 900) (hx : ∀ x ∈ ds, okD x) (S : Sto) : ∃ b, oEqT true (.d (.tup (cutL ds none (some 1)))) (.d (.tup [.str "stop"])) S = .ok (.d (.bl b)) S ∧ ∀ z ps, ds = .str z :: ps → b = !decide (z = "stop") := by
  have s2 : SeqAt.shaped (.tuple [.str "stop"]) = true := by decide +kernel
  cases ds with
  | nil =>
    have e : cutL ([] : List D) none (some 1) = [] := by simp [cutL, HT.sIx]
    rw [e]
    have s1 : SeqAt.shaped (.tuple []) = true := by decide
    have e0 : oEqT true (.d (.tup [])) (.d (.tup [.str "stop"])) S = oEqB true (.d (.tup [])) (.d (.tup [.str "stop"])) S := rfl
    exact ⟨true, by rw [e0]; simp [oEqB, pyV, D.py, pys, s1, s2, PyData.eqv, PyData.eqvAll], by simp⟩
  | cons x ps =>
    have e : cutL (x :: ps) none (some 1) = [x] := by simp [cutL, HT.sIx]
    rw [e]
    rcases (hx x List.mem_cons_self).p with ⟨p, ep, cp, dp⟩ | rfl
    · have s1 : SeqAt.shaped (.tuple [p]) = true := by simp [SeqAt.shaped, PyData.canLay0, PyData.canLayAll0, cp, PyData.depth, PyData.depthAll]; omega
      refine ⟨!PyData.eqv (.tuple [p]) (.tuple [.str "stop"]), by rw [oEqT_py ep]; simp [oEqB, pyV, D.py, pys, ep, s1, s2], fun z ps' h => ?_⟩
      cases h
      simp [D.py] at ep
      subst ep
      simp [PyData.eqv, PyData.eqvAll]
      rw [Bool.eq_iff_iff]
      simp
    · exact ⟨true, by simp, by simp⟩
/-- what the law says is wrong with a code -/
def wrongC (w : Nat) : D → D
  | .tup ds => if 1 ≤ ds.length ∧ ds.length ≤ 2000 then (match firstB (badR w ds.length) 0 ds with | some i => .tup [.int (i : Nat)] | none => .tup []) else .tup [.non]
  | _ => .tup [.non]
theorem wrong_line_any {w : Nat} {ds : List D} (S : Sto) (h1 : 1 ≤ w) (h : w ≤ 32) (hl : ds.length ≤ 2000) (r : ∀ x ∈ ds, okR x) :
    m__law_wrong_line [.d (.tup ds), .d (.int w)] S = .ok (.d (wrongC w (.tup ds))) S := by
  have k1 : 1 ≤ szL := by rw [szL]; omega
  refine ok_eq ?_
  unfold m__law_wrong_line
  refine ok_fn ?_
  unfold b__law_wrong_line
  by_cases c : 1 ≤ ds.length
  · have c2 : (1 : Int) ≤ (ds.length : Int) := by omega
    have c3 : (ds.length : Int) ≤ 2000 := by omega
    have sm : smallI (ds.length : Int) = true := by unfold smallI; simp; omega
    simp [isi, c2, c3, sm]
    rw [rng_itm]
    have main := find_loop (S := S) (bad := badR w ds.length) (f := fun j _ => .int (j : Nat)) (res := fun i => .d (.tup [.int (i : Nat)])) (g := dgName 2)
      (body := dSeq (dAsg (dAnd (dOp oEq (dVar 2) (dOp oSub (dCall (o1 bLen) (dCons (dVar 0) dNil)) (dC (.int 1)))) (dAnd (dUn (oIsi .tup) (dOp oIx (dVar 0) (dVar 2))) (dOp (oEqT true) (dSl (dOp oIx (dVar 0) (dVar 2)) dO0 (dO1 (dC (.int 1)))) (dCall oTup (dCons (dC (.str "stop")) dNil))))) (dgName 3))
        (dIfS (dtOr (dB (dVar 3)) (dtNot (dB (dCallN 4 m__law_is_line (dCons (dOp oIx (dVar 0) (dVar 2)) (dCons (dVar 2) (dCons (dCall (o1 bLen) (dCons (dVar 0) dNil)) (dCons (dVar 1) dNil)))))))) (dRet (dCall oTup (dCons (dVar 2) dNil))) dNext))
      (fun env => ∃ e2 e3, env = [some (.d (.tup ds)), some (.d (.int w)), e2, e3]) (ds := ds) (j := 0) ⟨none, none, rfl⟩ (fun i d hd env hK => ?_)
    · split at main
      · rename_i i e
        rw [main]
        simp [wrongC, c, hl, e]
      · rename_i e
        obtain ⟨e2, _, m⟩ := main
        rw [m]
        simp [wrongC, c, hl, e, szL]
    · obtain ⟨e2, e3, rfl⟩ := hK
      have ro := r d (List.mem_of_getElem? hd)
      have hi := (List.getElem?_eq_some_iff.mp hd).1
      have il := fun T => is_line_any (k := i) (n := ds.length) T h1 h ro
      have at_ : atI ds (i : Int) = some d := by rw [atI_cast]; exact hd
      have e1 : ((i : Int) = (ds.length : Int) - 1) ↔ i + 1 = ds.length := by omega
      have nd := ro.n
      simp only [Nat.zero_add]
      refine ⟨[some (.d (.tup ds)), some (.d (.int w)), some (.d (.int (i : Nat))), e3], by simp, fun good => ⟨_, ?_, some (.d (.int (i : Nat))), some (.d (.bl false)), rfl⟩, fun bad => ?_⟩
      · simp only [badR, Bool.or_eq_false_iff, Bool.not_eq_false'] at good
        obtain ⟨z, ps, rfl⟩ := line_head good.1
        obtain ⟨hl2, hx2⟩ := ro.t _ rfl
        have g2 := good.2
        simp [stopB] at g2
        have hne := fun T => head_ne hl2 hx2 T
        by_cases c : i + 1 = ds.length
        · obtain ⟨b, hb, hb2⟩ := hne S
          have hb3 := hb2 z ps rfl
          rw [g2 c] at hb3
          simp at hb3
          subst hb3
          simp [at_, e1, c, isi, il, good.1, k1, hb]
        · simp [at_, e1, c, isi, il, good.1]
      · by_cases c : i + 1 = ds.length
        · cases d with
          | tup xs =>
            obtain ⟨hl2, hx2⟩ := ro.t _ rfl
            obtain ⟨b, hb, hb2⟩ := head_ne hl2 hx2 S
            cases b
            · cases q : lineB w i ds.length (.tup xs)
              · simp [at_, e1, c, isi, il, q, k1, hb]
              · obtain ⟨z, ps, e⟩ := line_head q
                cases e
                have := hb2 z ps rfl
                simp [badR, q, c, stopB] at bad
                simp [bad] at this
            · simp [at_, e1, c, isi, k1, hb]
          | obj cc fs => simp [nob] at nd
          | _ => simp [at_, e1, c, isi, il, lineB, k1]
        · have q : lineB w i ds.length d = false := by simpa [badR, c] using bad
          simp [at_, e1, c, isi, il, q, k1]
  · have e0 : ds = [] := by cases ds with | nil => rfl | cons x y => simp at c
    subst e0
    simp [isi, wrongC, k1]
end Law
set_option Elab.async false
set_option linter.all false
set_option maxRecDepth 100000
set_option maxHeartbeats 4000000
namespace Law
open PySem PySem.Spec PyProof.Rows L2 GxR Gx Dn
/-! what is shown, and the answers of heard_of -/
def rz (C b : Str) (v : Val) (S : Sto) : Out Dn.Fl := match v with
  | .d x => .exc ⟨C, [(b, x)]⟩ S
  | .r _ => .bad
@[simp] theorem rz_d (C b : Str) (x : D) (S : Sto) : rz C b (.d x) S = .exc ⟨C, [(b, x)]⟩ S := (rfl)
@[simp] theorem dRaise_eq (C b : Str) (f : DEf) (env : Dn.Env) (S : Sto) : dRaise C b f env S = (f env S).bind (rz C b) := by
  unfold dRaise rz
  rfl
theorem fn_exc {N : Nat} {body : DSf} {xs : List Val} {S : Sto} {x : Exn} (h : body (xs.map some ++ List.replicate (N - xs.length) none) S = .exc x S) : dFn N body xs S = .exc x S := by
  unfold dFn
  rw [h]
  simp
structure rp (x : D) (s : Str) : Prop where
  sh : ∀ S, bRepr (.d x) S = .ok (.d (.str s)) S
  ok : PyData.strOk s = true
theorem rp_of {x : D} {p : PyData} (e : x.py = some p) (h1 : p.showable = true) (h2 : p.hasDict = false) (h3 : p.depth ≤ 30) (h4 : p.shown.length ≤ szL) (h5 : PyData.strOk p.shown = true) : rp x p.shown :=
  ⟨fun S => by simp [bRepr, pyV, e, h1, h2, h3, h4], h5⟩
theorem strOk_of (t : String) : PyData.strOk (Str.ofString t) = true := by
  unfold PyData.strOk
  rw [Str.ofString_eq_toList]
  simp
  intro c _
  have := c.valid
  simp only [UInt32.isValidChar, Nat.isValidChar] at this
  have e : c.toNat = c.val.toNat := rfl
  omega
theorem rp_int {i : Int} (h : i.natAbs < 2 ^ 200) : ∃ s, rp (.int i) s := by
  obtain ⟨p, e, h1, h2, h3, h4⟩ := (shl_int h (by decide) (by decide)).ex
  simp only [D.py, Option.some.injEq] at e
  subst e
  exact ⟨_, rp_of (p := .int i) (by simp [D.py]) h1 h2 (by omega) (by rw [szL]; omega) (strOk_of _)⟩
theorem rp_non : rp .non "None" := rp_of (p := .none) (by simp [D.py]) (by decide +kernel) (by decide +kernel) (by decide +kernel) (by rw [szL]; decide +kernel) (by decide +kernel)
def wrongL : List D := [.int 3, .int 33, .bl true, .non, .str "8", .tup [.int 8], .int (-1), .int 100000000000000000000, .int 0, .lst []]
def oddN : List D := [.non, .bl true, .str "1", .tup [.int 1], .bl false, .lst []]
theorem rp_wrong {x : D} (h : x ∈ wrongL ∨ x ∈ oddN) : ∃ s, rp x s := by
  have sz : szL = 16777216 := rfl
  have b : ∀ b : Bool, ∃ s, rp (.bl b) s := fun b => ⟨_, rp_of (p := .bool b) (by simp [D.py]) (by cases b <;> decide +kernel) (by cases b <;> decide +kernel) (by cases b <;> decide +kernel) (by rw [sz]; cases b <;> decide +kernel) (by cases b <;> decide +kernel)⟩
  have l : ∃ s, rp (.lst []) s := ⟨_, rp_of (p := .list []) (by simp [D.py, pys]) (by decide +kernel) (by decide +kernel) (by decide +kernel) (by rw [sz]; decide +kernel) (by decide +kernel)⟩
  simp only [wrongL, oddN, List.mem_cons, List.not_mem_nil, or_false] at h
  rcases h with (rfl | rfl | rfl | rfl | rfl | rfl | rfl | rfl | rfl | rfl) | (rfl | rfl | rfl | rfl | rfl | rfl)
  · exact rp_int (by decide)
  · exact rp_int (by decide)
  · exact b _
  · exact ⟨_, rp_non⟩
  · exact ⟨_, rp_of (p := .str "8") (by simp [D.py]) (by decide +kernel) (by decide +kernel) (by decide +kernel) (by rw [sz]; decide +kernel) (by decide +kernel)⟩
  · exact ⟨_, rp_of (p := .tuple [.int 8]) (by simp [D.py, pys]) (by decide +kernel) (by decide +kernel) (by decide +kernel) (by rw [sz]; decide +kernel) (by decide +kernel)⟩
  · exact rp_int (by decide)
  · exact rp_int (by decide)
  · exact rp_int (by decide)
  · exact l
  · exact ⟨_, rp_non⟩
  · exact b _
  · exact ⟨_, rp_of (p := .str "1") (by simp [D.py]) (by decide +kernel) (by decide +kernel) (by decide +kernel) (by rw [sz]; decide +kernel) (by decide +kernel)⟩
  · exact ⟨_, rp_of (p := .tuple [.int 1]) (by simp [D.py, pys]) (by decide +kernel) (by decide +kernel) (by decide +kernel) (by rw [sz]; decide +kernel) (by decide +kernel)⟩
  · exact b _
  · exact l
/-! isinstance and fields of the handled error -/
def isEo (o : Option Bool) (S : Sto) : Out Val := match o with
  | some b => .ok (.d (.bl b)) S
  | none => .bad
@[simp] theorem isEo_some (b : Bool) (S : Sto) : isEo (some b) S = .ok (.d (.bl b)) S := (rfl)
def isEv (k : Str → Option Bool) (x : Val) (S : Sto) : Out Val := match x with
  | .d (.obj c _) => isEo (k c) S
  | _ => .bad
@[simp] theorem isEv_obj (k : Str → Option Bool) (c : Str) (fs : List (Str × D)) (S : Sto) : isEv k (.d (.obj c fs)) S = isEo (k c) S := (rfl)
@[simp] theorem dIsE_eq (k : Str → Option Bool) (f : DEf) (env : Dn.Env) (S : Sto) : dIsE k f env S = (f env S).bind (isEv k) := by
  unfold dIsE isEv isEo
  rfl
def xfo (o : Option D) (S : Sto) : Out Val := match o with
  | some d => .ok (.d d) S
  | none => .bad
@[simp] theorem xfo_some (d : D) (S : Sto) : xfo (some d) S = .ok (.d d) S := (rfl)
def xfv (n : Str) (x : Val) (S : Sto) : Out Val := match x with
  | .d (.obj _ fs) => xfo (fs.lookup n) S
  | _ => .bad
@[simp] theorem xfv_obj (n c : Str) (fs : List (Str × D)) (S : Sto) : xfv n (.d (.obj c fs)) S = xfo (fs.lookup n) S := (rfl)
@[simp] theorem dXf_eq (n : Str) (f : DEf) (env : Dn.Env) (S : Sto) : dXf n f env S = (f env S).bind (xfv n) := by
  unfold dXf xfv xfo
  rfl
@[simp] theorem diSeqT_eq (f : DEf) (env : Dn.Env) (S : Sto) : diSeqT f env S = (f env S).bind iSeqT := (rfl)
@[simp] theorem iSeqT_tup (ds : List D) (S : Sto) : iSeqT (.d (.tup ds)) S = .ok ⟨ds, []⟩ S := (rfl)
theorem lk1 (n : Str) (x : D) : List.lookup n [(n, x)] = some x := by simp [List.lookup]
theorem ne_num : ("InvalidNumber" : Str) ≠ "InvalidController" ∧ ("InvalidNumber" : Str) ≠ "InvalidState" ∧ ("InvalidNumber" : Str) ≠ "InvalidForm" ∧ ("InvalidNumber" : Str) ≠ "InvalidMemory" ∧ ("InvalidNumber" : Str) ≠ "InvalidName" ∧ ("InvalidNumber" : Str) ≠ "InvalidLoop" ∧ ("InvalidNumber" : Str) ≠ "TooMany" ∧ ("InvalidNumber" : Str) ≠ "InvalidLot" ∧ ("InvalidNumber" : Str) ≠ "InvalidPlant" ∧ ("InvalidNumber" : Str) ≠ "InvalidReadings" ∧ ("InvalidNumber" : Str) ≠ "InvalidRows" ∧ ("InvalidNumber" : Str) ≠ "InvalidNumbers" ∧ ("InvalidNumber" : Str) ≠ "InvalidProgram" ∧ ("InvalidNumber" : Str) ≠ "InvalidCells" ∧ ("InvalidNumber" : Str) ≠ "InvalidText" ∧ ("InvalidNumber" : Str) ≠ "InvalidWrites" ∧ ("InvalidNumber" : Str) ≠ "InvalidRow" := by decide +kernel
theorem named_num {x : D} {s : Str} (S : Sto) (r : rp x s) : m__law_named [.d (.obj "InvalidNumber" [("given", x)])] S = .ok (.d (.lst [.str "number", .str s])) S := by
  have k2 : 2 ≤ szL := by rw [szL]; omega
  have k10 : 10 ≤ szL := by rw [szL]; omega
  have k8 : 8 ≤ szL := by rw [szL]; omega
  have k0 : 1 ≤ szL := by rw [szL]; omega
  refine ok_eq ?_
  unfold m__law_named
  refine ok_fn ?_
  unfold b__law_named
  simp [dLoop_cons, ne_num, k2, k10, k8, k0, r.sh, lk1]
theorem ne_prog : ("InvalidProgram" : Str) ≠ "InvalidNumber" ∧ ("InvalidProgram" : Str) ≠ "InvalidController" ∧ ("InvalidProgram" : Str) ≠ "InvalidState" ∧ ("InvalidProgram" : Str) ≠ "InvalidForm" ∧ ("InvalidProgram" : Str) ≠ "InvalidMemory" ∧ ("InvalidProgram" : Str) ≠ "InvalidName" ∧ ("InvalidProgram" : Str) ≠ "InvalidLoop" ∧ ("InvalidProgram" : Str) ≠ "TooMany" ∧ ("InvalidProgram" : Str) ≠ "InvalidLot" ∧ ("InvalidProgram" : Str) ≠ "InvalidPlant" ∧ ("InvalidProgram" : Str) ≠ "InvalidReadings" ∧ ("InvalidProgram" : Str) ≠ "InvalidRows" ∧ ("InvalidProgram" : Str) ≠ "InvalidNumbers" ∧ ("InvalidProgram" : Str) ≠ "InvalidCells" ∧ ("InvalidProgram" : Str) ≠ "InvalidText" ∧ ("InvalidProgram" : Str) ≠ "InvalidWrites" ∧ ("InvalidProgram" : Str) ≠ "InvalidRow" := by decide +kernel
theorem named_prog {x : D} {s : Str} (S : Sto) (r : rp x s) : m__law_named [.d (.obj "InvalidProgram" [("index", x)])] S = .ok (.d (.lst [.str "program", .str s])) S := by
  have k2 : 2 ≤ szL := by rw [szL]; omega
  have k10 : 10 ≤ szL := by rw [szL]; omega
  have k8 : 8 ≤ szL := by rw [szL]; omega
  have k0 : 1 ≤ szL := by rw [szL]; omega
  refine ok_eq ?_
  unfold m__law_named
  refine ok_fn ?_
  unfold b__law_named
  simp [dLoop_cons, ne_prog, k2, k10, k8, k0, r.sh, lk1]
theorem ne_cells : ("InvalidCells" : Str) ≠ "InvalidNumber" ∧ ("InvalidCells" : Str) ≠ "InvalidController" ∧ ("InvalidCells" : Str) ≠ "InvalidState" ∧ ("InvalidCells" : Str) ≠ "InvalidForm" ∧ ("InvalidCells" : Str) ≠ "InvalidMemory" ∧ ("InvalidCells" : Str) ≠ "InvalidName" ∧ ("InvalidCells" : Str) ≠ "InvalidLoop" ∧ ("InvalidCells" : Str) ≠ "TooMany" ∧ ("InvalidCells" : Str) ≠ "InvalidLot" ∧ ("InvalidCells" : Str) ≠ "InvalidPlant" ∧ ("InvalidCells" : Str) ≠ "InvalidReadings" ∧ ("InvalidCells" : Str) ≠ "InvalidRows" ∧ ("InvalidCells" : Str) ≠ "InvalidNumbers" ∧ ("InvalidCells" : Str) ≠ "InvalidProgram" ∧ ("InvalidCells" : Str) ≠ "InvalidText" ∧ ("InvalidCells" : Str) ≠ "InvalidWrites" ∧ ("InvalidCells" : Str) ≠ "InvalidRow" := by decide +kernel
theorem named_cells {x : D} {s : Str} (S : Sto) (r : rp x s) : m__law_named [.d (.obj "InvalidCells" [("index", x)])] S = .ok (.d (.lst [.str "cells", .str s])) S := by
  have k2 : 2 ≤ szL := by rw [szL]; omega
  have k10 : 10 ≤ szL := by rw [szL]; omega
  have k8 : 8 ≤ szL := by rw [szL]; omega
  have k0 : 1 ≤ szL := by rw [szL]; omega
  refine ok_eq ?_
  unfold m__law_named
  refine ok_fn ?_
  unfold b__law_named
  simp [dLoop_cons, ne_cells, k2, k10, k8, k0, r.sh, lk1]
def tbE : List (Str × Str × Str) := [("InvalidNumber", "given", "number"), ("InvalidProgram", "index", "program"), ("InvalidCells", "index", "cells")]
theorem named_any {C b word : Str} {x : D} {s : Str} (S : Sto) (m : (C, b, word) ∈ tbE) (r : rp x s) : m__law_named [.d (.obj C [(b, x)])] S = .ok (.d (.lst [.str word, .str s])) S := by
  simp only [tbE, List.mem_cons, Prod.mk.injEq, List.not_mem_nil, or_false] at m
  rcases m with ⟨rfl, rfl, rfl⟩ | ⟨rfl, rfl, rfl⟩ | ⟨rfl, rfl, rfl⟩
  · exact named_num S r
  · exact named_prog S r
  · exact named_cells S r
theorem heard_exc {f : DEf} {env : Dn.Env} {C b word : Str} {x : D} {s : Str} {S : Sto} (h : f env S = .exc ⟨C, [(b, x)]⟩ S) (m : (C, b, word) ∈ tbE) (r : rp x s) (n : noS S = true) :
    dHeard rs__law_heard_of m__law_named "let" "" f env S = .ok (.d (.lst [.str word, .str s])) S := by
  have hC : C ∈ rs__law_heard_of := by
    simp only [tbE, List.mem_cons, Prod.mk.injEq, List.not_mem_nil, or_false] at m
    rcases m with ⟨rfl, _⟩ | ⟨rfl, _⟩ | ⟨rfl, _⟩ <;> simp
  unfold dHeard
  rw [h]
  dsimp only
  rw [if_pos hC, named_any S m r]
  unfold hotAns
  dsimp only
  rw [if_pos (by simp [noO, noOs, n])]
theorem heard_ok {f : DEf} {env : Dn.Env} {y : Val} {S : Sto} (h : f env S = .ok y S) : dHeard rs__law_heard_of m__law_named "let" "" f env S = .ok (.d (.lst [.str "let", .str ""])) S := by
  unfold dHeard
  rw [h]
/-- what a call comes to, and what is due -/
inductive outR (o : Out Val) (due : D) (S : Sto) : Prop
  | lets (y : Val) (h : o = .ok y S) (e : due = .lst [.str "let", .str ""])
  | exc (C b word : Str) (x : D) (s : Str) (m : (C, b, word) ∈ tbE) (r : rp x s) (h : o = .exc ⟨C, [(b, x)]⟩ S) (e : due = .lst [.str word, .str s])
/-- two texts -/
structure twoT (due : D) : Prop where
  ex : ∃ a b, due = .lst [.str a, .str b] ∧ PyData.strOk a = true ∧ PyData.strOk b = true
theorem outR_two {o : Out Val} {due : D} {S : Sto} (h : outR o due S) : twoT due := by
  rcases h with ⟨y, h, e⟩ | ⟨C, b, word, x, s, m, r, h, e⟩
  · exact ⟨_, _, e, by decide +kernel, by decide +kernel⟩
  · refine ⟨_, _, e, ?_, r.ok⟩
    simp only [tbE, List.mem_cons, Prod.mk.injEq, List.not_mem_nil, or_false] at m
    rcases m with ⟨_, _, rfl⟩ | ⟨_, _, rfl⟩ | ⟨_, _, rfl⟩ <;> decide +kernel
theorem outR_heard {f : DEf} {env : Dn.Env} {due : D} {S : Sto} (h : outR (f env S) due S) (n : noS S = true) : dHeard rs__law_heard_of m__law_named "let" "" f env S = .ok (.d due) S := by
  rcases h with ⟨y, h, rfl⟩ | ⟨C, b, word, x, s, m, r, h, rfl⟩
  · exact heard_ok h
  · exact heard_exc h m r n
theorem two_ne {due : D} (h : twoT due) (S : Sto) : oEqB true (.d due) (.d due) S = .ok (.d (.bl false)) S := by
  obtain ⟨a, b, rfl, ha, hb⟩ := h
  have s1 : SeqAt.shaped (.list [.str a, .str b]) = true := by simp [SeqAt.shaped, PyData.canLay0, PyData.canLayAll0, ha, hb, PyData.depth, PyData.depthAll]
  simp [oEqB, pyV, D.py, pys, s1, PyData.eqv, PyData.eqvAll]
end Law
set_option Elab.async false
set_option linter.all false
set_option maxRecDepth 100000
set_option maxHeartbeats 4000000
namespace Law
open PySem PySem.Spec PyProof.Rows L2 GxR Gx Dn
/-! run_program at any code and cells -/
theorem exc_loop {g : DGf} {body : DSf} {bad : Nat → D → Bool} {f : Nat → D → D} {ex : Nat → Exn} {S : Sto} (K : Dn.Env → Prop) : ∀ {ds : List D} {j : Nat} {env : Dn.Env}, K env →
    (∀ i d, ds[i]? = some d → ∀ env, K env → ∃ e1, g (.d (f (j + i) d)) env S = .ok e1 S ∧ (bad (j + i) d = false → ∃ e2, body e1 S = .ok (.nx e2) S ∧ K e2) ∧ (bad (j + i) d = true → body e1 S = .exc (ex (j + i)) S)) →
    match firstB bad j ds with
    | some i => dLoop g body [] (itm f j ds) env S = .exc (ex i) S
    | none => ∃ e2, K e2 ∧ dLoop g body [] (itm f j ds) env S = .ok (.nx e2) S
  | [], j, env, h0, _ => ⟨env, h0, by simp [itm]⟩
  | d :: ds, j, env, h0, hs => by
    obtain ⟨e1, q1, good, no⟩ := hs 0 d rfl env h0
    simp only [Nat.add_zero] at q1 good no
    cases e : bad j d
    · obtain ⟨e2, q2, k2⟩ := good e
      have ih := exc_loop K (ds := ds) (j := j + 1) k2 fun i d' hd env hk => by
        have := hs (i + 1) d' (by simpa using hd) env hk
        rw [show j + (i + 1) = j + 1 + i by omega] at this
        exact this
      simp only [firstB, e, itm, dLoop_cons, q1, Out.bind_ok, q2, goOn_nx]
      exact ih
    · simp [firstB, e, itm, dLoop_cons, q1, no e]
theorem firstB_none {bad : Nat → D → Bool} : ∀ {ds : List D} {j : Nat}, firstB bad j ds = none → ∀ i d, ds[i]? = some d → bad (j + i) d = false
  | [], j, _, i, d, hd => by simp at hd
  | x :: ds, j, h, i, d, hd => by
    simp only [firstB] at h
    split at h
    · cases h
    · rename_i q
      cases i with
      | zero => simp at hd; subst hd; simpa using q
      | succ i =>
        have := firstB_none h i d (by simpa using hd)
        rw [show j + (i + 1) = j + 1 + i by omega]
        exact this
theorem firstB_lt {bad : Nat → D → Bool} : ∀ {ds : List D} {j i : Nat}, firstB bad j ds = some i → i < j + ds.length
  | [], j, i, h => by simp [firstB] at h
  | x :: ds, j, i, h => by
    simp only [firstB] at h
    split at h
    · cases h; simp
    · have := firstB_lt h
      simp
      omega
def wordF (w : Nat) (_ : Nat) (d : D) : Bool := !fromB d (-tw w) (tw w - 1)
theorem check_words_any {w : Nat} {es : List D} (S : Sto) (h1 : 1 ≤ w) (h : w ≤ 32) (hx : ∀ x ∈ es, nob x = true) : match firstB (wordF w) 0 es with
    | some i => m_check_words [.d (.int w), .d (.tup es)] S = .exc ⟨"InvalidCells", [("index", .int (i : Nat))]⟩ S
    | none => m_check_words [.d (.int w), .d (.tup es)] S = .ok (.d .non) S := by
  have main := exc_loop (S := S) (bad := wordF w) (f := fun j d => .tup [.int (j : Nat), d]) (ex := fun i => ⟨"InvalidCells", [("index", .int (i : Nat))]⟩) (g := dgTup 2 (dgCons (dgName 2) (dgCons (dgName 3) dgNil)))
    (body := dIfS (dtNot (dB (dCallN 2 m_is_word (dCons (dVar 0) (dCons (dVar 3) dNil))))) (dRaise "InvalidCells" "index" (dVar 2)) dNext)
    (fun env => ∃ e2 e3, env = [some (.d (.int w)), some (.d (.tup es)), e2, e3]) (ds := es) (j := 0) ⟨none, none, rfl⟩ (fun i d hd env hK => ?_)
  · cases e : firstB (wordF w) 0 es with
    | some i =>
      rw [e] at main
      dsimp only at main ⊢
      unfold m_check_words
      refine fn_exc ?_
      unfold b_check_words
      simp
      rw [enD_itm, main]
    | none =>
      rw [e] at main
      dsimp only at main ⊢
      obtain ⟨e2, _, m⟩ := main
      refine ok_eq ?_
      unfold m_check_words
      refine ok_fn ?_
      unfold b_check_words
      simp
      rw [enD_itm, m]
      simp
  · obtain ⟨e2, e3, rfl⟩ := hK
    have iw := fun T => is_word_any (w := w) T h1 h (hx d (List.mem_of_getElem? hd))
    simp only [Nat.zero_add]
    refine ⟨[some (.d (.int w)), some (.d (.tup es)), some (.d (.int (i : Nat))), some (.d d)], by simp, fun good => ⟨_, ?_, some (.d (.int (i : Nat))), some (.d d), rfl⟩, fun bad => ?_⟩
    · simp [wordF] at good
      simp [iw, good]
    · simp [wordF] at bad
      simp [iw, bad]
/-! a right row -/
theorem idx_nat {x : D} {n : Nat} (h : idxB x n = true) : ∃ a : Nat, x = .int a ∧ a < n := by
  cases x <;> simp [idxB] at h
  rename_i i
  obtain ⟨a, rfl⟩ := Int.eq_ofNat_of_zero_le h.1
  exact ⟨a, rfl, by omega⟩
theorem from_int {x : D} {w : Nat} (h : fromB x (-tw w) (tw w - 1) = true) : ∃ v : Int, x = .int v ∧ -tw w ≤ v ∧ v < tw w := by
  obtain ⟨v, e, h1, h2⟩ := fromB_inv h
  exact ⟨v, e, h1, by omega⟩
theorem kind_cell {w k n : Nat} {x : D} (h : kindB w k n "cell" x = true) : ∃ a : Nat, x = .int a ∧ a < 128 := by
  simp [kindB, snc] at h
  exact idx_nat (n := 128) h
theorem kind_word {w k n : Nat} {x : D} (h : kindB w k n "word" x = true) : ∃ v : Int, x = .int v ∧ -tw w ≤ v ∧ v < tw w := by
  simp [kindB, snc] at h
  exact from_int h
theorem kind_row {w k n : Nat} {x : D} (h : kindB w k n "row" x = true) : ∃ a : Nat, x = .int a ∧ k < a ∧ a < n := by
  simp [kindB, snc] at h
  obtain ⟨a, rfl, ha⟩ := idx_nat h.1
  have := h.2
  simp [gtD] at this
  exact ⟨a, rfl, this, ha⟩
theorem line_inv {w k n : Nat} {d : D} (h : lineB w k n d = true) : ∃ r : Rw, d = r.d ∧ r.ok w k n 128 := by
  obtain ⟨z, ps, rfl⟩ := line_head h
  simp only [lineB] at h
  cases e : tb_ROW_PARTS.lookup z with
  | none => simp [e] at h
  | some ks =>
    simp only [e, Bool.and_eq_true, decide_eq_true_eq] at h
    obtain ⟨hl, hk⟩ := h
    by_cases c1 : z = "put"
    · subst c1
      rw [lk_put] at e
      cases e
      match ps, hl with
      | [x, y], _ =>
        simp at hk
        obtain ⟨a, rfl, ha⟩ := kind_cell hk.1
        obtain ⟨v, rfl, hv⟩ := kind_word hk.2
        exact ⟨.put a v, rfl, ha, hv⟩
    by_cases c2 : z = "copy"
    · subst c2
      rw [lk_copy] at e
      cases e
      match ps, hl with
      | [x, y], _ =>
        simp at hk
        obtain ⟨a, rfl, ha⟩ := kind_cell hk.1
        obtain ⟨b, rfl, hb⟩ := kind_cell hk.2
        exact ⟨.copy a b, rfl, ha, hb⟩
    by_cases c3 : z = "add"
    · subst c3
      rw [lk_add] at e
      cases e
      match ps, hl with
      | [x, y, u], _ =>
        simp at hk
        obtain ⟨a, rfl, ha⟩ := kind_cell hk.1
        obtain ⟨b, rfl, hb⟩ := kind_cell hk.2.1
        obtain ⟨c, rfl, hc⟩ := kind_cell hk.2.2
        exact ⟨.add a b c, rfl, ha, hb, hc⟩
    by_cases c4 : z = "less"
    · subst c4
      rw [lk_less] at e
      cases e
      match ps, hl with
      | [x, y, u], _ =>
        simp at hk
        obtain ⟨a, rfl, ha⟩ := kind_cell hk.1
        obtain ⟨b, rfl, hb⟩ := kind_cell hk.2.1
        obtain ⟨c, rfl, hc⟩ := kind_cell hk.2.2
        exact ⟨.less a b c, rfl, ha, hb, hc⟩
    by_cases c5 : z = "times"
    · subst c5
      rw [lk_times] at e
      cases e
      match ps, hl with
      | [x, y, u], _ =>
        simp at hk
        obtain ⟨a, rfl, ha⟩ := kind_cell hk.1
        obtain ⟨b, rfl, hb⟩ := kind_cell hk.2.1
        obtain ⟨v, rfl, hv⟩ := kind_word hk.2.2
        exact ⟨.times a b v, rfl, ha, hb, hv⟩
    by_cases c6 : z = "jump"
    · subst c6
      rw [lk_jump] at e
      cases e
      match ps, hl with
      | [x], _ =>
        simp at hk
        obtain ⟨a, rfl, ha⟩ := kind_row hk
        exact ⟨.jump a, rfl, ha⟩
    by_cases c7 : z = "below"
    · subst c7
      rw [lk_below] at e
      cases e
      match ps, hl with
      | [x, y, u], _ =>
        simp at hk
        obtain ⟨a, rfl, ha⟩ := kind_cell hk.1
        obtain ⟨b, rfl, hb⟩ := kind_cell hk.2.1
        obtain ⟨c, rfl, hc⟩ := kind_row hk.2.2
        exact ⟨.below a b c, rfl, ha, hb, hc⟩
    by_cases c8 : z = "stop"
    · subst c8
      rw [lk_stop] at e
      cases e
      match ps, hl with
      | [], _ => exact ⟨.stop, rfl, trivial⟩
    · unfold tb_ROW_PARTS at e
      have f : ∀ a b : Str, ¬ a = b → (a == b) = false := fun a b h => by simpa using h
      simp [List.lookup, f, c1, c2, c3, c4, c5, c6, c7, c8] at e
/-- the cells that a row names, as data -/
def cellsN (d : D) : List D := match d with
  | .tup (.str z :: ps) => (match tb_ROW_PARTS.lookup z with | some ks => ((ks.zip ps).filter fun p => decide (p.1 = ("cell" : Str))).map (·.2) | none => [])
  | _ => []
def ltD (m : Nat) : D → Bool
  | .int i => decide (i < (m : Int))
  | _ => false
def offB (m : Nat) (_ : Nat) (d : D) : Bool := !(cellsN d).all (ltD m)
theorem cellsN_row (r : Rw) : cellsN r.d = r.cells.map fun c : Nat => D.int c := by
  rw [Rw.d_eq]
  simp only [cellsN, Rw.lk]
  cases r <;> simp [Rw.parts, Rw.args, Rw.cells, snc]
theorem offB_row (m j : Nat) (r : Rw) : offB m j r.d = !r.cells.all fun c => decide (c < m) := by
  unfold offB
  rw [cellsN_row, List.all_map]
  congr 1
  refine congrArg (fun f => r.cells.all f) (funext fun c => ?_)
  simp [ltD]
structure codeV (d : D) : Prop where
  n : nob d = true
  t : ∀ ds, d = .tup ds → ds.length ≤ 100 ∧ ∀ x ∈ ds, okR x
structure cellV (d : D) : Prop where
  n : nob d = true
  t : ∀ ds, d = .tup ds → ds.length ≤ 1000 ∧ ∀ x ∈ ds, nob x = true
/-- a right code, by its rows -/
theorem code_inv {w : Nat} {ds : List D} (hl : 1 ≤ ds.length) (h : firstB (badR w ds.length) 0 ds = none) : ∃ rs : List Rw, ds = rs.map Rw.d ∧ (∀ (k : Nat) (r : Rw), rs[k]? = some r → r.ok w k rs.length 128) ∧ rs[rs.length - 1]? = some .stop := by
  have hb : ∀ i d, ds[i]? = some d → badR w ds.length i d = false := fun i d hd => by simpa using firstB_none h i d hd
  have key : ∀ (ds : List D) (n j : Nat), (∀ i d, ds[i]? = some d → lineB w (j + i) n d = true) → ∃ rs : List Rw, ds = rs.map Rw.d ∧ ∀ (k : Nat) (r : Rw), rs[k]? = some r → r.ok w (j + k) n 128 := by
    intro ds n
    induction ds with
    | nil => exact fun j _ => ⟨[], rfl, fun k r hr => by simp at hr⟩
    | cons d ds ih =>
      intro j hj
      obtain ⟨r, rfl, hr⟩ := line_inv (hj 0 d rfl)
      obtain ⟨rs, rfl, hrs⟩ := ih (j + 1) fun i d hd => by
        have := hj (i + 1) d (by simpa using hd)
        rw [show j + (i + 1) = j + 1 + i by omega] at this
        exact this
      refine ⟨r :: rs, rfl, fun k x hx => ?_⟩
      cases k with
      | zero => simp at hx; subst hx; exact hr
      | succ k =>
        have := hrs k x (by simpa using hx)
        rw [show j + (k + 1) = j + 1 + k by omega]
        exact this
  obtain ⟨rs, rfl, hrs⟩ := key ds ds.length 0 fun i d hd => by
    have := hb i d hd
    simp only [badR, Bool.or_eq_false_iff, Bool.not_eq_false'] at this
    rw [Nat.zero_add]
    exact this.1
  refine ⟨rs, rfl, fun k r hr => by have := hrs k r hr; simpa using this, ?_⟩
  simp only [List.length_map] at hl hb
  have hlt : rs.length - 1 < rs.length := by omega
  have e := List.getElem?_eq_getElem hlt
  generalize rs[rs.length - 1] = r at e
  have := hb (rs.length - 1) r.d (by rw [List.getElem?_map, e]; rfl)
  simp only [badR, Bool.or_eq_false_iff, Bool.not_eq_false'] at this
  have t := this.2
  rw [show rs.length - 1 + 1 = rs.length by omega] at t
  rw [Rw.d_eq] at t
  simp [stopB] at t
  rw [e, Rw.nm_stop.mp t]
section
variable {w : Nat} {d e : D}
theorem run_noTup (S : Sto) (h1 : 4 ≤ w) (h : w ≤ 32) (hd : nob d = true) (e : D) (ht : tupB d 1 2000 = false) : m_run_program [.d (.int w), .d d, .d e] S = .exc ⟨"InvalidProgram", [("index", .non)]⟩ S := by
  have tc := fun S : Sto => is_tuple_of_eq (lo := 1) (hi := 2000) S hd
  unfold m_run_program
  refine fn_exc ?_
  unfold b_run_program
  simp [check_width_eq S h1 h, tc, ht]
theorem run_wrong {ds : List D} {i : Nat} (S : Sto) (h1 : 4 ≤ w) (h : w ≤ 32) (hc : codeV (.tup ds)) (e : D) (hl : 1 ≤ ds.length) (hi : firstB (badR w ds.length) 0 ds = some i) : m_run_program [.d (.int w), .d (.tup ds), .d e] S = .exc ⟨"InvalidProgram", [("index", .int (i : Nat))]⟩ S := by
  obtain ⟨hl2, hr⟩ := hc.t _ rfl
  have tc : ∀ S : Sto, m_is_tuple_of [.d (.tup ds), .d (.int 1), .d (.int 2000)] S = .ok (.d (.bl true)) S := fun S => by
    rw [is_tuple_of_eq S rfl]
    simp [tupB]
    omega
  have wr := fun S : Sto => wrong_row_any S (by omega : 1 ≤ w) h (by omega) hr
  rw [hi] at wr
  unfold m_run_program
  refine fn_exc ?_
  unfold b_run_program
  simp [check_width_eq S h1 h, tc, wr, Dn.isNon]
variable {rs : List Rw}
/-- the code as rows, all that is asked of it but for the cells -/
structure codeR (w : Nat) (rs : List Rw) : Prop where
  pos : 1 ≤ rs.length
  len : rs.length ≤ 100
  each : ∀ (k : Nat) (r : Rw), rs[k]? = some r → r.ok w k rs.length 128
  last : rs[rs.length - 1]? = some .stop
  wr : ∀ S : Sto, m_wrong_row [.d (.int w), .d (code rs)] S = .ok (.d .non) S
theorem tc_code (c : codeR w rs) (S : Sto) : m_is_tuple_of [.d (code rs), .d (.int 1), .d (.int 2000)] S = .ok (.d (.bl true)) S := by
  rw [is_tuple_of_eq S rfl]
  have := c.pos
  have := c.len
  simp [tupB, code]
  omega
theorem run_noCells (S : Sto) (h1 : 4 ≤ w) (h : w ≤ 32) (c : codeR w rs) (he : nob e = true) (ht : tupB e 1 128 = false) : m_run_program [.d (.int w), .d (code rs), .d e] S = .exc ⟨"InvalidCells", [("index", .non)]⟩ S := by
  have tl := fun S : Sto => is_tuple_of_eq (lo := 1) (hi := 128) S he
  unfold m_run_program
  refine fn_exc ?_
  unfold b_run_program
  simp [check_width_eq S h1 h, tc_code c, c.wr, Dn.isNon, tl, ht]
theorem tl_cells {es : List D} (S : Sto) (l1 : 1 ≤ es.length) (l2 : es.length ≤ 128) : m_is_tuple_of [.d (.tup es), .d (.int 1), .d (.int 128)] S = .ok (.d (.bl true)) S := by
  rw [is_tuple_of_eq S rfl]
  simp [tupB]
  omega
theorem run_badCells {es : List D} {i : Nat} (S : Sto) (h1 : 4 ≤ w) (h : w ≤ 32) (c : codeR w rs) (hx : ∀ x ∈ es, nob x = true) (l1 : 1 ≤ es.length) (l2 : es.length ≤ 128) (hi : firstB (wordF w) 0 es = some i) : m_run_program [.d (.int w), .d (code rs), .d (.tup es)] S = .exc ⟨"InvalidCells", [("index", .int (i : Nat))]⟩ S := by
  have cw := fun S : Sto => check_words_any (w := w) S (by omega) h hx
  rw [hi] at cw
  dsimp only at cw
  unfold m_run_program
  refine fn_exc ?_
  unfold b_run_program
  simp [check_width_eq S h1 h, tc_code c, c.wr, Dn.isNon, tl_cells _ l1 l2, cw]
theorem run_off {es : List D} {i : Nat} (S : Sto) (h1 : 4 ≤ w) (h : w ≤ 32) (c : codeR w rs) (hx : ∀ x ∈ es, nob x = true) (l1 : 1 ≤ es.length) (l2 : es.length ≤ 128) (hn : firstB (wordF w) 0 es = none) (hi : firstB (offB es.length) 0 (rs.map Rw.d) = some i) :
    m_run_program [.d (.int w), .d (code rs), .d (.tup es)] S = .exc ⟨"InvalidProgram", [("index", .int (i : Nat))]⟩ S := by
  have cw := fun S : Sto => check_words_any (w := w) S (by omega) h hx
  rw [hn] at cw
  dsimp only at cw
  unfold m_run_program
  refine fn_exc ?_
  unfold b_run_program
  have ec : iEnum [.d (code rs)] S = .ok ⟨enD (rs.map Rw.d), []⟩ S := rfl
  simp [check_width_eq S h1 h, tc_code c, c.wr, Dn.isNon, tl_cells _ l1 l2, cw, ec]
  rw [enD_itm]
  have main := exc_loop (S := S) (bad := offB es.length) (f := fun j d => .tup [.int (j : Nat), d]) (ex := fun i => ⟨"InvalidProgram", [("index", .int (i : Nat))]⟩) (g := dgTup 2 (dgCons (dgName 4) (dgCons (dgName 5) dgNil)))
    (body := dIfS (dtNot (dB (dAllG (diSeq (dCallN 1 m_cells_named (dCons (dVar 5) dNil))) (dgName 6) (dOp oLt (dVar 6) (dCall (o1 bLen) (dCons (dVar 2) dNil))) [6]))) (dRaise "InvalidProgram" "index" (dVar 4)) dNext)
    (fun env => ∃ e4 e5 e6, env = [some (.d (.int w)), some (.d (code rs)), some (.d (.tup es)), some (.d .non), e4, e5, e6]) (ds := rs.map Rw.d) (j := 0) (env := [some (.d (.int w)), some (.d (code rs)), some (.d (.tup es)), some (.d .non), none, none, none]) ⟨none, none, none, rfl⟩ (fun i d hd env hK => ?_)
  · rw [hi] at main
    dsimp only at main
    rw [main]
    simp
  · obtain ⟨e4, e5, e6, rfl⟩ := hK
    rw [List.getElem?_map] at hd
    obtain ⟨r, er, rfl⟩ := Option.map_eq_some_iff.mp hd
    simp only [Nat.zero_add]
    have al : dAllG (diSeq (dCallN 1 m_cells_named (dCons (dVar 5) dNil))) (dgName 6) (dOp oLt (dVar 6) (dCall (o1 bLen) (dCons (dVar 2) dNil))) [6] [some (.d (.int w)), some (.d (code rs)), some (.d (.tup es)), some (.d .non), some (.d (.int (i : Nat))), some (.d r.d), e6] S = .ok (.d (.bl (!offB es.length i r.d))) S := by
      refine ok_eq (ok_allG (f := ltD es.length) (ds := r.cells.map fun c : Nat => D.int c) (by simp [cells_named_eq]) (fun d hd => ?_) ?_)
      · obtain ⟨c', hc', rfl⟩ := List.mem_map.mp hd
        simp [wipeE, ltD]
      · unfold offB
        rw [cellsN_row]
        simp
    refine ⟨[some (.d (.int w)), some (.d (code rs)), some (.d (.tup es)), some (.d .non), some (.d (.int (i : Nat))), some (.d r.d), e6], by simp, fun good => ⟨_, ?_, some (.d (.int (i : Nat))), some (.d r.d), e6, rfl⟩, fun bad => ?_⟩
    · simp only [dIfS_eq, dtNot_eq, dB_eq, al, good]
      simp
    · simp only [dIfS_eq, dtNot_eq, dB_eq, al, bad]
      simp
theorem run_good {es : List D} (S : Sto) (h1 : 4 ≤ w) (h : w ≤ 32) (c : codeR w rs) (l1 : 1 ≤ es.length) (l2 : es.length ≤ 128) (hn : firstB (wordF w) 0 es = none) (hi : firstB (offB es.length) 0 (rs.map Rw.d) = none) :
    ∃ y, m_run_program [.d (.int w), .d (code rs), .d (.tup es)] S = Out.ok y S := by
  have hw : ∀ (i : Nat) (d : D), es[i]? = some d → ∃ v : Int, d = .int v ∧ -tw w ≤ v ∧ v < tw w := fun i d hd => by
    have := firstB_none hn i d hd
    simp [wordF] at this
    exact from_int this
  obtain ⟨cs, rfl, hcs⟩ : ∃ cs : List Int, es = cs.map D.int ∧ Words w cs := by
    clear hi hn l1 l2
    induction es with
    | nil => exact ⟨[], rfl, fun x hx => by simp at hx⟩
    | cons d es ih =>
      obtain ⟨v, rfl, hv⟩ := hw 0 d rfl
      obtain ⟨cs, rfl, hc⟩ := ih fun i d hd => hw (i + 1) d (by simpa using hd)
      exact ⟨v :: cs, rfl, fun x hx => by
        rcases List.mem_cons.mp hx with rfl | hx
        · exact hv
        · exact hc x hx⟩
  simp only [List.length_map] at l1 l2 hi
  have ok : CodeOk w cs.length rs := ⟨c.pos, c.len, fun k r hr => by
    have h1 := c.each k r hr
    have h2 := firstB_none hi k r.d (by rw [List.getElem?_map, hr]; rfl)
    rw [offB_row] at h2
    simp at h2
    cases r <;> simp only [Rw.ok, Rw.cells] at h1 h2 ⊢ <;> simp at h2 <;> omega, c.last, l2, l1⟩
  obtain ⟨fin, run, _, _⟩ := run_ex ok rs.length 0 cs (by omega) ok.pos rfl hcs
  exact ⟨_, run_program_eq h1 h ok rfl hcs run⟩
end
end Law
set_option Elab.async false
set_option linter.all false
set_option maxRecDepth 100000
set_option maxHeartbeats 4000000
namespace Law
open PySem PySem.Spec PyProof.Rows L2 GxR Gx Dn
/-! what is due for a run -/
theorem lst_nilX {neg : Bool} {ds : List D} (hx : ∀ x ∈ ds, pyD x) (S : Sto) : oEqB neg (.d (.lst ds)) (.d (.lst [])) S = .ok (.d (.bl (xor neg (decide (ds = []))))) S := by
  obtain ⟨ps, e2, l2, q⟩ := pys_of (Q := fun p => p.canLay0 = true ∧ p.depth ≤ 40) hx
  have c := can_all fun p m => (q p m).1
  have d := depth_all fun p m => (q p m).2
  have s1 : SeqAt.shaped (.list ps) = true := by simp [SeqAt.shaped, PyData.canLay0, PyData.depth, c]; omega
  have s2 : SeqAt.shaped (.list []) = true := by decide
  have en : (ps = []) = (ds = []) := propext (by rw [← List.length_eq_zero_iff, l2, List.length_eq_zero_iff])
  simp only [oEqB, pyV, D.py, e2, pys, Option.map_some, s1, s2, Bool.and_self, if_true, eqv_nil_l, en]
theorem rngD_map (n : Nat) : rngD 0 n = (List.range n).map fun i : Nat => D.int (i : Nat) := by
  unfold rngD
  exact List.ext_getElem (by simp) fun i h1 h2 => by simp
def atB (bad : Nat → D → Bool) (ds : List D) (i : Nat) : Bool := match ds[i]? with
  | some d => bad i d
  | none => false
theorem firstB_head (bad : Nat → D → Bool) (ds : List D) : firstB bad 0 ds = ((List.range ds.length).filter (atB bad ds)).head? := by
  have key : ∀ (ds : List D) (j : Nat) (p : Nat → Bool), (∀ i d, ds[i]? = some d → p (j + i) = bad (j + i) d) → firstB bad j ds = ((List.range' j ds.length).filter p).head? := by
    intro ds
    induction ds with
    | nil => intro j p _; simp [firstB]
    | cons d ds ih =>
      intro j p hp
      have h0 := hp 0 d rfl
      simp only [Nat.add_zero] at h0
      simp only [firstB, List.length_cons, List.range'_succ, List.filter_cons, h0]
      cases e : bad j d
      · simp [-List.head?_filter]
        exact ih (j + 1) p fun i x hx => by
          have := hp (i + 1) x (by simpa using hx)
          rw [show j + (i + 1) = j + 1 + i by omega] at this
          exact this
      · simp
  have := key ds 0 (atB bad ds) fun i d hd => by simp [atB, hd]
  rw [this, List.range_eq_range']
/-- the indexes of the bad, as data -/
def badL (bad : Nat → D → Bool) (ds : List D) : List D := ((List.range ds.length).filter (atB bad ds)).map fun i : Nat => D.int (i : Nat)
theorem badL_py {bad : Nat → D → Bool} {ds : List D} : ∀ x ∈ badL bad ds, pyD x := fun x hx => by
  obtain ⟨i, _, rfl⟩ := List.mem_map.mp hx
  exact ⟨.int (i : Nat), by simp [D.py], by simp [PyData.canLay0], by simp [PyData.depth]⟩
theorem badL_none {bad : Nat → D → Bool} {ds : List D} (h : firstB bad 0 ds = none) : badL bad ds = [] := by
  rw [firstB_head] at h
  unfold badL
  rw [List.head?_eq_none_iff.mp h]
  rfl
theorem badL_some {bad : Nat → D → Bool} {ds : List D} {i : Nat} (h : firstB bad 0 ds = some i) : ∃ r, badL bad ds = .int (i : Nat) :: r := by
  rw [firstB_head] at h
  unfold badL
  cases e : (List.range ds.length).filter (atB bad ds) with
  | nil => rw [e] at h; simp at h
  | cons a r => rw [e] at h; simp at h; subst h; exact ⟨_, rfl⟩
theorem l_cells_in_eq (S : Sto) (r : Rw) : m__law_cells_in [.d r.d] S = .ok (.d (.tup (r.cells.map fun c : Nat => D.int c))) S := by
  have k2 : 2 ≤ szL := by rw [szL]; omega
  have k3 : 3 ≤ szL := by rw [szL]; omega
  have k0 : 0 ≤ szL := by rw [szL]; omega
  refine ok_eq ?_
  unfold m__law_cells_in
  refine ok_fn ?_
  unfold b__law_cells_in
  cases r <;> simp [Rw.d, Rw.cells, snn, k2, k3, k0, oInB, seqA, flatD, eqF, cutL, HT.sIx]
theorem wrong_line_else {w : Nat} {d : D} (S : Sto) (hn : nob d = true) (h : ∀ ds, d ≠ .tup ds) : m__law_wrong_line [.d d, .d (.int w)] S = .ok (.d (.tup [.non])) S := by
  have k1 : 1 ≤ szL := by rw [szL]; omega
  refine ok_eq ?_
  unfold m__law_wrong_line
  refine ok_fn ?_
  unfold b__law_wrong_line
  cases d with
  | tup ds => exact absurd rfl (h ds)
  | obj c fs => simp [nob] at hn
  | _ => simp [isi, k1]
section
variable {w : Nat} {d e : D}
theorem due_prog {x : D} {s : Str} (S : Sto) (hw : ∀ S, m__law_wrong_line [.d d, .d (.int w)] S = .ok (.d (.tup [x])) S) (r : rp x s) : m__law_due [.d (.int w), .d d, .d e] S = .ok (.d (.lst [.str "program", .str s])) S := by
  have k2 : 2 ≤ szL := by rw [szL]; omega
  refine ok_eq ?_
  unfold m__law_due
  refine ok_fn ?_
  unfold b__law_due
  simp [hw, r.sh, k2, szL]
theorem due_noCells (S : Sto) (hw : ∀ S, m__law_wrong_line [.d d, .d (.int w)] S = .ok (.d (.tup [])) S) (he : nob e = true) (ht : tupB e 1 128 = false) : m__law_due [.d (.int w), .d d, .d e] S = .ok (.d (.lst [.str "cells", .str "None"])) S := by
  have k2 : 2 ≤ szL := by rw [szL]; omega
  refine ok_eq ?_
  unfold m__law_due
  refine ok_fn ?_
  unfold b__law_due
  cases e with
  | obj c fs => simp [nob] at he
  | tup es =>
    simp [tupB] at ht
    by_cases c1 : 1 ≤ (es.length : Int)
    · have c2 : ¬ (es.length : Int) ≤ 128 := by have := ht (by omega); omega
      simp [hw, k2, isi, c1, c2, szL]
    · simp [hw, k2, isi, c1, szL]
  | _ => simp [hw, k2, isi, szL]
/-- the law's list of bad words -/
theorem off_words {es : List D} {d : D} {e3 e4 e5 e6 : Option Val} (S : Sto) (h1 : 1 ≤ w) (h : w ≤ 32) (hx : ∀ x ∈ es, nob x = true) (hl : es.length ≤ 128) :
    dLc (diRng1 (dCons (dCall (o1 bLen) (dCons (dVar 2) dNil)) dNil)) (dgName 5) (dtNot (dB (dCallN 2 m__law_is_word (dCons (dOp oIx (dVar 2) (dVar 5)) (dCons (dVar 0) dNil))))) (dVar 5) [5] [some (.d (.int w)), some (.d d), some (.d (.tup es)), e3, e4, e5, e6] S = .ok (.d (.lst (badL (wordF w) es))) S := by
  have sm : smallI (es.length : Int) = true := by unfold smallI; simp; omega
  refine ok_eq ?_
  refine ok_lcF (e := fun i : Nat => D.int (i : Nat)) (xs := List.range es.length) (p := atB (wordF w) es) (f := fun i : Nat => D.int (i : Nat)) (by simp [sm, rngD_map]) (by simp [szL]; omega) (fun i hi c => ?_) ?_
  · have hi2 : i < es.length := by simpa using hi
    have at_ : atI es (i : Int) = some es[i] := by rw [atI_cast]; exact List.getElem?_eq_getElem hi2
    have iw := fun T => l_is_word_any (w := w) T h1 h (hx es[i] (List.getElem_mem hi2))
    simp [wipeE, at_, iw, atB, List.getElem?_eq_getElem hi2, wordF]
  · exact ⟨rfl, rfl⟩
theorem off_rows {rs : List Rw} {es : List D} {e3 e4 e5 e6 : Option Val} (S : Sto) (hl : rs.length ≤ 100) (he : es.length ≤ 128) :
    dLc (diRng1 (dCons (dCall (o1 bLen) (dCons (dVar 1) dNil)) dNil)) (dgName 5) (dB (dCall (o1 bAny) (dCons (dLc (diSeq (dCallN 1 m__law_cells_in (dCons (dOp oIx (dVar 1) (dVar 5)) dNil))) (dgName 6) dYes (dOp oGe (dVar 6) (dCall (o1 bLen) (dCons (dVar 2) dNil))) [6]) dNil))) (dVar 5) [5] [some (.d (.int w)), some (.d (code rs)), some (.d (.tup es)), e3, e4, e5, e6] S = .ok (.d (.lst (badL (offB es.length) (rs.map Rw.d)))) S := by
  have sm : smallI (rs.length : Int) = true := by unfold smallI; simp; omega
  have lc : ∀ S : Sto, bLen (.d (code rs)) S = .ok (.d (.int rs.length)) S := fun S => by simp [code]
  refine ok_eq ?_
  refine ok_lcF (e := fun i : Nat => D.int (i : Nat)) (xs := List.range rs.length) (p := atB (offB es.length) (rs.map Rw.d)) (f := fun i : Nat => D.int (i : Nat)) (by simp [sm, lc, rngD_map]) (by simp [szL]; omega) (fun i hi c => ?_) ?_
  · have hi2 : i < rs.length := by simpa using hi
    have ci : ∀ T : Sto, oIx (.d (code rs)) (.d (.int i)) T = .ok (.d rs[i].d) T := fun T => by simp [code, code_at (List.getElem?_eq_getElem hi2)]
    have inner : ∀ (T : Sto) (v6 : Option Val), dLc (diSeq (dCallN 1 m__law_cells_in (dCons (dOp oIx (dVar 1) (dVar 5)) dNil))) (dgName 6) dYes (dOp oGe (dVar 6) (dCall (o1 bLen) (dCons (dVar 2) dNil))) [6] [some (.d (.int w)), some (.d (code rs)), some (.d (.tup es)), e3, e4, some (.d (.int (i : Nat))), v6] T = .ok (.d (.lst ((rs[i].cells.map fun c : Nat => D.int c).map fun d => D.bl (!ltD es.length d)))) T := fun T v6 => by
      refine ok_eq (ok_lc (ds := rs[i].cells.map fun c : Nat => D.int c) (f := fun d => D.bl (!ltD es.length d)) (by simp [ci, l_cells_in_eq]) (by
        have : rs[i].cells.length ≤ 3 := by cases rs[i] <;> simp [Rw.cells]
        simp [szL]; omega) (fun d hd c => ?_) ⟨rfl, rfl⟩)
      obtain ⟨a, ha, rfl⟩ := List.mem_map.mp hd
      simp [wipeE, ltD]
      rw [Bool.eq_iff_iff]
      simp
    have any_ : ∀ (xs : List D) (T : Sto), bAny (.d (.lst (xs.map fun d => D.bl (!ltD es.length d)))) T = .ok (.d (.bl (!xs.all (ltD es.length)))) T := fun xs T => by
      simp [bAny, seqL, blsOf_map]
      induction xs with
      | nil => rfl
      | cons x xs ih => simp [ih]
    have ar : atB (offB es.length) (rs.map Rw.d) i = !(rs[i].cells.map fun c : Nat => D.int c).all (ltD es.length) := by
      simp [atB, List.getElem?_eq_getElem hi2, offB, cellsN_row]
    simp only [dgName_eq, ok_ok, dB_eq, dCall_eq, dCons_eq, dNil_eq, wipeE, List.map_cons, List.map_nil, List.zipIdx_cons, List.zipIdx_nil]
    have any2 := any_ (rs[i].cells.map fun c : Nat => D.int c)
    rw [List.map_map] at any2
    rw [List.all_map] at any2
    simp only [List.all_map] at ar
    simp [inner, any2, ar]
  · exact ⟨by simp [badL], rfl⟩
theorem due_badCells {es : List D} {i : Nat} {s : Str} (S : Sto) (h1 : 1 ≤ w) (h : w ≤ 32) (hw : ∀ S, m__law_wrong_line [.d d, .d (.int w)] S = .ok (.d (.tup [])) S) (hx : ∀ x ∈ es, nob x = true) (l1 : 1 ≤ es.length) (l2 : es.length ≤ 128) (hi : firstB (wordF w) 0 es = some i) (r : rp (.int (i : Nat)) s) :
    m__law_due [.d (.int w), .d d, .d (.tup es)] S = .ok (.d (.lst [.str "cells", .str s])) S := by
  have k2 : 2 ≤ szL := by rw [szL]; omega
  have c1 : 1 ≤ (es.length : Int) := by omega
  have c2 : (es.length : Int) ≤ 128 := by omega
  obtain ⟨r', e⟩ := badL_some hi
  have ne := fun S : Sto => lst_nilX (neg := true) (badL_py (bad := wordF w) (ds := es)) S
  refine ok_eq ?_
  unfold m__law_due
  refine ok_fn ?_
  unfold b__law_due
  simp [-dLc, hw, isi, c1, c2, szL, off_words _ h1 h hx l2, e]
  rw [e] at ne
  simp [ne, r.sh, szL]
theorem due_rows {rs : List Rw} {es : List D} (S : Sto) (h1 : 1 ≤ w) (h : w ≤ 32) (hw : ∀ S, m__law_wrong_line [.d (code rs), .d (.int w)] S = .ok (.d (.tup [])) S) (hl : rs.length ≤ 100) (hx : ∀ x ∈ es, nob x = true) (l1 : 1 ≤ es.length) (l2 : es.length ≤ 128) (hn : firstB (wordF w) 0 es = none) :
    (firstB (offB es.length) 0 (rs.map Rw.d) = none → m__law_due [.d (.int w), .d (code rs), .d (.tup es)] S = .ok (.d (.lst [.str "let", .str ""])) S) ∧
    ∀ i s, firstB (offB es.length) 0 (rs.map Rw.d) = some i → rp (.int (i : Nat)) s → m__law_due [.d (.int w), .d (code rs), .d (.tup es)] S = .ok (.d (.lst [.str "program", .str s])) S := by
  have c1 : 1 ≤ (es.length : Int) := by omega
  have c2 : (es.length : Int) ≤ 128 := by omega
  have n0 := fun S : Sto => lst_nilX (neg := true) (ds := []) (by simp) S
  refine ⟨fun hi => ?_, fun i s hi r => ?_⟩
  · refine ok_eq ?_
    unfold m__law_due
    refine ok_fn ?_
    unfold b__law_due
    simp [hw, isi, c1, c2, szL, off_words _ h1 h hx l2, badL_none hn, n0, off_rows _ hl l2, badL_none hi]
  · obtain ⟨r', e⟩ := badL_some hi
    have ne := fun S : Sto => lst_nilX (neg := true) (badL_py (bad := offB es.length) (ds := rs.map Rw.d)) S
    rw [e] at ne
    refine ok_eq ?_
    unfold m__law_due
    refine ok_fn ?_
    unfold b__law_due
    simp [hw, isi, c1, c2, szL, off_words _ h1 h hx l2, badL_none hn, n0, off_rows _ hl l2, e, ne, r.sh]
/-- law and program agree on any run -/
theorem due_run (S : Sto) (h1 : 4 ≤ w) (h : w ≤ 32) (hd : codeV d) (he : cellV e) : ∃ due, m__law_due [.d (.int w), .d d, .d e] S = .ok (.d due) S ∧ outR (m_run_program [.d (.int w), .d d, .d e] S) due S := by
  have idx : ∀ i : Nat, i < 2000 → ∃ s, rp (.int (i : Nat)) s := fun i hi => rp_int (Nat.lt_of_lt_of_le (show ((i : Nat) : Int).natAbs < 2000 by omega) (by decide))
  by_cases ct : ∃ ds, d = .tup ds
  · obtain ⟨ds, rfl⟩ := ct
    obtain ⟨hl, hr⟩ := hd.t _ rfl
    have wl := fun S : Sto => wrong_line_any (w := w) S (by omega) h (by omega : ds.length ≤ 2000) hr
    by_cases c1 : 1 ≤ ds.length
    · cases hf : firstB (badR w ds.length) 0 ds with
      | some i =>
        have hi := firstB_lt hf
        obtain ⟨s, hs⟩ := idx i (by omega)
        simp [wrongC, c1, hf, show ds.length ≤ 2000 by omega] at wl
        exact ⟨_, due_prog S wl hs, .exc _ _ _ _ _ (by simp [tbE]) hs (run_wrong S h1 h hd e c1 hf) rfl⟩
      | none =>
        obtain ⟨rs, rfl, each, last⟩ := code_inv c1 hf
        have wr := fun S : Sto => wrong_row_any (w := w) S (by omega) h (by omega) hr
        rw [hf] at wr
        simp only [List.length_map] at c1 hl
        have cr : codeR w rs := ⟨c1, hl, each, last, wr⟩
        simp only [wrongC, List.length_map] at wl
        simp only [List.length_map] at hf
        rw [if_pos ⟨c1, by omega⟩, hf] at wl
        by_cases te : tupB e 1 128 = true
        · obtain ⟨es, rfl, l1, l2⟩ := tupB_inv te
          obtain ⟨_, hx⟩ := he.t _ rfl
          have l1 : 1 ≤ es.length := by omega
          have l2 : es.length ≤ 128 := by omega
          cases hn : firstB (wordF w) 0 es with
          | some i =>
            have hi := firstB_lt hn
            obtain ⟨s, hs⟩ := idx i (by omega)
            exact ⟨_, due_badCells S (by omega) h wl hx l1 l2 hn hs, .exc _ _ _ _ _ (by simp [tbE]) hs (run_badCells S h1 h cr hx l1 l2 hn) rfl⟩
          | none =>
            obtain ⟨q1, q2⟩ := due_rows S (by omega) h wl hl hx l1 l2 hn
            cases hi : firstB (offB es.length) 0 (rs.map Rw.d) with
            | some i =>
              have hlt := firstB_lt hi
              simp at hlt
              obtain ⟨s, hs⟩ := idx i (by omega)
              exact ⟨_, q2 i s hi hs, .exc _ _ _ _ _ (by simp [tbE]) hs (run_off S h1 h cr hx l1 l2 hn hi) rfl⟩
            | none =>
              obtain ⟨y, hy⟩ := run_good S h1 h cr l1 l2 hn hi
              exact ⟨_, q1 hi, .lets y hy rfl⟩
        · have te : tupB e 1 128 = false := by simpa using te
          exact ⟨_, due_noCells S wl he.n te, .exc _ _ _ _ _ (by simp [tbE]) rp_non (run_noCells S h1 h cr he.n te) rfl⟩
    · have tb : tupB (.tup ds) 1 2000 = false := by simp [tupB]; omega
      simp [wrongC, c1] at wl
      exact ⟨_, due_prog S wl rp_non, .exc _ _ _ _ _ (by simp [tbE]) rp_non (run_noTup S h1 h hd.n e tb) rfl⟩
  · have nt : ∀ ds, d ≠ .tup ds := fun ds z => ct ⟨ds, z⟩
    have tb : tupB d 1 2000 = false := by
      unfold tupB
      split
      · rename_i ds; exact absurd rfl (nt ds)
      · rfl
    exact ⟨_, due_prog S (fun S => wrong_line_else S hd.n nt) rp_non, .exc _ _ _ _ _ (by simp [tbE]) rp_non (run_noTup S h1 h hd.n e tb) rfl⟩
end
end Law
set_option Elab.async false
set_option linter.all false
set_option maxRecDepth 100000
set_option maxHeartbeats 4000000
namespace Law
open PySem PySem.Spec PyProof.Rows L2 GxR Gx Dn
/-! what the law draws: odd things, bent ones -/
def oddM : List D := [.non, .bl true, .bl false, .str "", .str "out", .str "add", .str "level", .str "t", .int 0, .int (-1), .int 1, .int 1099511627776, .tup [], .lst [], .dic, .tup [.str "out", .int 0], .tup [.int 0], .str "Level", .str "go", .tup [.str "go", .str "fill"], .str "abcdefghijklm", .tup [.str "times", .int 0, .int 0], .int 3, .str "end"]
theorem py_str (z : Str) (h : PyData.strOk z = true) : pyD (.str z) := ⟨.str z, by simp [D.py], by simp [PyData.canLay0, h], by simp [PyData.depth]⟩
theorem py_int (i : Int) : pyD (.int i) := ⟨.int i, by simp [D.py], by simp [PyData.canLay0], by simp [PyData.depth]⟩
theorem okD_str (z : Str) (h : PyData.strOk z = true) : okD (.str z) := ⟨rfl, .inl (py_str z h)⟩
theorem okD_int (i : Int) : okD (.int i) := ⟨rfl, .inl (py_int i)⟩
theorem py_tup {ds : List D} (hx : ∀ x ∈ ds, x = .dic ∨ ∃ p, x.py = some p ∧ p.canLay0 = true ∧ p.depth ≤ 0) (nd : ∀ x ∈ ds, x ≠ .dic) : pyD (.tup ds) := by
  obtain ⟨ps, e2, l2, q⟩ := pys_of (Q := fun p => p.canLay0 = true ∧ p.depth ≤ 0) fun x hm => ((hx x hm).elim (fun z => absurd z (nd x hm)) id)
  have c := can_all fun p m => (q p m).1
  have dd := depth_all fun p m => (q p m).2
  exact ⟨.tuple ps, by simp [D.py, e2], by simpa [PyData.canLay0] using c, by simp only [PyData.depth]; omega⟩
/-- a part that is no tuple -/
def flatP (d : D) : Bool := match d with
  | .non => true
  | .bl _ => true
  | .int _ => true
  | .str z => PyData.strOk z
  | .dic => true
  | .lst [] => true
  | _ => false
theorem flat_ok {d : D} (h : flatP d = true) : okD d := by
  unfold flatP at h
  split at h
  · exact ⟨rfl, .inl ⟨.none, by simp [D.py], by simp [PyData.canLay0], by simp [PyData.depth]⟩⟩
  · rename_i b; exact ⟨rfl, .inl ⟨.bool b, by simp [D.py], by simp [PyData.canLay0], by simp [PyData.depth]⟩⟩
  · exact okD_int _
  · exact okD_str _ h
  · exact ⟨rfl, .inr rfl⟩
  · exact ⟨rfl, .inl ⟨.list [], by simp [D.py, pys], by simp [PyData.canLay0, PyData.canLayAll0], by simp [PyData.depth, PyData.depthAll]⟩⟩
  · cases h
def flatT (d : D) : Bool := flatP d || (match d with | .tup ds => decide (ds.length ≤ 3) && ds.all (fun x => match x with | .int _ => true | .str z => PyData.strOk z | _ => false) | _ => false)
theorem flatT_ok {d : D} (h : flatT d = true) : okD d ∧ okR d ∧ codeV d := by
  unfold flatT at h
  rw [Bool.or_eq_true] at h
  rcases h with h | h
  · have nt : ∀ ds, d ≠ .tup ds := fun ds z => by subst z; simp [flatP] at h
    have o := flat_ok h
    exact ⟨o, ⟨o.n, fun ds e => absurd e (nt ds)⟩, ⟨o.n, fun ds e => absurd e (nt ds)⟩⟩
  · split at h
    · rename_i ds
      simp only [Bool.and_eq_true, decide_eq_true_eq, List.all_eq_true] at h
      obtain ⟨hl, ha⟩ := h
      have fl : ∀ x ∈ ds, flatP x = true := fun x hx => by
        have := ha x hx
        cases x <;> simp_all [flatP]
      have nt : ∀ x ∈ ds, ∀ es, x ≠ .tup es := fun x hx es z => by
        have := fl x hx
        subst z
        simp [flatP] at this
      have ok : ∀ x ∈ ds, okD x := fun x hx => flat_ok (fl x hx)
      have ex : ∀ x ∈ ds, x = .dic ∨ ∃ p, x.py = some p ∧ p.canLay0 = true ∧ p.depth ≤ 0 := fun x hx => by
        have := ha x hx
        cases x with
        | int i => exact .inr ⟨.int i, by simp [D.py], by simp [PyData.canLay0], by simp [PyData.depth]⟩
        | str z => exact .inr ⟨.str z, by simp [D.py], by simp at this; simp [PyData.canLay0, this], by simp [PyData.depth]⟩
        | _ => simp at this
      have nd : ∀ x ∈ ds, x ≠ .dic := fun x hx z => by
        have := ha x hx
        subst z
        simp at this
      refine ⟨⟨rfl, .inl (py_tup ex nd)⟩, ⟨rfl, fun es e => ?_⟩, ⟨rfl, fun es e => ?_⟩⟩
      · cases e
        exact ⟨by omega, ok⟩
      · cases e
        exact ⟨by omega, fun x hx => ⟨(ok x hx).n, fun es e => absurd e (nt x hx es)⟩⟩
    · cases h
theorem odd_ok {d : D} (h : d ∈ oddM) : okD d ∧ okR d ∧ codeV d := by
  have k : oddM.all flatT = true := by decide +kernel
  exact flatT_ok (List.all_eq_true.mp k d h)
section
variable {n t : Nat} {S : Sto} {c : Cell}
theorem odd_spec (hc : S[n]? = some c) (hw : UT t c) (ht : t < 2 ^ 99) : Ok (m__law_odd [.r n] S) (Du n S (t + 1) (· ∈ oddM)) := by
  have cp : cPow 2 40 = true := by decide
  have k0 : 0 ≤ szL := by rw [szL]; omega
  unfold m__law_odd
  refine ok_fn ?_
  unfold b__law_odd
  simp [szL, cp]
  refine (one_spec hc hw (by omega) (by simp) (by simp)).mono ?_
  rintro _ _ ⟨d, c', rfl, hd, rfl, w⟩
  simp [take_set]
  exact ⟨d, c', rfl, by simpa [oddM] using hd, rfl, w⟩
/-- a bent tuple of what holds P -/
def bentP (L : Nat) (P : D → Prop) (y : D) : Prop := (∃ es, y = .tup es ∧ es.length ≤ L + 1 ∧ ∀ x ∈ es, P x) ∨ ∃ es, y = .lst es
theorem bent_part {k N : Nat} {x : D} (hn : nob x = true) (nt : ∀ ds, x ≠ .tup ds) (hc : S[n]? = some c) (hw : UT t c) (ht : t < 2 ^ 98) : Ok (m__law_bent (k + 1) [.r n, .d x, .d (.int N)] S) (Du n S (t + 2) (· ∈ oddM)) := by
  have hl := lt_of hc
  show Ok (dFn 5 (b__law_bent (fun _ => m__law_bent k) k) [.r n, .d x, .d (.int N)] S) _
  refine ok_fn ?_
  unfold b__law_bent
  simp
  refine (pull_spec hc hw (by omega) (by omega) (by omega)).mono ?_
  rintro _ _ ⟨i, c1, rfl, i0, i1, rfl, w1⟩
  have fin : Ok (m__law_odd [.r n] (S.set n c1)) fun x S' => Ok (dFin S x S') (Du n S (t + 2) (· ∈ oddM)) := (odd_spec (set_at hc c1) w1 (by omega)).mono (by
    rintro _ _ ⟨d, c2, rfl, hd, rfl, w2⟩
    simp [List.set_set, take_set]
    exact ⟨d, c2, rfl, hd, rfl, w2⟩)
  cases x with
  | tup ds => exact absurd rfl (nt ds)
  | obj c fs => simp [nob] at hn
  | _ => simp [isi]; exact fin
theorem bent_step {P : D → Prop} {L N k T : Nat} {ds : List D} (hL : L ≤ 900) (hl : ds.length ≤ L) (ne : ds ≠ []) (hx : ∀ x ∈ ds, P x) (ho : ∀ x ∈ oddM, P x)
    (ih : ∀ x ∈ ds, ∀ {t' : Nat} {S : Sto} {c : Cell}, S[n]? = some c → UT t' c → t' ≤ t + 2 → Ok (m__law_bent k [.r n, .d x, .d (.int N)] S) (Du n S (t' + T) P)) (hT : 1 ≤ T)
    (hc : S[n]? = some c) (hw : UT t c) (ht : t < 2 ^ 97) : Ok (m__law_bent (k + 1) [.r n, .d (.tup ds), .d (.int ((N + 1 : Nat) : Int))] S) (Du n S (t + T + 2) (bentP L P)) := by
  have hS := lt_of hc
  have hpos : 0 < ds.length := List.length_pos_iff.mpr ne
  show Ok (dFn 5 (b__law_bent (fun _ => m__law_bent k) k) [.r n, .d (.tup ds), .d (.int ((N + 1 : Nat) : Int))] S) _
  refine ok_fn ?_
  unfold b__law_bent
  have n1 : ¬ ((N : Int) + 1 < 1) := by omega
  have em : ds.isEmpty = false := by cases ds <;> simp at ne ⊢
  simp
  refine (pull_spec hc hw (by omega) (by omega) (by omega)).mono ?_
  rintro _ _ ⟨way, c1, rfl, y0, y1, rfl, w1⟩
  simp [isi, em, n1, ne]
  refine (pull_spec (set_at hc c1) w1 (by omega) (by omega) (by omega)).mono ?_
  rintro _ _ ⟨j, c2, rfl, j0, j1, rfl, w2⟩
  obtain ⟨x, e, hxm⟩ := atI_mem j0 j1
  have e1 := cutL_len (xs := ds) (lo := none) (hi := some j)
  have e2 := cutL_len (xs := ds) (lo := some (j + 1)) (hi := none)
  have e3 := cutL_len (xs := ds) (lo := some j) (hi := none)
  have a1 : ∀ y ∈ cutL ds none (some j), P y := fun y hy => hx y (cutL_mem hy)
  have a2 : ∀ y ∈ cutL ds (some (j + 1)) none, P y := fun y hy => hx y (cutL_mem hy)
  have a3 : ∀ y ∈ cutL ds (some j) none, P y := fun y hy => hx y (cutL_mem hy)
  obtain ⟨k1, hk1⟩ : ∃ k : Nat, j = k ∧ k < ds.length := ⟨j.toNat, by omega, by omega⟩
  have b1 : (cutL ds none (some j)).length = k1 := by
    unfold cutL HT.sIx
    dsimp only
    split <;> simp <;> omega
  have b2 : (cutL ds (some (j + 1)) none).length = ds.length - (k1 + 1) := by
    unfold cutL HT.sIx
    dsimp only
    split <;> simp <;> omega
  have b3 : (cutL ds (some j) none).length = ds.length - k1 := by
    unfold cutL HT.sIx
    dsimp only
    split <;> simp <;> omega
  have z1 : k1 + (ds.length - (k1 + 1)) ≤ 16777216 := by omega
  have z2 : k1 + 1 ≤ 16777216 := by omega
  have z3 : k1 + 1 + (ds.length - k1) ≤ 16777216 := by omega
  have z4 : k1 + 1 + (ds.length - (k1 + 1)) ≤ 16777216 := by omega
  have z5 : k1 + (ds.length - k1 + 1) ≤ 16777216 := by omega
  have z6 : k1 + (ds.length - (k1 + 1) + 1) ≤ 16777216 := by omega
  have z7 : ds.length ≤ 16777216 := by omega
  simp [List.set_set]
  by_cases q0 : way = 0
  · simp [q0, szL, b1, b2, z1, take_set]
    refine ⟨_, c2, rfl, .inl ⟨_, rfl, by simp [b1, b2]; omega, fun y hy => ?_⟩, rfl, w2.mono (by omega)⟩
    exact (List.mem_append.mp hy).elim (a1 y) (a2 y)
  by_cases q1 : way = 1
  · simp [q0, q1, szL, e, b1, b3, z2, z3, z5, take_set]
    refine ⟨_, c2, rfl, .inl ⟨_, rfl, by simp [b1, b3]; omega, fun y hy => ?_⟩, rfl, w2.mono (by omega)⟩
    simp at hy
    rcases hy with hy | rfl | hy
    · exact a1 y hy
    · exact hx y hxm
    · exact a3 y hy
  by_cases q2 : way = 2
  · simp [q0, q1, q2, szL, z7, take_set]
    exact ⟨_, c2, rfl, .inr ⟨_, rfl⟩, rfl, w2.mono (by omega)⟩
  by_cases q3 : way = 3
  · simp [q0, q1, q2, q3, szL, b1, b2, z2, z4, z6]
    refine (odd_spec (set_at hc c2) w2 (by omega)).mono ?_
    rintro _ _ ⟨y, c3, rfl, hy, rfl, w3⟩
    simp [List.set_set, szL, b1, b2, z2, z4, z6, take_set]
    refine ⟨_, c3, rfl, .inl ⟨_, rfl, by simp [b1, b2]; omega, fun u hu => ?_⟩, rfl, w3.mono (by omega)⟩
    simp at hu
    rcases hu with hu | rfl | hu
    · exact a1 u hu
    · exact ho u hy
    · exact a2 u hu
  · simp [q0, q1, q2, q3, szL, e, b1, b2, z2]
    refine (ih x hxm (set_at hc c2) w2 (by omega)).mono ?_
    rintro _ _ ⟨y, c3, rfl, hy, rfl, w3⟩
    simp [List.set_set, szL, b1, b2, z2, z4, z6, take_set]
    refine ⟨_, c3, rfl, .inl ⟨_, rfl, by simp [b1, b2]; omega, fun u hu => ?_⟩, rfl, w3.mono (by omega)⟩
    simp at hu
    rcases hu with hu | rfl | hu
    · exact a1 u hu
    · exact hy
    · exact a2 u hu
theorem row_parts (r : Rw) : ∃ ps, r.d = .tup ps ∧ ps ≠ [] ∧ ps.length ≤ 4 ∧ ∀ x ∈ ps, okD x ∧ ∀ ds, x ≠ .tup ds := by
  have k : [("put" : Str), "copy", "add", "less", "times", "jump", "below", "stop"].all PyData.strOk = true := by decide +kernel
  simp only [List.all_cons, List.all_nil, Bool.and_eq_true, Bool.and_true] at k
  obtain ⟨k1, k2, k3, k4, k5, k6, k7, k8⟩ := k
  have i : ∀ i : Int, okD (.int i) ∧ ∀ ds, (D.int i) ≠ .tup ds := fun i => ⟨okD_int i, fun ds z => by cases z⟩
  have s : ∀ z : Str, PyData.strOk z = true → okD (.str z) ∧ ∀ ds, (D.str z) ≠ .tup ds := fun z h => ⟨okD_str z h, fun ds z => by cases z⟩
  cases r <;> refine ⟨_, rfl, by simp, by simp, ?_⟩ <;> simp [s, i, k1, k2, k3, k4, k5, k6, k7, k8]
theorem row_okR (r : Rw) : okR r.d := by
  obtain ⟨ps, e, _, hl, hx⟩ := row_parts r
  rw [e]
  exact ⟨rfl, fun ds h => by cases h; exact ⟨by omega, fun x hm => (hx x hm).1⟩⟩
theorem bent_row {k N : Nat} (r : Rw) (hc : S[n]? = some c) (hw : UT t c) (ht : t < 2 ^ 97) : Ok (m__law_bent (k + 1 + 1) [.r n, .d r.d, .d (.int ((N + 1 : Nat) : Int))] S) (Du n S (t + 4) okR) := by
  obtain ⟨ps, e, ne, hl, hx⟩ := row_parts r
  rw [e]
  refine (bent_step (P := okD) (L := 4) (T := 2) (by omega) hl ne (fun x hm => (hx x hm).1) (fun x hm => (odd_ok hm).1) (fun x hm t S c hc hw ht' => ?_) (by omega) hc hw ht).mono ?_
  · refine (bent_part (hx x hm).1.n (hx x hm).2 hc hw (by omega)).mono ?_
    rintro _ _ ⟨d, c', rfl, hd, rfl, w⟩
    exact ⟨d, c', rfl, (odd_ok hd).1, rfl, w⟩
  · rintro _ _ ⟨d, c', rfl, hd, rfl, w⟩
    refine ⟨d, c', rfl, ?_, rfl, w⟩
    rcases hd with ⟨es, rfl, hl, h⟩ | ⟨es, rfl⟩
    · exact ⟨rfl, fun ds z => by cases z; exact ⟨by omega, h⟩⟩
    · exact ⟨rfl, fun ds z => by cases z⟩
theorem bent_code {k N : Nat} {rs : List Rw} (h1 : 1 ≤ rs.length) (h2 : rs.length ≤ 90) (hc : S[n]? = some c) (hw : UT t c) (ht : t < 2 ^ 96) : Ok (m__law_bent (k + 1 + 1 + 1) [.r n, .d (code rs), .d (.int ((N + 1 + 1 : Nat) : Int))] S) (Du n S (t + 6) codeV) := by
  refine (bent_step (P := okR) (L := 90) (T := 4) (ds := rs.map Rw.d) (by omega) (by simpa using h2) (fun z => by simp at z; subst z; simp at h1) (fun x hm => ?_) (fun x hm => (odd_ok hm).2.1) (fun x hm t S c hc hw ht' => ?_) (by omega) hc hw (by omega)).mono ?_
  · obtain ⟨r, _, rfl⟩ := List.mem_map.mp hm
    exact row_okR r
  · obtain ⟨r, _, rfl⟩ := List.mem_map.mp hm
    exact bent_row r hc hw (by omega)
  · rintro _ _ ⟨d, c', rfl, hd, rfl, w⟩
    refine ⟨d, c', rfl, ?_, rfl, w⟩
    rcases hd with ⟨es, rfl, hl, h⟩ | ⟨es, rfl⟩
    · exact ⟨rfl, fun ds z => by cases z; exact ⟨by omega, h⟩⟩
    · exact ⟨rfl, fun ds z => by cases z⟩
theorem code_V {rs : List Rw} (h : rs.length ≤ 90) : codeV (code rs) := ⟨rfl, fun ds z => by
  cases z
  refine ⟨by simp; omega, fun x hm => ?_⟩
  obtain ⟨r, _, rfl⟩ := List.mem_map.mp hm
  exact row_okR r⟩
end
end Law
set_option Elab.async false
set_option linter.all false
set_option maxRecDepth 100000
set_option maxHeartbeats 4000000
namespace Law
open PySem PySem.Spec PyProof.Rows L2 GxR Gx Dn
/-! wrapped and run_program at wrong widths, and what is told of them -/
theorem wrong_whole {x : D} (h : x ∈ wrongL) : nob x = true ∧ fromB x 4 32 = false := by
  have k : wrongL.all (fun x => nob x && !fromB x 4 32) = true := by decide +kernel
  have := List.all_eq_true.mp k x h
  simpa using this
theorem odd_whole {x : D} (h : x ∈ oddN) : nob x = true ∧ wholeB x = false := by
  have k : oddN.all (fun x => nob x && !wholeB x) = true := by decide +kernel
  have := List.all_eq_true.mp k x h
  simpa using this
theorem check_width_bad {x : D} (S : Sto) (h : x ∈ wrongL) : m_check_width [.d x] S = .exc ⟨"InvalidNumber", [("given", x)]⟩ S := by
  obtain ⟨hn, hf⟩ := wrong_whole h
  have iw : ∀ S : Sto, m_is_width [.d x] S = .ok (.d (.bl false)) S := fun S => by
    refine ok_eq ?_
    unfold m_is_width
    refine ok_fn ?_
    unfold b_is_width
    have := fun S : Sto => is_whole_from_eq (lo := 4) (hi := 32) S hn
    simp [this, hf]
  unfold m_check_width
  refine fn_exc ?_
  unfold b_check_width
  simp [iw]
theorem wrapped_width {x y : D} {s : Str} (S : Sto) (h : x ∈ wrongL) (r : rp x s) : outR (m_wrapped [.d x, .d y] S) (.lst [.str "number", .str s]) S := by
  refine .exc "InvalidNumber" "given" "number" x s (by simp [tbE]) r ?_ rfl
  unfold m_wrapped
  refine fn_exc ?_
  unfold b_wrapped
  simp [check_width_bad _ h]
theorem run_width {x y z : D} {s : Str} (S : Sto) (h : x ∈ wrongL) (r : rp x s) : outR (m_run_program [.d x, .d y, .d z] S) (.lst [.str "number", .str s]) S := by
  refine .exc "InvalidNumber" "given" "number" x s (by simp [tbE]) r ?_ rfl
  unfold m_run_program
  refine fn_exc ?_
  unfold b_run_program
  simp [check_width_bad _ h]
theorem cw8 (S : Sto) : m_check_width [.d (.int 8)] S = .ok (.d .non) S := check_width_eq (w := 8) S (by decide) (by decide)
theorem wrapped_num {y : D} {s : Str} (S : Sto) (h : y ∈ oddN) (r : rp y s) : outR (m_wrapped [.d (.int 8), .d y] S) (.lst [.str "number", .str s]) S := by
  obtain ⟨hn, hf⟩ := odd_whole h
  have iw := fun S : Sto => is_whole_eq S hn
  refine .exc "InvalidNumber" "given" "number" y s (by simp [tbE]) r ?_ rfl
  unfold m_wrapped
  refine fn_exc ?_
  unfold b_wrapped
  simp [cw8, iw, hf]
theorem wrapped_let (i : Int) (S : Sto) : outR (m_wrapped [.d (.int 8), .d (.int i)] S) (.lst [.str "let", .str ""]) S := by
  have iw := fun S : Sto => is_whole_eq (d := .int i) S rfl
  have ww := fun S : Sto => wrapped_word_eq (w := 8) (n := i) S (by decide) (by decide)
  refine .lets (.d (.int (wr 8 i))) (ok_eq ?_) rfl
  unfold m_wrapped
  refine ok_fn ?_
  unfold b_wrapped
  simp [cw8, iw, wholeB]
  have e := ww S
  have c8 : ((8 : Nat) : Int) = 8 := rfl
  rw [c8] at e
  simp [e]
/-! the store holds no error -/
theorem noS_all {S : Sto} : noS S = true ↔ ∀ c ∈ S, noC c = true := by unfold noS; exact List.all_eq_true
theorem noS_set {S : Sto} {n : Nat} {c : Cell} (h : noS S = true) (hc : noC c = true) : noS (S.set n c) = true := noS_all.mpr fun x hx => by
  rcases List.mem_or_eq_of_mem_set hx with q | q
  · exact noS_all.mp h x q
  · rw [q]; exact hc
theorem noS_app {S T : Sto} (h : noS S = true) (hc : noS T = true) : noS (S ++ T) = true := noS_all.mpr fun x hx => by
  rcases List.mem_append.mp hx with q | q
  · exact noS_all.mp h x q
  · exact noS_all.mp hc x q
theorem ut_noC {t : Nat} {c : Cell} (h : UT t c) : noC c = true := by
  obtain ⟨a, b, k, rfl, _⟩ := h.ex
  rfl
theorem two_noO {due : D} (h : twoT due) : noO due = true := by
  obtain ⟨a, b, rfl, _⟩ := h
  rfl
theorem two_cell : ∀ {ds : List D}, (∀ x ∈ ds, twoT x) → noC (.lst ds) = true
  | [], _ => rfl
  | d :: ds, h => by
    have := two_cell fun x hx => h x (List.mem_cons_of_mem _ hx)
    simp only [noC] at this ⊢
    simp [noOs, two_noO (h d List.mem_cons_self), this]
theorem two_eqv {due : D} (h : twoT due) : ∃ p, due.py = some p ∧ p.canLay0 = true ∧ p.depth ≤ 1 ∧ PyData.eqv p p = true := by
  obtain ⟨a, b, rfl, ha, hb⟩ := h
  exact ⟨.list [.str a, .str b], by simp [D.py, pys], by simp [PyData.canLay0, PyData.canLayAll0, ha, hb], by simp [PyData.depth, PyData.depthAll], by simp [PyData.eqv, PyData.eqvAll]⟩
theorem eqvAll_self : ∀ {ps : List PyData}, (∀ p ∈ ps, PyData.eqv p p = true) → PyData.eqvAll ps ps = true
  | [], _ => by simp [PyData.eqvAll]
  | p :: ps, h => by
    have := eqvAll_self fun q hq => h q (List.mem_cons_of_mem _ hq)
    simp [PyData.eqvAll, h p List.mem_cons_self, this]
theorem told_ne {S : Sto} {L : Nat} {ds : List D} (h : S[L]? = some (.lst ds)) (hx : ∀ x ∈ ds, twoT x) : oEqB true (.r L) (.d (.lst ds)) S = .ok (.d (.bl false)) S := by
  obtain ⟨ps, e2, l2, q⟩ := pys_of (Q := fun p => p.canLay0 = true ∧ p.depth ≤ 1 ∧ PyData.eqv p p = true) fun x hm => two_eqv (hx x hm)
  have c := can_all fun p m => (q p m).1
  have dd := depth_all fun p m => (q p m).2.1
  have s1 : SeqAt.shaped (.list ps) = true := by simp [SeqAt.shaped, PyData.canLay0, PyData.depth, c]; omega
  have ee : PyData.eqv (.list ps) (.list ps) = true := by
    simp only [PyData.eqv]
    exact eqvAll_self fun p m => (q p m).2.2
  simp [oEqB, pyV, h, D.py, e2, s1, ee]
/-! steps -/
theorem asg_at {F : DEf} {i : Nat} {rest : DSf} {env : Dn.Env} {S S2 : Sto} {x : Val} {Q : Fl → Sto → Prop} (h : F env S = .ok x S2) (q : Ok (rest (env.set i (some x)) S2) Q) : Ok (dSeq (dAsg F (dgName i)) rest env S) Q := by
  simp [h, q]
theorem asg_du {F : DEf} {i n t : Nat} {P : D → Prop} {rest : DSf} {env : Dn.Env} {S : Sto} {Q : Fl → Sto → Prop} (h : Ok (F env S) (Du n S t P)) (q : ∀ d c', P d → UT t c' → Ok (rest (env.set i (some (.d d))) (S.set n c')) Q) : Ok (dSeq (dAsg F (dgName i)) rest env S) Q := by
  simp
  refine h.mono ?_
  rintro _ _ ⟨d, c', rfl, p, rfl, w⟩
  exact q d c' p w
theorem drop_at {F : DEf} {rest : DSf} {env : Dn.Env} {S S2 : Sto} {x : Val} {Q : Fl → Sto → Prop} (h : F env S = .ok x S2) (q : Ok (rest env S2) Q) : Ok (dSeq (dDrop F) rest env S) Q := by
  simp [h, q]
theorem seq_mono {f g : DSf} {env : Dn.Env} {S : Sto} {Q : Fl → Sto → Prop} (P : Fl → Sto → Prop) (h : Ok (f env S) P) (q : ∀ fl S', P fl S' → Ok (cont g fl S') Q) : Ok (dSeq f g env S) Q := by
  rw [dSeq_eq, ok_bind]
  exact h.mono q
/-- what is told, put behind -/
theorem told_add {F : DEf} {env : Dn.Env} {S : Sto} {L : Nat} {ds : List D} {due : D} {c : Nat} (he : env[c]? = some (some (.r L))) (hs : S[L]? = some (.lst ds)) (hl : ds.length < 100) (h : outR (F env S) due S) (n : noS S = true) :
    dMeth mAppend (dVar c) (dCons (dHeard rs__law_heard_of m__law_named "let" "" F) dNil) env S = .ok (.d .non) (S.set L (.lst (ds ++ [due]))) := by
  have e := outR_heard h n
  have : ds.length < szL := by rw [szL]; omega
  simp [he, hs, e, this]
end Law
set_option Elab.async false
set_option linter.all false
set_option maxRecDepth 100000
set_option maxHeartbeats 4000000
namespace Law
open PySem PySem.Spec PyProof.Rows L2 GxR Gx Dn
theorem cellV_of {es : List D} (h : es.length ≤ 1000) (h2 : es.all nob = true) : cellV (.tup es) := ⟨rfl, fun ds z => by cases z; exact ⟨h, fun x hx => List.all_eq_true.mp h2 x hx⟩⟩
section
variable {n t : Nat} {S : Sto} {c : Cell}
theorem right_spec (hc : S[n]? = some c) (hw : UT t c) (ht : t < 2 ^ 90) (hS : noS S = true) : Ok (m__law_right [.r n] S) (Du n S (t + 5000) (· = .bl true)) := by
  have hn := lt_of hc
  have c20 : cPow 10 20 = true := by decide
  have c30 : cPow 10 30 = true := by decide
  have s10 : 10 ≤ szL := by rw [szL]; omega
  have s6 : 6 ≤ szL := by rw [szL]; omega
  have s1 : 1 ≤ szL := by rw [szL]; omega
  have s2 : 2 ≤ szL := by rw [szL]; omega
  have s4 : 4 ≤ szL := by rw [szL]; omega
  have s0 : 0 ≤ szL := by rw [szL]; omega
  unfold m__law_right
  refine ok_fn ?_
  unfold b__law_right
  simp only [List.map_cons, List.map_nil, List.length_cons, List.length_nil, List.cons_append, List.nil_append, List.replicate]
  refine asg_du (n := n) (t := t + 1) (P := (· ∈ wrongL)) ?_ ?_
  · simp [c20, s10, s1, s0]
    refine (one_spec hc hw (by omega) (by simp) (by simp)).mono ?_
    rintro _ _ ⟨d, c', rfl, hd, rfl, w⟩
    exact ⟨d, c', rfl, by simpa [wrongL] using hd, rfl, w⟩
  rintro x c1 hx w1
  simp only [List.set_cons_succ, List.set_cons_zero]
  refine asg_du (n := n) (t := t + 2) (P := (· ∈ oddN)) ?_ ?_
  · simp [s6, s1, s0]
    refine (one_spec (set_at hc c1) w1 (by omega) (by simp) (by simp)).mono ?_
    rintro _ _ ⟨d, c', rfl, hd, rfl, w⟩
    exact ⟨d, c', rfl, by simpa [oddN] using hd, rfl, w⟩
  rintro y c2 hy w2
  simp only [List.set_cons_succ, List.set_cons_zero, List.set_set]
  obtain ⟨sx, rx⟩ := rp_wrong (.inl hx)
  obtain ⟨sy, ry⟩ := rp_wrong (.inr hy)
  have n2 : noS (S.set n c2) = true := noS_set hS (ut_noC w2)
  have L0 : (S.set n c2).length = S.length := by simp
  have t1 := fun S' : Sto => wrapped_width (y := y) S' hx rx
  have t2 := fun S' : Sto => wrapped_num S' hy ry
  have t4 := fun S' : Sto => run_width (y := .non) (z := .non) S' hx rx
  have u1 := outR_two (t1 [])
  have u2 := outR_two (t2 [])
  have u3 := outR_two (wrapped_let (10 ^ 30) [])
  refine asg_at (x := .r S.length) (S2 := S.set n c2 ++ [.lst [.lst [.str "number", .str sx]]]) ?_ ?_
  · have e := outR_heard (f := dCallN 2 m_wrapped (dCons (dVar 1) (dCons (dVar 2) dNil))) (env := [some (.r n), some (.d x), some (.d y), none, none, none, none, none, none, none, none]) (S := S.set n c2) (due := .lst [.str "number", .str sx]) (by simpa using t1 _) n2
    simp [e, s1]
  simp only [List.set_cons_succ, List.set_cons_zero]
  have cellAt : ∀ ds : List D, (S.set n c2 ++ [Cell.lst ds])[S.length]? = some (.lst ds) := fun ds => by rw [← L0]; simp
  have cellSet : ∀ ds es : List D, (S.set n c2 ++ [Cell.lst ds]).set S.length (.lst es) = S.set n c2 ++ [.lst es] := fun ds es => by rw [← L0]; simp
  have nT : ∀ ds : List D, (∀ x ∈ ds, twoT x) → noS (S.set n c2 ++ [Cell.lst ds]) = true := fun ds h => noS_app n2 (by simp [noS, two_cell h])
  refine drop_at (told_add (c := 3) (ds := [.lst [.str "number", .str sx]]) (due := .lst [.str "number", .str sy]) rfl (cellAt _) (by simp) (by simpa using t2 _) (nT _ (by simpa using u1))) ?_
  rw [cellSet]
  refine drop_at (told_add (c := 3) (ds := [.lst [.str "number", .str sx], .lst [.str "number", .str sy]]) (due := .lst [.str "let", .str ""]) rfl (cellAt _) (by simp) (by simpa [c30] using wrapped_let _ _) (nT _ (by simpa using ⟨u1, u2⟩))) ?_
  rw [cellSet]
  refine drop_at (told_add (c := 3) (ds := [.lst [.str "number", .str sx], .lst [.str "number", .str sy], .lst [.str "let", .str ""]]) (due := .lst [.str "number", .str sx]) rfl (cellAt _) (by simp) (by simpa using t4 _) (nT _ (by simpa using ⟨u1, u2, u3⟩))) ?_
  rw [cellSet]
  simp only [List.cons_append, List.nil_append]
  have all4 : ∀ z ∈ [D.lst [.str "number", .str sx], .lst [.str "number", .str sy], .lst [.str "let", .str ""], .lst [.str "number", .str sx]], twoT z := by simpa using ⟨u1, u2, u3, u1⟩
  have tn := told_ne (cellAt _) all4
  refine seq_mono (fun fl S' => fl = .nx [some (.r n), some (.d x), some (.d y), some (.r S.length), none, none, none, none, none, none, none] ∧ S' = S.set n c2 ++ [.lst [.lst [.str "number", .str sx], .lst [.str "number", .str sy], .lst [.str "let", .str ""], .lst [.str "number", .str sx]]]) ?_ ?_
  · simp [rx.sh, ry.sh, s2, s4, tn]
  rintro _ _ ⟨rfl, rfl⟩
  simp only [cont_nx]
  have n4 := nT _ all4
  generalize ([D.lst [.str "number", .str sx], .lst [.str "number", .str sy], .lst [.str "let", .str ""], .lst [.str "number", .str sx]]) = tl at all4 tn n4 ⊢
  rw [dSeq_eq, ok_bind, dFor_eq, ok_bind]
  have sm : smallI 8 = true := by decide
  simp only [diRng1_eq, dCons_eq, dC_eq, dNil_eq, Out.bind_ok, iRng1_eq, sm, if_true, ok_ok]
  obtain ⟨I, hI⟩ : ∃ I : Nat → Dn.Env → Sto → Prop, ∀ k env S', I k env S' ↔ ∃ e4 e5 e6 e7 e8 e9 e10 c', env = [some (.r n), some (.d x), some (.d y), some (.r S.length), e4, e5, e6, e7, e8, e9, e10] ∧ S' = S.set n c' ++ [.lst tl] ∧ UT (t + 2 + 600 * k) c' := ⟨_, fun _ _ _ => Iff.rfl⟩
  refine ok_loop (I := I) ((hI _ _ _).mpr ⟨_, _, _, _, _, _, _, c2, rfl, rfl, w2⟩) (fun _ _ _ _ => wtOk_nil _) ?_ ?_
  · rintro k d env S' ed h
    obtain ⟨e4, e5, e6, e7, e8, e9, e10, c', rfl, rfl, w0⟩ := (hI _ _ _).mp h
    have hk : k < 8 := by
      have := (List.getElem?_eq_some_iff.mp ed).1
      simpa [rngD] using this
    have at_ : ∀ c : Cell, (S.set n c ++ [Cell.lst tl])[n]? = some c := fun c => by
      rw [List.getElem?_append_left (by simpa using hn)]
      exact set_at hc c
    have st : ∀ a b : Cell, (S.set n a ++ [Cell.lst tl]).set n b = S.set n b ++ [Cell.lst tl] := fun a b => by
      rw [List.set_append_left _ _ (by simpa using hn), List.set_set]
    have nC : ∀ {c : Cell} {t : Nat}, UT t c → noS (S.set n c ++ [Cell.lst tl]) = true := fun w => noS_app (noS_set hS (ut_noC w)) (by simp [noS, two_cell all4])
    simp only [dgName_eq, ok_ok, List.set_cons_succ, List.set_cons_zero]
    refine seq_mono (fun fl S' => ∃ (w m : Nat) (c' : Cell), fl = .nx [some (.r n), some (.d x), some (.d y), some (.r S.length), some (.d d), e5, e6, e7, e8, some (.d (.int w)), some (.d (.int m))] ∧ S' = S.set n c' ++ [.lst tl] ∧ UT (t + 4 + 600 * k) c' ∧ 4 ≤ w ∧ w ≤ 32 ∧ 1 ≤ m ∧ m ≤ 5) ?_ ?_
    · simp [s4]
      refine (one_spec (at_ c') w0 (by omega) (by simp) (by simp)).mono ?_
      rintro _ _ ⟨d4, c3, rfl, hd4, rfl, w3⟩
      rw [st]
      simp
      refine (pull_spec (at_ c3) w3 (by omega) (by omega) (by omega)).mono ?_
      rintro _ _ ⟨i, c4, rfl, i0, i1, rfl, w4⟩
      rw [st]
      obtain ⟨w, rfl, hw1, hw2⟩ : ∃ w : Nat, d4 = .int w ∧ 4 ≤ w ∧ w ≤ 32 := by
        simp at hd4
        rcases hd4 with rfl | rfl | rfl | rfl
        · exact ⟨4, rfl, by decide, by decide⟩
        · exact ⟨8, rfl, by decide, by decide⟩
        · exact ⟨16, rfl, by decide, by decide⟩
        · exact ⟨32, rfl, by decide, by decide⟩
      obtain ⟨m, em, m1, m2⟩ : ∃ m : Nat, (1 : Int) + i = m ∧ 1 ≤ m ∧ m ≤ 5 := ⟨(1 + i).toNat, by omega, by omega, by omega⟩
      simp [em, s2]
      exact ⟨w, m, ⟨rfl, rfl⟩, c4, rfl, w4.mono (by omega), hw1, hw2, m1, m2⟩
    rintro _ _ ⟨w, m, c3, rfl, rfl, w3, hw1, hw2, m1, m2⟩
    simp only [cont_nx]
    refine seq_mono (fun fl S' => ∃ (rs : List Rw) (c' : Cell), fl = .nx [some (.r n), some (.d x), some (.d y), some (.r S.length), some (.d d), some (.d (code rs)), e6, e7, e8, some (.d (.int w)), some (.d (.int m))] ∧ S' = S.set n c' ++ [.lst tl] ∧ UT (t + 300 + 600 * k) c' ∧ 1 ≤ rs.length ∧ rs.length ≤ 20) ?_ ?_
    · have s3 : 3 ≤ szL := by rw [szL]; omega
      simp [s3]
      refine (one_spec (at_ c3) w3 (by omega) (by simp) (by simp)).mono ?_
      rintro _ _ ⟨d4, c4, rfl, hd4, rfl, w4⟩
      rw [st]
      obtain ⟨w', rfl, w1', w2'⟩ : ∃ w' : Nat, d4 = .int w' ∧ 1 ≤ w' ∧ w' ≤ 32 := by
        simp at hd4
        rcases hd4 with rfl | rfl
        · exact ⟨w, rfl, by omega, hw2⟩
        · split
          · exact ⟨w + 1, by simp, by omega, by omega⟩
          · exact ⟨32, rfl, by omega, by omega⟩
      try simp
      refine (pull_spec (at_ c4) w4 (by omega) (by omega) (by omega)).mono ?_
      rintro _ _ ⟨i, c5, rfl, i0, i1, rfl, w5⟩
      rw [st]
      obtain ⟨l, el, l1, l2⟩ : ∃ l : Nat, (1 : Int) + i = l ∧ 1 ≤ l ∧ l ≤ 20 := ⟨(1 + i).toNat, by omega, by omega, by omega⟩
      simp [el]
      refine (code_spec (at_ c5) w5 (by omega) w1' w2' m1 (by omega) l1 (by omega)).mono ?_
      rintro _ _ ⟨rs, c6, rfl, ok, hl, rfl, w6⟩
      rw [st]
      simp
      exact ⟨rs, rfl, c6, rfl, w6.mono (by omega), by omega, by omega⟩
    rintro _ _ ⟨rs, c4, rfl, rfl, w4, r1, r2⟩
    simp only [cont_nx]
    refine seq_mono (fun fl S' => ∃ (cs : List Int) (c' : Cell), fl = .nx [some (.r n), some (.d x), some (.d y), some (.r S.length), some (.d d), some (.d (code rs)), some (.d (cellsD cs)), e7, e8, some (.d (.int w)), some (.d (.int m))] ∧ S' = S.set n c' ++ [.lst tl] ∧ UT (t + 400 + 600 * k) c' ∧ cs.length ≤ 7) ?_ ?_
    · simp [s4]
      refine (one_spec (at_ c4) w4 (by omega) (by simp) (by simp)).mono ?_
      rintro _ _ ⟨d4, c5, rfl, hd4, rfl, w5⟩
      rw [st]
      obtain ⟨m', rfl, m1'⟩ : ∃ m' : Nat, d4 = .int m' ∧ m' ≤ 7 := by
        simp at hd4
        rcases hd4 with rfl | rfl | rfl
        · exact ⟨m, rfl, by omega⟩
        · split
          · exact ⟨m - 1, by simp; omega, by omega⟩
          · exact ⟨1, rfl, by omega⟩
        · exact ⟨m + 2, by simp, by omega⟩
      try simp
      refine (words_spec (at_ c5) w5 (by omega) (by omega : 1 ≤ w) hw2 (by omega)).mono ?_
      rintro _ _ ⟨cs, c6, rfl, hcs, hm, rfl, w6⟩
      rw [st]
      simp
      exact ⟨cs, rfl, c6, rfl, w6.mono (by omega), by omega⟩
    rintro _ _ ⟨cs, c5, rfl, rfl, w5, cl⟩
    simp only [cont_nx]
    refine seq_mono (fun fl S' => ∃ (i : Int) (c' : Cell), fl = .nx [some (.r n), some (.d x), some (.d y), some (.r S.length), some (.d d), some (.d (code rs)), some (.d (cellsD cs)), some (.d (.int i)), e8, some (.d (.int w)), some (.d (.int m))] ∧ S' = S.set n c' ++ [.lst tl] ∧ UT (t + 401 + 600 * k) c') ?_ ?_
    · simp
      refine (pull_spec (at_ c5) w5 (by omega) (by omega) (by omega)).mono ?_
      rintro _ _ ⟨i, c6, rfl, i0, i1, rfl, w6⟩
      rw [st]
      simp
      exact ⟨c6, rfl, w6.mono (by omega)⟩
    rintro _ _ ⟨way, c6, rfl, rfl, w6⟩
    simp only [cont_nx]
    have cV : codeV (code rs) := code_V (by omega)
    have eV : cellV (cellsD cs) := ⟨rfl, fun ds z => by
      cases z
      refine ⟨by simp; omega, fun x hm => ?_⟩
      obtain ⟨i, _, rfl⟩ := List.mem_map.mp hm
      rfl⟩
    refine seq_mono (fun fl S' => ∃ (dc de : D) (c' : Cell), fl = .nx [some (.r n), some (.d x), some (.d y), some (.r S.length), some (.d d), some (.d dc), some (.d de), some (.d (.int way)), e8, some (.d (.int w)), some (.d (.int m))] ∧ S' = S.set n c' ++ [.lst tl] ∧ UT (t + 420 + 600 * k) c' ∧ codeV dc ∧ cellV de) ?_ ?_
    · simp
      by_cases q0 : way = 0
      · simp [q0]
        refine (bent_code (k := 13) (N := 1) r1 (by omega) (at_ c6) w6 (by omega)).mono ?_
        rintro _ _ ⟨dc, c7, rfl, hdc, rfl, w7⟩
        rw [st]
        simp
        exact ⟨dc, cellsD cs, ⟨rfl, rfl⟩, c7, rfl, w7.mono (by omega), hdc, eV⟩
      by_cases q1 : way = 1
      · simp [q1]
        have lcs : ∀ S : Sto, bList (.d (cellsD cs)) S = .ok (.d (.lst (cs.map .int))) S := fun S => rfl
        have acs : ∀ (z : Int) (S : Sto), oAdd (.d (cellsD cs)) (.d (.tup [.int z])) S = .ok (.d (.tup (cs.map D.int ++ [.int z]))) S := fun z S => by
          unfold cellsD
          rw [oAdd_tup, if_pos (by simp [szL]; omega)]
        have bcs : ∀ (S : Sto), oAdd (.d (.tup [.bl true])) (.d (cellsD cs)) S = .ok (.d (.tup (.bl true :: cs.map D.int))) S := fun S => by
          unfold cellsD
          rw [oAdd_tup, if_pos (by simp [szL]; omega)]
          rfl
        have s7 : 7 ≤ szL := by rw [szL]; omega
        simp [lcs, acs, bcs, top_eq _ (by omega : 1 ≤ w) hw2, s1, s0, s7]
        refine (one_spec (at_ c6) w6 (by omega) (by simp) (by simp)).mono ?_
        rintro _ _ ⟨de, c7, rfl, hde, rfl, w7⟩
        rw [st]
        simp
        refine ⟨code rs, de, ⟨rfl, rfl⟩, c7, rfl, w7.mono (by omega), cV, ?_⟩
        have ci : (cs.map D.int).all nob = true := List.all_eq_true.mpr fun x hm => by
          obtain ⟨i, _, rfl⟩ := List.mem_map.mp hm
          rfl
        simp only [List.mem_cons, List.not_mem_nil, or_false] at hde
        rcases hde with rfl | rfl | rfl | rfl | rfl | rfl | rfl
        · exact ⟨rfl, fun ds z => by cases z⟩
        · exact cellV_of (by simp) rfl
        · exact ⟨rfl, fun ds z => by cases z⟩
        · exact cellV_of (by simp; omega) (by rw [List.all_append, ci]; rfl)
        · exact cellV_of (by decide) (by decide)
        · exact cellV_of (by simp; omega) (by rw [List.all_cons, ci]; rfl)
        · exact ⟨rfl, fun ds z => by cases z⟩
      · simp [q0, q1]
        exact ⟨code rs, cellsD cs, ⟨rfl, rfl⟩, c6, rfl, w6.mono (by omega), cV, eV⟩
    rintro _ _ ⟨dc, de, c7, rfl, rfl, w7, hdc, hde⟩
    simp only [cont_nx]
    obtain ⟨due, q1, q2⟩ := due_run (S.set n c7 ++ [Cell.lst tl]) hw1 hw2 hdc hde
    refine asg_at (x := .d due) (S2 := S.set n c7 ++ [Cell.lst tl]) ?_ ?_
    · simpa using q1
    simp only [List.set_cons_succ, List.set_cons_zero]
    have e := outR_heard (f := dCallN 3 m_run_program (dCons (dVar 9) (dCons (dVar 5) (dCons (dVar 6) dNil)))) (env := [some (.r n), some (.d x), some (.d y), some (.r S.length), some (.d d), some (.d dc), some (.d de), some (.d (.int way)), some (.d due), some (.d (.int w)), some (.d (.int m))]) (S := S.set n c7 ++ [Cell.lst tl]) (due := due) (by simpa using q2) (nC w7)
    have e2 := two_ne (outR_two q2) (S.set n c7 ++ [Cell.lst tl])
    simp [e, e2]
    exact (hI _ _ _).mpr ⟨_, _, _, _, _, _, _, c7, rfl, rfl, w7.mono (by omega)⟩
  · rintro env S' h
    obtain ⟨e4, e5, e6, e7, e8, e9, e10, c', rfl, rfl, w0⟩ := (hI _ _ _).mp h
    have e : List.take S.length (S.set n c' ++ [Cell.lst tl]) = S.set n c' := by simp
    simp [e]
    simp [rngD] at w0
    exact ⟨_, c', rfl, rfl, rfl, w0.mono (by omega)⟩
end
theorem law_so (ns : List Int) (hl : ns.length ≤ 63) (hb : ∀ z ∈ ns, Builtin.Int.intBits z ≤ 1048576) : ∃ S', m_law [.d (.con (ns.map .int))] [] = .ok (.d (.bl true)) S' := by
  suffices h : Ok (m_law [.d (.con (ns.map .int))] []) fun x _ => x = .d (.bl true) by
    obtain ⟨x, S', e, rfl⟩ := h
    exact ⟨S', e⟩
  unfold m_law
  refine ok_fn ?_
  unfold b_law
  rw [dSeq_eq, ok_bind, dFor_eq, ok_bind]
  simp
  obtain ⟨k, hk, hk3⟩ : ∃ k : Nat, (if (if 3 < (ns.length : Int) then 3 else (ns.length : Int)) > 1 then (if 3 < (ns.length : Int) then 3 else (ns.length : Int)) else 1) = (k : Int) ∧ k ≤ 3 := by
    refine ⟨((if (if 3 < (ns.length : Int) then 3 else (ns.length : Int)) > 1 then (if 3 < (ns.length : Int) then 3 else (ns.length : Int)) else 1)).toNat, ?_, ?_⟩ <;> split <;> split <;> omega
  have sm : smallI (k : Int) = true := by unfold smallI; simp; omega
  simp [hk, sm]
  obtain ⟨I, hI⟩ : ∃ I : Nat → Dn.Env → Sto → Prop, ∀ i env S', I i env S' ↔ ∃ e1, env = [some (.d (.con (ns.map .int))), e1] ∧ noS S' = true := ⟨_, fun _ _ _ => Iff.rfl⟩
  refine ok_loop (I := I) ((hI _ _ _).mpr ⟨_, rfl, rfl⟩) (fun _ _ _ _ => wtOk_nil _) ?_ ?_
  · rintro i d env S' ed h
    obtain ⟨e1, rfl, nS⟩ := (hI _ _ _).mp h
    have hi : i < k := by
      have := (List.getElem?_eq_some_iff.mp ed).1
      simpa [rngD] using this
    have e : d = .int i := by
      simp [rngD, List.getElem?_range hi] at ed
      simpa using ed.symm
    subst e
    simp
    refine (urn_spec (by omega) hl).mono ?_
    rintro _ _ ⟨c2, rfl, rfl, w⟩
    have nS2 : noS (S' ++ [c2]) = true := noS_app nS (by simp [noS, ut_noC w])
    refine (right_spec (n := S'.length) (c := c2) (by simp) w (by decide) nS2).mono ?_
    rintro _ _ ⟨d, c', rfl, rfl, rfl, w'⟩
    simp
    exact (hI _ _ _).mpr ⟨_, rfl, by
      have := noS_set (n := S'.length) nS2 (ut_noC w')
      simpa using this⟩
  · rintro env S' h
    obtain ⟨e1, rfl, _⟩ := (hI _ _ _).mp h
    simp
end Law
set_option Elab.async false
set_option linter.all false
set_option maxRecDepth 100000
set_option maxHeartbeats 4000000
/-! a hook that also holds the record of what was laid (super() asks it) -/
namespace Hy
open PySem PySem.Spec PyProof.Rows L2 He
/-- a function's code object and cells -/
def fnRefs : Option Obj → List Addr
  | some ⟨_, _, .func fd, _⟩ => (match fd.code with
    | .ref c => [c]
    | _ => []) ++ fd.closure.map (·.2)
  | _ => []
/-- the __init__ of these classes, with what it refers to -/
def asI (g : Addr → Option Obj) (cs : List Str) (l : List Addr) : List Addr :=
  let fs := cs.map fun x => ma (frT g l) (ga (frT g l) x) "__init__"
  cStatics :: (l ++ (fs ++ fs.flatMap fun f => fnRefs (g f)))
def asY (cs : List Str) (g : Addr → Option Obj) (n : Nat) : List Addr := asI g cs (asD g n)
def obsY (cs : List Str) (n : Nat) (fa : List Fa) (fn : List DefD) (ts : List Tab) (tf : List Defn) (ex : PySem.W.Frag → Bool) (g : Addr → Option Obj) : AlX :=
  let K := frT g (asY cs g n)
  (obsT fa fn ts K, ex K && tabsB g tf K)
section
variable {fa : List Fa} {fn : List DefD} {ts : List Tab} {tf : List Defn} {ex : PySem.W.Frag → Bool} {w : World} {h : Heap} {cs : List Str} {n : Nat}
theorem says_of (e : obsY cs n fa fn ts tf ex h.get? = valX fn ts w) : SaysX fa fn ts tf ex w h (frT h.get? (asY cs h.get? n)) := by
  obtain ⟨K, hK⟩ : ∃ K, K = frT h.get? (asY cs h.get? n) := ⟨_, rfl⟩
  unfold obsY at e
  rw [← hK] at e ⊢
  obtain ⟨more, all⟩ := ba (congrArg Prod.snd e : (ex K && tabsB h.get? tf K) = true)
  have each : ∀ p ∈ tf, PySem.W.codeHdIn K (cT K p).1 (cT K p).2 = true ∧ ∃ o, h.get? (cT K p).2 = some o ∧ emptyTab o = true := by
    intro p hp
    obtain ⟨a, b⟩ := ba (List.all_eq_true.mp all p hp)
    refine ⟨a, ?_⟩
    rcases q : h.get? (cT K p).2 with _ | o
    · rw [q] at b; cases b
    · rw [q] at b; exact ⟨o, rfl, b⟩
  refine ⟨(congrArg Prod.fst e : obsT fa fn ts K = valT fn ts w), more, fun p hp => (each p hp).1, fun p hp => ?_, fun p hp => ?_⟩
  · obtain ⟨_, o, a, b⟩ := each p hp
    have z : (frT h.get? (asY cs h.get? n)).lookup (cT K p).2 = none := frT_none a b
    rw [← hK] at z
    exact z
  · obtain ⟨_, o, a, b⟩ := each p hp
    rw [a, emptyTab_eq b]
end
def hookY (cs : List Str) (n : Nat) (fa : List Fa) (fn : List DefD) (ts : List Tab) (tf : List Defn) (ex : PySem.W.Frag → Bool) : PySem.W.Hook where
  α := AlX
  obs := fun s => obsY cs n fa fn ts tf ex s.heap.get?
  val := valX fn ts
  says := fun w h => ∃ K : PySem.W.Frag, K.In h ∧ SaysX fa fn ts tf ex w h K
  of := fun _ _ e => ⟨_, frT_in, says_of e⟩
  keeps := fun _ _ _ y k => by
    obtain ⟨K, hK, c⟩ := y
    exact ⟨K, hK.keeps k, c.t, c.more, c.hd, c.out, fun p hp => k _ _ (c.empty p hp)⟩
theorem obsY_eq {cs : List Str} {n : Nat} {fa : List Fa} {fn : List DefD} {ts : List Tab} {tf : List Defn} {ex : PySem.W.Frag → Bool} {g : Addr → Option Obj} {s : Shared} (h : ∀ a, g a = s.heap.get? a) : obsY cs n fa fn ts tf ex g = (hookY cs n fa fn ts tf ex).obs s := by
  obtain rfl : g = s.heap.get? := funext h
  rfl
end Hy
set_option Elab.async false
set_option linter.all false
set_option maxRecDepth 100000
set_option maxHeartbeats 0
namespace Law
open PySem PySem.Spec PyProof.Rows L2 GxR Gx Dn
def d__law_pull : He.DefD := ⟨("_law_pull", none), "_law_pull", "_law_pull", defArgs s__law_pull, defBody s__law_pull, defScope s__law_pull, [], []⟩
def d__law_one : He.DefD := ⟨("_law_one", none), "_law_one", "_law_one", defArgs s__law_one, defBody s__law_one, defScope s__law_one, [], []⟩
def d__law_named : He.DefD := ⟨("_law_named", none), "_law_named", "_law_named", defArgs s__law_named, defBody s__law_named, defScope s__law_named, [], []⟩
def d__law_heard_of : He.DefD := ⟨("_law_heard_of", none), "_law_heard_of", "_law_heard_of", defArgs s__law_heard_of, defBody s__law_heard_of, defScope s__law_heard_of, [], []⟩
def d__law_top : He.DefD := ⟨("_law_top", none), "_law_top", "_law_top", defArgs s__law_top, defBody s__law_top, defScope s__law_top, [], []⟩
def d__law_word : He.DefD := ⟨("_law_word", none), "_law_word", "_law_word", defArgs s__law_word, defBody s__law_word, defScope s__law_word, [], []⟩
def d__law_code : He.DefD := ⟨("_law_code", none), "_law_code", "_law_code", defArgs s__law_code, defBody s__law_code, defScope s__law_code, [], []⟩
def d__law_row_of_words : He.DefD := ⟨("_law_row_of_words", none), "_law_row_of_words", "_law_row_of_words", defArgs s__law_row_of_words, defBody s__law_row_of_words, defScope s__law_row_of_words, [], []⟩
def d__law_is_whole : He.DefD := ⟨("_law_is_whole", none), "_law_is_whole", "_law_is_whole", defArgs s__law_is_whole, defBody s__law_is_whole, defScope s__law_is_whole, [], []⟩
def d__law_is_word : He.DefD := ⟨("_law_is_word", none), "_law_is_word", "_law_is_word", defArgs s__law_is_word, defBody s__law_is_word, defScope s__law_is_word, [], []⟩
def d__law_is_line : He.DefD := ⟨("_law_is_line", none), "_law_is_line", "_law_is_line", defArgs s__law_is_line, defBody s__law_is_line, defScope s__law_is_line, [], []⟩
def d__law_wrong_line : He.DefD := ⟨("_law_wrong_line", none), "_law_wrong_line", "_law_wrong_line", defArgs s__law_wrong_line, defBody s__law_wrong_line, defScope s__law_wrong_line, [], []⟩
def d__law_cells_in : He.DefD := ⟨("_law_cells_in", none), "_law_cells_in", "_law_cells_in", defArgs s__law_cells_in, defBody s__law_cells_in, defScope s__law_cells_in, [], []⟩
def d__law_due : He.DefD := ⟨("_law_due", none), "_law_due", "_law_due", defArgs s__law_due, defBody s__law_due, defScope s__law_due, [], []⟩
def d__law_odd : He.DefD := ⟨("_law_odd", none), "_law_odd", "_law_odd", defArgs s__law_odd, defBody s__law_odd, defScope s__law_odd, [], []⟩
def d__law_bent : He.DefD := ⟨("_law_bent", none), "_law_bent", "_law_bent", defArgs s__law_bent, defBody s__law_bent, defScope s__law_bent, [], []⟩
def d_is_whole : He.DefD := ⟨("is_whole", none), "is_whole", "is_whole", defArgs s_is_whole, defBody s_is_whole, defScope s_is_whole, [], []⟩
def d_is_whole_from : He.DefD := ⟨("is_whole_from", none), "is_whole_from", "is_whole_from", defArgs s_is_whole_from, defBody s_is_whole_from, defScope s_is_whole_from, [], []⟩
def d_is_width : He.DefD := ⟨("is_width", none), "is_width", "is_width", defArgs s_is_width, defBody s_is_width, defScope s_is_width, [], []⟩
def d_check_width : He.DefD := ⟨("check_width", none), "check_width", "check_width", defArgs s_check_width, defBody s_check_width, defScope s_check_width, [], []⟩
def d_least_word : He.DefD := ⟨("least_word", none), "least_word", "least_word", defArgs s_least_word, defBody s_least_word, defScope s_least_word, [], []⟩
def d_wrapped_word : He.DefD := ⟨("wrapped_word", none), "wrapped_word", "wrapped_word", defArgs s_wrapped_word, defBody s_wrapped_word, defScope s_wrapped_word, [], []⟩
def d_wrapped : He.DefD := ⟨("wrapped", none), "wrapped", "wrapped", defArgs s_wrapped, defBody s_wrapped, defScope s_wrapped, [], []⟩
def d_head_of : He.DefD := ⟨("head_of", none), "head_of", "head_of", defArgs s_head_of, defBody s_head_of, defScope s_head_of, [], []⟩
def d_is_index : He.DefD := ⟨("is_index", none), "is_index", "is_index", defArgs s_is_index, defBody s_is_index, defScope s_is_index, [], []⟩
def d_greatest_word : He.DefD := ⟨("greatest_word", none), "greatest_word", "greatest_word", defArgs s_greatest_word, defBody s_greatest_word, defScope s_greatest_word, [], []⟩
def d_is_word : He.DefD := ⟨("is_word", none), "is_word", "is_word", defArgs s_is_word, defBody s_is_word, defScope s_is_word, [], []⟩
def d_is_program_row : He.DefD := ⟨("is_program_row", none), "is_program_row", "is_program_row", defArgs s_is_program_row, defBody s_is_program_row, defScope s_is_program_row, [], []⟩
def d_wrong_row : He.DefD := ⟨("wrong_row", none), "wrong_row", "wrong_row", defArgs s_wrong_row, defBody s_wrong_row, defScope s_wrong_row, [], []⟩
def d_check_words : He.DefD := ⟨("check_words", none), "check_words", "check_words", defArgs s_check_words, defBody s_check_words, defScope s_check_words, [], []⟩
def d_done : He.DefD := ⟨("done", none), "done", "done", defArgs s_done, defBody s_done, defScope s_done, [], []⟩
def d_ended : He.DefD := ⟨("ended", none), "ended", "ended", defArgs s_ended, defBody s_ended, defScope s_ended, [], []⟩
def d_is_tuple_of : He.DefD := ⟨("is_tuple_of", none), "is_tuple_of", "is_tuple_of", defArgs s_is_tuple_of, defBody s_is_tuple_of, defScope s_is_tuple_of, [], []⟩
def d_cells_named : He.DefD := ⟨("cells_named", none), "cells_named", "cells_named", defArgs s_cells_named, defBody s_cells_named, defScope s_cells_named, [], []⟩
def d_run_program : He.DefD := ⟨("run_program", none), "run_program", "run_program", defArgs s_run_program, defBody s_run_program, defScope s_run_program, [], []⟩
def d__law_right : He.DefD := ⟨("_law_right", none), "_law_right", "_law_right", defArgs s__law_right, defBody s__law_right, defScope s__law_right, [], []⟩
def d__law_urn : He.DefD := ⟨("_law_urn", none), "_law_urn", "_law_urn", defArgs s__law_urn, defBody s__law_urn, defScope s__law_urn, [], []⟩
def d_law : He.DefD := ⟨("law", none), "law", "law", defArgs s_law, defBody s_law, defScope s_law, [], []⟩
def fn : List He.DefD := [d__law_pull, d__law_one, d__law_named, d__law_heard_of, d__law_top, d__law_word, d__law_code, d__law_row_of_words, d__law_is_whole, d__law_is_word, d__law_is_line, d__law_wrong_line, d__law_cells_in, d__law_due, d__law_odd, d__law_bent, d_is_whole, d_is_whole_from, d_is_width, d_check_width, d_least_word, d_wrapped_word, d_wrapped, d_head_of, d_is_index, d_greatest_word, d_is_word, d_is_program_row, d_wrong_row, d_check_words, d_done, d_ended, d_is_tuple_of, d_cells_named, d_run_program, d__law_right, d__law_urn, d_law]
def ecs : List PySem.Str := ["InvalidCells", "InvalidNumber", "InvalidProgram"]
def fa : List He.Fa := [.glo "_law_pull", .glo "_law_one", .glo "_law_named", .glo "_law_heard_of", .glo "_law_top", .glo "_law_word", .glo "_law_code", .glo "_law_row_of_words", .glo "_law_is_whole", .glo "_law_is_word", .glo "_law_is_line", .glo "_law_wrong_line", .glo "_law_cells_in", .glo "_law_due", .glo "_law_odd", .glo "_law_bent", .glo "is_whole", .glo "is_whole_from", .glo "is_width", .glo "check_width", .glo "least_word", .glo "wrapped_word", .glo "wrapped", .glo "head_of", .glo "is_index", .glo "greatest_word", .glo "is_word", .glo "is_program_row", .glo "wrong_row", .glo "check_words", .glo "done", .glo "ended", .glo "is_tuple_of", .glo "cells_named", .glo "run_program", .glo "_law_right", .glo "_law_urn", .glo "law", .free "ArithmeticError", .free "LookupError", .free "ValueError", .free "abs", .free "all", .free "any", .free "bool", .free "divmod", .free "enumerate", .free "int", .free "isinstance", .free "len", .free "list", .free "max", .free "min", .free "range", .free "repr", .free "str", .free "tuple", .free "zip", .glo "ROW_PARTS", .free "super"]
def ta : List He.Defn := tf ++ tl
def ts : List He.Tab := [gT "ROW_PARTS" tb_ROW_PARTS]
def ex (K : PySem.W.Frag) : Bool := (gtB K "ROW_PARTS" tb_ROW_PARTS && (EK.errB PySem.Challenge.rw_safehelms_k38_machines_refused.prog.main.file K "InvalidCells" "index" && (EK.errB PySem.Challenge.rw_safehelms_k38_machines_refused.prog.main.file K "InvalidNumber" "given" && (EK.errB PySem.Challenge.rw_safehelms_k38_machines_refused.prog.main.file K "InvalidProgram" "index" && (hotB K rs__law_heard_of ow__law_heard_of "HelmError" && (disB K tf tl && true))))))
abbrev R : PySem.W.OpenRow := PySem.W.OpenLaw.row PySem.Challenge.rw_safehelms_k38_machines_refused
abbrev hk : PySem.W.Hook := Hy.hookY ecs 2 fa fn ts ta ex
def ob (s : PySem.W.SharedT) : He.AlX := Hy.obsY ecs 2 fa fn ts ta ex (HandSHeadRun.getT s)
theorem ob_eq (s : PySem.W.SharedT) : ob s = hk.obs s.abs := Hy.obsY_eq (HandSHeadRun.getT_eq s)
def loose : List PySem.Str := (["HelmError", "InvalidNumber", "InvalidLot", "InvalidController", "InvalidState", "InvalidForm", "InvalidMemory", "InvalidPlant", "InvalidLoop", "InvalidName", "TooMany", "InvalidRow", "InvalidReadings", "InvalidRows", "InvalidNumbers", "InvalidProgram", "InvalidCells", "InvalidText", "InvalidWrites", "is_whole"] : List PySem.Str) ++ (["is_whole_from", "is_index", "is_tuple_of", "head_of", "least_word", "greatest_word", "is_word", "wrapped_word", "is_width", "check_width", "ROW_PARTS", "wrong_row", "is_program_row", "wrapped", "run_program", "check_words", "cells_named", "ended", "done", "_law_urn"] : List PySem.Str) ++ (["_law_pull", "_law_one", "_law_is_whole", "_law_top", "_law_is_word", "_law_word", "_law_odd", "_law_bent", "_law_named", "_law_heard_of", "_law_is_line", "_law_wrong_line", "_law_code", "_law_row_of_words", "_law_cells_in", "_law_due", "_law_right"] : List PySem.Str)
def fw (b : Bool) (w : World) : World := ⟨w.draws, { w.params with followText := fun s => if s = "special-get-raises" then b else w.params.followText s }⟩
theorem fw_eq (w : World) : fw (w.params.followText "special-get-raises") w = w := by
  obtain ⟨d, p⟩ := w
  obtain ⟨a1, a2, a3, a4, a5, ft⟩ := p
  simp only [fw, PySem.World.mk.injEq, PySem.Params.mk.injEq, true_and, and_true]
  funext s
  split
  · rename_i q; rw [q]
  · rfl
theorem runT (w : World) : HandSHeadRun.RunEq R (PySem.W.view R.prog [63]) hk ob 20000 loose (fw true w) := by
  intro os
  kernel_rfl
theorem runF (w : World) : HandSHeadRun.RunEq R (PySem.W.view R.prog [63]) hk ob 20000 loose (fw false w) := by
  intro os
  kernel_rfl
theorem run (w : World) : HandSHeadRun.RunEq R (PySem.W.view R.prog [63]) hk ob 20000 loose w := by
  rw [← fw_eq w]
  cases w.params.followText "special-get-raises"
  · exact runF w
  · exact runT w
theorem gf {w : World} {h : Heap} {K : PySem.W.Frag} {mg : Str → Option Value} {base : Heap} (c : He.SaysX fa fn ts ta ex w h K) (X : K.In base) (N : base.Ns mainGlobals mg) (tb : ∀ p ∈ ta.map (He.cT K), TabB base mg p.1 p.2) : Gf PySem.Challenge.rw_safehelms_k38_machines_refused.prog w K mg base where
  e_InvalidCells := EK.errK_of (.inr rfl) X N (He.free_ok X N (c.t.d.fact 59 (f := .free "super") rfl)) (by kernel_rfl) (He.ba (He.ba c.more).2).1
  e_InvalidNumber := EK.errK_of (.inl rfl) X N (He.free_ok X N (c.t.d.fact 59 (f := .free "super") rfl)) (by kernel_rfl) (He.ba (He.ba (He.ba c.more).2).2).1
  e_InvalidProgram := EK.errK_of (.inr rfl) X N (He.free_ok X N (c.t.d.fact 59 (f := .free "super") rfl)) (by kernel_rfl) (He.ba (He.ba (He.ba (He.ba c.more).2).2).2).1
  x__law_heard_of := hotK_of X N (He.ba (He.ba (He.ba (He.ba (He.ba c.more).2).2).2).2).1
  b_ArithmeticError := He.free_ok X N (c.t.d.fact 38 (f := .free "ArithmeticError") rfl)
  b_LookupError := He.free_ok X N (c.t.d.fact 39 (f := .free "LookupError") rfl)
  b_ValueError := He.free_ok X N (c.t.d.fact 40 (f := .free "ValueError") rfl)
  b_abs := He.free_ok X N (c.t.d.fact 41 (f := .free "abs") rfl)
  b_all := He.free_ok X N (c.t.d.fact 42 (f := .free "all") rfl)
  b_any := He.free_ok X N (c.t.d.fact 43 (f := .free "any") rfl)
  b_bool := He.free_ok X N (c.t.d.fact 44 (f := .free "bool") rfl)
  b_divmod := He.free_ok X N (c.t.d.fact 45 (f := .free "divmod") rfl)
  b_enumerate := He.free_ok X N (c.t.d.fact 46 (f := .free "enumerate") rfl)
  b_int := He.free_ok X N (c.t.d.fact 47 (f := .free "int") rfl)
  b_isinstance := He.free_ok X N (c.t.d.fact 48 (f := .free "isinstance") rfl)
  b_len := He.free_ok X N (c.t.d.fact 49 (f := .free "len") rfl)
  b_list := He.free_ok X N (c.t.d.fact 50 (f := .free "list") rfl)
  b_max := He.free_ok X N (c.t.d.fact 51 (f := .free "max") rfl)
  b_min := He.free_ok X N (c.t.d.fact 52 (f := .free "min") rfl)
  b_range := He.free_ok X N (c.t.d.fact 53 (f := .free "range") rfl)
  b_repr := He.free_ok X N (c.t.d.fact 54 (f := .free "repr") rfl)
  b_str := He.free_ok X N (c.t.d.fact 55 (f := .free "str") rfl)
  b_tuple := He.free_ok X N (c.t.d.fact 56 (f := .free "tuple") rfl)
  b_zip := He.free_ok X N (c.t.d.fact 57 (f := .free "zip") rfl)
  d_ROW_PARTS := gtab_of c.t 0 rfl (He.glo_ok X N (c.t.d.fact 58 (f := .glo "ROW_PARTS") rfl)) (He.ba c.more).1
  t_run_program := tb _ (List.mem_map.mpr ⟨("run_program", none), by simp [ta, tf, tl], rfl⟩)
  t__law_right := tb _ (List.mem_map.mpr ⟨("_law_right", none), by simp [ta, tf, tl], rfl⟩)
  f__law_pull := c.t.d.def_ 0 (d := d__law_pull) rfl
  f__law_one := c.t.d.def_ 1 (d := d__law_one) rfl
  f__law_named := c.t.d.def_ 2 (d := d__law_named) rfl
  f__law_heard_of := c.t.d.def_ 3 (d := d__law_heard_of) rfl
  f__law_top := c.t.d.def_ 4 (d := d__law_top) rfl
  f__law_word := c.t.d.def_ 5 (d := d__law_word) rfl
  f__law_code := c.t.d.def_ 6 (d := d__law_code) rfl
  f__law_row_of_words := c.t.d.def_ 7 (d := d__law_row_of_words) rfl
  f__law_is_whole := c.t.d.def_ 8 (d := d__law_is_whole) rfl
  f__law_is_word := c.t.d.def_ 9 (d := d__law_is_word) rfl
  f__law_is_line := c.t.d.def_ 10 (d := d__law_is_line) rfl
  f__law_wrong_line := c.t.d.def_ 11 (d := d__law_wrong_line) rfl
  f__law_cells_in := c.t.d.def_ 12 (d := d__law_cells_in) rfl
  f__law_due := c.t.d.def_ 13 (d := d__law_due) rfl
  f__law_odd := c.t.d.def_ 14 (d := d__law_odd) rfl
  f__law_bent := c.t.d.def_ 15 (d := d__law_bent) rfl
  f_is_whole := c.t.d.def_ 16 (d := d_is_whole) rfl
  f_is_whole_from := c.t.d.def_ 17 (d := d_is_whole_from) rfl
  f_is_width := c.t.d.def_ 18 (d := d_is_width) rfl
  f_check_width := c.t.d.def_ 19 (d := d_check_width) rfl
  f_least_word := c.t.d.def_ 20 (d := d_least_word) rfl
  f_wrapped_word := c.t.d.def_ 21 (d := d_wrapped_word) rfl
  f_wrapped := c.t.d.def_ 22 (d := d_wrapped) rfl
  f_head_of := c.t.d.def_ 23 (d := d_head_of) rfl
  f_is_index := c.t.d.def_ 24 (d := d_is_index) rfl
  f_greatest_word := c.t.d.def_ 25 (d := d_greatest_word) rfl
  f_is_word := c.t.d.def_ 26 (d := d_is_word) rfl
  f_is_program_row := c.t.d.def_ 27 (d := d_is_program_row) rfl
  f_wrong_row := c.t.d.def_ 28 (d := d_wrong_row) rfl
  f_check_words := c.t.d.def_ 29 (d := d_check_words) rfl
  f_done := c.t.d.def_ 30 (d := d_done) rfl
  f_ended := c.t.d.def_ 31 (d := d_ended) rfl
  f_is_tuple_of := c.t.d.def_ 32 (d := d_is_tuple_of) rfl
  f_cells_named := c.t.d.def_ 33 (d := d_cells_named) rfl
  f_run_program := c.t.d.def_ 34 (d := d_run_program) rfl
  f__law_right := c.t.d.def_ 35 (d := d__law_right) rfl
  f__law_urn := c.t.d.def_ 36 (d := d__law_urn) rfl
  f_law := c.t.d.def_ 37 (d := d_law) rfl
  g__law_pull := He.glo_ok X N (c.t.d.fact 0 (f := .glo "_law_pull") rfl)
  g__law_one := He.glo_ok X N (c.t.d.fact 1 (f := .glo "_law_one") rfl)
  g__law_named := He.glo_ok X N (c.t.d.fact 2 (f := .glo "_law_named") rfl)
  g__law_heard_of := He.glo_ok X N (c.t.d.fact 3 (f := .glo "_law_heard_of") rfl)
  g__law_top := He.glo_ok X N (c.t.d.fact 4 (f := .glo "_law_top") rfl)
  g__law_word := He.glo_ok X N (c.t.d.fact 5 (f := .glo "_law_word") rfl)
  g__law_code := He.glo_ok X N (c.t.d.fact 6 (f := .glo "_law_code") rfl)
  g__law_row_of_words := He.glo_ok X N (c.t.d.fact 7 (f := .glo "_law_row_of_words") rfl)
  g__law_is_whole := He.glo_ok X N (c.t.d.fact 8 (f := .glo "_law_is_whole") rfl)
  g__law_is_word := He.glo_ok X N (c.t.d.fact 9 (f := .glo "_law_is_word") rfl)
  g__law_is_line := He.glo_ok X N (c.t.d.fact 10 (f := .glo "_law_is_line") rfl)
  g__law_wrong_line := He.glo_ok X N (c.t.d.fact 11 (f := .glo "_law_wrong_line") rfl)
  g__law_cells_in := He.glo_ok X N (c.t.d.fact 12 (f := .glo "_law_cells_in") rfl)
  g__law_due := He.glo_ok X N (c.t.d.fact 13 (f := .glo "_law_due") rfl)
  g__law_odd := He.glo_ok X N (c.t.d.fact 14 (f := .glo "_law_odd") rfl)
  g__law_bent := He.glo_ok X N (c.t.d.fact 15 (f := .glo "_law_bent") rfl)
  g_is_whole := He.glo_ok X N (c.t.d.fact 16 (f := .glo "is_whole") rfl)
  g_is_whole_from := He.glo_ok X N (c.t.d.fact 17 (f := .glo "is_whole_from") rfl)
  g_is_width := He.glo_ok X N (c.t.d.fact 18 (f := .glo "is_width") rfl)
  g_check_width := He.glo_ok X N (c.t.d.fact 19 (f := .glo "check_width") rfl)
  g_least_word := He.glo_ok X N (c.t.d.fact 20 (f := .glo "least_word") rfl)
  g_wrapped_word := He.glo_ok X N (c.t.d.fact 21 (f := .glo "wrapped_word") rfl)
  g_wrapped := He.glo_ok X N (c.t.d.fact 22 (f := .glo "wrapped") rfl)
  g_head_of := He.glo_ok X N (c.t.d.fact 23 (f := .glo "head_of") rfl)
  g_is_index := He.glo_ok X N (c.t.d.fact 24 (f := .glo "is_index") rfl)
  g_greatest_word := He.glo_ok X N (c.t.d.fact 25 (f := .glo "greatest_word") rfl)
  g_is_word := He.glo_ok X N (c.t.d.fact 26 (f := .glo "is_word") rfl)
  g_is_program_row := He.glo_ok X N (c.t.d.fact 27 (f := .glo "is_program_row") rfl)
  g_wrong_row := He.glo_ok X N (c.t.d.fact 28 (f := .glo "wrong_row") rfl)
  g_check_words := He.glo_ok X N (c.t.d.fact 29 (f := .glo "check_words") rfl)
  g_done := He.glo_ok X N (c.t.d.fact 30 (f := .glo "done") rfl)
  g_ended := He.glo_ok X N (c.t.d.fact 31 (f := .glo "ended") rfl)
  g_is_tuple_of := He.glo_ok X N (c.t.d.fact 32 (f := .glo "is_tuple_of") rfl)
  g_cells_named := He.glo_ok X N (c.t.d.fact 33 (f := .glo "cells_named") rfl)
  g_run_program := He.glo_ok X N (c.t.d.fact 34 (f := .glo "run_program") rfl)
  g__law_right := He.glo_ok X N (c.t.d.fact 35 (f := .glo "_law_right") rfl)
  g__law_urn := He.glo_ok X N (c.t.d.fact 36 (f := .glo "_law_urn") rfl)
  g_law := He.glo_ok X N (c.t.d.fact 37 (f := .glo "law") rfl)
theorem dis_ok {w : World} {h : Heap} {K : PySem.W.Frag} (c : He.SaysX fa fn ts ta ex w h K) : ∀ q ∈ tl, ∀ p ∈ tf, (He.cT K q).2 ≠ (He.cT K p).2 := disB_ok (He.ba (He.ba (He.ba (He.ba (He.ba (He.ba c.more).2).2).2).2).2).1
end Law
open PySem PySem.W PySem.Calls PyProof.Rows
theorem PySem.Challenge.cw_safehelms_k38_machines_refused_holds : PySem.Challenge.rw_safehelms_k38_machines_refused.Holds := by
  w_on; o_law
  refine HandSHeadRun.head_any (r := OpenLaw.row PySem.Challenge.rw_safehelms_k38_machines_refused) (q := view (OpenLaw.row PySem.Challenge.rw_safehelms_k38_machines_refused).prog [63]) (H := Law.hk) (ob := Law.ob) (M := 20000) (loose := Law.loose) (d := HandSHeadRun.topDef (OpenLaw.row PySem.Challenge.rw_safehelms_k38_machines_refused).prog 63) (kwd := []) Law.ob_eq
    (by kernel_rfl) (fun s => by kernel_rfl) Law.run (by kernel_rfl) (by kernel_rfl) (by kernel_rfl) (by rfl) (by first | assumption | decide +kernel) (by decide +kernel) ⟨rfl, rfl, rfl, rfl, rfl, by decide +kernel⟩ ?hw ?hc
  case hw => w_witness2
  case hc =>
    refine Dn.walk_G (l := PySem.Challenge.rw_safehelms_k38_machines_refused) (n := 63) (k := 22) (x := "_law_script") (m := Law.m_law) rfl (by decide) (by kernel_rfl) ⟨rfl, by decide, by decide⟩ ?F Law.law_so
    intro w mg fa h Y N hmg0
    obtain ⟨K, KX, c⟩ := Y
    have hmg : mg ("law" : PySem.Str) = some (.ref fa) := by
      have e : (HandSHeadRun.topDef (OpenLaw.row PySem.Challenge.rw_safehelms_k38_machines_refused).prog 63).name = ("law" : PySem.Str) := by kernel_rfl
      rw [← e]
      exact hmg0
    have g0 : mg ("law" : PySem.Str) = some (.ref (He.fAd K ("law", none))) := He.glo_ok KX N (c.t.d.fact 37 (f := .glo "law") rfl)
    have e0 := hmg.symm.trans g0
    cases e0
    obtain ⟨fd0, F0⟩ := c.t.d.def_ 37 (d := Law.d_law) rfl
    have b0 := L2.FunD.bindsA (ps := ["_law_script"]) F0 fun _ _ _ _ _ _ us hl => match us, hl with | [_], _ => rfl
    refine ⟨K, Law.WK K, fd0, Law.ta.map (He.cT K), KX, rfl, ⟨fun T hT => by
      obtain ⟨p, hp, rfl⟩ := List.mem_map.mp hT
      exact List.mem_map.mpr ⟨He.cT K p, List.mem_map.mpr ⟨p, List.mem_append_left _ hp, rfl⟩, rfl⟩, fun p hp => by
      have e := List.mem_singleton.mp hp
      subst e
      exact List.mem_map.mpr ⟨He.cT K ("_law_right", none), List.mem_map.mpr ⟨("_law_right", none), List.mem_append_right _ (by simp [Law.tl]), rfl⟩, rfl⟩, fun p hp hm => by
      have e := List.mem_singleton.mp hp
      subst e
      obtain ⟨q, hq, e⟩ := List.mem_map.mp hm
      exact Law.dis_ok c ("_law_right", none) (by simp [Law.tl]) q hq e.symm⟩, fun p hp => ?_, fun p hp => ?_, fun p hp => ?_, fun s v => b0 s [v] rfl, fun base X2 N2 tb => ?_⟩
    · obtain ⟨q, hq, rfl⟩ := List.mem_map.mp hp
      exact c.empty q hq
    · obtain ⟨q, hq, rfl⟩ := List.mem_map.mp hp
      exact c.out q hq
    · obtain ⟨q, hq, rfl⟩ := List.mem_map.mp hp
      exact PySem.W.codeHd_of_K KX (c.hd q hq)
    · obtain ⟨fd1, F1, h1⟩ := Law.fn_law (P := PySem.Challenge.rw_safehelms_k38_machines_refused.prog) (w := w) (Law.gf c X2 N2 tb)
      have ef : fd1 = fd0 := by
        obtain ⟨_, _, _, _, _, _, _, _, _, _, _, l1, _⟩ := F1.ex
        obtain ⟨_, _, _, _, _, _, _, _, _, _, _, l2, _⟩ := F0.ex
        have z := congrArg (fun o : Option Obj => o.map fun u => u.data) (l1.symm.trans l2)
        simpa using z
      rw [← ef]
      exact h1
